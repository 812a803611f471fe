/- The functions compute what their models say. -/
import Derived.Test.YtmgifhehikeplabGreatKProbeNearestAllC6
set_option linter.unusedVariables false
set_option linter.unusedSimpArgs false
set_option maxRecDepth 20000
namespace Go.Vs
open Go Go.Proofs
attribute [local irreducible] Code.wp Code.wpIn wpList wpListIn wpQuiet Calls CallsIn

theorem c_slices_symMergeCmpFunc_int__impl_ProbeOrder_1 : ∀ (fuel : Nat) {Ei : List Int} {Dg : Int} {Hq : Int} {Hr : Int} {Gx : List (List Int)} {Gy : List Int} {Ej : Option Addr} {Ek : Nat} {Gz : Option Addr} {Ha : Nat} {Hc Hd He : Nat} {Hf Hg : List Value} {Hi : Option Addr} {Hj : Nat} {Hk Hl Hm : Nat} {Hn Ho : List Value} {r : (List Int)} (h : M.slices_symMergeCmpFunc_int__impl_ProbeOrder_1 fuel Ei Dg Hq Hr Gx Gy = some r),
    Cal2 Tryz.prog 86 [(Sl Ej Ei Ek), (I Dg), (I Hq), (I Hr), (.func (.func 60) #[] #[(pt Hd He), (pt Hl Hm)])] [Ch.own 0 0 (Sl Ej Ei Ek) Ei, Ch.bx Hc Hd He [(Sl Gz Gx Ha)] Hf Hg, Ch.ro 0 (Sl Gz Gx Ha) Gx, Ch.bx Hk Hl Hm [(Sl Hi Gy Hj)] Hn Ho, Ch.ro 0 (Sl Hi Gy Hj) Gy] (fun n0 v L => v = (.tuple #[]) ∧ L = [Ch.own 0 0 (Sl Ej r Ek) r, Ch.bx Hc Hd He [(Sl Gz Gx Ha)] Hf Hg, Ch.bx Hk Hl Hm [(Sl Hi Gy Hj)] Hn Ho] ∧ r.length = Ei.length) := by
 intro fuel
 induction fuel with
 | zero => intro _ _ _ _ _ _ _ _ _ _ _ _ _ _ _ _ _ _ _ _ _ _ r h; cases h
 | succ fuel ih =>
 ·intro Ei Dg Hq Hr Gx Gy Ej Ek Gz Ha Hc Hd He Hf Hg Hi Hj Hk Hl Hm Hn Ho r h
  replace h : M.slices_symMergeCmpFunc_int__impl_ProbeOrder_1_F (M.slices_symMergeCmpFunc_int__impl_ProbeOrder_1 fuel) Ei Dg Hq Hr Gx Gy = some r := h
  refine cal2 (n := 220) Tryz.func86 rfl rfl rfl rfl ?_
  intro S0 σ0 n0 hn0 H
  unfold M.slices_symMergeCmpFunc_int__impl_ProbeOrder_1_F at h
  refine c_seq (cr (mv (I Hq) rfl (mv (I Dg) rfl (st (v := (I (w64 (Hq - Dg)))) (rv_sub (a := Hq) (b := Dg) rfl rfl) (st (v := (B ((w64 (Hq - Dg)) == 1))) (rv_eql (a := (w64 (Hq - Dg))) (b := 1) rfl rfl) (we ?_))))))
  refine cd_cond ((w64 (Hq - Dg)) == 1) rfl (fun hb1 => ?_) (fun hb1 => ?_)
  ·replace h := bif_t hb1 h
   refine cr (mv (I Hq) rfl (sa (I Hq) rfl (we (cr (mv (I Hr) rfl (sa (I Hr) rfl (we ?_)))))))
   refine c_seq ?_
   obtain ⟨o2, hj, h'⟩ := bind_some h
   clear h
   refine c_cut (fun e a w => e = .normal ∧ ∃ (ρ : Nat → Value) (σ : St), a = fr 220 (updL ρ [(0, (Sl Ej Ei Ek)), (1, (I Dg)), (4, (.func (.func 60) #[] #[(pt Hd He), (pt Hl Hm)])), (10, (I o2))]) ∧ w = σ.w ∧ Hp S0 σ0 σ [Ch.own 0 0 (Sl Ej Ei Ek) Ei, Ch.ro 0 (Sl Gz Gx Ha) Gx, Ch.bx Hc Hd He [(Sl Gz Gx Ha)] Hf Hg, Ch.ro 0 (Sl Hi Gy Hj) Gy, Ch.bx Hk Hl Hm [(Sl Hi Gy Hj)] Hn Ho]) ?_ ?_
   ·clear h'
    rename _ = some o2 => h
    refine c_blk (wp_loopM _ h (fun s3 a w => ∃ (ρ : Nat → Value) (σ : St), a = fr 220 (updL ρ [(0, (Sl Ej Ei Ek)), (1, (I Dg)), (4, (.func (.func 60) #[] #[(pt Hd He), (pt Hl Hm)])), (10, (I s3.1)), (11, (I s3.2))]) ∧ w = σ.w ∧ Hp S0 σ0 σ [Ch.own 0 0 (Sl Ej Ei Ek) Ei, Ch.ro 0 (Sl Gz Gx Ha) Gx, Ch.bx Hc Hd He [(Sl Gz Gx Ha)] Hf Hg, Ch.ro 0 (Sl Hi Gy Hj) Gy, Ch.bx Hk Hl Hm [(Sl Hi Gy Hj)] Hn Ho]) ⟨_, σ0, fr_join ⟨rfl, rfl, rfl, rfl, rfl, trivial⟩, rfl, H.sel' [0, 2, 1, 4, 3] rfl rfl⟩ ?_)
    clear h H
    rintro s3 a w o ⟨ρ, σ4, rfl, rfl, H⟩ h hres
    refine c_seq (cr (mv (I s3.1) rfl (mv (I s3.2) rfl (st (v := (B (decide (s3.1 < s3.2)))) (rv_lss (a := s3.1) (b := s3.2) rfl rfl) (we ?_)))))
    refine cd_cond (decide (s3.1 < s3.2)) rfl (fun hb5 => ?_) (fun hb5 => ?_)
    ·replace h := bif_t hb5 h
     refine c_skip (q_then (c_blk (cr (mv (I s3.1) rfl (mv (I s3.2) rfl (st (v := (I (w64 (s3.1 + s3.2)))) (rv_add (a := s3.1) (b := s3.2) rfl rfl) (st (v := (.int .u64 (wk .u64 (w64 (s3.1 + s3.2))))) (rvk_conv (k := .i64) (k' := .u64) (a := (w64 (s3.1 + s3.2))) Tryz.underlying3 Tryz.underlying115 rfl) ?_)))))))
     refine st (v := (.int .u64 (gshr .u64 (wk .u64 (w64 (s3.1 + s3.2))) 1))) (rvk_shr (k := .u64) (k' := .u64) (a := (wk .u64 (w64 (s3.1 + s3.2)))) (b := 1) rfl rfl (by decide)) ?_
     refine st (v := (I (wk .i64 (gshr .u64 (wk .u64 (w64 (s3.1 + s3.2))) 1)))) (rvk_conv (k := .u64) (k' := .i64) (a := (gshr .u64 (wk .u64 (w64 (s3.1 + s3.2))) 1)) Tryz.underlying115 Tryz.underlying3 rfl) (sa (I (wk .i64 (gshr .u64 (wk .u64 (w64 (s3.1 + s3.2))) 1))) rfl (we (c_seq ?_)))
     refine rgP (σ := σ4) 9 (by kernel_rfl) (by kernel_rfl) (by kernel_rfl) ?_
     refine sq (v := (.func (.func 60) #[] #[(pt Hd He), (pt Hl Hm)])) (rv_move rfl) (sq (v := (Sl Ej Ei Ek)) (rv_move rfl) (sq (v := (I (wk .i64 (gshr .u64 (wk .u64 (w64 (s3.1 + s3.2))) 1)))) (rv_move rfl) ?_))
     replace h := bind_some h
     obtain ⟨x6, hx7, h⟩ := h
     obtain ⟨b9, o10, hi8, -⟩ := (H.own 0 rfl).ix hx7
     refine sq (v := (pt b9 o10)) (rv_ix Tryz.underlying25 ti3 rfl rfl hi8) ?_
     have hc11 := ((H.own 0 rfl).at hx7 hi8).int
     refine sq (v := (I x6)) (rv_load1 Tryz.underlying3 rfl rfl hc11) (sq (v := (Sl Ej Ei Ek)) (rv_move rfl) (sq (v := (I Dg)) (rv_move rfl) ?_))
     replace h := bind_some h
     obtain ⟨x12, hx13, h⟩ := h
     obtain ⟨b15, o16, hi14, -⟩ := (H.own 0 rfl).ix hx13
     refine sq (v := (pt b15 o16)) (rv_ix Tryz.underlying25 ti3 rfl rfl hi14) ?_
     have hc17 := ((H.own 0 rfl).at hx13 hi14).int
     refine sq (v := (I x12)) (rv_load1 Tryz.underlying3 rfl rfl hc17) (sq_end ?_)
     intro σ18 hm19
     replace H := H.grow (hm19.mono fun _ h => h); clear hm19
     replace h := bind_some h
     obtain ⟨r20, hx21, h⟩ := h
     have hc22 := c_impl_ProbeOrder_1__p_SSint__p24 (Fs := Hc) (Ft := Hd) (Fu := He) (Fv := Hf) (Fw := Hg) (Fq := Gz) (Fr := Ha) (Ga := Hk) (Gb := Hl) (Gc := Hm) (Gd := Hn) (Ge := Ho) (Fx := Hi) (Fy := Hj) hx21
     refine st_call (cx_call hc22 (ent_v (cap := [(pt Hd He), (pt Hl Hm)]) hc22.fn rfl rfl) hn0 (H.sel' [2, 1, 4, 3, 0, 1, 3] rfl rfl : Hp S0 σ0 _ ([_, _, _, _] ++ _))) wn ?_
     rintro _ σ23 ⟨_, ⟨rfl, rfl⟩, H, -⟩
     replace H : Hp _ _ _ [_, _, _, _, _] := H
     refine st (v := (B (decide (r20 < 0)))) (rv_lss (a := r20) (b := 0) rfl rfl) (we ?_)
     refine cd_cond (decide (r20 < 0)) rfl (fun hb24 => ?_) (fun hb24 => ?_)
     ·replace h := bif_t hb24 h
      refine rg (mv (I (wk .i64 (gshr .u64 (wk .u64 (w64 (s3.1 + s3.2))) 1))) rfl (st (v := (I (w64 ((wk .i64 (gshr .u64 (wk .u64 (w64 (s3.1 + s3.2))) 1)) + 1)))) (rv_add (a := (wk .i64 (gshr .u64 (wk .u64 (w64 (s3.1 + s3.2))) 1))) (b := 1) rfl rfl) (sa (I (w64 ((wk .i64 (gshr .u64 (wk .u64 (w64 (s3.1 + s3.2))) 1)) + 1))) rfl (w_end (q_blk (q_then ?_))))))
      obtain rfl := si h
      exact ⟨_, rfl, _, σ23, fr_join ⟨rfl, rfl, rfl, rfl, rfl, trivial⟩, rfl, H.sel' [2, 3, 0, 4, 1] rfl rfl⟩
     ·replace h := bif_f hb24 h
      refine rg (mv (I (wk .i64 (gshr .u64 (wk .u64 (w64 (s3.1 + s3.2))) 1))) rfl (sa (I (wk .i64 (gshr .u64 (wk .u64 (w64 (s3.1 + s3.2))) 1))) rfl (w_end (q_blk (q_then ?_)))))
      obtain rfl := si h
      exact ⟨_, rfl, _, σ23, fr_join ⟨rfl, rfl, rfl, rfl, rfl, trivial⟩, rfl, H.sel' [2, 3, 0, 4, 1] rfl rfl⟩
    ·replace h := bif_f hb5 h
     refine c_exit (q_then_x (q_then_x (q_blk_hit ?_)))
     obtain rfl := si h
     obtain rfl := hres _ rfl
     exact ⟨rfl, _, σ4, fr_join ⟨rfl, rfl, rfl, rfl, trivial⟩, rfl, H.sel' [0, 1, 2, 3, 4] rfl rfl⟩
   ·clear hj
    have h := h'
    clear h' H
    rintro e a w ⟨rfl, ρ, σ25, rfl, rfl, H⟩
    refine q_then (c_seq (cr (mv (I Dg) rfl (sa (I Dg) rfl (we ?_)))))
    obtain ⟨o26, hj, h'⟩ := bind_some h
    clear h
    refine c_cut (fun e a w => e = .normal ∧ ∃ (ρ : Nat → Value) (σ : St), a = fr 220 (updL ρ [(0, (Sl Ej o26 Ek)), (4, (.func (.func 60) #[] #[(pt Hd He), (pt Hl Hm)]))]) ∧ w = σ.w ∧ Hp S0 σ0 σ [Ch.own 0 0 (Sl Ej o26 Ek) o26, Ch.ro 0 (Sl Gz Gx Ha) Gx, Ch.bx Hc Hd He [(Sl Gz Gx Ha)] Hf Hg, Ch.ro 0 (Sl Hi Gy Hj) Gy, Ch.bx Hk Hl Hm [(Sl Hi Gy Hj)] Hn Ho] ∧ o26.length = Ei.length) ?_ ?_
    ·clear h'
     rename _ = some o26 => h
     refine c_blk (wp_loopM _ h (fun s27 a w => ∃ (ρ : Nat → Value) (σ : St), a = fr 220 (updL ρ [(0, (Sl Ej s27.1 Ek)), (4, (.func (.func 60) #[] #[(pt Hd He), (pt Hl Hm)])), (10, (I o2)), (13, (I s27.2))]) ∧ w = σ.w ∧ Hp S0 σ0 σ [Ch.own 0 0 (Sl Ej s27.1 Ek) s27.1, Ch.ro 0 (Sl Gz Gx Ha) Gx, Ch.bx Hc Hd He [(Sl Gz Gx Ha)] Hf Hg, Ch.ro 0 (Sl Hi Gy Hj) Gy, Ch.bx Hk Hl Hm [(Sl Hi Gy Hj)] Hn Ho] ∧ s27.1.length = Ei.length) ⟨_, σ25, fr_join ⟨rfl, rfl, rfl, rfl, trivial⟩, rfl, H.sel' [0, 1, 2, 3, 4] rfl rfl, rfl⟩ ?_)
     clear h H
     rintro s27 a w o ⟨ρ, σ28, rfl, rfl, H, hn29⟩ h hres
     refine c_seq (cr (mv (I s27.2) rfl (mv (I o2) rfl (st (v := (I (w64 (o2 - 1)))) (rv_sub (a := o2) (b := 1) rfl rfl) (st (v := (B (decide (s27.2 < (w64 (o2 - 1)))))) (rv_lss (a := s27.2) (b := (w64 (o2 - 1))) rfl rfl) (we ?_))))))
     refine cd_cond (decide (s27.2 < (w64 (o2 - 1)))) rfl (fun hb30 => ?_) (fun hb30 => ?_)
     ·replace h := bif_t hb30 h
      refine c_skip (q_then (c_seq (c_blk ?_)))
      replace h := bind_some h
      obtain ⟨x31, hx32, h⟩ := h
      obtain ⟨b34, o35, hi33, -⟩ := (H.own 0 rfl).ix hx32
      have hc36 := ((H.own 0 rfl).at hx32 hi33).int
      replace h := bind_some h
      obtain ⟨x37, hx38, h⟩ := h
      obtain ⟨b40, o41, hi39, -⟩ := (H.own 0 rfl).ix hx38
      have hc42 := ((H.own 0 rfl).at hx38 hi39).int
      replace h := bind_some h
      obtain ⟨x43, hx44, h⟩ := h
      obtain ⟨b46, o47, hi45, -⟩ := (H.own 0 rfl).ix hx44
      have Hs := H
      refine rg2 (σ := σ28) (Nm := Unit) 16 [15] [[false], [true]] [[(0, 0)], [(0, 0)], [(0, 0), (1, 1)], [(0, 0), (1, 1)], [(0, 0), (1, 1)], [(0, 0)], [(0, 0)], [(0, 0)], [(0, 0)], [(0, 0)], [(0, 0)], [(0, 0)], [(0, 0)], [(0, 0)], [(0, 0)], [(0, 1)]] 1 [fun _ => fun σm => Hp S0 σ0 σm [Ch.own 0 0 (Sl Ej s27.1 Ek) s27.1, Ch.ro 0 (Sl Gz Gx Ha) Gx, Ch.bx Hc Hd He [(Sl Gz Gx Ha)] Hf Hg, Ch.ro 0 (Sl Hi Gy Hj) Gy, Ch.bx Hk Hl Hm [(Sl Hi Gy Hj)] Hn Ho] ∧ Md (cov []) σ28 σm, fun _ => fun σm => Hp S0 σ0 σm [Ch.own 0 0 (Sl Ej s27.1 Ek) (s27.1.set s27.2.toNat x31), Ch.ro 0 (Sl Gz Gx Ha) Gx, Ch.bx Hc Hd He [(Sl Gz Gx Ha)] Hf Hg, Ch.ro 0 (Sl Hi Gy Hj) Gy, Ch.bx Hk Hl Hm [(Sl Hi Gy Hj)] Hn Ho] ∧ Md (fun i => (cov []) i ∨ (fun b => blk (Sl Ej s27.1 Ek) = some b) i) σ28 σm] [fun _ => (Sl Ej s27.1 Ek), fun _ => (I s27.2), fun _ => (Sl Ej s27.1 Ek), fun _ => (I s27.2), fun _ => (I (w64 (s27.2 + 1))), fun _ => (Sl Ej s27.1 Ek), fun _ => (I s27.2), fun _ => (I (w64 (s27.2 + 1))), fun _ => (pt b34 o35), fun _ => (I x31), fun _ => (Sl Ej s27.1 Ek), fun _ => (I s27.2), fun _ => (pt b40 o41), fun _ => (I x37), fun _ => (pt b46 o47), fun _ => undef] () (by kernel_rfl) (by kernel_rfl) ?_ ?_ ?_
      ·intro σm m0
       exact ⟨H.grow (m0.mono fun _ h => h.elim), m0⟩
      ·refine am rfl rfl (fun _ => rfl) ?_
       refine am rfl rfl (fun _ => rfl) (am rfl rfl (fun _ => rfl) (am rfl rfl (fun _ => rfl) (ac rfl (fun _ _ _ _ J o f => dp_v (v := (I (w64 (s27.2 + 1)))) wn (rv_add (a := s27.2) (b := 1) (f 3 rfl rfl 64 rfl) rfl) rfl J) (am rfl rfl (fun _ => rfl) (am rfl rfl (fun _ => rfl) (ac rfl (fun _ _ _ _ J o f => dp_v (v := (I (w64 (s27.2 + 1)))) wn (rv_add (a := s27.2) (b := 1) (f 6 rfl rfl 67 rfl) rfl) rfl J) (ac rfl (fun _ _ _ _ J o f => dp_v (v := (pt b34 o35)) wn (rv_ix Tryz.underlying25 ti3 (f 5 rfl rfl 66 rfl) (f 7 rfl rfl 68 rfl) hi33) rfl J) ?_)))))))
       refine all_cons (by
         refine ⟨?_, ?_⟩
         ·intro _nm ρ σm hJ hoff hdep
          have e69 := hdep 8 rfl rfl 69 rfl
          obtain ⟨H, m⟩ := id hJ
          have hc36 := ((H.own 0 rfl).at hx32 hi33).int
          exact dp_v (v := (I x31)) wn (rv_load1 Tryz.underlying3 rfl e69 hc36) rfl hJ
         trivial) ?_
       refine am rfl rfl (fun _ => rfl) (am rfl rfl (fun _ => rfl) (ac rfl (fun _ _ _ _ J o f => dp_v (v := (pt b40 o41)) wn (rv_ix Tryz.underlying25 ti3 (f 10 rfl rfl 71 rfl) (f 11 rfl rfl 72 rfl) hi39) rfl J) ?_))
       refine all_cons (by
         refine ⟨?_, ?_⟩
         ·intro _nm ρ σm hJ hoff hdep
          have e73 := hdep 12 rfl rfl 73 rfl
          obtain ⟨H, m⟩ := id hJ
          have hc42 := ((H.own 0 rfl).at hx38 hi39).int
          exact dp_v (v := (I x37)) wn (rv_load1 Tryz.underlying3 rfl e73 hc42) rfl hJ
         trivial) ?_
       refine ac rfl (fun _ _ _ _ J o f => dp_v (v := (pt b46 o47)) wn (rv_ix Tryz.underlying25 ti3 (f 0 rfl rfl 61 rfl) (f 1 rfl rfl 62 rfl) hi45) rfl J) ?_
       refine all_cons (by
         refine ⟨?_, ?_⟩
         ·intro _nm ρ σm hJ hoff hdep
          have e75 := hdep 14 rfl rfl 75 rfl
          have e70 := hdep 9 rfl rfl 70 rfl
          obtain ⟨H, m⟩ := id hJ
          refine dp_exS wn rfl (ex_store_own (e' := x31) (vs := [(I x31)]) (k := 0) H (i := 0) rfl ti3 hx44 hi45 e75 rfl e70 rfl rfl (Nat.le_of_ble_eq_true rfl) (by simp [plain]) (by rintro _ rfl; exact rfl)) ?_
          rintro σq ⟨H2, m2⟩
          exact ⟨_, (), rfl, ⟨H2.sel' [0, 1, 2, 3, 4] rfl rfl, m.comp m2⟩, stab [0, 1, 2, 3, 4, 5, 6, 7, 8, 9, 10, 11, 12, 13, 14] (by kernel_rfl) ⟨rfl, rfl, rfl, rfl, rfl, rfl, rfl, rfl, rfl, rfl, rfl, rfl, rfl, rfl, rfl, trivial⟩⟩
         trivial) ?_
       exact all_nil
      ·intro _nm ρ σ48 hJ hoff hrel
       obtain ⟨H, -⟩ := (show Hp S0 σ0 σ48 [Ch.own 0 0 (Sl Ej s27.1 Ek) (s27.1.set s27.2.toNat x31), Ch.ro 0 (Sl Gz Gx Ha) Gx, Ch.bx Hc Hd He [(Sl Gz Gx Ha)] Hf Hg, Ch.ro 0 (Sl Hi Gy Hj) Gy, Ch.bx Hk Hl Hm [(Sl Hi Gy Hj)] Hn Ho] ∧ Md (fun i => (cov []) i ∨ (fun b => blk (Sl Ej s27.1 Ek) = some b) i) σ28 σ48 from hJ)
       clear hJ Hs
       rw [fr_lookL (L := [(0, (Sl Ej s27.1 Ek)), (4, (.func (.func 60) #[] #[(pt Hd He), (pt Hl Hm)])), (10, (I o2)), (13, (I s27.2)), (63, (Sl Ej s27.1 Ek)), (65, (I (w64 (s27.2 + 1)))), (74, (I x37))]) ⟨look_off (hoff 0 rfl) rfl, look_off (hoff 4 rfl) rfl, look_off (hoff 10 rfl) rfl, look_off (hoff 13 rfl) rfl, hrel 2 rfl 63 rfl, hrel 4 rfl 65 rfl, hrel 13 rfl 74 rfl, trivial⟩]
       clear hoff hrel
       have hsl : (Sl Ej s27.1 Ek) = (Sl Ej (s27.1.set s27.2.toNat x31) Ek) := sl_len (by simp)
       rw [hsl]; rw [hsl] at H; clear hsl
       replace h := bind_some h
       obtain ⟨x49, hx50, h⟩ := h
       obtain ⟨b52, o53, hi51, -⟩ := (H.own 0 rfl).ix hx50
       refine st (v := (pt b52 o53)) (rv_ix Tryz.underlying25 ti3 rfl rfl hi51) ?_
       refine st_exS (ex_store_own (e' := x37) (vs := [(I x37)]) (k := 0) H (i := 0) rfl ti3 hx50 hi51 rfl rfl rfl rfl rfl (Nat.le_of_ble_eq_true rfl) (by simp [plain]) (by rintro _ rfl; exact rfl)) wn ?_
       rintro σ54 ⟨H, -⟩
       have hsl : (Sl Ej (s27.1.set s27.2.toNat x31) Ek) = (Sl Ej ((s27.1.set s27.2.toNat x31).set (w64 (s27.2 + 1)).toNat x37) Ek) := sl_len List.length_set.symm
       rw [hsl]; rw [hsl] at H; clear hsl
       refine w_end (q_blk (q_then (rg (mv (I s27.2) rfl (st (v := (I (w64 (s27.2 + 1)))) (rv_add (a := s27.2) (b := 1) rfl rfl) (sa (I (w64 (s27.2 + 1))) rfl (we ?_)))))))
       obtain rfl := si h
       exact ⟨_, rfl, _, σ54, fr_join ⟨rfl, rfl, rfl, rfl, trivial⟩, rfl, H.sel' [0, 1, 2, 3, 4] rfl rfl, (List.length_set.trans (List.length_set.trans hn29))⟩
     ·replace h := bif_f hb30 h
      refine c_exit (q_then_x (q_then_x (q_blk_hit ?_)))
      obtain rfl := si h
      obtain rfl := hres _ rfl
      exact ⟨rfl, _, σ28, fr_join ⟨rfl, rfl, trivial⟩, rfl, H.sel' [0, 1, 2, 3, 4] rfl rfl, hn29⟩
    ·clear hj
     have h := h'
     clear h' H
     rintro e a w ⟨rfl, ρ, σ55, rfl, rfl, H, hn56⟩
     refine q_then (c_ret (q_then_r ?_))
     obtain rfl := si h
     exact fin_ret (v := (.tuple #[])) (results_ok Tryz.results86 res_nil rfl) ⟨rfl, rfl, hn56⟩ (H.sel' [0, 2, 4] rfl rfl)
  ·replace h := bif_f hb1 h
   refine c_skip (q_then (c_seq (cr (mv (I Hr) rfl (mv (I Hq) rfl (st (v := (I (w64 (Hr - Hq)))) (rv_sub (a := Hr) (b := Hq) rfl rfl) (st (v := (B ((w64 (Hr - Hq)) == 1))) (rv_eql (a := (w64 (Hr - Hq))) (b := 1) rfl rfl) (we ?_))))))))
   refine cd_cond ((w64 (Hr - Hq)) == 1) rfl (fun hb57 => ?_) (fun hb57 => ?_)
   ·replace h := bif_t hb57 h
    refine cr (mv (I Dg) rfl (sa (I Dg) rfl (we (cr (mv (I Hq) rfl (sa (I Hq) rfl (we ?_)))))))
    refine c_seq ?_
    obtain ⟨o58, hj, h'⟩ := bind_some h
    clear h
    refine c_cut (fun e a w => e = .normal ∧ ∃ (ρ : Nat → Value) (σ : St), a = fr 220 (updL ρ [(0, (Sl Ej Ei Ek)), (2, (I Hq)), (4, (.func (.func 60) #[] #[(pt Hd He), (pt Hl Hm)])), (14, (I o58))]) ∧ w = σ.w ∧ Hp S0 σ0 σ [Ch.own 0 0 (Sl Ej Ei Ek) Ei, Ch.ro 0 (Sl Gz Gx Ha) Gx, Ch.bx Hc Hd He [(Sl Gz Gx Ha)] Hf Hg, Ch.ro 0 (Sl Hi Gy Hj) Gy, Ch.bx Hk Hl Hm [(Sl Hi Gy Hj)] Hn Ho]) ?_ ?_
    ·clear h'
     rename _ = some o58 => h
     refine c_blk (wp_loopM _ h (fun s59 a w => ∃ (ρ : Nat → Value) (σ : St), a = fr 220 (updL ρ [(0, (Sl Ej Ei Ek)), (2, (I Hq)), (4, (.func (.func 60) #[] #[(pt Hd He), (pt Hl Hm)])), (14, (I s59.1)), (15, (I s59.2))]) ∧ w = σ.w ∧ Hp S0 σ0 σ [Ch.own 0 0 (Sl Ej Ei Ek) Ei, Ch.ro 0 (Sl Gz Gx Ha) Gx, Ch.bx Hc Hd He [(Sl Gz Gx Ha)] Hf Hg, Ch.ro 0 (Sl Hi Gy Hj) Gy, Ch.bx Hk Hl Hm [(Sl Hi Gy Hj)] Hn Ho]) ⟨_, σ0, fr_join ⟨rfl, rfl, rfl, rfl, rfl, trivial⟩, rfl, H.sel' [0, 2, 1, 4, 3] rfl rfl⟩ ?_)
     clear h H
     rintro s59 a w o ⟨ρ, σ60, rfl, rfl, H⟩ h hres
     refine c_seq (cr (mv (I s59.1) rfl (mv (I s59.2) rfl (st (v := (B (decide (s59.1 < s59.2)))) (rv_lss (a := s59.1) (b := s59.2) rfl rfl) (we ?_)))))
     refine cd_cond (decide (s59.1 < s59.2)) rfl (fun hb61 => ?_) (fun hb61 => ?_)
     ·replace h := bif_t hb61 h
      refine c_skip (q_then (c_blk (cr (mv (I s59.1) rfl (mv (I s59.2) rfl (st (v := (I (w64 (s59.1 + s59.2)))) (rv_add (a := s59.1) (b := s59.2) rfl rfl) (st (v := (.int .u64 (wk .u64 (w64 (s59.1 + s59.2))))) (rvk_conv (k := .i64) (k' := .u64) (a := (w64 (s59.1 + s59.2))) Tryz.underlying3 Tryz.underlying115 rfl) ?_)))))))
      refine st (v := (.int .u64 (gshr .u64 (wk .u64 (w64 (s59.1 + s59.2))) 1))) (rvk_shr (k := .u64) (k' := .u64) (a := (wk .u64 (w64 (s59.1 + s59.2)))) (b := 1) rfl rfl (by decide)) ?_
      refine st (v := (I (wk .i64 (gshr .u64 (wk .u64 (w64 (s59.1 + s59.2))) 1)))) (rvk_conv (k := .u64) (k' := .i64) (a := (gshr .u64 (wk .u64 (w64 (s59.1 + s59.2))) 1)) Tryz.underlying115 Tryz.underlying3 rfl) (sa (I (wk .i64 (gshr .u64 (wk .u64 (w64 (s59.1 + s59.2))) 1))) rfl (we (c_seq ?_)))
      refine rgP (σ := σ60) 9 (by kernel_rfl) (by kernel_rfl) (by kernel_rfl) ?_
      refine sq (v := (.func (.func 60) #[] #[(pt Hd He), (pt Hl Hm)])) (rv_move rfl) (sq (v := (Sl Ej Ei Ek)) (rv_move rfl) (sq (v := (I Hq)) (rv_move rfl) ?_))
      replace h := bind_some h
      obtain ⟨x62, hx63, h⟩ := h
      obtain ⟨b65, o66, hi64, -⟩ := (H.own 0 rfl).ix hx63
      refine sq (v := (pt b65 o66)) (rv_ix Tryz.underlying25 ti3 rfl rfl hi64) ?_
      have hc67 := ((H.own 0 rfl).at hx63 hi64).int
      refine sq (v := (I x62)) (rv_load1 Tryz.underlying3 rfl rfl hc67) (sq (v := (Sl Ej Ei Ek)) (rv_move rfl) (sq (v := (I (wk .i64 (gshr .u64 (wk .u64 (w64 (s59.1 + s59.2))) 1)))) (rv_move rfl) ?_))
      replace h := bind_some h
      obtain ⟨x68, hx69, h⟩ := h
      obtain ⟨b71, o72, hi70, -⟩ := (H.own 0 rfl).ix hx69
      refine sq (v := (pt b71 o72)) (rv_ix Tryz.underlying25 ti3 rfl rfl hi70) ?_
      have hc73 := ((H.own 0 rfl).at hx69 hi70).int
      refine sq (v := (I x68)) (rv_load1 Tryz.underlying3 rfl rfl hc73) (sq_end ?_)
      intro σ74 hm75
      replace H := H.grow (hm75.mono fun _ h => h); clear hm75
      replace h := bind_some h
      obtain ⟨r76, hx77, h⟩ := h
      have hc78 := c_impl_ProbeOrder_1__p_SSint__p24 (Fs := Hc) (Ft := Hd) (Fu := He) (Fv := Hf) (Fw := Hg) (Fq := Gz) (Fr := Ha) (Ga := Hk) (Gb := Hl) (Gc := Hm) (Gd := Hn) (Ge := Ho) (Fx := Hi) (Fy := Hj) hx77
      refine st_call (cx_call hc78 (ent_v (cap := [(pt Hd He), (pt Hl Hm)]) hc78.fn rfl rfl) hn0 (H.sel' [2, 1, 4, 3, 0, 1, 3] rfl rfl : Hp S0 σ0 _ ([_, _, _, _] ++ _))) wn ?_
      rintro _ σ79 ⟨_, ⟨rfl, rfl⟩, H, -⟩
      replace H : Hp _ _ _ [_, _, _, _, _] := H
      refine st (v := (B (decide (r76 < 0)))) (rv_lss (a := r76) (b := 0) rfl rfl) (st (v := (B (!(decide (r76 < 0))))) (rv_not rfl) (we ?_))
      refine cd_cond (!(decide (r76 < 0))) rfl (fun hb80 => ?_) (fun hb80 => ?_)
      ·replace h := bif_t hb80 h
       refine rg (mv (I (wk .i64 (gshr .u64 (wk .u64 (w64 (s59.1 + s59.2))) 1))) rfl (st (v := (I (w64 ((wk .i64 (gshr .u64 (wk .u64 (w64 (s59.1 + s59.2))) 1)) + 1)))) (rv_add (a := (wk .i64 (gshr .u64 (wk .u64 (w64 (s59.1 + s59.2))) 1))) (b := 1) rfl rfl) (sa (I (w64 ((wk .i64 (gshr .u64 (wk .u64 (w64 (s59.1 + s59.2))) 1)) + 1))) rfl (w_end (q_blk (q_then ?_))))))
       obtain rfl := si h
       exact ⟨_, rfl, _, σ79, fr_join ⟨rfl, rfl, rfl, rfl, rfl, trivial⟩, rfl, H.sel' [2, 3, 0, 4, 1] rfl rfl⟩
      ·replace h := bif_f hb80 h
       refine rg (mv (I (wk .i64 (gshr .u64 (wk .u64 (w64 (s59.1 + s59.2))) 1))) rfl (sa (I (wk .i64 (gshr .u64 (wk .u64 (w64 (s59.1 + s59.2))) 1))) rfl (w_end (q_blk (q_then ?_)))))
       obtain rfl := si h
       exact ⟨_, rfl, _, σ79, fr_join ⟨rfl, rfl, rfl, rfl, rfl, trivial⟩, rfl, H.sel' [2, 3, 0, 4, 1] rfl rfl⟩
     ·replace h := bif_f hb61 h
      refine c_exit (q_then_x (q_then_x (q_blk_hit ?_)))
      obtain rfl := si h
      obtain rfl := hres _ rfl
      exact ⟨rfl, _, σ60, fr_join ⟨rfl, rfl, rfl, rfl, trivial⟩, rfl, H.sel' [0, 1, 2, 3, 4] rfl rfl⟩
    ·clear hj
     have h := h'
     clear h' H
     rintro e a w ⟨rfl, ρ, σ81, rfl, rfl, H⟩
     refine q_then (c_seq (cr (mv (I Hq) rfl (sa (I Hq) rfl (we ?_)))))
     obtain ⟨o82, hj, h'⟩ := bind_some h
     clear h
     refine c_cut (fun e a w => e = .normal ∧ ∃ (ρ : Nat → Value) (σ : St), a = fr 220 (updL ρ [(0, (Sl Ej o82 Ek)), (4, (.func (.func 60) #[] #[(pt Hd He), (pt Hl Hm)]))]) ∧ w = σ.w ∧ Hp S0 σ0 σ [Ch.own 0 0 (Sl Ej o82 Ek) o82, Ch.ro 0 (Sl Gz Gx Ha) Gx, Ch.bx Hc Hd He [(Sl Gz Gx Ha)] Hf Hg, Ch.ro 0 (Sl Hi Gy Hj) Gy, Ch.bx Hk Hl Hm [(Sl Hi Gy Hj)] Hn Ho] ∧ o82.length = Ei.length) ?_ ?_
     ·clear h'
      rename _ = some o82 => h
      refine c_blk (wp_loopM _ h (fun s83 a w => ∃ (ρ : Nat → Value) (σ : St), a = fr 220 (updL ρ [(0, (Sl Ej s83.1 Ek)), (4, (.func (.func 60) #[] #[(pt Hd He), (pt Hl Hm)])), (14, (I o58)), (17, (I s83.2))]) ∧ w = σ.w ∧ Hp S0 σ0 σ [Ch.own 0 0 (Sl Ej s83.1 Ek) s83.1, Ch.ro 0 (Sl Gz Gx Ha) Gx, Ch.bx Hc Hd He [(Sl Gz Gx Ha)] Hf Hg, Ch.ro 0 (Sl Hi Gy Hj) Gy, Ch.bx Hk Hl Hm [(Sl Hi Gy Hj)] Hn Ho] ∧ s83.1.length = Ei.length) ⟨_, σ81, fr_join ⟨rfl, rfl, rfl, rfl, trivial⟩, rfl, H.sel' [0, 1, 2, 3, 4] rfl rfl, rfl⟩ ?_)
      clear h H
      rintro s83 a w o ⟨ρ, σ84, rfl, rfl, H, hn85⟩ h hres
      refine c_seq (cr (mv (I s83.2) rfl (mv (I o58) rfl (st (v := (B (decide (o58 < s83.2)))) (rv_gtr (a := s83.2) (b := o58) rfl rfl) (we ?_)))))
      refine cd_cond (decide (o58 < s83.2)) rfl (fun hb86 => ?_) (fun hb86 => ?_)
      ·replace h := bif_t hb86 h
       refine c_skip (q_then (c_seq (c_blk ?_)))
       replace h := bind_some h
       obtain ⟨x87, hx88, h⟩ := h
       obtain ⟨b90, o91, hi89, -⟩ := (H.own 0 rfl).ix hx88
       have hc92 := ((H.own 0 rfl).at hx88 hi89).int
       replace h := bind_some h
       obtain ⟨x93, hx94, h⟩ := h
       obtain ⟨b96, o97, hi95, -⟩ := (H.own 0 rfl).ix hx94
       have hc98 := ((H.own 0 rfl).at hx94 hi95).int
       replace h := bind_some h
       obtain ⟨x99, hx100, h⟩ := h
       obtain ⟨b102, o103, hi101, -⟩ := (H.own 0 rfl).ix hx100
       have Hs := H
       refine rg2 (σ := σ84) (Nm := Unit) 16 [15] [[false], [true]] [[(0, 0)], [(0, 0)], [(0, 0), (1, 1)], [(0, 0), (1, 1)], [(0, 0), (1, 1)], [(0, 0)], [(0, 0)], [(0, 0)], [(0, 0)], [(0, 0)], [(0, 0)], [(0, 0)], [(0, 0)], [(0, 0)], [(0, 0)], [(0, 1)]] 1 [fun _ => fun σm => Hp S0 σ0 σm [Ch.own 0 0 (Sl Ej s83.1 Ek) s83.1, Ch.ro 0 (Sl Gz Gx Ha) Gx, Ch.bx Hc Hd He [(Sl Gz Gx Ha)] Hf Hg, Ch.ro 0 (Sl Hi Gy Hj) Gy, Ch.bx Hk Hl Hm [(Sl Hi Gy Hj)] Hn Ho] ∧ Md (cov []) σ84 σm, fun _ => fun σm => Hp S0 σ0 σm [Ch.own 0 0 (Sl Ej s83.1 Ek) (s83.1.set s83.2.toNat x87), Ch.ro 0 (Sl Gz Gx Ha) Gx, Ch.bx Hc Hd He [(Sl Gz Gx Ha)] Hf Hg, Ch.ro 0 (Sl Hi Gy Hj) Gy, Ch.bx Hk Hl Hm [(Sl Hi Gy Hj)] Hn Ho] ∧ Md (fun i => (cov []) i ∨ (fun b => blk (Sl Ej s83.1 Ek) = some b) i) σ84 σm] [fun _ => (Sl Ej s83.1 Ek), fun _ => (I s83.2), fun _ => (Sl Ej s83.1 Ek), fun _ => (I s83.2), fun _ => (I (w64 (s83.2 - 1))), fun _ => (Sl Ej s83.1 Ek), fun _ => (I s83.2), fun _ => (I (w64 (s83.2 - 1))), fun _ => (pt b90 o91), fun _ => (I x87), fun _ => (Sl Ej s83.1 Ek), fun _ => (I s83.2), fun _ => (pt b96 o97), fun _ => (I x93), fun _ => (pt b102 o103), fun _ => undef] () (by kernel_rfl) (by kernel_rfl) ?_ ?_ ?_
       ·intro σm m0
        exact ⟨H.grow (m0.mono fun _ h => h.elim), m0⟩
       ·refine am rfl rfl (fun _ => rfl) ?_
        refine am rfl rfl (fun _ => rfl) (am rfl rfl (fun _ => rfl) (am rfl rfl (fun _ => rfl) (ac rfl (fun _ _ _ _ J o f => dp_v (v := (I (w64 (s83.2 - 1)))) wn (rv_sub (a := s83.2) (b := 1) (f 3 rfl rfl 116 rfl) rfl) rfl J) (am rfl rfl (fun _ => rfl) (am rfl rfl (fun _ => rfl) (ac rfl (fun _ _ _ _ J o f => dp_v (v := (I (w64 (s83.2 - 1)))) wn (rv_sub (a := s83.2) (b := 1) (f 6 rfl rfl 119 rfl) rfl) rfl J) (ac rfl (fun _ _ _ _ J o f => dp_v (v := (pt b90 o91)) wn (rv_ix Tryz.underlying25 ti3 (f 5 rfl rfl 118 rfl) (f 7 rfl rfl 120 rfl) hi89) rfl J) ?_)))))))
        refine all_cons (by
          refine ⟨?_, ?_⟩
          ·intro _nm ρ σm hJ hoff hdep
           have e121 := hdep 8 rfl rfl 121 rfl
           obtain ⟨H, m⟩ := id hJ
           have hc92 := ((H.own 0 rfl).at hx88 hi89).int
           exact dp_v (v := (I x87)) wn (rv_load1 Tryz.underlying3 rfl e121 hc92) rfl hJ
          trivial) ?_
        refine am rfl rfl (fun _ => rfl) (am rfl rfl (fun _ => rfl) (ac rfl (fun _ _ _ _ J o f => dp_v (v := (pt b96 o97)) wn (rv_ix Tryz.underlying25 ti3 (f 10 rfl rfl 123 rfl) (f 11 rfl rfl 124 rfl) hi95) rfl J) ?_))
        refine all_cons (by
          refine ⟨?_, ?_⟩
          ·intro _nm ρ σm hJ hoff hdep
           have e125 := hdep 12 rfl rfl 125 rfl
           obtain ⟨H, m⟩ := id hJ
           have hc98 := ((H.own 0 rfl).at hx94 hi95).int
           exact dp_v (v := (I x93)) wn (rv_load1 Tryz.underlying3 rfl e125 hc98) rfl hJ
          trivial) ?_
        refine ac rfl (fun _ _ _ _ J o f => dp_v (v := (pt b102 o103)) wn (rv_ix Tryz.underlying25 ti3 (f 0 rfl rfl 113 rfl) (f 1 rfl rfl 114 rfl) hi101) rfl J) ?_
        refine all_cons (by
          refine ⟨?_, ?_⟩
          ·intro _nm ρ σm hJ hoff hdep
           have e127 := hdep 14 rfl rfl 127 rfl
           have e122 := hdep 9 rfl rfl 122 rfl
           obtain ⟨H, m⟩ := id hJ
           refine dp_exS wn rfl (ex_store_own (e' := x87) (vs := [(I x87)]) (k := 0) H (i := 0) rfl ti3 hx100 hi101 e127 rfl e122 rfl rfl (Nat.le_of_ble_eq_true rfl) (by simp [plain]) (by rintro _ rfl; exact rfl)) ?_
           rintro σq ⟨H2, m2⟩
           exact ⟨_, (), rfl, ⟨H2.sel' [0, 1, 2, 3, 4] rfl rfl, m.comp m2⟩, stab [0, 1, 2, 3, 4, 5, 6, 7, 8, 9, 10, 11, 12, 13, 14] (by kernel_rfl) ⟨rfl, rfl, rfl, rfl, rfl, rfl, rfl, rfl, rfl, rfl, rfl, rfl, rfl, rfl, rfl, trivial⟩⟩
          trivial) ?_
        exact all_nil
       ·intro _nm ρ σ104 hJ hoff hrel
        obtain ⟨H, -⟩ := (show Hp S0 σ0 σ104 [Ch.own 0 0 (Sl Ej s83.1 Ek) (s83.1.set s83.2.toNat x87), Ch.ro 0 (Sl Gz Gx Ha) Gx, Ch.bx Hc Hd He [(Sl Gz Gx Ha)] Hf Hg, Ch.ro 0 (Sl Hi Gy Hj) Gy, Ch.bx Hk Hl Hm [(Sl Hi Gy Hj)] Hn Ho] ∧ Md (fun i => (cov []) i ∨ (fun b => blk (Sl Ej s83.1 Ek) = some b) i) σ84 σ104 from hJ)
        clear hJ Hs
        rw [fr_lookL (L := [(0, (Sl Ej s83.1 Ek)), (4, (.func (.func 60) #[] #[(pt Hd He), (pt Hl Hm)])), (14, (I o58)), (17, (I s83.2)), (115, (Sl Ej s83.1 Ek)), (117, (I (w64 (s83.2 - 1)))), (126, (I x93))]) ⟨look_off (hoff 0 rfl) rfl, look_off (hoff 4 rfl) rfl, look_off (hoff 14 rfl) rfl, look_off (hoff 17 rfl) rfl, hrel 2 rfl 115 rfl, hrel 4 rfl 117 rfl, hrel 13 rfl 126 rfl, trivial⟩]
        clear hoff hrel
        have hsl : (Sl Ej s83.1 Ek) = (Sl Ej (s83.1.set s83.2.toNat x87) Ek) := sl_len (by simp)
        rw [hsl]; rw [hsl] at H; clear hsl
        replace h := bind_some h
        obtain ⟨x105, hx106, h⟩ := h
        obtain ⟨b108, o109, hi107, -⟩ := (H.own 0 rfl).ix hx106
        refine st (v := (pt b108 o109)) (rv_ix Tryz.underlying25 ti3 rfl rfl hi107) ?_
        refine st_exS (ex_store_own (e' := x93) (vs := [(I x93)]) (k := 0) H (i := 0) rfl ti3 hx106 hi107 rfl rfl rfl rfl rfl (Nat.le_of_ble_eq_true rfl) (by simp [plain]) (by rintro _ rfl; exact rfl)) wn ?_
        rintro σ110 ⟨H, -⟩
        have hsl : (Sl Ej (s83.1.set s83.2.toNat x87) Ek) = (Sl Ej ((s83.1.set s83.2.toNat x87).set (w64 (s83.2 - 1)).toNat x93) Ek) := sl_len List.length_set.symm
        rw [hsl]; rw [hsl] at H; clear hsl
        refine w_end (q_blk (q_then (rg (mv (I s83.2) rfl (st (v := (I (w64 (s83.2 - 1)))) (rv_sub (a := s83.2) (b := 1) rfl rfl) (sa (I (w64 (s83.2 - 1))) rfl (we ?_)))))))
        obtain rfl := si h
        exact ⟨_, rfl, _, σ110, fr_join ⟨rfl, rfl, rfl, rfl, trivial⟩, rfl, H.sel' [0, 1, 2, 3, 4] rfl rfl, (List.length_set.trans (List.length_set.trans hn85))⟩
      ·replace h := bif_f hb86 h
       refine c_exit (q_then_x (q_then_x (q_blk_hit ?_)))
       obtain rfl := si h
       obtain rfl := hres _ rfl
       exact ⟨rfl, _, σ84, fr_join ⟨rfl, rfl, trivial⟩, rfl, H.sel' [0, 1, 2, 3, 4] rfl rfl, hn85⟩
     ·clear hj
      have h := h'
      clear h' H
      rintro e a w ⟨rfl, ρ, σ111, rfl, rfl, H, hn112⟩
      refine q_then (c_ret (q_then_r ?_))
      obtain rfl := si h
      exact fin_ret (v := (.tuple #[])) (results_ok Tryz.results86 res_nil rfl) ⟨rfl, rfl, hn112⟩ (H.sel' [0, 2, 4] rfl rfl)
   ·replace h := bif_f hb57 h
    refine c_skip (q_then (cr (mv (I Dg) rfl (mv (I Hr) rfl (st (v := (I (w64 (Dg + Hr)))) (rv_add (a := Dg) (b := Hr) rfl rfl) (st (v := (.int .u64 (wk .u64 (w64 (Dg + Hr))))) (rvk_conv (k := .i64) (k' := .u64) (a := (w64 (Dg + Hr))) Tryz.underlying3 Tryz.underlying115 rfl) ?_))))))
    refine st (v := (.int .u64 (gshr .u64 (wk .u64 (w64 (Dg + Hr))) 1))) (rvk_shr (k := .u64) (k' := .u64) (a := (wk .u64 (w64 (Dg + Hr)))) (b := 1) rfl rfl (by decide)) ?_
    refine st (v := (I (wk .i64 (gshr .u64 (wk .u64 (w64 (Dg + Hr))) 1)))) (rvk_conv (k := .u64) (k' := .i64) (a := (gshr .u64 (wk .u64 (w64 (Dg + Hr))) 1)) Tryz.underlying115 Tryz.underlying3 rfl) (sa (I (wk .i64 (gshr .u64 (wk .u64 (w64 (Dg + Hr))) 1))) rfl (we (cr (mv (I (wk .i64 (gshr .u64 (wk .u64 (w64 (Dg + Hr))) 1))) rfl (mv (I Hq) rfl (st (v := (I (w64 ((wk .i64 (gshr .u64 (wk .u64 (w64 (Dg + Hr))) 1)) + Hq)))) (rv_add (a := (wk .i64 (gshr .u64 (wk .u64 (w64 (Dg + Hr))) 1))) (b := Hq) rfl rfl) (sa (I (w64 ((wk .i64 (gshr .u64 (wk .u64 (w64 (Dg + Hr))) 1)) + Hq))) rfl (we ?_))))))))
    refine cr (sa (I 0) rfl (sa (I 0) rfl (we (c_seq (cr (mv (I Hq) rfl (mv (I (wk .i64 (gshr .u64 (wk .u64 (w64 (Dg + Hr))) 1))) rfl (st (v := (B (decide ((wk .i64 (gshr .u64 (wk .u64 (w64 (Dg + Hr))) 1)) < Hq)))) (rv_gtr (a := Hq) (b := (wk .i64 (gshr .u64 (wk .u64 (w64 (Dg + Hr))) 1))) rfl rfl) ?_))))))))
    refine we ?_
    obtain ⟨o113, hj, h'⟩ := bind_some h
    clear h
    refine c_cut (fun e a w => e = .normal ∧ ∃ (ρ : Nat → Value) (σ : St), a = fr 220 (updL ρ [(0, (Sl Ej Ei Ek)), (1, (I Dg)), (2, (I Hq)), (3, (I Hr)), (4, (.func (.func 60) #[] #[(pt Hd He), (pt Hl Hm)])), (18, (I (wk .i64 (gshr .u64 (wk .u64 (w64 (Dg + Hr))) 1)))), (19, (I (w64 ((wk .i64 (gshr .u64 (wk .u64 (w64 (Dg + Hr))) 1)) + Hq)))), (20, (I o113.1)), (21, (I o113.2))]) ∧ w = σ.w ∧ Hp S0 σ0 σ [Ch.own 0 0 (Sl Ej Ei Ek) Ei, Ch.ro 0 (Sl Gz Gx Ha) Gx, Ch.bx Hc Hd He [(Sl Gz Gx Ha)] Hf Hg, Ch.ro 0 (Sl Hi Gy Hj) Gy, Ch.bx Hk Hl Hm [(Sl Hi Gy Hj)] Hn Ho]) ?_ ?_
    ·clear h'
     rename _ = some o113 => h
     refine cd_cond (decide ((wk .i64 (gshr .u64 (wk .u64 (w64 (Dg + Hr))) 1)) < Hq)) rfl (fun hb114 => ?_) (fun hb114 => ?_)
     ·replace h := bif_t hb114 h
      refine cr (mv (I (w64 ((wk .i64 (gshr .u64 (wk .u64 (w64 (Dg + Hr))) 1)) + Hq))) rfl (mv (I Hr) rfl (st (v := (I (w64 ((w64 ((wk .i64 (gshr .u64 (wk .u64 (w64 (Dg + Hr))) 1)) + Hq)) - Hr)))) (rv_sub (a := (w64 ((wk .i64 (gshr .u64 (wk .u64 (w64 (Dg + Hr))) 1)) + Hq))) (b := Hr) rfl rfl) (sa (I (w64 ((w64 ((wk .i64 (gshr .u64 (wk .u64 (w64 (Dg + Hr))) 1)) + Hq)) - Hr))) rfl (we (rg (mv (I (wk .i64 (gshr .u64 (wk .u64 (w64 (Dg + Hr))) 1))) rfl (sa (I (wk .i64 (gshr .u64 (wk .u64 (w64 (Dg + Hr))) 1))) rfl (w_end ?_)))))))))
      obtain rfl := si h
      exact ⟨rfl, _, σ0, fr_join ⟨rfl, rfl, rfl, rfl, rfl, rfl, rfl, rfl, rfl, trivial⟩, rfl, H.sel' [0, 2, 1, 4, 3] rfl rfl⟩
     ·replace h := bif_f hb114 h
      refine cr (mv (I Dg) rfl (sa (I Dg) rfl (we (rg (mv (I Hq) rfl (sa (I Hq) rfl (w_end ?_)))))))
      obtain rfl := si h
      exact ⟨rfl, _, σ0, fr_join ⟨rfl, rfl, rfl, rfl, rfl, rfl, rfl, rfl, rfl, trivial⟩, rfl, H.sel' [0, 2, 1, 4, 3] rfl rfl⟩
    ·clear hj
     have h := h'
     clear h' H
     rintro e a w ⟨rfl, ρ, σ115, rfl, rfl, H⟩
     refine q_then (cr (mv (I (w64 ((wk .i64 (gshr .u64 (wk .u64 (w64 (Dg + Hr))) 1)) + Hq))) rfl (st (v := (I (w64 ((w64 ((wk .i64 (gshr .u64 (wk .u64 (w64 (Dg + Hr))) 1)) + Hq)) - 1)))) (rv_sub (a := (w64 ((wk .i64 (gshr .u64 (wk .u64 (w64 (Dg + Hr))) 1)) + Hq))) (b := 1) rfl rfl) (sa (I (w64 ((w64 ((wk .i64 (gshr .u64 (wk .u64 (w64 (Dg + Hr))) 1)) + Hq)) - 1))) rfl (we (c_seq ?_))))))
     obtain ⟨o116, hj, h'⟩ := bind_some h
     clear h
     refine c_cut (fun e a w => e = .normal ∧ ∃ (ρ : Nat → Value) (σ : St), a = fr 220 (updL ρ [(0, (Sl Ej Ei Ek)), (1, (I Dg)), (2, (I Hq)), (3, (I Hr)), (4, (.func (.func 60) #[] #[(pt Hd He), (pt Hl Hm)])), (18, (I (wk .i64 (gshr .u64 (wk .u64 (w64 (Dg + Hr))) 1)))), (19, (I (w64 ((wk .i64 (gshr .u64 (wk .u64 (w64 (Dg + Hr))) 1)) + Hq)))), (20, (I o116))]) ∧ w = σ.w ∧ Hp S0 σ0 σ [Ch.own 0 0 (Sl Ej Ei Ek) Ei, Ch.ro 0 (Sl Gz Gx Ha) Gx, Ch.bx Hc Hd He [(Sl Gz Gx Ha)] Hf Hg, Ch.ro 0 (Sl Hi Gy Hj) Gy, Ch.bx Hk Hl Hm [(Sl Hi Gy Hj)] Hn Ho]) ?_ ?_
     ·clear h'
      rename _ = some o116 => h
      refine c_blk (wp_loopM _ h (fun s117 a w => ∃ (ρ : Nat → Value) (σ : St), a = fr 220 (updL ρ [(0, (Sl Ej Ei Ek)), (1, (I Dg)), (2, (I Hq)), (3, (I Hr)), (4, (.func (.func 60) #[] #[(pt Hd He), (pt Hl Hm)])), (18, (I (wk .i64 (gshr .u64 (wk .u64 (w64 (Dg + Hr))) 1)))), (19, (I (w64 ((wk .i64 (gshr .u64 (wk .u64 (w64 (Dg + Hr))) 1)) + Hq)))), (20, (I s117.1)), (21, (I s117.2)), (22, (I (w64 ((w64 ((wk .i64 (gshr .u64 (wk .u64 (w64 (Dg + Hr))) 1)) + Hq)) - 1))))]) ∧ w = σ.w ∧ Hp S0 σ0 σ [Ch.own 0 0 (Sl Ej Ei Ek) Ei, Ch.ro 0 (Sl Gz Gx Ha) Gx, Ch.bx Hc Hd He [(Sl Gz Gx Ha)] Hf Hg, Ch.ro 0 (Sl Hi Gy Hj) Gy, Ch.bx Hk Hl Hm [(Sl Hi Gy Hj)] Hn Ho]) ⟨_, σ115, fr_join ⟨rfl, rfl, rfl, rfl, rfl, rfl, rfl, rfl, rfl, rfl, trivial⟩, rfl, H.sel' [0, 1, 2, 3, 4] rfl rfl⟩ ?_)
      clear h H
      rintro s117 a w o ⟨ρ, σ118, rfl, rfl, H⟩ h hres
      refine c_seq (cr (mv (I s117.1) rfl (mv (I s117.2) rfl (st (v := (B (decide (s117.1 < s117.2)))) (rv_lss (a := s117.1) (b := s117.2) rfl rfl) (we ?_)))))
      refine cd_cond (decide (s117.1 < s117.2)) rfl (fun hb119 => ?_) (fun hb119 => ?_)
      ·replace h := bif_t hb119 h
       refine c_skip (q_then (c_blk (cr (mv (I s117.1) rfl (mv (I s117.2) rfl (st (v := (I (w64 (s117.1 + s117.2)))) (rv_add (a := s117.1) (b := s117.2) rfl rfl) (st (v := (.int .u64 (wk .u64 (w64 (s117.1 + s117.2))))) (rvk_conv (k := .i64) (k' := .u64) (a := (w64 (s117.1 + s117.2))) Tryz.underlying3 Tryz.underlying115 rfl) ?_)))))))
       refine st (v := (.int .u64 (gshr .u64 (wk .u64 (w64 (s117.1 + s117.2))) 1))) (rvk_shr (k := .u64) (k' := .u64) (a := (wk .u64 (w64 (s117.1 + s117.2)))) (b := 1) rfl rfl (by decide)) ?_
       refine st (v := (I (wk .i64 (gshr .u64 (wk .u64 (w64 (s117.1 + s117.2))) 1)))) (rvk_conv (k := .u64) (k' := .i64) (a := (gshr .u64 (wk .u64 (w64 (s117.1 + s117.2))) 1)) Tryz.underlying115 Tryz.underlying3 rfl) (sa (I (wk .i64 (gshr .u64 (wk .u64 (w64 (s117.1 + s117.2))) 1))) rfl (we (c_seq ?_)))
       refine rgP (σ := σ118) 11 (by kernel_rfl) (by kernel_rfl) (by kernel_rfl) ?_
       refine sq (v := (.func (.func 60) #[] #[(pt Hd He), (pt Hl Hm)])) (rv_move rfl) (sq (v := (Sl Ej Ei Ek)) (rv_move rfl) (sq (v := (I (w64 ((w64 ((wk .i64 (gshr .u64 (wk .u64 (w64 (Dg + Hr))) 1)) + Hq)) - 1)))) (rv_move rfl) (sq (v := (I (wk .i64 (gshr .u64 (wk .u64 (w64 (s117.1 + s117.2))) 1)))) (rv_move rfl) (sq (v := (I (w64 ((w64 ((w64 ((wk .i64 (gshr .u64 (wk .u64 (w64 (Dg + Hr))) 1)) + Hq)) - 1)) - (wk .i64 (gshr .u64 (wk .u64 (w64 (s117.1 + s117.2))) 1)))))) (rv_sub (a := (w64 ((w64 ((wk .i64 (gshr .u64 (wk .u64 (w64 (Dg + Hr))) 1)) + Hq)) - 1))) (b := (wk .i64 (gshr .u64 (wk .u64 (w64 (s117.1 + s117.2))) 1))) rfl rfl) ?_))))
       replace h := bind_some h
       obtain ⟨x120, hx121, h⟩ := h
       obtain ⟨b123, o124, hi122, -⟩ := (H.own 0 rfl).ix hx121
       refine sq (v := (pt b123 o124)) (rv_ix Tryz.underlying25 ti3 rfl rfl hi122) ?_
       have hc125 := ((H.own 0 rfl).at hx121 hi122).int
       refine sq (v := (I x120)) (rv_load1 Tryz.underlying3 rfl rfl hc125) (sq (v := (Sl Ej Ei Ek)) (rv_move rfl) (sq (v := (I (wk .i64 (gshr .u64 (wk .u64 (w64 (s117.1 + s117.2))) 1)))) (rv_move rfl) ?_))
       replace h := bind_some h
       obtain ⟨x126, hx127, h⟩ := h
       obtain ⟨b129, o130, hi128, -⟩ := (H.own 0 rfl).ix hx127
       refine sq (v := (pt b129 o130)) (rv_ix Tryz.underlying25 ti3 rfl rfl hi128) ?_
       have hc131 := ((H.own 0 rfl).at hx127 hi128).int
       refine sq (v := (I x126)) (rv_load1 Tryz.underlying3 rfl rfl hc131) (sq_end ?_)
       intro σ132 hm133
       replace H := H.grow (hm133.mono fun _ h => h); clear hm133
       replace h := bind_some h
       obtain ⟨r134, hx135, h⟩ := h
       have hc136 := c_impl_ProbeOrder_1__p_SSint__p24 (Fs := Hc) (Ft := Hd) (Fu := He) (Fv := Hf) (Fw := Hg) (Fq := Gz) (Fr := Ha) (Ga := Hk) (Gb := Hl) (Gc := Hm) (Gd := Hn) (Ge := Ho) (Fx := Hi) (Fy := Hj) hx135
       refine st_call (cx_call hc136 (ent_v (cap := [(pt Hd He), (pt Hl Hm)]) hc136.fn rfl rfl) hn0 (H.sel' [2, 1, 4, 3, 0, 1, 3] rfl rfl : Hp S0 σ0 _ ([_, _, _, _] ++ _))) wn ?_
       rintro _ σ137 ⟨_, ⟨rfl, rfl⟩, H, -⟩
       replace H : Hp _ _ _ [_, _, _, _, _] := H
       refine st (v := (B (decide (r134 < 0)))) (rv_lss (a := r134) (b := 0) rfl rfl) (st (v := (B (!(decide (r134 < 0))))) (rv_not rfl) (we ?_))
       refine cd_cond (!(decide (r134 < 0))) rfl (fun hb138 => ?_) (fun hb138 => ?_)
       ·replace h := bif_t hb138 h
        refine rg (mv (I (wk .i64 (gshr .u64 (wk .u64 (w64 (s117.1 + s117.2))) 1))) rfl (st (v := (I (w64 ((wk .i64 (gshr .u64 (wk .u64 (w64 (s117.1 + s117.2))) 1)) + 1)))) (rv_add (a := (wk .i64 (gshr .u64 (wk .u64 (w64 (s117.1 + s117.2))) 1))) (b := 1) rfl rfl) (sa (I (w64 ((wk .i64 (gshr .u64 (wk .u64 (w64 (s117.1 + s117.2))) 1)) + 1))) rfl (w_end (q_blk (q_then ?_))))))
        obtain rfl := si h
        exact ⟨_, rfl, _, σ137, fr_join ⟨rfl, rfl, rfl, rfl, rfl, rfl, rfl, rfl, rfl, rfl, trivial⟩, rfl, H.sel' [2, 3, 0, 4, 1] rfl rfl⟩
       ·replace h := bif_f hb138 h
        refine rg (mv (I (wk .i64 (gshr .u64 (wk .u64 (w64 (s117.1 + s117.2))) 1))) rfl (sa (I (wk .i64 (gshr .u64 (wk .u64 (w64 (s117.1 + s117.2))) 1))) rfl (w_end (q_blk (q_then ?_)))))
        obtain rfl := si h
        exact ⟨_, rfl, _, σ137, fr_join ⟨rfl, rfl, rfl, rfl, rfl, rfl, rfl, rfl, rfl, rfl, trivial⟩, rfl, H.sel' [2, 3, 0, 4, 1] rfl rfl⟩
      ·replace h := bif_f hb119 h
       refine c_exit (q_then_x (q_then_x (q_blk_hit ?_)))
       obtain rfl := si h
       obtain rfl := hres _ rfl
       exact ⟨rfl, _, σ118, fr_join ⟨rfl, rfl, rfl, rfl, rfl, rfl, rfl, rfl, trivial⟩, rfl, H.sel' [0, 1, 2, 3, 4] rfl rfl⟩
     ·clear hj
      have h := h'
      clear h' H
      rintro e a w ⟨rfl, ρ, σ139, rfl, rfl, H⟩
      refine q_then (cr (mv (I (w64 ((wk .i64 (gshr .u64 (wk .u64 (w64 (Dg + Hr))) 1)) + Hq))) rfl (mv (I o116) rfl (st (v := (I (w64 ((w64 ((wk .i64 (gshr .u64 (wk .u64 (w64 (Dg + Hr))) 1)) + Hq)) - o116)))) (rv_sub (a := (w64 ((wk .i64 (gshr .u64 (wk .u64 (w64 (Dg + Hr))) 1)) + Hq))) (b := o116) rfl rfl) (sa (I (w64 ((w64 ((wk .i64 (gshr .u64 (wk .u64 (w64 (Dg + Hr))) 1)) + Hq)) - o116))) rfl (we (c_seq (c_seq ?_))))))))
      obtain ⟨o140, hj, h'⟩ := bind_some h
      clear h
      refine c_cut (fun e a w => e = .normal ∧ ∃ (ρ : Nat → Value) (σ : St), a = fr 220 (updL ρ [(0, (Sl Ej Ei Ek)), (1, (I Dg)), (2, (I Hq)), (3, (I Hr)), (4, (.func (.func 60) #[] #[(pt Hd He), (pt Hl Hm)])), (18, (I (wk .i64 (gshr .u64 (wk .u64 (w64 (Dg + Hr))) 1)))), (20, (I o116)), (24, (I (w64 ((w64 ((wk .i64 (gshr .u64 (wk .u64 (w64 (Dg + Hr))) 1)) + Hq)) - o116)))), (185, (B o140))]) ∧ w = σ.w ∧ Hp S0 σ0 σ [Ch.own 0 0 (Sl Ej Ei Ek) Ei, Ch.ro 0 (Sl Gz Gx Ha) Gx, Ch.bx Hc Hd He [(Sl Gz Gx Ha)] Hf Hg, Ch.ro 0 (Sl Hi Gy Hj) Gy, Ch.bx Hk Hl Hm [(Sl Hi Gy Hj)] Hn Ho]) ?_ ?_
      ·clear h'
       rename _ = some o140 => h
       refine rg (mv (I o116) rfl (mv (I Hq) rfl (st (v := (B (decide (o116 < Hq)))) (rv_lss (a := o116) (b := Hq) rfl rfl) (mv (B (decide (o116 < Hq))) rfl ?_))))
       rcases Bool.eq_false_or_eq_true (decide (o116 < Hq)) with hb141 | hb141
       ·replace h := bif_t hb141 h
        refine st_g (v := (I Hq)) (congrArg some hb141) (rv_move rfl) (st_g (v := (I (w64 ((w64 ((wk .i64 (gshr .u64 (wk .u64 (w64 (Dg + Hr))) 1)) + Hq)) - o116)))) (congrArg some hb141) (rv_move rfl) (st_g (v := (B (decide (Hq < (w64 ((w64 ((wk .i64 (gshr .u64 (wk .u64 (w64 (Dg + Hr))) 1)) + Hq)) - o116)))))) (congrArg some hb141) (rv_lss (a := Hq) (b := (w64 ((w64 ((wk .i64 (gshr .u64 (wk .u64 (w64 (Dg + Hr))) 1)) + Hq)) - o116))) rfl rfl) (st (v := (B (decide (Hq < (w64 ((w64 ((wk .i64 (gshr .u64 (wk .u64 (w64 (Dg + Hr))) 1)) + Hq)) - o116)))))) (rv_pick_t (congrArg B hb141) rfl) (w_end ?_))))
        obtain rfl := si h
        exact ⟨rfl, _, σ139, fr_join ⟨rfl, rfl, rfl, rfl, rfl, rfl, rfl, rfl, rfl, trivial⟩, rfl, H.sel' [0, 1, 2, 3, 4] rfl rfl⟩
       ·replace h := bif_f hb141 h
        refine st_skip (congrArg some hb141) (st_skip (congrArg some hb141) (st_skip (congrArg some hb141) (st (v := (B false)) (rv_pick_f (congrArg B hb141) rfl) (w_end ?_))))
        obtain rfl := si h
        exact ⟨rfl, _, σ139, fr_join ⟨rfl, rfl, rfl, rfl, rfl, rfl, rfl, rfl, rfl, trivial⟩, rfl, H.sel' [0, 1, 2, 3, 4] rfl rfl⟩
      ·clear hj
       have h := h'
       clear h' H
       rintro e a w ⟨rfl, ρ, σ142, rfl, rfl, H⟩
       refine q_then ?_
       obtain ⟨o143, hj, h'⟩ := bind_some h
       clear h
       refine c_cut (fun e a w => e = .normal ∧ ∃ (ρ : Nat → Value) (σ : St), a = fr 220 (updL ρ [(0, (Sl Ej o143 Ek)), (1, (I Dg)), (3, (I Hr)), (4, (.func (.func 60) #[] #[(pt Hd He), (pt Hl Hm)])), (18, (I (wk .i64 (gshr .u64 (wk .u64 (w64 (Dg + Hr))) 1)))), (20, (I o116)), (24, (I (w64 ((w64 ((wk .i64 (gshr .u64 (wk .u64 (w64 (Dg + Hr))) 1)) + Hq)) - o116))))]) ∧ w = σ.w ∧ Hp S0 σ0 σ [Ch.own 0 0 (Sl Ej o143 Ek) o143, Ch.ro 0 (Sl Gz Gx Ha) Gx, Ch.bx Hc Hd He [(Sl Gz Gx Ha)] Hf Hg, Ch.ro 0 (Sl Hi Gy Hj) Gy, Ch.bx Hk Hl Hm [(Sl Hi Gy Hj)] Hn Ho] ∧ o143.length = Ei.length) ?_ ?_
       ·clear h'
        rename _ = some o143 => h
        refine cd_cond o140 rfl (fun hb144 => ?_) (fun hb144 => ?_)
        ·replace h := bif_t hb144 h
         refine rg (mv (Sl Ej Ei Ek) rfl (mv (I o116) rfl (mv (I Hq) rfl (mv (I (w64 ((w64 ((wk .i64 (gshr .u64 (wk .u64 (w64 (Dg + Hr))) 1)) + Hq)) - o116))) rfl (mv (.func (.func 60) #[] #[(pt Hd He), (pt Hl Hm)]) rfl ?_)))))
         replace h := bind_some h
         obtain ⟨r145, hx146, h⟩ := h
         have hc147 := c_slices_rotateCmpFunc_int__impl_ProbeOrder_1 (Ej := Ej) (Ek := Ek) (Hc := Hc) (Hd := Hd) (He := He) (Hf := Hf) (Hg := Hg) (Gz := Gz) (Ha := Ha) (Hk := Hk) (Hl := Hl) (Hm := Hm) (Hn := Hn) (Ho := Ho) (Hi := Hi) (Hj := Hj) hx146
         refine sc hc147 rfl hn0 (H.sel' [0, 2, 1, 4, 3, 1, 3] rfl rfl : Hp S0 σ0 _ ([_, _, _, _, _] ++ _)) ?_
         rintro _ σ149 ⟨_, ⟨rfl, rfl, hn148⟩, H, -⟩
         replace H : Hp _ _ _ [_, _, _, _, _] := H
         have hsl : (Sl Ej Ei Ek) = (Sl Ej r145 Ek) := sl_len hn148.symm
         try rw [hsl]
         try rw [hsl] at H
         clear hsl
         refine w_end ?_
         obtain rfl := si h
         exact ⟨rfl, _, σ149, fr_join ⟨rfl, rfl, rfl, rfl, rfl, rfl, rfl, trivial⟩, rfl, H.sel' [0, 3, 1, 4, 2] rfl rfl, hn148⟩
        ·replace h := bif_f hb144 h
         refine c_skip ?_
         obtain rfl := si h
         exact ⟨rfl, _, σ142, fr_join ⟨rfl, rfl, rfl, rfl, rfl, rfl, rfl, trivial⟩, rfl, H.sel' [0, 1, 2, 3, 4] rfl rfl, rfl⟩
       ·clear hj
        have h := h'
        clear h' H
        rintro e a w ⟨rfl, ρ, σ150, rfl, rfl, H, hn151⟩
        refine q_then (c_seq (c_seq ?_))
        obtain ⟨o152, hj, h'⟩ := bind_some h
        clear h
        refine c_cut (fun e a w => e = .normal ∧ ∃ (ρ : Nat → Value) (σ : St), a = fr 220 (updL ρ [(0, (Sl Ej o143 Ek)), (1, (I Dg)), (3, (I Hr)), (4, (.func (.func 60) #[] #[(pt Hd He), (pt Hl Hm)])), (18, (I (wk .i64 (gshr .u64 (wk .u64 (w64 (Dg + Hr))) 1)))), (20, (I o116)), (24, (I (w64 ((w64 ((wk .i64 (gshr .u64 (wk .u64 (w64 (Dg + Hr))) 1)) + Hq)) - o116)))), (199, (B o152))]) ∧ w = σ.w ∧ Hp S0 σ0 σ [Ch.own 0 0 (Sl Ej o143 Ek) o143, Ch.ro 0 (Sl Gz Gx Ha) Gx, Ch.bx Hc Hd He [(Sl Gz Gx Ha)] Hf Hg, Ch.ro 0 (Sl Hi Gy Hj) Gy, Ch.bx Hk Hl Hm [(Sl Hi Gy Hj)] Hn Ho]) ?_ ?_
        ·clear h'
         rename _ = some o152 => h
         refine rg (mv (I Dg) rfl (mv (I o116) rfl (st (v := (B (decide (Dg < o116)))) (rv_lss (a := Dg) (b := o116) rfl rfl) (mv (B (decide (Dg < o116))) rfl ?_))))
         rcases Bool.eq_false_or_eq_true (decide (Dg < o116)) with hb153 | hb153
         ·replace h := bif_t hb153 h
          refine st_g (v := (I o116)) (congrArg some hb153) (rv_move rfl) (st_g (v := (I (wk .i64 (gshr .u64 (wk .u64 (w64 (Dg + Hr))) 1)))) (congrArg some hb153) (rv_move rfl) (st_g (v := (B (decide (o116 < (wk .i64 (gshr .u64 (wk .u64 (w64 (Dg + Hr))) 1)))))) (congrArg some hb153) (rv_lss (a := o116) (b := (wk .i64 (gshr .u64 (wk .u64 (w64 (Dg + Hr))) 1))) rfl rfl) (st (v := (B (decide (o116 < (wk .i64 (gshr .u64 (wk .u64 (w64 (Dg + Hr))) 1)))))) (rv_pick_t (congrArg B hb153) rfl) (w_end ?_))))
          obtain rfl := si h
          exact ⟨rfl, _, σ150, fr_join ⟨rfl, rfl, rfl, rfl, rfl, rfl, rfl, rfl, trivial⟩, rfl, H.sel' [0, 1, 2, 3, 4] rfl rfl⟩
         ·replace h := bif_f hb153 h
          refine st_skip (congrArg some hb153) (st_skip (congrArg some hb153) (st_skip (congrArg some hb153) (st (v := (B false)) (rv_pick_f (congrArg B hb153) rfl) (w_end ?_))))
          obtain rfl := si h
          exact ⟨rfl, _, σ150, fr_join ⟨rfl, rfl, rfl, rfl, rfl, rfl, rfl, rfl, trivial⟩, rfl, H.sel' [0, 1, 2, 3, 4] rfl rfl⟩
        ·clear hj
         have h := h'
         clear h' H
         rintro e a w ⟨rfl, ρ, σ154, rfl, rfl, H⟩
         refine q_then ?_
         obtain ⟨o155, hj, h'⟩ := bind_some h
         clear h
         refine c_cut (fun e a w => e = .normal ∧ ∃ (ρ : Nat → Value) (σ : St), a = fr 220 (updL ρ [(0, (Sl Ej o155 Ek)), (3, (I Hr)), (4, (.func (.func 60) #[] #[(pt Hd He), (pt Hl Hm)])), (18, (I (wk .i64 (gshr .u64 (wk .u64 (w64 (Dg + Hr))) 1)))), (24, (I (w64 ((w64 ((wk .i64 (gshr .u64 (wk .u64 (w64 (Dg + Hr))) 1)) + Hq)) - o116))))]) ∧ w = σ.w ∧ Hp S0 σ0 σ [Ch.own 0 0 (Sl Ej o155 Ek) o155, Ch.ro 0 (Sl Gz Gx Ha) Gx, Ch.bx Hc Hd He [(Sl Gz Gx Ha)] Hf Hg, Ch.ro 0 (Sl Hi Gy Hj) Gy, Ch.bx Hk Hl Hm [(Sl Hi Gy Hj)] Hn Ho] ∧ o155.length = o143.length) ?_ ?_
         ·clear h'
          rename _ = some o155 => h
          refine cd_cond o152 rfl (fun hb156 => ?_) (fun hb156 => ?_)
          ·replace h := bif_t hb156 h
           refine rg (mv (Sl Ej o143 Ek) rfl (mv (I Dg) rfl (mv (I o116) rfl (mv (I (wk .i64 (gshr .u64 (wk .u64 (w64 (Dg + Hr))) 1))) rfl (mv (.func (.func 60) #[] #[(pt Hd He), (pt Hl Hm)]) rfl ?_)))))
           replace h := bind_some h
           obtain ⟨r157, hx158, h⟩ := h
           have hc159 := ih (Ej := Ej) (Ek := Ek) (Hc := Hc) (Hd := Hd) (He := He) (Hf := Hf) (Hg := Hg) (Gz := Gz) (Ha := Ha) (Hk := Hk) (Hl := Hl) (Hm := Hm) (Hn := Hn) (Ho := Ho) (Hi := Hi) (Hj := Hj) hx158
           refine sc hc159 rfl hn0 (H.sel' [0, 2, 1, 4, 3, 1, 3] rfl rfl : Hp S0 σ0 _ ([_, _, _, _, _] ++ _)) ?_
           rintro _ σ161 ⟨_, ⟨rfl, rfl, hn160⟩, H, -⟩
           replace H : Hp _ _ _ [_, _, _, _, _] := H
           have hsl : (Sl Ej o143 Ek) = (Sl Ej r157 Ek) := sl_len hn160.symm
           try rw [hsl]
           try rw [hsl] at H
           clear hsl
           refine w_end ?_
           obtain rfl := si h
           exact ⟨rfl, _, σ161, fr_join ⟨rfl, rfl, rfl, rfl, rfl, trivial⟩, rfl, H.sel' [0, 3, 1, 4, 2] rfl rfl, ((hn160.trans hn151).trans hn151.symm)⟩
          ·replace h := bif_f hb156 h
           refine c_skip ?_
           obtain rfl := si h
           exact ⟨rfl, _, σ154, fr_join ⟨rfl, rfl, rfl, rfl, rfl, trivial⟩, rfl, H.sel' [0, 1, 2, 3, 4] rfl rfl, rfl⟩
         ·clear hj
          have h := h'
          clear h' H
          rintro e a w ⟨rfl, ρ, σ162, rfl, rfl, H, hn163⟩
          refine q_then (c_seq ?_)
          obtain ⟨o164, hj, h'⟩ := bind_some h
          clear h
          refine c_cut (fun e a w => e = .normal ∧ ∃ (ρ : Nat → Value) (σ : St), a = fr 220 (updL ρ [(0, (Sl Ej o155 Ek)), (3, (I Hr)), (4, (.func (.func 60) #[] #[(pt Hd He), (pt Hl Hm)])), (18, (I (wk .i64 (gshr .u64 (wk .u64 (w64 (Dg + Hr))) 1)))), (24, (I (w64 ((w64 ((wk .i64 (gshr .u64 (wk .u64 (w64 (Dg + Hr))) 1)) + Hq)) - o116)))), (213, (B o164))]) ∧ w = σ.w ∧ Hp S0 σ0 σ [Ch.own 0 0 (Sl Ej o155 Ek) o155, Ch.ro 0 (Sl Gz Gx Ha) Gx, Ch.bx Hc Hd He [(Sl Gz Gx Ha)] Hf Hg, Ch.ro 0 (Sl Hi Gy Hj) Gy, Ch.bx Hk Hl Hm [(Sl Hi Gy Hj)] Hn Ho]) ?_ ?_
          ·clear h'
           rename _ = some o164 => h
           refine rg (mv (I (wk .i64 (gshr .u64 (wk .u64 (w64 (Dg + Hr))) 1))) rfl (mv (I (w64 ((w64 ((wk .i64 (gshr .u64 (wk .u64 (w64 (Dg + Hr))) 1)) + Hq)) - o116))) rfl (st (v := (B (decide ((wk .i64 (gshr .u64 (wk .u64 (w64 (Dg + Hr))) 1)) < (w64 ((w64 ((wk .i64 (gshr .u64 (wk .u64 (w64 (Dg + Hr))) 1)) + Hq)) - o116)))))) (rv_lss (a := (wk .i64 (gshr .u64 (wk .u64 (w64 (Dg + Hr))) 1))) (b := (w64 ((w64 ((wk .i64 (gshr .u64 (wk .u64 (w64 (Dg + Hr))) 1)) + Hq)) - o116))) rfl rfl) (mv (B (decide ((wk .i64 (gshr .u64 (wk .u64 (w64 (Dg + Hr))) 1)) < (w64 ((w64 ((wk .i64 (gshr .u64 (wk .u64 (w64 (Dg + Hr))) 1)) + Hq)) - o116))))) rfl ?_))))
           rcases Bool.eq_false_or_eq_true (decide ((wk .i64 (gshr .u64 (wk .u64 (w64 (Dg + Hr))) 1)) < (w64 ((w64 ((wk .i64 (gshr .u64 (wk .u64 (w64 (Dg + Hr))) 1)) + Hq)) - o116)))) with hb165 | hb165
           ·replace h := bif_t hb165 h
            refine st_g (v := (I (w64 ((w64 ((wk .i64 (gshr .u64 (wk .u64 (w64 (Dg + Hr))) 1)) + Hq)) - o116)))) (congrArg some hb165) (rv_move rfl) (st_g (v := (I Hr)) (congrArg some hb165) (rv_move rfl) (st_g (v := (B (decide ((w64 ((w64 ((wk .i64 (gshr .u64 (wk .u64 (w64 (Dg + Hr))) 1)) + Hq)) - o116)) < Hr)))) (congrArg some hb165) (rv_lss (a := (w64 ((w64 ((wk .i64 (gshr .u64 (wk .u64 (w64 (Dg + Hr))) 1)) + Hq)) - o116))) (b := Hr) rfl rfl) (st (v := (B (decide ((w64 ((w64 ((wk .i64 (gshr .u64 (wk .u64 (w64 (Dg + Hr))) 1)) + Hq)) - o116)) < Hr)))) (rv_pick_t (congrArg B hb165) rfl) (w_end ?_))))
            obtain rfl := si h
            exact ⟨rfl, _, σ162, fr_join ⟨rfl, rfl, rfl, rfl, rfl, rfl, trivial⟩, rfl, H.sel' [0, 1, 2, 3, 4] rfl rfl⟩
           ·replace h := bif_f hb165 h
            refine st_skip (congrArg some hb165) (st_skip (congrArg some hb165) (st_skip (congrArg some hb165) (st (v := (B false)) (rv_pick_f (congrArg B hb165) rfl) (w_end ?_))))
            obtain rfl := si h
            exact ⟨rfl, _, σ162, fr_join ⟨rfl, rfl, rfl, rfl, rfl, rfl, trivial⟩, rfl, H.sel' [0, 1, 2, 3, 4] rfl rfl⟩
          ·clear hj
           have h := h'
           clear h' H
           rintro e a w ⟨rfl, ρ, σ166, rfl, rfl, H⟩
           refine q_then ?_
           refine cd_cond o164 rfl (fun hb167 => ?_) (fun hb167 => ?_)
           ·replace h := bif_t hb167 h
            refine rg (mv (Sl Ej o155 Ek) rfl (mv (I (wk .i64 (gshr .u64 (wk .u64 (w64 (Dg + Hr))) 1))) rfl (mv (I (w64 ((w64 ((wk .i64 (gshr .u64 (wk .u64 (w64 (Dg + Hr))) 1)) + Hq)) - o116))) rfl (mv (I Hr) rfl (mv (.func (.func 60) #[] #[(pt Hd He), (pt Hl Hm)]) rfl ?_)))))
            replace h := bind_some h
            obtain ⟨r168, hx169, h⟩ := h
            have hc170 := ih (Ej := Ej) (Ek := Ek) (Hc := Hc) (Hd := Hd) (He := He) (Hf := Hf) (Hg := Hg) (Gz := Gz) (Ha := Ha) (Hk := Hk) (Hl := Hl) (Hm := Hm) (Hn := Hn) (Ho := Ho) (Hi := Hi) (Hj := Hj) hx169
            refine sc hc170 rfl hn0 (H.sel' [0, 2, 1, 4, 3, 1, 3] rfl rfl : Hp S0 σ0 _ ([_, _, _, _, _] ++ _)) ?_
            rintro _ σ172 ⟨_, ⟨rfl, rfl, hn171⟩, H, -⟩
            replace H : Hp _ _ _ [_, _, _, _, _] := H
            have hsl : (Sl Ej o155 Ek) = (Sl Ej r168 Ek) := sl_len hn171.symm
            try rw [hsl]
            try rw [hsl] at H
            clear hsl
            refine w_end ?_
            obtain rfl := si h
            exact fin_end (v := (.tuple #[])) (results_ok Tryz.results86 res_nil rfl) ⟨rfl, rfl, (hn171.trans (hn163.trans hn151))⟩ (H.sel' [0, 1, 2] rfl rfl)
           ·replace h := bif_f hb167 h
            refine c_skip ?_
            obtain rfl := si h
            exact fin_end (v := (.tuple #[])) (results_ok Tryz.results86 res_nil rfl) ⟨rfl, rfl, (hn163.trans hn151)⟩ (H.sel' [0, 2, 4] rfl rfl)

theorem c_slices_stableCmpFunc_int__impl_ProbeOrder_1 {Ei : List Int} {Af : Int} {Ht : List (List Int)} {Hu : List Int} {Ej : Option Addr} {Ek : Nat} {Hv : Option Addr} {Hw : Nat} {Hx Hy Hz : Nat} {Ja Jb : List Value} {Jc : Option Addr} {Jd : Nat} {Je Jf Jg : Nat} {Jh Ji : List Value} {r : (List Int)} (h : M.slices_stableCmpFunc_int__impl_ProbeOrder_1 Ei Af Ht Hu = some r) :
    Cal2 Tryz.prog 79 [(Sl Ej Ei Ek), (I Af), (.func (.func 60) #[] #[(pt Hy Hz), (pt Jf Jg)])] [Ch.own 0 0 (Sl Ej Ei Ek) Ei, Ch.bx Hx Hy Hz [(Sl Hv Ht Hw)] Ja Jb, Ch.ro 0 (Sl Hv Ht Hw) Ht, Ch.bx Je Jf Jg [(Sl Jc Hu Jd)] Jh Ji, Ch.ro 0 (Sl Jc Hu Jd) Hu] (fun n0 v L => v = (.tuple #[]) ∧ L = [Ch.own 0 0 (Sl Ej r Ek) r, Ch.bx Hx Hy Hz [(Sl Hv Ht Hw)] Ja Jb, Ch.bx Je Jf Jg [(Sl Jc Hu Jd)] Jh Ji] ∧ r.length = Ei.length) := by
 refine cal2 (n := 63) Tryz.func79 rfl rfl rfl rfl ?_
 intro S0 σ0 n0 hn0 H
 unfold M.slices_stableCmpFunc_int__impl_ProbeOrder_1 at h
 refine cr (sa (I 20) rfl (we (cr (mv (I 20) rfl (sa (I 0) rfl (sa (I 20) rfl (we ?_)))))))
 refine c_seq ?_
 obtain ⟨o1, hj, h'⟩ := bind_some h
 clear h
 refine c_cut (fun e a w => e = .normal ∧ ∃ (ρ : Nat → Value) (σ : St), a = fr 63 (updL ρ [(0, (Sl Ej o1.1 Ek)), (1, (I Af)), (2, (.func (.func 60) #[] #[(pt Hy Hz), (pt Jf Jg)])), (6, (I 20)), (7, (I o1.2))]) ∧ w = σ.w ∧ Hp S0 σ0 σ [Ch.own 0 0 (Sl Ej o1.1 Ek) o1.1, Ch.ro 0 (Sl Hv Ht Hw) Ht, Ch.bx Hx Hy Hz [(Sl Hv Ht Hw)] Ja Jb, Ch.ro 0 (Sl Jc Hu Jd) Hu, Ch.bx Je Jf Jg [(Sl Jc Hu Jd)] Jh Ji] ∧ o1.1.length = Ei.length) ?_ ?_
 ·clear h'
  rename _ = some o1 => h
  refine c_blk (wp_loopM _ h (fun s2 a w => ∃ (ρ : Nat → Value) (σ : St), a = fr 63 (updL ρ [(0, (Sl Ej s2.1 Ek)), (1, (I Af)), (2, (.func (.func 60) #[] #[(pt Hy Hz), (pt Jf Jg)])), (6, (I 20)), (7, (I s2.2.1)), (8, (I s2.2.2))]) ∧ w = σ.w ∧ Hp S0 σ0 σ [Ch.own 0 0 (Sl Ej s2.1 Ek) s2.1, Ch.ro 0 (Sl Hv Ht Hw) Ht, Ch.bx Hx Hy Hz [(Sl Hv Ht Hw)] Ja Jb, Ch.ro 0 (Sl Jc Hu Jd) Hu, Ch.bx Je Jf Jg [(Sl Jc Hu Jd)] Jh Ji] ∧ s2.1.length = Ei.length) ⟨_, σ0, fr_join ⟨rfl, rfl, rfl, rfl, rfl, rfl, trivial⟩, rfl, H.sel' [0, 2, 1, 4, 3] rfl rfl, rfl⟩ ?_)
  clear h H
  rintro s2 a w o ⟨ρ, σ3, rfl, rfl, H, hn4⟩ h hres
  refine c_seq (cr (mv (I s2.2.2) rfl (mv (I Af) rfl (st (v := (B (decide (s2.2.2 ≤ Af)))) (rv_leq (a := s2.2.2) (b := Af) rfl rfl) (we ?_)))))
  refine cd_cond (decide (s2.2.2 ≤ Af)) rfl (fun hb5 => ?_) (fun hb5 => ?_)
  ·replace h := bif_t hb5 h
   refine c_skip (q_then (c_blk (cr (mv (Sl Ej s2.1 Ek) rfl (mv (I s2.2.1) rfl (mv (I s2.2.2) rfl (mv (.func (.func 60) #[] #[(pt Hy Hz), (pt Jf Jg)]) rfl ?_)))))))
   replace h := bind_some h
   obtain ⟨r6, hx7, h⟩ := h
   have hc8 := c_slices_insertionSortCmpFunc_int__impl_ProbeOrder_1 (Ej := Ej) (Ek := Ek) (Gj := Hx) (Gk := Hy) (Gl := Hz) (Gm := Ja) (Gn := Jb) (Gh := Hv) (Gi := Hw) (Gr := Je) (Gs := Jf) (Gt := Jg) (Gu := Jh) (Gv := Ji) (Gp := Jc) (Gq := Jd) hx7
   refine sc hc8 rfl hn0 (H.sel' [0, 2, 1, 4, 3, 1, 3] rfl rfl : Hp S0 σ0 _ ([_, _, _, _, _] ++ _)) ?_
   rintro _ σ10 ⟨_, ⟨rfl, rfl, hn9⟩, H, -⟩
   replace H : Hp _ _ _ [_, _, _, _, _] := H
   have hsl : (Sl Ej s2.1 Ek) = (Sl Ej r6 Ek) := sl_len hn9.symm
   try rw [hsl]
   try rw [hsl] at H
   clear hsl
   refine we (cr (mv (I s2.2.2) rfl (sa (I s2.2.2) rfl (we (rg (mv (I s2.2.2) rfl (mv (I 20) rfl (st (v := (I (w64 (s2.2.2 + 20)))) (rv_add (a := s2.2.2) (b := 20) rfl rfl) ?_))))))))
   refine sa (I (w64 (s2.2.2 + 20))) rfl (w_end (q_blk (q_then ?_)))
   obtain rfl := si h
   exact ⟨_, rfl, _, σ10, fr_join ⟨rfl, rfl, rfl, rfl, rfl, rfl, trivial⟩, rfl, H.sel' [0, 3, 1, 4, 2] rfl rfl, (hn9.trans hn4)⟩
  ·replace h := bif_f hb5 h
   refine c_exit (q_then_x (q_then_x (q_blk_hit ?_)))
   obtain rfl := si h
   obtain rfl := hres _ rfl
   exact ⟨rfl, _, σ3, fr_join ⟨rfl, rfl, rfl, rfl, rfl, trivial⟩, rfl, H.sel' [0, 1, 2, 3, 4] rfl rfl, hn4⟩
 ·clear hj
  have h := h'
  clear h' H
  rintro e a w ⟨rfl, ρ, σ11, rfl, rfl, H, hn12⟩
  refine q_then (cr (mv (Sl Ej o1.1 Ek) rfl (mv (I o1.2) rfl (mv (I Af) rfl (mv (.func (.func 60) #[] #[(pt Hy Hz), (pt Jf Jg)]) rfl ?_)))))
  replace h := bind_some h
  obtain ⟨r13, hx14, h⟩ := h
  have hc15 := c_slices_insertionSortCmpFunc_int__impl_ProbeOrder_1 (Ej := Ej) (Ek := Ek) (Gj := Hx) (Gk := Hy) (Gl := Hz) (Gm := Ja) (Gn := Jb) (Gh := Hv) (Gi := Hw) (Gr := Je) (Gs := Jf) (Gt := Jg) (Gu := Jh) (Gv := Ji) (Gp := Jc) (Gq := Jd) hx14
  refine sc hc15 rfl hn0 (H.sel' [0, 2, 1, 4, 3, 1, 3] rfl rfl : Hp S0 σ0 _ ([_, _, _, _, _] ++ _)) ?_
  rintro _ σ17 ⟨_, ⟨rfl, rfl, hn16⟩, H, -⟩
  replace H : Hp _ _ _ [_, _, _, _, _] := H
  have hsl : (Sl Ej o1.1 Ek) = (Sl Ej r13 Ek) := sl_len hn16.symm
  try rw [hsl]
  try rw [hsl] at H
  clear hsl
  refine we ?_
  obtain ⟨o18, hj, h'⟩ := bind_some h
  clear h
  refine c_cut (fun e a w => e = .normal ∧ ∃ (ρ : Nat → Value) (σ : St), a = fr 63 (updL ρ [(0, (Sl Ej o18 Ek)), (2, (.func (.func 60) #[] #[(pt Hy Hz), (pt Jf Jg)]))]) ∧ w = σ.w ∧ Hp S0 σ0 σ [Ch.own 0 0 (Sl Ej o18 Ek) o18, Ch.ro 0 (Sl Hv Ht Hw) Ht, Ch.bx Hx Hy Hz [(Sl Hv Ht Hw)] Ja Jb, Ch.ro 0 (Sl Jc Hu Jd) Hu, Ch.bx Je Jf Jg [(Sl Jc Hu Jd)] Jh Ji] ∧ o18.length = r13.length) ?_ ?_
  ·clear h'
   rename _ = some o18 => h
   refine c_blk (wp_loopM _ h (fun s19 a w => ∃ (ρ : Nat → Value) (σ : St), a = fr 63 (updL ρ [(0, (Sl Ej s19.1 Ek)), (1, (I Af)), (2, (.func (.func 60) #[] #[(pt Hy Hz), (pt Jf Jg)])), (6, (I s19.2))]) ∧ w = σ.w ∧ Hp S0 σ0 σ [Ch.own 0 0 (Sl Ej s19.1 Ek) s19.1, Ch.ro 0 (Sl Hv Ht Hw) Ht, Ch.bx Hx Hy Hz [(Sl Hv Ht Hw)] Ja Jb, Ch.ro 0 (Sl Jc Hu Jd) Hu, Ch.bx Je Jf Jg [(Sl Jc Hu Jd)] Jh Ji] ∧ s19.1.length = r13.length) ⟨_, σ17, fr_join ⟨rfl, rfl, rfl, rfl, trivial⟩, rfl, H.sel' [0, 3, 1, 4, 2] rfl rfl, rfl⟩ ?_)
   clear h H
   rintro s19 a w o ⟨ρ, σ20, rfl, rfl, H, hn21⟩ h hres
   refine c_seq (cr (mv (I s19.2) rfl (mv (I Af) rfl (st (v := (B (decide (s19.2 < Af)))) (rv_lss (a := s19.2) (b := Af) rfl rfl) (we ?_)))))
   refine cd_cond (decide (s19.2 < Af)) rfl (fun hb22 => ?_) (fun hb22 => ?_)
   ·replace h := bif_t hb22 h
    refine c_skip (q_then (c_blk (cr (mv (I s19.2) rfl (st (v := (I (w64 (2 * s19.2)))) (rv_mul (a := 2) (b := s19.2) rfl rfl) (sa (I 0) rfl (sa (I (w64 (2 * s19.2))) rfl (we (c_seq ?_)))))))))
    obtain ⟨o23, hj, h'⟩ := bind_some h
    clear h
    refine c_cut (fun e a w => e = .normal ∧ ∃ (ρ : Nat → Value) (σ : St), a = fr 63 (updL ρ [(0, (Sl Ej o23.1 Ek)), (1, (I Af)), (2, (.func (.func 60) #[] #[(pt Hy Hz), (pt Jf Jg)])), (6, (I s19.2)), (7, (I o23.2))]) ∧ w = σ.w ∧ Hp S0 σ0 σ [Ch.own 0 0 (Sl Ej o23.1 Ek) o23.1, Ch.ro 0 (Sl Hv Ht Hw) Ht, Ch.bx Hx Hy Hz [(Sl Hv Ht Hw)] Ja Jb, Ch.ro 0 (Sl Jc Hu Jd) Hu, Ch.bx Je Jf Jg [(Sl Jc Hu Jd)] Jh Ji] ∧ o23.1.length = s19.1.length) ?_ ?_
    ·clear h'
     rename _ = some o23 => h
     refine c_blk (wp_loopM _ h (fun s24 a w => ∃ (ρ : Nat → Value) (σ : St), a = fr 63 (updL ρ [(0, (Sl Ej s24.1 Ek)), (1, (I Af)), (2, (.func (.func 60) #[] #[(pt Hy Hz), (pt Jf Jg)])), (6, (I s19.2)), (7, (I s24.2.1)), (8, (I s24.2.2))]) ∧ w = σ.w ∧ Hp S0 σ0 σ [Ch.own 0 0 (Sl Ej s24.1 Ek) s24.1, Ch.ro 0 (Sl Hv Ht Hw) Ht, Ch.bx Hx Hy Hz [(Sl Hv Ht Hw)] Ja Jb, Ch.ro 0 (Sl Jc Hu Jd) Hu, Ch.bx Je Jf Jg [(Sl Jc Hu Jd)] Jh Ji] ∧ s24.1.length = s19.1.length) ⟨_, σ20, fr_join ⟨rfl, rfl, rfl, rfl, rfl, rfl, trivial⟩, rfl, H.sel' [0, 1, 2, 3, 4] rfl rfl, rfl⟩ ?_)
     clear h H
     rintro s24 a w o ⟨ρ, σ25, rfl, rfl, H, hn26⟩ h hres
     refine c_seq (cr (mv (I s24.2.2) rfl (mv (I Af) rfl (st (v := (B (decide (s24.2.2 ≤ Af)))) (rv_leq (a := s24.2.2) (b := Af) rfl rfl) (we ?_)))))
     refine cd_cond (decide (s24.2.2 ≤ Af)) rfl (fun hb27 => ?_) (fun hb27 => ?_)
     ·replace h := bif_t hb27 h
      refine c_skip (q_then (c_blk (cr (mv (Sl Ej s24.1 Ek) rfl (mv (I s24.2.1) rfl (mv (I s24.2.1) rfl (mv (I s19.2) rfl (st (v := (I (w64 (s24.2.1 + s19.2)))) (rv_add (a := s24.2.1) (b := s19.2) rfl rfl) (mv (I s24.2.2) rfl (mv (.func (.func 60) #[] #[(pt Hy Hz), (pt Jf Jg)]) rfl ?_))))))))))
      replace h := bind_some h
      obtain ⟨r28, hx29, h⟩ := h
      have hc30 := c_slices_symMergeCmpFunc_int__impl_ProbeOrder_1 100 (Ej := Ej) (Ek := Ek) (Hc := Hx) (Hd := Hy) (He := Hz) (Hf := Ja) (Hg := Jb) (Gz := Hv) (Ha := Hw) (Hk := Je) (Hl := Jf) (Hm := Jg) (Hn := Jh) (Ho := Ji) (Hi := Jc) (Hj := Jd) hx29
      refine sc hc30 rfl hn0 (H.sel' [0, 2, 1, 4, 3, 1, 3] rfl rfl : Hp S0 σ0 _ ([_, _, _, _, _] ++ _)) ?_
      rintro _ σ32 ⟨_, ⟨rfl, rfl, hn31⟩, H, -⟩
      replace H : Hp _ _ _ [_, _, _, _, _] := H
      have hsl : (Sl Ej s24.1 Ek) = (Sl Ej r28 Ek) := sl_len hn31.symm
      try rw [hsl]
      try rw [hsl] at H
      clear hsl
      refine we (cr (mv (I s24.2.2) rfl (sa (I s24.2.2) rfl (we (rg (mv (I s24.2.2) rfl (mv (I s19.2) rfl (st (v := (I (w64 (2 * s19.2)))) (rv_mul (a := 2) (b := s19.2) rfl rfl) ?_))))))))
      refine st (v := (I (w64 (s24.2.2 + (w64 (2 * s19.2)))))) (rv_add (a := s24.2.2) (b := (w64 (2 * s19.2))) rfl rfl) (sa (I (w64 (s24.2.2 + (w64 (2 * s19.2))))) rfl (w_end (q_blk (q_then ?_))))
      obtain rfl := si h
      exact ⟨_, rfl, _, σ32, fr_join ⟨rfl, rfl, rfl, rfl, rfl, rfl, trivial⟩, rfl, H.sel' [0, 3, 1, 4, 2] rfl rfl, ((hn31.trans (hn26.trans (hn21.trans (hn16.trans hn12)))).trans (hn21.trans (hn16.trans hn12)).symm)⟩
     ·replace h := bif_f hb27 h
      refine c_exit (q_then_x (q_then_x (q_blk_hit ?_)))
      obtain rfl := si h
      obtain rfl := hres _ rfl
      exact ⟨rfl, _, σ25, fr_join ⟨rfl, rfl, rfl, rfl, rfl, trivial⟩, rfl, H.sel' [0, 1, 2, 3, 4] rfl rfl, ((hn26.trans (hn21.trans (hn16.trans hn12))).trans (hn21.trans (hn16.trans hn12)).symm)⟩
    ·clear hj
     have h := h'
     clear h' H
     rintro e a w ⟨rfl, ρ, σ33, rfl, rfl, H, hn34⟩
     refine q_then (c_seq (cr (mv (I o23.2) rfl (mv (I s19.2) rfl (st (v := (I (w64 (o23.2 + s19.2)))) (rv_add (a := o23.2) (b := s19.2) rfl rfl) (sa (I (w64 (o23.2 + s19.2))) rfl (we (cr ?_))))))))
     refine mv (I (w64 (o23.2 + s19.2))) rfl (mv (I Af) rfl (st (v := (B (decide ((w64 (o23.2 + s19.2)) < Af)))) (rv_lss (a := (w64 (o23.2 + s19.2))) (b := Af) rfl rfl) (we ?_)))
     obtain ⟨o35, hj, h'⟩ := bind_some h
     clear h
     refine c_cut (fun e a w => e = .normal ∧ ∃ (ρ : Nat → Value) (σ : St), a = fr 63 (updL ρ [(0, (Sl Ej o35 Ek)), (1, (I Af)), (2, (.func (.func 60) #[] #[(pt Hy Hz), (pt Jf Jg)])), (6, (I s19.2))]) ∧ w = σ.w ∧ Hp S0 σ0 σ [Ch.own 0 0 (Sl Ej o35 Ek) o35, Ch.ro 0 (Sl Hv Ht Hw) Ht, Ch.bx Hx Hy Hz [(Sl Hv Ht Hw)] Ja Jb, Ch.ro 0 (Sl Jc Hu Jd) Hu, Ch.bx Je Jf Jg [(Sl Jc Hu Jd)] Jh Ji] ∧ o35.length = o23.1.length) ?_ ?_
     ·clear h'
      rename _ = some o35 => h
      refine cd_cond (decide ((w64 (o23.2 + s19.2)) < Af)) rfl (fun hb36 => ?_) (fun hb36 => ?_)
      ·replace h := bif_t hb36 h
       refine rg (mv (Sl Ej o23.1 Ek) rfl (mv (I o23.2) rfl (mv (I (w64 (o23.2 + s19.2))) rfl (mv (I Af) rfl (mv (.func (.func 60) #[] #[(pt Hy Hz), (pt Jf Jg)]) rfl ?_)))))
       replace h := bind_some h
       obtain ⟨r37, hx38, h⟩ := h
       have hc39 := c_slices_symMergeCmpFunc_int__impl_ProbeOrder_1 100 (Ej := Ej) (Ek := Ek) (Hc := Hx) (Hd := Hy) (He := Hz) (Hf := Ja) (Hg := Jb) (Gz := Hv) (Ha := Hw) (Hk := Je) (Hl := Jf) (Hm := Jg) (Hn := Jh) (Ho := Ji) (Hi := Jc) (Hj := Jd) hx38
       refine sc hc39 rfl hn0 (H.sel' [0, 2, 1, 4, 3, 1, 3] rfl rfl : Hp S0 σ0 _ ([_, _, _, _, _] ++ _)) ?_
       rintro _ σ41 ⟨_, ⟨rfl, rfl, hn40⟩, H, -⟩
       replace H : Hp _ _ _ [_, _, _, _, _] := H
       have hsl : (Sl Ej o23.1 Ek) = (Sl Ej r37 Ek) := sl_len hn40.symm
       try rw [hsl]
       try rw [hsl] at H
       clear hsl
       refine w_end ?_
       obtain rfl := si h
       exact ⟨rfl, _, σ41, fr_join ⟨rfl, rfl, rfl, rfl, trivial⟩, rfl, H.sel' [0, 3, 1, 4, 2] rfl rfl, ((hn40.trans (hn34.trans (hn21.trans (hn16.trans hn12)))).trans (hn34.trans (hn21.trans (hn16.trans hn12))).symm)⟩
      ·replace h := bif_f hb36 h
       refine c_skip ?_
       obtain rfl := si h
       exact ⟨rfl, _, σ33, fr_join ⟨rfl, rfl, rfl, rfl, trivial⟩, rfl, H.sel' [0, 1, 2, 3, 4] rfl rfl, rfl⟩
     ·clear hj
      have h := h'
      clear h' H
      rintro e a w ⟨rfl, ρ, σ42, rfl, rfl, H, hn43⟩
      refine q_then (rg (mv (I s19.2) rfl (st (v := (I (w64 (s19.2 * 2)))) (rv_mul (a := s19.2) (b := 2) rfl rfl) (sa (I (w64 (s19.2 * 2))) rfl (w_end (q_blk (q_then ?_)))))))
      obtain rfl := si h
      exact ⟨_, rfl, _, σ42, fr_join ⟨rfl, rfl, rfl, rfl, trivial⟩, rfl, H.sel' [0, 1, 2, 3, 4] rfl rfl, ((hn43.trans (hn34.trans (hn21.trans (hn16.trans hn12)))).trans (hn16.trans hn12).symm)⟩
   ·replace h := bif_f hb22 h
    refine c_exit (q_then_x (q_then_x (q_blk_hit ?_)))
    obtain rfl := si h
    obtain rfl := hres _ rfl
    exact ⟨rfl, _, σ20, fr_join ⟨rfl, rfl, trivial⟩, rfl, H.sel' [0, 1, 2, 3, 4] rfl rfl, ((hn21.trans (hn16.trans hn12)).trans (hn16.trans hn12).symm)⟩
  ·clear hj
   have h := h'
   clear h' H
   rintro e a w ⟨rfl, ρ, σ44, rfl, rfl, H, hn45⟩
   obtain rfl := si h
   exact fin_end (v := (.tuple #[])) (results_ok Tryz.results79 res_nil rfl) ⟨rfl, rfl, (hn45.trans (hn16.trans hn12))⟩ (H.sel' [0, 2, 4] rfl rfl)

theorem c_slices_SortStableFunc_int_int__impl_ProbeOrder_1 {Bd : List Int} {Jj : List (List Int)} {Jk : List Int} {Fl : Option Addr} {Fm : Nat} {Jm : Option Addr} {Jn : Nat} {Jo Jp Jq : Nat} {Jr Jt : List Value} {Ju : Option Addr} {Jv : Nat} {Jw Jx Jy : Nat} {Jz Ka : List Value} {r : (List Int)} (h : M.slices_SortStableFunc_int_int__impl_ProbeOrder_1 Bd Jj Jk = some r) :
    Cal2 Tryz.prog 59 [(Sl Fl Bd Fm), (.func (.func 60) #[] #[(pt Jp Jq), (pt Jx Jy)])] [Ch.own 0 0 (Sl Fl Bd Fm) Bd, Ch.bx Jo Jp Jq [(Sl Jm Jj Jn)] Jr Jt, Ch.ro 0 (Sl Jm Jj Jn) Jj, Ch.bx Jw Jx Jy [(Sl Ju Jk Jv)] Jz Ka, Ch.ro 0 (Sl Ju Jk Jv) Jk] (fun n0 v L => v = (.tuple #[]) ∧ L = [Ch.own 0 0 (Sl Fl r Fm) r, Ch.bx Jo Jp Jq [(Sl Jm Jj Jn)] Jr Jt, Ch.bx Jw Jx Jy [(Sl Ju Jk Jv)] Jz Ka] ∧ r.length = Bd.length) := by
 refine cal2 (n := 9) Tryz.func59 rfl rfl rfl rfl ?_
 intro S0 σ0 n0 hn0 H
 unfold M.slices_SortStableFunc_int_int__impl_ProbeOrder_1 at h
 refine rg (mv (Sl Fl Bd Fm) rfl (mv (Sl Fl Bd Fm) rfl (st (v := (I (Bd.length : Int))) (rv_len Tryz.underlying25 rfl) (mv (.func (.func 60) #[] #[(pt Jp Jq), (pt Jx Jy)]) rfl ?_))))
 replace h := bind_some h
 obtain ⟨r1, hx2, h⟩ := h
 have hc3 := c_slices_stableCmpFunc_int__impl_ProbeOrder_1 (Ej := Fl) (Ek := Fm) (Hx := Jo) (Hy := Jp) (Hz := Jq) (Ja := Jr) (Jb := Jt) (Hv := Jm) (Hw := Jn) (Je := Jw) (Jf := Jx) (Jg := Jy) (Jh := Jz) (Ji := Ka) (Jc := Ju) (Jd := Jv) hx2
 refine sc hc3 rfl hn0 (H.sel' [0, 1, 2, 3, 4, 2, 4] rfl rfl : Hp S0 σ0 _ ([_, _, _, _, _] ++ _)) ?_
 rintro _ σ5 ⟨_, ⟨rfl, rfl, hn4⟩, H, -⟩
 replace H : Hp _ _ _ [_, _, _, _, _] := H
 have hsl : (Sl Fl Bd Fm) = (Sl Fl r1 Fm) := sl_len hn4.symm
 try rw [hsl]
 try rw [hsl] at H
 clear hsl
 refine w_end ?_
 obtain rfl := si h
 exact fin_end (v := (.tuple #[])) (results_ok Tryz.results59 res_nil rfl) ⟨rfl, rfl, hn4⟩ (H.sel' [0, 1, 2] rfl rfl)

theorem c_impl_ProbeOrder {Bj : List (List Int)} {Bk : List Int} {Bl : Int} {Bm : Option Addr} {Bn : Nat} {Bo : Option Addr} {Bp : Nat} {r : (List Int)} (h : M.impl_ProbeOrder Bj Bk Bl = some r) :
    Cal2 Tryz.prog 41 [(Sl Bm Bj Bn), (Sl Bo Bk Bp), (I Bl)] [Ch.ro 0 (Sl Bm Bj Bn) Bj, Ch.ro 0 (Sl Bo Bk Bp) Bk] (fun n0 v L => ∃ (az1 : Option Addr), ∃ (cz2 : Nat), v = (Sl az1 r cz2) ∧ L = [Ch.own 0 n0 (Sl az1 r cz2) r]) := by
 refine cal2 (n := 36) Tryz.func41 rfl rfl rfl rfl ?_
 intro S0 σ0 n0 hn0 H
 unfold M.impl_ProbeOrder at h
 refine cr (st_ex (ex_box (cs := [(Sl Bm Bj Bn)]) H hn0 rfl rfl) wn ?_)
 rintro _ σ2 ⟨b1, rfl, H, -⟩
 refine st_ex (ex_box (cs := [(Sl Bo Bk Bp)]) H hn0 rfl rfl) wn ?_
 rintro _ σ4 ⟨b3, rfl, H, -⟩
 refine sa (.slice none 0 0) rfl (we (c_seq (cr ?_)))
 have hc5 := H.cell (u := (Sl Bm Bj Bn)) (o' := 0) 1 0 rfl rfl rfl
 refine st (v := (Sl Bm Bj Bn)) (rv_load1 Tryz.underlying23 rfl rfl hc5) ?_
 have hc6 := H.cell (u := (Sl Bo Bk Bp)) (o' := 0) 0 0 rfl rfl rfl
 refine st (v := (Sl Bo Bk Bp)) (rv_load1 Tryz.underlying25 rfl rfl hc6) (mv (I Bl) rfl ?_)
 replace h := bind_some h
 obtain ⟨r7, hx8, h⟩ := h
 have hc9 := c_impl_validProbe (Bm := Bm) (Bn := Bn) (Bo := Bo) (Bp := Bp) hx8
 refine sc hc9 rfl hn0 (H.sel' [2, 3, 0, 1, 2, 3] rfl rfl : Hp S0 σ0 _ ([_, _] ++ _)) ?_
 rintro _ σ10 ⟨_, ⟨rfl, rfl⟩, H, -⟩
 replace H : Hp _ _ _ [_, _, _, _] := H
 refine st (v := (B (!r7))) (rv_not rfl) (we ?_)
 refine cd_cond (!r7) rfl (fun hb11 => ?_) (fun hb11 => ?_)
 ·replace h := bif_t hb11 h
  refine cr (sa (.slice none 0 0) rfl (we (c_ret (q_then_r ?_))))
  replace H := H.nilOwn Int 0 n0
  obtain rfl := si h
  exact fin_ret (v := (.slice none 0 0)) (results_ok Tryz.results41 (res_tmp (v := (.slice none 0 0)) rfl res_nil) rfl) ⟨none, 0, rfl, rfl⟩ (H.sel' [0] rfl rfl)
 ·replace h := bif_f hb11 h
  refine c_skip (q_then (cr ?_))
  have hc12 := H.cell (u := (Sl Bm Bj Bn)) (o' := 0) 1 0 rfl rfl rfl
  refine st (v := (Sl Bm Bj Bn)) (rv_load1 Tryz.underlying23 rfl rfl hc12) (st (v := (I (Bj.length : Int))) (rv_len Tryz.underlying23 rfl) ?_)
  replace h := bind_some h
  obtain ⟨xs13, hx14, h⟩ := h
  refine st_ex (ex_make (el := n0) (z0 := (0 : Int)) (zs := [(I 0)]) H hn0 Tryz.underlying25 ti3 rfl rfl rfl (by decide) hx14 rfl rfl) wn ?_
  rintro _ σ18 ⟨b15, c16, rfl, ht17, H, -⟩
  replace ht17 := ht17.trans (gmake_len hx14).symm
  refine sa (Sl (some ⟨b15, 0, none⟩) xs13 c16) rfl (we (c_seq (cr (mv (Sl (some ⟨b15, 0, none⟩) xs13 c16) rfl (st (v := (I (xs13.length : Int))) (rv_len Tryz.underlying25 rfl) (mv (I 0) rfl (we ?_)))))))
  obtain ⟨o19, hj, h'⟩ := bind_some h
  clear h
  refine c_cut (fun e a w => e = .normal ∧ ∃ (ρ : Nat → Value) (σ : St), a = fr 36 (updL ρ [(2, (I Bl)), (3, (pt b1 0)), (4, (pt b3 0)), (7, (Sl (some ⟨b15, 0, none⟩) o19 c16))]) ∧ w = σ.w ∧ Hp S0 σ0 σ [Ch.ro 0 (Sl Bm Bj Bn) Bj, Ch.bx n0 b1 0 [(Sl Bm Bj Bn)] [] [], Ch.ro 0 (Sl Bo Bk Bp) Bk, Ch.bx n0 b3 0 [(Sl Bo Bk Bp)] [] [], Ch.own n0 n0 (Sl (some ⟨b15, 0, none⟩) o19 c16) o19] ∧ c16 = o19.length ∧ o19.length = xs13.length) ?_ ?_
  ·clear h'
   rename _ = some o19 => h
   refine c_blk (wp_loopM _ h (fun s20 a w => ∃ (ρ : Nat → Value) (σ : St), a = fr 36 (updL ρ [(2, (I Bl)), (3, (pt b1 0)), (4, (pt b3 0)), (7, (Sl (some ⟨b15, 0, none⟩) s20.1 c16)), (18, (I (xs13.length : Int))), (19, (I s20.2))]) ∧ w = σ.w ∧ Hp S0 σ0 σ [Ch.ro 0 (Sl Bm Bj Bn) Bj, Ch.bx n0 b1 0 [(Sl Bm Bj Bn)] [] [], Ch.ro 0 (Sl Bo Bk Bp) Bk, Ch.bx n0 b3 0 [(Sl Bo Bk Bp)] [] [], Ch.own n0 n0 (Sl (some ⟨b15, 0, none⟩) s20.1 c16) s20.1] ∧ c16 = s20.1.length ∧ s20.1.length = xs13.length) ⟨_, σ18, fr_join ⟨rfl, rfl, rfl, rfl, rfl, rfl, trivial⟩, rfl, H.sel' [3, 2, 4, 1, 0] rfl rfl, ht17, rfl⟩ ?_)
   clear h H
   rintro s20 a w o ⟨ρ, σ21, rfl, rfl, H, ht22, hn23⟩ h hres
   refine cr (st (v := (B (decide (s20.2 < (xs13.length : Int))))) (rv_lss (a := s20.2) (b := (xs13.length : Int)) rfl rfl) (we (c_seq ?_)))
   refine cd_cond (decide (s20.2 < (xs13.length : Int))) rfl (fun hb24 => ?_) (fun hb24 => ?_)
   ·replace h := bif_t hb24 h
    refine c_skip (q_then (c_seq (c_blk (cr (mv (I s20.2) rfl (sa (I s20.2) rfl (we (rg (mv (Sl (some ⟨b15, 0, none⟩) s20.1 c16) rfl ?_)))))))))
    refine mv (I s20.2) rfl (mv (I s20.2) rfl ?_)
    replace h := bind_some h
    obtain ⟨x25, hx26, h⟩ := h
    obtain ⟨b28, o29, hi27, -⟩ := (H.own 4 rfl).ix hx26
    refine st (v := (pt b28 o29)) (rv_ix Tryz.underlying25 ti3 rfl rfl hi27) ?_
    refine st_exS (ex_store_own (e' := s20.2) (vs := [(I s20.2)]) (k := 0) H (i := 4) rfl ti3 hx26 hi27 rfl rfl rfl rfl rfl (Nat.le_of_ble_eq_true rfl) (by simp [plain]) (by rintro _ rfl; exact rfl)) wn ?_
    rintro σ30 ⟨H, -⟩
    have hsl : (Sl (some ⟨b15, 0, none⟩) s20.1 c16) = (Sl (some ⟨b15, 0, none⟩) (s20.1.set s20.2.toNat s20.2) c16) := sl_len List.length_set.symm
    rw [hsl]; rw [hsl] at H; clear hsl
    refine w_end (q_blk (q_then (rg (st (v := (I (w64 (s20.2 + 1)))) (rv_add (a := s20.2) (b := 1) rfl rfl) (mv (I (w64 (s20.2 + 1))) rfl (we ?_))))))
    obtain rfl := si h
    exact ⟨_, rfl, _, σ30, fr_join ⟨rfl, rfl, rfl, rfl, rfl, rfl, trivial⟩, rfl, H.sel' [1, 2, 3, 4, 0] rfl rfl, (ht22.trans List.length_set.symm), (List.length_set.trans hn23)⟩
   ·replace h := bif_f hb24 h
    refine c_exit (q_then_x (q_then_x (q_blk_hit ?_)))
    obtain rfl := si h
    obtain rfl := hres _ rfl
    exact ⟨rfl, _, σ21, fr_join ⟨rfl, rfl, rfl, rfl, trivial⟩, rfl, H.sel' [0, 1, 2, 3, 4] rfl rfl, ht22, hn23⟩
  ·clear hj
   have h := h'
   clear h' H
   rintro e a w ⟨rfl, ρ, σ31, rfl, rfl, H, ht32, hn33⟩
   refine q_then (cr (mv (Sl (some ⟨b15, 0, none⟩) o19 c16) rfl (st (v := (.func (.func 60) #[] #[(pt b1 0), (pt b3 0)])) (rv_makeFunc (vs := [(pt b1 0), (pt b3 0)]) rfl) ?_)))
   replace H := H.ownLow 4 0 0 rfl (Nat.zero_le _) (Nat.zero_le _)
   replace h := bind_some h
   obtain ⟨r34, hx35, h⟩ := h
   have hc36 := c_slices_SortStableFunc_int_int__impl_ProbeOrder_1 (Fl := (some ⟨b15, 0, none⟩)) (Fm := c16) (Jo := n0) (Jp := b1) (Jq := 0) (Jr := []) (Jt := []) (Jm := Bm) (Jn := Bn) (Jw := n0) (Jx := b3) (Jy := 0) (Jz := []) (Ka := []) (Ju := Bo) (Jv := Bp) hx35
   refine sc hc36 rfl hn0 (H.sel' [0, 2, 1, 4, 3, 1, 3] rfl rfl : Hp S0 σ0 _ ([_, _, _, _, _] ++ _)) ?_
   rintro _ σ38 ⟨_, ⟨rfl, rfl, hn37⟩, H, -⟩
   replace H : Hp _ _ _ [_, _, _, _, _] := H
   have hsl : (Sl (some ⟨b15, 0, none⟩) o19 c16) = (Sl (some ⟨b15, 0, none⟩) r34 c16) := sl_len hn37.symm
   try rw [hsl]
   try rw [hsl] at H
   clear hsl
   refine we (cr (mv (Sl (some ⟨b15, 0, none⟩) r34 c16) rfl (mv (I Bl) rfl (mv (Sl (some ⟨b15, 0, none⟩) r34 c16) rfl (st (v := (I (r34.length : Int))) (rv_len Tryz.underlying25 rfl) (st (v := (I (min Bl (r34.length : Int)))) (rv_min rfl rfl) ?_))))))
   replace h := bind_some h
   obtain ⟨xs39, hx40, h⟩ := h
   obtain ⟨a41, c42, hs43, hR44, hb45⟩ := (H.own 0 rfl).slice hx40
   replace H := (H.front (i := 0) rfl).turn (d := Ch.own 0 0 (Sl a41 xs39 c42) xs39) (fun _ => hR44) hb45; clear hR44 hb45
   refine st (v := (Sl a41 xs39 c42)) (rv_slice_h Tryz.underlying25 ti3 hs43 rfl rfl) (sa (Sl a41 xs39 c42) rfl (we (c_ret ?_)))
   replace H := H.ownSc 0 0 n0 rfl (Nat.le_refl _)
   obtain rfl := si h
   exact fin_ret (v := (Sl a41 xs39 c42)) (results_ok Tryz.results41 (res_tmp (v := (Sl a41 xs39 c42)) rfl res_nil) rfl) ⟨a41, c42, rfl, rfl⟩ (H.sel' [0] rfl rfl)

theorem c_impl_probedItems {Bj : List (List Int)} {Ap : List (Int × (List Int) × Int)} {Bt : List Int} {Kb : Int} {Bm : Option Addr} {Bn : Nat} {Aq : Option Addr} {Ar : Nat} {Bv : Option Addr} {Bw : Nat} {r : (List (Int × (List Int) × Int))} (h : M.impl_probedItems Bj Ap Bt Kb = some r) :
    Cal2 Tryz.prog 20 [(Sl Bm Bj Bn), (Sl Aq Ap Ar), (Sl Bv Bt Bw), (I Kb)] [Ch.ro 0 (Sl Bm Bj Bn) Bj, Ch.ro 0 (Sl Aq Ap Ar) Ap, Ch.ro 0 (Sl Bv Bt Bw) Bt] (fun n0 v L => ∃ (az1 : Option Addr), ∃ (cz2 : Nat), v = (Sl az1 r cz2) ∧ L = [Ch.own n0 0 (Sl az1 r cz2) r]) := by
 refine cal2 (n := 32) Tryz.func20 rfl rfl rfl rfl ?_
 intro S0 σ0 n0 hn0 H
 unfold M.impl_probedItems at h
 refine cr (sa (.slice none 0 0) rfl (we (cr (mv (Sl Bm Bj Bn) rfl (mv (Sl Aq Ap Ar) rfl ?_)))))
 replace h := bind_some h
 obtain ⟨r1, hx2, h⟩ := h
 have hc3 := c_impl_itemsByCentre (Bm := Bm) (Bn := Bn) (Aq := Aq) (Ar := Ar) hx2
 refine sc hc3 rfl hn0 (H.sel' [0, 1, 0, 1, 2] rfl rfl : Hp S0 σ0 _ ([_, _] ++ _)) ?_
 rintro _ σ7 ⟨_, ⟨b4, K5, rfl, rfl, hK6⟩, H, -⟩
 replace H : Hp _ _ _ [_, _, _, _] := H
 refine sa (.map (some b4)) rfl (we (cr (sa (.slice none 0 0) rfl (we (c_seq (cr (mv (Sl Bm Bj Bn) rfl ?_)))))))
 refine mv (Sl Bv Bt Bw) rfl (mv (I Kb) rfl ?_)
 replace h := bind_some h
 obtain ⟨r8, hx9, h⟩ := h
 have hc10 := c_impl_ProbeOrder (Bm := Bm) (Bn := Bn) (Bo := Bv) (Bp := Bw) hx9
 refine sc hc10 rfl hn0 (H.sel' [1, 3, 0, 1, 2, 3] rfl rfl : Hp S0 σ0 _ ([_, _] ++ _)) ?_
 rintro _ σ13 ⟨_, ⟨a11, c12, rfl, rfl⟩, H, -⟩
 replace H : Hp _ _ _ [_, _, _, _, _] := H
 refine st (v := (I (r8.length : Int))) (rv_len Tryz.underlying25 rfl) (mv (I 0) rfl (we ?_))
 obtain ⟨o14, hj, h'⟩ := bind_some h
 clear h
 refine c_cut (fun e a w => e = .normal ∧ ∃ (ρ : Nat → Value) (σ : St) (aj1 : Option Addr) (cj2 : Nat), a = fr 32 (updL ρ [(10, (Sl aj1 o14 cj2))]) ∧ w = σ.w ∧ Hp S0 σ0 σ [Ch.own n0 0 (Sl aj1 o14 cj2) o14]) ?_ ?_
 ·clear h'
  rename _ = some o14 => h
  refine c_blk ?_
  obtain ⟨σ16, hw17, H, -⟩ := H.mpPub 1 rfl hK6
  rw [← hw17]; clear hw17
  replace H := H.nilOwn (Int × (List Int) × Int) n0 0
  refine wp_loopM _ h (fun s15 a w => ∃ (ρ : Nat → Value) (σ : St) (aj1 : Option Addr) (cj2 : Nat), a = fr 32 (updL ρ [(9, (.map (some b4))), (10, (Sl aj1 s15.1 cj2)), (19, (Sl a11 r8 c12)), (20, (I (r8.length : Int))), (21, (I s15.2))]) ∧ w = σ.w ∧ Hp S0 σ0 σ [Ch.mr b4 r1, Ch.own n0 0 (Sl aj1 s15.1 cj2) s15.1, Ch.own 0 n0 (Sl a11 r8 c12) r8]) ⟨_, σ16, none, 0, fr_join ⟨rfl, rfl, rfl, rfl, rfl, trivial⟩, rfl, H.sel' [1, 0, 2] rfl rfl⟩ ?_
  clear h H
  rintro s15 a w o ⟨ρ, σ18, a19, c20, rfl, rfl, H⟩ h hres
  refine cr (st (v := (B (decide (s15.2 < (r8.length : Int))))) (rv_lss (a := s15.2) (b := (r8.length : Int)) rfl rfl) (we (c_seq ?_)))
  refine cd_cond (decide (s15.2 < (r8.length : Int))) rfl (fun hb21 => ?_) (fun hb21 => ?_)
  ·replace h := bif_t hb21 h
   refine c_skip (q_then (c_seq (c_blk (cr ?_))))
   replace h := bind_some h
   obtain ⟨x22, hx23, h⟩ := h
   obtain ⟨b25, o26, hi24, -⟩ := (H.own 2 rfl).ix hx23
   refine st (v := (pt b25 o26)) (rv_ix Tryz.underlying25 ti3 rfl rfl hi24) ?_
   have hc27 := ((H.own 2 rfl).at hx23 hi24).int
   refine st (v := (I x22)) (rv_load1 Tryz.underlying3 rfl rfl hc27) (sa (I x22) rfl (we (rg (mv (Sl a19 s15.1 c20) rfl (mv (.map (some b4)) rfl (mv (I x22) rfl ?_))))))
   obtain ⟨v31, hL30, hR32⟩ := mrGet (H.mr 0 rfl) x22
   obtain ⟨a28, c29, rfl⟩ := hR32.isSl
   replace H := H.add (d := Ch.ro 0 (Sl a28 (mget r1 x22) c29) (mget r1 x22)) hR32 (fun _ h => h)
   clear hR32
   refine st (v := (Sl a28 (mget r1 x22) c29)) (rv_lookup Tryz.underlying68 Tryz.underlying3 ti24 rfl rfl hL30) ?_
   replace h := bind_some h
   obtain ⟨xs33, hx34, h⟩ := h
   refine st_ex (ex_append H (i := 2) rfl Tryz.underlying24 Tryz.underlying24 ti52 rfl rfl (by decide) (H.ro 0 rfl).rd hx34 hn0 rfl rfl) wn ?_
   rintro _ σ37 ⟨a35, c36, rfl, H, -⟩
   refine sa (Sl a35 xs33 c36) rfl (w_end (q_blk (q_then (rg (st (v := (I (w64 (s15.2 + 1)))) (rv_add (a := s15.2) (b := 1) rfl rfl) (mv (I (w64 (s15.2 + 1))) rfl (we ?_)))))))
   obtain rfl := si h
   exact ⟨_, rfl, _, σ37, a35, c36, fr_join ⟨rfl, rfl, rfl, rfl, rfl, trivial⟩, rfl, H.sel' [2, 0, 3] rfl rfl⟩
  ·replace h := bif_f hb21 h
   refine c_exit (q_then_x (q_then_x (q_blk_hit ?_)))
   obtain rfl := si h
   obtain rfl := hres _ rfl
   exact ⟨rfl, _, σ18, a19, c20, fr_join ⟨rfl, trivial⟩, rfl, H.sel' [1] rfl rfl⟩
 ·clear hj
  have h := h'
  clear h' H
  rintro e a w ⟨rfl, ρ, σ38, a39, c40, rfl, rfl, H⟩
  refine q_then (cr (mv (Sl a39 o14 c40) rfl (sa (Sl a39 o14 c40) rfl (we (c_ret ?_)))))
  obtain rfl := si h
  exact fin_ret (v := (Sl a39 o14 c40)) (results_ok Tryz.results20 (res_tmp (v := (Sl a39 o14 c40)) rfl res_nil) rfl) ⟨a39, c40, rfl, rfl⟩ (H.sel' [0] rfl rfl)

theorem c_impl_ProbeNearest {Bj : List (List Int)} {Ap : List (Int × (List Int) × Int)} {Bt : List Int} {Kb : Int} {Kc : Int} {Bm : Option Addr} {Bn : Nat} {Aq : Option Addr} {Ar : Nat} {Bv : Option Addr} {Bw : Nat} {r : (List (Int × Int))} (h : M.impl_ProbeNearest Bj Ap Bt Kb Kc = some r) :
    Cal2 Tryz.prog 6 [(Sl Bm Bj Bn), (Sl Aq Ap Ar), (Sl Bv Bt Bw), (I Kb), (I Kc)] [Ch.ro 0 (Sl Bm Bj Bn) Bj, Ch.ro 0 (Sl Aq Ap Ar) Ap, Ch.ro 0 (Sl Bv Bt Bw) Bt] (fun n0 v L => ∃ (az1 : Option Addr), ∃ (cz2 : Nat), v = (Sl az1 r cz2) ∧ L = [Ch.own 0 n0 (Sl az1 r cz2) r]) := by
 refine cal2 (n := 31) Tryz.func6 rfl rfl rfl rfl ?_
 intro S0 σ0 n0 hn0 H
 unfold M.impl_ProbeNearest at h
 refine cr (sa (.slice none 0 0) rfl (we (c_seq (c_seq ?_))))
 obtain ⟨o1, hj, h'⟩ := bind_some h
 clear h
 refine c_cut (fun e a w => e = .normal ∧ ∃ (ρ : Nat → Value) (σ : St), a = fr 31 (updL ρ [(0, (Sl Bm Bj Bn)), (1, (Sl Aq Ap Ar)), (2, (Sl Bv Bt Bw)), (3, (I Kb)), (4, (I Kc)), (22, (B o1))]) ∧ w = σ.w ∧ Hp S0 σ0 σ [Ch.ro 0 (Sl Bm Bj Bn) Bj, Ch.ro 0 (Sl Aq Ap Ar) Ap, Ch.ro 0 (Sl Bv Bt Bw) Bt]) ?_ ?_
 ·clear h'
  rename _ = some o1 => h
  refine rg (mv (Sl Bm Bj Bn) rfl (mv (Sl Bv Bt Bw) rfl (mv (I Kb) rfl ?_)))
  replace h := bind_some h
  obtain ⟨r2, hx3, h⟩ := h
  have hc4 := c_impl_validProbe (Bm := Bm) (Bn := Bn) (Bo := Bv) (Bp := Bw) hx3
  refine sc hc4 rfl hn0 (H.sel' [0, 2, 0, 1, 2] rfl rfl : Hp S0 σ0 _ ([_, _] ++ _)) ?_
  rintro _ σ5 ⟨_, ⟨rfl, rfl⟩, H, -⟩
  replace H : Hp _ _ _ [_, _, _] := H
  refine st (v := (B (!r2))) (rv_not rfl) (mv (B (!r2)) rfl ?_)
  rcases Bool.eq_false_or_eq_true (!r2) with hb6 | hb6
  ·replace h := bif_t hb6 h
   refine st_skip (congrArg some hb6) (st_skip (congrArg some hb6) (st_skip (congrArg some hb6) (st_skip (congrArg some hb6) (st_skip (congrArg some hb6) (st (v := (B true)) (rv_pick_t (congrArg B hb6) rfl) (w_end ?_))))))
   obtain rfl := si h
   exact ⟨rfl, _, σ5, fr_join ⟨rfl, rfl, rfl, rfl, rfl, rfl, trivial⟩, rfl, H.sel' [0, 1, 2] rfl rfl⟩
  ·replace h := bif_f hb6 h
   refine st_g (v := (Sl Aq Ap Ar)) (congrArg some hb6) (rv_move rfl) (st_g (v := (Sl Bv Bt Bw)) (congrArg some hb6) (rv_move rfl) (st_g (v := (I Kc)) (congrArg some hb6) (rv_move rfl) ?_))
   replace h := bind_some h
   obtain ⟨r7, hx8, h⟩ := h
   have hc9 := c_impl_validSearch (Au := Aq) (Av := Ar) (Bv := Bv) (Bw := Bw) hx8
   refine st_call (cx_call hc9 (ent_f hc9.fn rfl) hn0 (H.sel' [1, 2, 0, 1, 2] rfl rfl : Hp S0 σ0 _ ([_, _] ++ _))) (wanted_yes rfl (by exact (congrArg some hb6))) ?_
   rintro _ σ10 ⟨_, ⟨rfl, rfl⟩, H, -⟩
   replace H : Hp _ _ _ [_, _, _] := H
   refine st_g (v := (B (!r7))) (congrArg some hb6) (rv_not rfl) (st (v := (B (!r7))) (rv_pick_f (congrArg B hb6) rfl) (w_end ?_))
   obtain rfl := si h
   exact ⟨rfl, _, σ10, fr_join ⟨rfl, rfl, rfl, rfl, rfl, rfl, trivial⟩, rfl, H.sel' [0, 1, 2] rfl rfl⟩
 ·clear hj
  have h := h'
  clear h' H
  rintro e a w ⟨rfl, ρ, σ11, rfl, rfl, H⟩
  refine q_then ?_
  refine cd_cond o1 rfl (fun hb12 => ?_) (fun hb12 => ?_)
  ·replace h := bif_t hb12 h
   refine cr (sa (.slice none 0 0) rfl (we (c_ret (q_then_r ?_))))
   replace H := H.nilOwn (Int × Int) 0 n0
   obtain rfl := si h
   exact fin_ret (v := (.slice none 0 0)) (results_ok Tryz.results6 (res_tmp (v := (.slice none 0 0)) rfl res_nil) rfl) ⟨none, 0, rfl, rfl⟩ (H.sel' [0] rfl rfl)
  ·replace h := bif_f hb12 h
   refine c_skip (q_then (cr (mv (Sl Bm Bj Bn) rfl (mv (Sl Aq Ap Ar) rfl (mv (Sl Bv Bt Bw) rfl (mv (I Kb) rfl ?_))))))
   replace h := bind_some h
   obtain ⟨r13, hx14, h⟩ := h
   have hc15 := c_impl_probedItems (Bm := Bm) (Bn := Bn) (Aq := Aq) (Ar := Ar) (Bv := Bv) (Bw := Bw) hx14
   refine sc hc15 rfl hn0 (H.sel' [0, 1, 2, 0, 1, 2] rfl rfl : Hp S0 σ0 _ ([_, _, _] ++ _)) ?_
   rintro _ σ18 ⟨_, ⟨a16, c17, rfl, rfl⟩, H, -⟩
   replace H : Hp _ _ _ [_, _, _, _] := H
   refine mv (Sl Bv Bt Bw) rfl (mv (I Kc) rfl ?_)
   obtain ⟨σ19, hw20, H, -⟩ := H.pub 0 rfl (Nat.zero_le _)
   rw [← hw20]; clear hw20
   replace h := bind_some h
   obtain ⟨r21, hx22, h⟩ := h
   have hc23 := c_impl_nearestAmong (Au := a16) (Av := c17) (Bv := Bv) (Bw := Bw) hx22
   refine sc hc23 rfl hn0 (H.sel' [0, 3, 0, 1, 2, 3] rfl rfl : Hp S0 σ0 _ ([_, _] ++ _)) ?_
   rintro _ σ26 ⟨_, ⟨a24, c25, rfl, rfl⟩, H, -⟩
   replace H : Hp _ _ _ [_, _, _, _, _] := H
   refine sa (Sl a24 r21 c25) rfl (we (c_ret ?_))
   obtain rfl := si h
   exact fin_ret (v := (Sl a24 r21 c25)) (results_ok Tryz.results6 (res_tmp (v := (Sl a24 r21 c25)) rfl res_nil) rfl) ⟨a24, c25, rfl, rfl⟩ (H.sel' [0] rfl rfl)

theorem c_laws_equalHits {Cl : List (Int × Int)} {Cm : List (Int × Int)} {Kd : Option Addr} {Ke : Nat} {Kf : Option Addr} {Kg : Nat} {r : Bool} (h : M.laws_equalHits Cl Cm = some r) :
    Cal2 Tryz.prog 7 [(Sl Kd Cl Ke), (Sl Kf Cm Kg)] [Ch.ro 0 (Sl Kd Cl Ke) Cl, Ch.ro 0 (Sl Kf Cm Kg) Cm] (fun n0 v L => v = (B r) ∧ L = []) := by
 refine cal2 (n := 26) Tryz.func7 rfl rfl rfl rfl ?_
 intro S0 σ0 n0 hn0 H
 unfold M.laws_equalHits at h
 refine cr (sa (B false) rfl (we (c_seq (cr (mv (Sl Kd Cl Ke) rfl (st (v := (I (Cl.length : Int))) (rv_len Tryz.underlying28 rfl) (mv (Sl Kf Cm Kg) rfl (st (v := (I (Cm.length : Int))) (rv_len Tryz.underlying28 rfl) ?_))))))))
 refine st (v := (B ((Cl.length : Int) != (Cm.length : Int)))) (rv_neq (a := (Cl.length : Int)) (b := (Cm.length : Int)) rfl rfl) (we ?_)
 refine cd_cond ((Cl.length : Int) != (Cm.length : Int)) rfl (fun hb1 => ?_) (fun hb1 => ?_)
 ·replace h := bif_t hb1 h
  refine cr (sa (B false) rfl (we (c_ret (q_then_r ?_))))
  obtain rfl := si h
  exact fin_ret (v := (B false)) (results_ok Tryz.results7 (res_tmp (v := (B false)) rfl res_nil) rfl) ⟨rfl, rfl⟩ (H.sel' [] rfl rfl)
 ·replace h := bif_f hb1 h
  refine c_skip (q_then (c_seq (cr (sa (I 0) rfl (we ?_)))))
  obtain ⟨o2, hj, h'⟩ := bind_some h
  clear h
  refine c_cut (fun e a w => (∃ t, o2 = (.inl t) ∧ e = .normal ∧ ∃ (ρ : Nat → Value) (σ : St), a = fr 26 (updL ρ []) ∧ w = σ.w ∧ Hp S0 σ0 σ []) ∨ (∃ t, o2 = (.inr t) ∧ e = .ret ∧ ∃ (ρ : Nat → Value) (σ : St), a = fr 26 (updL ρ [(4, (B t))]) ∧ w = σ.w ∧ Hp S0 σ0 σ [])) ?_ ?_
  ·clear h'
   rename _ = some o2 => h
   refine c_blk (wp_loopM _ h (fun s3 a w => ∃ (ρ : Nat → Value) (σ : St), a = fr 26 (updL ρ [(0, (Sl Kd Cl Ke)), (1, (Sl Kf Cm Kg)), (5, (I s3))]) ∧ w = σ.w ∧ Hp S0 σ0 σ [Ch.ro 0 (Sl Kd Cl Ke) Cl, Ch.ro 0 (Sl Kf Cm Kg) Cm]) ⟨_, σ0, fr_join ⟨rfl, rfl, rfl, trivial⟩, rfl, H.sel' [0, 1] rfl rfl⟩ ?_)
   clear h H
   rintro s3 a w o ⟨ρ, σ4, rfl, rfl, H⟩ h hres
   refine c_seq (cr (mv (I s3) rfl (mv (Sl Kd Cl Ke) rfl (st (v := (I (Cl.length : Int))) (rv_len Tryz.underlying28 rfl) (st (v := (B (decide (s3 < (Cl.length : Int))))) (rv_lss (a := s3) (b := (Cl.length : Int)) rfl rfl) (we ?_))))))
   refine cd_cond (decide (s3 < (Cl.length : Int))) rfl (fun hb5 => ?_) (fun hb5 => ?_)
   ·replace h := bif_t hb5 h
    refine c_skip (q_then (c_seq (c_blk (c_seq ?_))))
    refine rgP (σ := σ4) 8 (by kernel_rfl) (by kernel_rfl) (by kernel_rfl) ?_
    refine sq (v := (Sl Kd Cl Ke)) (rv_move rfl) (sq (v := (I s3)) (rv_move rfl) ?_)
    replace h := bind_some h
    obtain ⟨x6, hx7, h⟩ := h
    obtain ⟨b9, o10, hi8, -⟩ := (H.ro 0 rfl).ix hx7
    refine sq (v := (pt b9 o10)) (rv_ix Tryz.underlying28 ti35 rfl rfl hi8) ?_
    obtain ⟨_, ⟨_, _, rfl, rfl, rfl⟩, hl11, hc12⟩ := ((H.ro 0 rfl).at hx7 hi8).cells
    refine sq (v := (.agg #[(I x6.1), (I x6.2)])) (rv_load Tryz.underlying35 rfl ti35 rfl hl11 hc12) (sq (v := (Sl Kf Cm Kg)) (rv_move rfl) (sq (v := (I s3)) (rv_move rfl) ?_))
    replace h := bind_some h
    obtain ⟨x13, hx14, h⟩ := h
    obtain ⟨b16, o17, hi15, -⟩ := (H.ro 1 rfl).ix hx14
    refine sq (v := (pt b16 o17)) (rv_ix Tryz.underlying28 ti35 rfl rfl hi15) ?_
    obtain ⟨_, ⟨_, _, rfl, rfl, rfl⟩, hl18, hc19⟩ := ((H.ro 1 rfl).at hx14 hi15).cells
    refine sq (v := (.agg #[(I x13.1), (I x13.2)])) (rv_load Tryz.underlying35 rfl ti35 rfl hl18 hc19) (sq_end ?_)
    intro σ20 hm21
    replace H := H.grow (hm21.mono fun _ h => h); clear hm21
    refine st (v := (B (!(([x6.1, x6.2] : List Int) == ([x13.1, x13.2] : List Int))))) (rv_neqI (xs := ([x6.1, x6.2] : List Int)) (ys := ([x13.1, x13.2] : List Int)) (by kernel_rfl) (by kernel_rfl) (by kernel_rfl) rfl (by kernel_rfl) (by exact intfs35) rfl rfl) ?_
    refine we ?_
    refine cd_cond (!(([x6.1, x6.2] : List Int) == ([x13.1, x13.2] : List Int))) rfl (fun hb22 => ?_) (fun hb22 => ?_)
    ·replace h := bif_t hb22 h
     refine cr (sa (B false) rfl (we (c_ret (q_blk_r (q_then_r (q_then_r (q_blk_r ?_)))))))
     obtain rfl := si h
     obtain rfl := hres _ rfl
     exact .inr (⟨_, rfl, rfl, _, σ20, fr_join ⟨rfl, trivial⟩, rfl, H.sel' [] rfl rfl⟩)
    ·replace h := bif_f hb22 h
     refine c_skip (q_blk (q_then (rg (mv (I s3) rfl (st (v := (I (w64 (s3 + 1)))) (rv_add (a := s3) (b := 1) rfl rfl) (sa (I (w64 (s3 + 1))) rfl (we ?_)))))))
     obtain rfl := si h
     exact ⟨_, rfl, _, σ20, fr_join ⟨rfl, rfl, rfl, trivial⟩, rfl, H.sel' [0, 1] rfl rfl⟩
   ·replace h := bif_f hb5 h
    refine c_exit (q_then_x (q_then_x (q_blk_hit ?_)))
    obtain rfl := si h
    obtain rfl := hres _ rfl
    exact .inl ⟨_, rfl, rfl, _, σ4, fr_join trivial, rfl, H.sel' [] rfl rfl⟩
  ·clear hj
   have h := h'
   clear h' H
   rintro e a w (⟨t23, rfl, rfl, ρ, σ24, rfl, rfl, H⟩ | ⟨t25, rfl, rfl, ρ, σ26, rfl, rfl, H⟩)
   ·replace h := selim_l h
    refine q_then (cr (sa (B true) rfl (we (c_ret ?_))))
    obtain rfl := si h
    exact fin_ret (v := (B true)) (results_ok Tryz.results7 (res_tmp (v := (B true)) rfl res_nil) rfl) ⟨rfl, rfl⟩ (H.sel' [] rfl rfl)
   ·replace h := selim_r h
    refine q_then_r ?_
    obtain rfl := si h
    exact fin_ret (v := (B t25)) (results_ok Tryz.results7 (res_tmp (v := (B t25)) rfl res_nil) rfl) ⟨rfl, rfl⟩ (H.sel' [] rfl rfl)

theorem c_spec_validCentres {As : List (List Int)} {Au : Option Addr} {Av : Nat} {r : Bool} (h : M.spec_validCentres As = some r) :
    Cal2 Tryz.prog 21 [(Sl Au As Av)] [Ch.ro 0 (Sl Au As Av) As] (fun n0 v L => v = (B r) ∧ L = []) := by
 refine cal2 (n := 19) Tryz.func21 rfl rfl rfl rfl ?_
 intro S0 σ0 n0 hn0 H
 unfold M.spec_validCentres at h
 refine cr (sa (B false) rfl (we (c_seq (cr (sa (I 0) rfl (we ?_))))))
 obtain ⟨o1, hj, h'⟩ := bind_some h
 clear h
 refine c_cut (fun e a w => (∃ t, o1 = (.inl t) ∧ e = .normal ∧ ∃ (ρ : Nat → Value) (σ : St), a = fr 19 (updL ρ [(0, (Sl Au As Av))]) ∧ w = σ.w ∧ Hp S0 σ0 σ [Ch.ro 0 (Sl Au As Av) As]) ∨ (∃ t, o1 = (.inr t) ∧ e = .ret ∧ ∃ (ρ : Nat → Value) (σ : St), a = fr 19 (updL ρ [(2, (B t))]) ∧ w = σ.w ∧ Hp S0 σ0 σ [])) ?_ ?_
 ·clear h'
  rename _ = some o1 => h
  refine c_blk (wp_loopM _ h (fun s2 a w => ∃ (ρ : Nat → Value) (σ : St), a = fr 19 (updL ρ [(0, (Sl Au As Av)), (3, (I s2))]) ∧ w = σ.w ∧ Hp S0 σ0 σ [Ch.ro 0 (Sl Au As Av) As]) ⟨_, σ0, fr_join ⟨rfl, rfl, trivial⟩, rfl, H.sel' [0] rfl rfl⟩ ?_)
  clear h H
  rintro s2 a w o ⟨ρ, σ3, rfl, rfl, H⟩ h hres
  refine c_seq (cr (mv (I s2) rfl (mv (Sl Au As Av) rfl (st (v := (I (As.length : Int))) (rv_len Tryz.underlying23 rfl) (st (v := (B (decide (s2 < (As.length : Int))))) (rv_lss (a := s2) (b := (As.length : Int)) rfl rfl) (we ?_))))))
  refine cd_cond (decide (s2 < (As.length : Int))) rfl (fun hb4 => ?_) (fun hb4 => ?_)
  ·replace h := bif_t hb4 h
   refine c_skip (q_then (c_seq (c_blk (cr (mv (Sl Au As Av) rfl (mv (I s2) rfl ?_))))))
   replace h := bind_some h
   obtain ⟨x5, hx6, h⟩ := h
   obtain ⟨b8, o9, hi7, -⟩ := (H.ro 0 rfl).ix hx6
   refine st (v := (pt b8 o9)) (rv_ix Tryz.underlying23 ti25 rfl rfl hi7) ?_
   obtain ⟨v13, hc14, hR12⟩ := ((H.ro 0 rfl).at hx6 hi7).slice
   obtain ⟨a10, c11, rfl⟩ := hR12.isSl
   replace H := H.add (d := Ch.ro 0 (Sl a10 x5 c11) x5) hR12 (fun _ h => h)
   clear hR12
   refine st (v := (Sl a10 x5 c11)) (rv_load1 Tryz.underlying25 rfl rfl hc14) ?_
   replace h := bind_some h
   obtain ⟨r15, hx16, h⟩ := h
   have hc17 := c_spec_isVector (Bb := a10) (Bc := c11) hx16
   refine sc hc17 rfl hn0 (H.sel' [0, 0, 1] rfl rfl : Hp S0 σ0 _ ([_] ++ _)) ?_
   rintro _ σ18 ⟨_, ⟨rfl, rfl⟩, H, -⟩
   replace H : Hp _ _ _ [_, _] := H
   refine st (v := (B (!r15))) (rv_not rfl) (we ?_)
   refine cd_cond (!r15) rfl (fun hb19 => ?_) (fun hb19 => ?_)
   ·replace h := bif_t hb19 h
    refine cr (sa (B false) rfl (we (c_ret (q_blk_r (q_then_r (q_then_r (q_blk_r ?_)))))))
    obtain rfl := si h
    obtain rfl := hres _ rfl
    exact .inr (⟨_, rfl, rfl, _, σ18, fr_join ⟨rfl, trivial⟩, rfl, H.sel' [] rfl rfl⟩)
   ·replace h := bif_f hb19 h
    refine c_skip (q_blk (q_then (rg (mv (I s2) rfl (st (v := (I (w64 (s2 + 1)))) (rv_add (a := s2) (b := 1) rfl rfl) (sa (I (w64 (s2 + 1))) rfl (we ?_)))))))
    obtain rfl := si h
    exact ⟨_, rfl, _, σ18, fr_join ⟨rfl, rfl, trivial⟩, rfl, H.sel' [1] rfl rfl⟩
  ·replace h := bif_f hb4 h
   refine c_exit (q_then_x (q_then_x (q_blk_hit ?_)))
   obtain rfl := si h
   obtain rfl := hres _ rfl
   exact .inl ⟨_, rfl, rfl, _, σ3, fr_join ⟨rfl, trivial⟩, rfl, H.sel' [0] rfl rfl⟩
 ·clear hj
  have h := h'
  clear h' H
  rintro e a w (⟨t20, rfl, rfl, ρ, σ21, rfl, rfl, H⟩ | ⟨t26, rfl, rfl, ρ, σ27, rfl, rfl, H⟩)
  ·replace h := selim_l h
   refine q_then (cr (mv (Sl Au As Av) rfl (st (v := (I (As.length : Int))) (rv_len Tryz.underlying23 rfl) ?_)))
   replace h := bind_some h
   obtain ⟨r22, hx23, h⟩ := h
   have hc24 := c_spec_inRange hx23
   refine sc hc24 rfl hn0 (H.sel' [0] rfl rfl : Hp S0 σ0 _ ([] ++ _)) ?_
   rintro _ σ25 ⟨_, ⟨rfl, rfl⟩, H, -⟩
   replace H : Hp _ _ _ [_] := H
   refine sa (B r22) rfl (we (c_ret ?_))
   obtain rfl := si h
   exact fin_ret (v := (B r22)) (results_ok Tryz.results21 (res_tmp (v := (B r22)) rfl res_nil) rfl) ⟨rfl, rfl⟩ (H.sel' [] rfl rfl)
  ·replace h := selim_r h
   refine q_then_r ?_
   obtain rfl := si h
   exact fin_ret (v := (B t26)) (results_ok Tryz.results21 (res_tmp (v := (B t26)) rfl res_nil) rfl) ⟨rfl, rfl⟩ (H.sel' [] rfl rfl)

theorem c_spec_validKind {Br : Int}  {r : Bool} (h : M.spec_validKind Br = some r) :
    Cal2 Tryz.prog 44 [(I Br)] [] (fun n0 v L => v = (B r) ∧ L = []) := by
 refine cal2 (n := 5) Tryz.func44 rfl rfl rfl rfl ?_
 intro S0 σ0 n0 hn0 H
 unfold M.spec_validKind at h
 refine cr (sa (B false) rfl (we (cr (mv (I Br) rfl ?_))))
 replace h := bind_some h
 obtain ⟨r1, hx2, h⟩ := h
 have hc3 := c_spec_inRange hx2
 refine sc hc3 rfl hn0 (H.sel' [] rfl rfl : Hp S0 σ0 _ ([] ++ _)) ?_
 rintro _ σ4 ⟨_, ⟨rfl, rfl⟩, H, -⟩
 replace H : Hp _ _ _ [] := H
 refine sa (B r1) rfl (we (c_ret ?_))
 obtain rfl := si h
 exact fin_ret (v := (B r1)) (results_ok Tryz.results44 (res_tmp (v := (B r1)) rfl res_nil) rfl) ⟨rfl, rfl⟩ (H.sel' [] rfl rfl)

theorem c_spec_validQuery {As : List (Int × (List Int) × Int)} {Bs : Int} {Bt : List Int} {Au : Option Addr} {Av : Nat} {Bv : Option Addr} {Bw : Nat} {r : Bool} (h : M.spec_validQuery As Bs Bt = some r) :
    Cal2 Tryz.prog 22 [(Sl Au As Av), (I Bs), (Sl Bv Bt Bw)] [Ch.ro 0 (Sl Au As Av) As, Ch.ro 0 (Sl Bv Bt Bw) Bt] (fun n0 v L => v = (B r) ∧ L = []) := by
 refine cal2 (n := 17) Tryz.func22 rfl rfl rfl rfl ?_
 intro S0 σ0 n0 hn0 H
 unfold M.spec_validQuery at h
 refine cr (sa (B false) rfl (we (cr (mv (Sl Au As Av) rfl ?_))))
 replace h := bind_some h
 obtain ⟨r1, hx2, h⟩ := h
 have hc3 := c_spec_validStore (Au := Au) (Av := Av) hx2
 refine sc hc3 rfl hn0 (H.sel' [0, 0, 1] rfl rfl : Hp S0 σ0 _ ([_] ++ _)) ?_
 rintro _ σ4 ⟨_, ⟨rfl, rfl⟩, H, -⟩
 replace H : Hp _ _ _ [_, _] := H
 refine mv (B r1) rfl ?_
 rcases Bool.eq_false_or_eq_true r1 with hb5 | hb5
 ·replace h := bif_t hb5 h
  refine st_g (v := (I Bs)) (congrArg some hb5) (rv_move rfl) ?_
  replace h := bind_some h
  obtain ⟨r6, hx7, h⟩ := h
  have hc8 := c_spec_validKind hx7
  refine st_call (cx_call hc8 (ent_f hc8.fn rfl) hn0 (H.sel' [0, 1] rfl rfl : Hp S0 σ0 _ ([] ++ _))) (wanted_yes rfl (by exact (congrArg some hb5))) ?_
  rintro _ σ9 ⟨_, ⟨rfl, rfl⟩, H, -⟩
  replace H : Hp _ _ _ [_, _] := H
  refine st (v := (B r6)) (rv_pick_t (congrArg B hb5) rfl) (mv (B r6) rfl ?_)
  rcases Bool.eq_false_or_eq_true r6 with hb10 | hb10
  ·replace h := bif_t hb10 h
   refine st_g (v := (Sl Bv Bt Bw)) (congrArg some hb10) (rv_move rfl) ?_
   replace h := bind_some h
   obtain ⟨r11, hx12, h⟩ := h
   have hc13 := c_spec_isVector (Bb := Bv) (Bc := Bw) hx12
   refine st_call (cx_call hc13 (ent_f hc13.fn rfl) hn0 (H.sel' [1, 0, 1] rfl rfl : Hp S0 σ0 _ ([_] ++ _))) (wanted_yes rfl (by exact (congrArg some hb10))) ?_
   rintro _ σ14 ⟨_, ⟨rfl, rfl⟩, H, -⟩
   replace H : Hp _ _ _ [_, _] := H
   refine st (v := (B r11)) (rv_pick_t (congrArg B hb10) rfl) (sa (B r11) rfl (we (c_ret ?_)))
   obtain rfl := si h
   exact fin_ret (v := (B r11)) (results_ok Tryz.results22 (res_tmp (v := (B r11)) rfl res_nil) rfl) ⟨rfl, rfl⟩ (H.sel' [] rfl rfl)
  ·replace h := bif_f hb10 h
   refine st_skip (congrArg some hb10) (st_skip (congrArg some hb10) (st (v := (B false)) (rv_pick_f (congrArg B hb10) rfl) (sa (B false) rfl (we (c_ret ?_)))))
   obtain rfl := si h
   exact fin_ret (v := (B false)) (results_ok Tryz.results22 (res_tmp (v := (B false)) rfl res_nil) rfl) ⟨rfl, rfl⟩ (H.sel' [] rfl rfl)
 ·replace h := bif_f hb5 h
  refine st_skip (congrArg some hb5) (st_skip (congrArg some hb5) (st (v := (B false)) (rv_pick_f (congrArg B hb5) rfl) (mv (B false) rfl (st_skip rfl (st_skip rfl (st (v := (B false)) (rv_pick_f rfl rfl) (sa (B false) rfl (we (c_ret ?_)))))))))
  obtain rfl := si h
  exact fin_ret (v := (B false)) (results_ok Tryz.results22 (res_tmp (v := (B false)) rfl res_nil) rfl) ⟨rfl, rfl⟩ (H.sel' [] rfl rfl)

end Go.Vs

/- The functions compute what their models say. -/
import Derived.Test.YtflpjndobffkjaaKExactIsTreeOfC3
set_option linter.unusedVariables false
set_option linter.unusedSimpArgs false
set_option maxRecDepth 20000
namespace Go.Vs
open Go Go.Proofs
attribute [local irreducible] Code.wp Code.wpIn wpList wpListIn wpQuiet Calls CallsIn

theorem c_slices_partitionCmpFunc_impl_Item__impl_sortByDistance_1 {Cl : List (Int × (List Int) × Int)} {Av : Int} {Aw : Int} {Fh : Int} {Di : Int} {Dj : List Int} {Cp : Option Addr} {Cq : Nat} {Dk Dm Dn : Nat} {Do Dq : List Value} {Dr : Option Addr} {Ds : Nat} {Dt Du Dv : Nat} {Dw Dx : List Value} {r : Int × Bool × (List (Int × (List Int) × Int))} (h : M.slices_partitionCmpFunc_impl_Item__impl_sortByDistance_1 Cl Av Aw Fh Di Dj = some r) :
    Cal2 Try.prog 119 [(Sl Cp Cl Cq), (I Av), (I Aw), (I Fh), (.func (.func 88) #[] #[(pt Dm Dn), (pt Du Dv)])] [Ch.own 0 0 (Sl Cp Cl Cq) Cl, Ch.bx Dk Dm Dn [(I Di)] Do Dq, Ch.bx Dt Du Dv [(Sl Dr Dj Ds)] Dw Dx, Ch.ro 0 (Sl Dr Dj Ds) Dj] (fun n0 v L => v = (.tuple #[(I r.1), (B r.2.1)]) ∧ L = [Ch.own 0 0 (Sl Cp r.2.2 Cq) r.2.2, Ch.bx Dk Dm Dn [(I Di)] Do Dq, Ch.bx Dt Du Dv [(Sl Dr Dj Ds)] Dw Dx] ∧ r.2.2.length = Cl.length) := by
 refine cal2 (n := 178) Try.func119 rfl rfl rfl rfl ?_
 intro S0 σ0 n0 hn0 H
 unfold M.slices_partitionCmpFunc_impl_Item__impl_sortByDistance_1 at h
 refine c_seq (rg (st (v := (I 0)) (rv_assign rfl) (st (v := (B false)) (rv_assign rfl) (w_end (q_then (c_seq ?_))))))
 obtain ⟨x1, hx2, h'⟩ := bind_some h
 clear h
 have h := h'; clear h'
 obtain ⟨b4, o5, hi3, -⟩ := (H.own 0 rfl).ix hx2
 obtain ⟨_, ⟨_, _, rfl, rfl, ⟨_, _, rfl, ⟨_, rfl, hR10⟩, rfl⟩⟩, hl6, hc7⟩ := ((H.own 0 rfl).at hx2 hi3).cells
 obtain ⟨a8, c9, rfl⟩ := hR10.isSl
 replace H := H.add (d := Ch.ro 0 (Sl a8 x1.2.1 c9) x1.2.1) hR10 (fun _ h => h)
 clear hR10
 obtain ⟨x11, hx12, h'⟩ := bind_some h
 clear h
 have h := h'; clear h'
 obtain ⟨b14, o15, hi13, -⟩ := (H.own 1 rfl).ix hx12
 obtain ⟨_, ⟨_, _, rfl, rfl, ⟨_, _, rfl, ⟨_, rfl, hR20⟩, rfl⟩⟩, hl16, hc17⟩ := ((H.own 1 rfl).at hx12 hi13).cells
 obtain ⟨a18, c19, rfl⟩ := hR20.isSl
 replace H := H.add (d := Ch.ro 0 (Sl a18 x11.2.1 c19) x11.2.1) hR20 (fun _ h => h)
 clear hR20
 obtain ⟨x21, hx22, h'⟩ := bind_some h
 clear h
 have h := h'; clear h'
 obtain ⟨b24, o25, hi23, -⟩ := (H.own 2 rfl).ix hx22
 have Hs := H
 refine rg2 (σ := σ0) (Nm := Unit) 14 [13] [[false], [true]] [[(0, 0)], [(0, 0)], [(0, 0), (1, 1)], [(0, 0), (1, 1)], [(0, 0)], [(0, 0)], [(0, 0)], [(0, 0)], [(0, 0)], [(0, 0)], [(0, 0)], [(0, 0)], [(0, 0)], [(0, 1)]] 1 [fun _ => fun σm => Hp S0 σ0 σm [Ch.ro 0 (Sl a18 x11.2.1 c19) x11.2.1, Ch.ro 0 (Sl a8 x1.2.1 c9) x1.2.1, Ch.own 0 0 (Sl Cp Cl Cq) Cl, Ch.bx Dk Dm Dn [(I Di)] Do Dq, Ch.bx Dt Du Dv [(Sl Dr Dj Ds)] Dw Dx, Ch.ro 0 (Sl Dr Dj Ds) Dj] ∧ Md (cov []) σ0 σm, fun _ => fun σm => Hp S0 σ0 σm [Ch.own 0 0 (Sl Cp Cl Cq) (Cl.set Av.toNat (x1.1, x1.2.1, x1.2.2)), Ch.ro 0 (Sl a18 x11.2.1 c19) x11.2.1, Ch.ro 0 (Sl a8 x1.2.1 c9) x1.2.1, Ch.bx Dk Dm Dn [(I Di)] Do Dq, Ch.bx Dt Du Dv [(Sl Dr Dj Ds)] Dw Dx, Ch.ro 0 (Sl Dr Dj Ds) Dj] ∧ Md (fun i => (cov []) i ∨ (fun b => blk (Sl Cp Cl Cq) = some b) i) σ0 σm] [fun _ => (Sl Cp Cl Cq), fun _ => (I Av), fun _ => (Sl Cp Cl Cq), fun _ => (I Fh), fun _ => (Sl Cp Cl Cq), fun _ => (I Fh), fun _ => (pt b4 o5), fun _ => (.agg #[(I x1.1), (Sl a8 x1.2.1 c9), (I x1.2.2)]), fun _ => (Sl Cp Cl Cq), fun _ => (I Av), fun _ => (pt b14 o15), fun _ => (.agg #[(I x11.1), (Sl a18 x11.2.1 c19), (I x11.2.2)]), fun _ => (pt b24 o25), fun _ => undef] () (by kernel_rfl) (by kernel_rfl) ?_ ?_ ?_
 ·intro σm m0
  exact ⟨H.grow (m0.mono fun _ h => h.elim), m0⟩
 ·refine ac rfl (by
    intro k _nm ρ σm hJ hoff hdep
    have e0 := look_off (N := 178) (hoff 0 rfl) rfl
    exact dp_v (v := (Sl Cp Cl Cq)) wn (rv_move e0) rfl hJ) ?_
  refine ac rfl (by
    intro k _nm ρ σm hJ hoff hdep
    have e1 := look_off (N := 178) (hoff 1 rfl) rfl
    exact dp_v (v := (I Av)) wn (rv_move e1) rfl hJ) ?_
  refine ac rfl (by
    intro k _nm ρ σm hJ hoff hdep
    have e0 := look_off (N := 178) (hoff 0 rfl) rfl
    exact dp_v (v := (Sl Cp Cl Cq)) wn (rv_move e0) rfl hJ) ?_
  refine ac rfl (by
    intro k _nm ρ σm hJ hoff hdep
    have e3 := look_off (N := 178) (hoff 3 rfl) rfl
    exact dp_v (v := (I Fh)) wn (rv_move e3) rfl hJ) ?_
  refine ac rfl (by
    intro k _nm ρ σm hJ hoff hdep
    have e0 := look_off (N := 178) (hoff 0 rfl) rfl
    exact dp_v (v := (Sl Cp Cl Cq)) wn (rv_move e0) rfl hJ) ?_
  refine ac rfl (by
    intro k _nm ρ σm hJ hoff hdep
    have e3 := look_off (N := 178) (hoff 3 rfl) rfl
    exact dp_v (v := (I Fh)) wn (rv_move e3) rfl hJ) ?_
  refine ac rfl (by
    intro k _nm ρ σm hJ hoff hdep
    have e18 := hdep 4 rfl rfl 18 rfl
    have e19 := hdep 5 rfl rfl 19 rfl
    exact dp_v (v := (pt b4 o5)) wn (rv_ix Try.underlying23 ti34 e18 e19 hi3) rfl hJ) ?_
  refine all_cons (by
    refine ⟨?_, ?_⟩
    ·intro _nm ρ σm hJ hoff hdep
     have e20 := hdep 6 rfl rfl 20 rfl
     obtain ⟨H, m⟩ := id hJ
     replace hc7 := fun j hj => m.hcell (hc7 j hj) nocov
     exact dp_v (v := (.agg #[(I x1.1), (Sl a8 x1.2.1 c9), (I x1.2.2)])) wn (rv_load Try.underlying34 rfl ti34 e20 hl6 hc7) rfl hJ
    trivial) ?_
  refine ac rfl (by
    intro k _nm ρ σm hJ hoff hdep
    have e0 := look_off (N := 178) (hoff 0 rfl) rfl
    exact dp_v (v := (Sl Cp Cl Cq)) wn (rv_move e0) rfl hJ) ?_
  refine ac rfl (by
    intro k _nm ρ σm hJ hoff hdep
    have e1 := look_off (N := 178) (hoff 1 rfl) rfl
    exact dp_v (v := (I Av)) wn (rv_move e1) rfl hJ) ?_
  refine ac rfl (by
    intro k _nm ρ σm hJ hoff hdep
    have e22 := hdep 8 rfl rfl 22 rfl
    have e23 := hdep 9 rfl rfl 23 rfl
    exact dp_v (v := (pt b14 o15)) wn (rv_ix Try.underlying23 ti34 e22 e23 hi13) rfl hJ) ?_
  refine all_cons (by
    refine ⟨?_, ?_⟩
    ·intro _nm ρ σm hJ hoff hdep
     have e24 := hdep 10 rfl rfl 24 rfl
     obtain ⟨H, m⟩ := id hJ
     replace hc17 := fun j hj => m.hcell (hc17 j hj) nocov
     exact dp_v (v := (.agg #[(I x11.1), (Sl a18 x11.2.1 c19), (I x11.2.2)])) wn (rv_load Try.underlying34 rfl ti34 e24 hl16 hc17) rfl hJ
    trivial) ?_
  refine ac rfl (by
    intro k _nm ρ σm hJ hoff hdep
    have e14 := hdep 0 rfl rfl 14 rfl
    have e15 := hdep 1 rfl rfl 15 rfl
    exact dp_v (v := (pt b24 o25)) wn (rv_ix Try.underlying23 ti34 e14 e15 hi23) rfl hJ) ?_
  refine all_cons (by
    refine ⟨?_, ?_⟩
    ·intro _nm ρ σm hJ hoff hdep
     have e26 := hdep 12 rfl rfl 26 rfl
     have e21 := hdep 7 rfl rfl 21 rfl
     obtain ⟨H, m⟩ := id hJ
     refine dp_exS wn rfl (ex_store_own (e' := (x1.1, x1.2.1, x1.2.2)) (vs := [(I x1.1), (Sl a8 x1.2.1 c9), (I x1.2.2)]) (k := 0) H (i := 2) rfl ti34 hx22 hi23 e26 rfl e21 rfl rfl (Nat.le_of_ble_eq_true rfl) (by simp [plain]) (by rintro _ ⟨_, _, rfl, rfl, ⟨_, _, rfl, ⟨_, rfl, hR28⟩, rfl⟩⟩; exact ⟨[(I x1.1)], [(Sl a8 x1.2.1 c9), (I x1.2.2)], rfl, rfl, ⟨[(Sl a8 x1.2.1 c9)], [(I x1.2.2)], rfl, ⟨_, rfl, (H.ro 1 rfl)⟩, rfl⟩⟩)) ?_
     rintro σq ⟨H2, m2⟩
     exact ⟨_, (), rfl, ⟨H2.sel' [0, 1, 2, 3, 4, 5] rfl rfl, m.comp m2⟩, stab [0, 1, 2, 3, 4, 5, 6, 7, 8, 9, 10, 11, 12] (by kernel_rfl) ⟨rfl, rfl, rfl, rfl, rfl, rfl, rfl, rfl, rfl, rfl, rfl, rfl, rfl, trivial⟩⟩
    trivial) ?_
  exact all_nil
 ·intro _nm ρ σ29 hJ hoff hrel
  have e0 := look_off (N := 178) (hoff 0 rfl) rfl
  have e1 := look_off (N := 178) (hoff 1 rfl) rfl
  have e2 := look_off (N := 178) (hoff 2 rfl) rfl
  have e4 := look_off (N := 178) (hoff 4 rfl) rfl
  have e16 := hrel 2 rfl 16 rfl
  have e17 := hrel 3 rfl 17 rfl
  have e25 := hrel 11 rfl 25 rfl
  obtain ⟨H, -⟩ := (show Hp S0 σ0 σ29 [Ch.own 0 0 (Sl Cp Cl Cq) (Cl.set Av.toNat (x1.1, x1.2.1, x1.2.2)), Ch.ro 0 (Sl a18 x11.2.1 c19) x11.2.1, Ch.ro 0 (Sl a8 x1.2.1 c9) x1.2.1, Ch.bx Dk Dm Dn [(I Di)] Do Dq, Ch.bx Dt Du Dv [(Sl Dr Dj Ds)] Dw Dx, Ch.ro 0 (Sl Dr Dj Ds) Dj] ∧ Md (fun i => (cov []) i ∨ (fun b => blk (Sl Cp Cl Cq) = some b) i) σ0 σ29 from hJ)
  clear hJ Hs
  rw [fr_lookL (L := [(0, (Sl Cp Cl Cq)), (1, (I Av)), (2, (I Aw)), (4, (.func (.func 88) #[] #[(pt Dm Dn), (pt Du Dv)])), (16, (Sl Cp Cl Cq)), (17, (I Fh)), (25, (.agg #[(I x11.1), (Sl a18 x11.2.1 c19), (I x11.2.2)]))]) ⟨e0, e1, e2, e4, e16, e17, e25, trivial⟩]
  clear hoff hrel e0 e1 e2 e4 e16 e17 e25
  have hsl : (Sl Cp Cl Cq) = (Sl Cp (Cl.set Av.toNat (x1.1, x1.2.1, x1.2.2)) Cq) := sl_len (by simp)
  rw [hsl]; rw [hsl] at H; clear hsl
  obtain ⟨x30, hx31, h'⟩ := bind_some h
  clear h
  have h := h'; clear h'
  obtain ⟨b33, o34, hi32, -⟩ := (H.own 0 rfl).ix hx31
  refine st (v := (pt b33 o34)) (rv_ix Try.underlying23 ti34 rfl rfl hi32) ?_
  refine st_exS (ex_store_own (e' := (x11.1, x11.2.1, x11.2.2)) (vs := [(I x11.1), (Sl a18 x11.2.1 c19), (I x11.2.2)]) (k := 0) H (i := 0) rfl ti34 hx31 hi32 rfl rfl rfl rfl rfl (Nat.le_of_ble_eq_true rfl) (by simp [plain]) (by rintro _ ⟨_, _, rfl, rfl, ⟨_, _, rfl, ⟨_, rfl, hR37⟩, rfl⟩⟩; exact ⟨[(I x11.1)], [(Sl a18 x11.2.1 c19), (I x11.2.2)], rfl, rfl, ⟨[(Sl a18 x11.2.1 c19)], [(I x11.2.2)], rfl, ⟨_, rfl, (H.ro 1 rfl)⟩, rfl⟩⟩)) wn ?_
  rintro σ38 ⟨H, -⟩
  have hsl : (Sl Cp (Cl.set Av.toNat (x1.1, x1.2.1, x1.2.2)) Cq) = (Sl Cp ((Cl.set Av.toNat (x1.1, x1.2.1, x1.2.2)).set Fh.toNat (x11.1, x11.2.1, x11.2.2)) Cq) := sl_len List.length_set.symm
  rw [hsl]; rw [hsl] at H; clear hsl
  refine w_end (q_then (c_seq (rg (st (v := (I Av)) (rv_move rfl) (st (v := (I (w64 (Av + 1)))) (rv_add (a := Av) (b := 1) rfl rfl) (st (v := (I Aw)) (rv_move rfl) (st (v := (I (w64 (Aw - 1)))) (rv_sub (a := Aw) (b := 1) rfl rfl) (st (v := (I (w64 (Av + 1)))) (rv_assign rfl) (st (v := (I (w64 (Aw - 1)))) (rv_assign rfl) (w_end (q_then ?_)))))))))))
  refine c_seq ?_
  obtain ⟨o39, hj, h'⟩ := bind_some h
  clear h
  refine c_cut (fun e a w => e = .normal ∧ ∃ (ρ : Nat → Value) (σ : St), a = fr 178 (updL ρ [(0, (Sl Cp ((Cl.set Av.toNat (x1.1, x1.2.1, x1.2.2)).set Fh.toNat (x11.1, x11.2.1, x11.2.2)) Cq)), (1, (I Av)), (4, (.func (.func 88) #[] #[(pt Dm Dn), (pt Du Dv)])), (12, (I o39)), (13, (I (w64 (Aw - 1))))]) ∧ w = σ.w ∧ Hp S0 σ0 σ [Ch.own 0 0 (Sl Cp ((Cl.set Av.toNat (x1.1, x1.2.1, x1.2.2)).set Fh.toNat (x11.1, x11.2.1, x11.2.2)) Cq) ((Cl.set Av.toNat (x1.1, x1.2.1, x1.2.2)).set Fh.toNat (x11.1, x11.2.1, x11.2.2)), Ch.bx Dk Dm Dn [(I Di)] Do Dq, Ch.ro 0 (Sl Dr Dj Ds) Dj, Ch.bx Dt Du Dv [(Sl Dr Dj Ds)] Dw Dx]) ?_ ?_
  ·clear h'
   rename _ = some o39 => h
   refine c_blk (wp_loopM _ h (fun s40 a w => ∃ (ρ : Nat → Value) (σ : St), a = fr 178 (updL ρ [(0, (Sl Cp ((Cl.set Av.toNat (x1.1, x1.2.1, x1.2.2)).set Fh.toNat (x11.1, x11.2.1, x11.2.2)) Cq)), (1, (I Av)), (4, (.func (.func 88) #[] #[(pt Dm Dn), (pt Du Dv)])), (12, (I s40)), (13, (I (w64 (Aw - 1))))]) ∧ w = σ.w ∧ Hp S0 σ0 σ [Ch.own 0 0 (Sl Cp ((Cl.set Av.toNat (x1.1, x1.2.1, x1.2.2)).set Fh.toNat (x11.1, x11.2.1, x11.2.2)) Cq) ((Cl.set Av.toNat (x1.1, x1.2.1, x1.2.2)).set Fh.toNat (x11.1, x11.2.1, x11.2.2)), Ch.bx Dk Dm Dn [(I Di)] Do Dq, Ch.ro 0 (Sl Dr Dj Ds) Dj, Ch.bx Dt Du Dv [(Sl Dr Dj Ds)] Dw Dx]) ⟨_, σ38, fr_join ⟨rfl, rfl, rfl, rfl, rfl, trivial⟩, rfl, H.sel' [0, 3, 5, 4] rfl rfl⟩ ?_)
   clear h H
   rintro s40 a w o ⟨ρ, σ41, rfl, rfl, H⟩ h hres
   refine c_seq (c_seq ?_)
   obtain ⟨o42, hj, h'⟩ := bind_some h
   clear h
   refine c_cut (fun e a w => e = .normal ∧ ∃ (ρ : Nat → Value) (σ : St), a = fr 178 (updL ρ [(0, (Sl Cp ((Cl.set Av.toNat (x1.1, x1.2.1, x1.2.2)).set Fh.toNat (x11.1, x11.2.1, x11.2.2)) Cq)), (1, (I Av)), (4, (.func (.func 88) #[] #[(pt Dm Dn), (pt Du Dv)])), (12, (I s40)), (13, (I (w64 (Aw - 1)))), (47, (B o42))]) ∧ w = σ.w ∧ Hp S0 σ0 σ [Ch.own 0 0 (Sl Cp ((Cl.set Av.toNat (x1.1, x1.2.1, x1.2.2)).set Fh.toNat (x11.1, x11.2.1, x11.2.2)) Cq) ((Cl.set Av.toNat (x1.1, x1.2.1, x1.2.2)).set Fh.toNat (x11.1, x11.2.1, x11.2.2)), Ch.bx Dk Dm Dn [(I Di)] Do Dq, Ch.ro 0 (Sl Dr Dj Ds) Dj, Ch.bx Dt Du Dv [(Sl Dr Dj Ds)] Dw Dx]) ?_ ?_
   ·clear h'
    rename _ = some o42 => h
    refine rgP (σ := σ41) 13 (by kernel_rfl) (by kernel_rfl) (by kernel_rfl) ?_
    refine sq (v := (I s40)) (rv_move rfl) (sq (v := (I (w64 (Aw - 1)))) (rv_move rfl) (sq (v := (B (decide (s40 ≤ (w64 (Aw - 1)))))) (rv_leq (a := s40) (b := (w64 (Aw - 1))) rfl rfl) (sq (v := (B (decide (s40 ≤ (w64 (Aw - 1)))))) (rv_move rfl) ?_)))
    rcases Bool.eq_false_or_eq_true (decide (s40 ≤ (w64 (Aw - 1)))) with hb43 | hb43
    ·replace h := bif_t hb43 h
     refine sq_g (v := (.func (.func 88) #[] #[(pt Dm Dn), (pt Du Dv)])) (congrArg some hb43) (rv_move rfl) (sq_g (v := (Sl Cp ((Cl.set Av.toNat (x1.1, x1.2.1, x1.2.2)).set Fh.toNat (x11.1, x11.2.1, x11.2.2)) Cq)) (congrArg some hb43) (rv_move rfl) (sq_g (v := (I s40)) (congrArg some hb43) (rv_move rfl) ?_))
     obtain ⟨x44, hx45, h'⟩ := bind_some h
     clear h
     have h := h'; clear h'
     obtain ⟨b47, o48, hi46, -⟩ := (H.own 0 rfl).ix hx45
     refine sq_g (v := (pt b47 o48)) (congrArg some hb43) (rv_ix Try.underlying23 ti34 rfl rfl hi46) ?_
     obtain ⟨_, ⟨_, _, rfl, rfl, ⟨_, _, rfl, ⟨_, rfl, hR53⟩, rfl⟩⟩, hl49, hc50⟩ := ((H.own 0 rfl).at hx45 hi46).cells
     obtain ⟨a51, c52, rfl⟩ := hR53.isSl
     replace H := H.add (d := Ch.ro 0 (Sl a51 x44.2.1 c52) x44.2.1) hR53 (fun _ h => h)
     clear hR53
     refine sq_g (v := (.agg #[(I x44.1), (Sl a51 x44.2.1 c52), (I x44.2.2)])) (congrArg some hb43) (rv_load Try.underlying34 rfl ti34 rfl hl49 hc50) (sq_g (v := (Sl Cp ((Cl.set Av.toNat (x1.1, x1.2.1, x1.2.2)).set Fh.toNat (x11.1, x11.2.1, x11.2.2)) Cq)) (congrArg some hb43) (rv_move rfl) (sq_g (v := (I Av)) (congrArg some hb43) (rv_move rfl) ?_))
     obtain ⟨x54, hx55, h'⟩ := bind_some h
     clear h
     have h := h'; clear h'
     obtain ⟨b57, o58, hi56, -⟩ := (H.own 1 rfl).ix hx55
     refine sq_g (v := (pt b57 o58)) (congrArg some hb43) (rv_ix Try.underlying23 ti34 rfl rfl hi56) ?_
     obtain ⟨_, ⟨_, _, rfl, rfl, ⟨_, _, rfl, ⟨_, rfl, hR63⟩, rfl⟩⟩, hl59, hc60⟩ := ((H.own 1 rfl).at hx55 hi56).cells
     obtain ⟨a61, c62, rfl⟩ := hR63.isSl
     replace H := H.add (d := Ch.ro 0 (Sl a61 x54.2.1 c62) x54.2.1) hR63 (fun _ h => h)
     clear hR63
     refine sq_g (v := (.agg #[(I x54.1), (Sl a61 x54.2.1 c62), (I x54.2.2)])) (congrArg some hb43) (rv_load Try.underlying34 rfl ti34 rfl hl59 hc60) (sq_end ?_)
     intro σ64 hm65
     replace H := H.grow (hm65.mono fun _ h => h); clear hm65
     obtain ⟨r66, hx67, h'⟩ := bind_some h
     clear h
     have h := h'; clear h'
     have hc68 := c_impl_sortByDistance_1__p3__p24 (Ag := a51) (Ah := c52) (Bv := a61) (Bw := c62) (By := Dk) (Bz := Dm) (Ca := Dn) (Cb := Do) (Cc := Dq) (Cf := Dt) (Cg := Du) (Ci := Dv) (Cj := Dw) (Ck := Dx) (Cd := Dr) (Ce := Ds) hx67
     refine st_call (cx_call hc68 (ent_v (cap := [(pt Dm Dn), (pt Du Dv)]) hc68.fn rfl rfl) hn0 (H.sel' [1, 0, 3, 5, 4, 0, 1, 2, 4] rfl rfl : Hp S0 σ0 _ ([_, _, _, _, _] ++ _))) (wanted_yes rfl (by exact (congrArg some hb43))) ?_
     rintro _ σ69 ⟨_, ⟨rfl, rfl⟩, H, -⟩
     replace H : Hp _ _ _ [_, _, _, _, _, _] := H
     refine st_g (v := (B (decide (r66 < 0)))) (congrArg some hb43) (rv_lss (a := r66) (b := 0) rfl rfl) (st (v := (B (decide (r66 < 0)))) (rv_pick_t (congrArg B hb43) rfl) (w_end ?_))
     obtain rfl := Option.some.inj h
     exact ⟨rfl, _, σ69, fr_join ⟨rfl, rfl, rfl, rfl, rfl, rfl, trivial⟩, rfl, H.sel' [4, 0, 5, 1] rfl rfl⟩
    ·replace h := bif_f hb43 h
     refine sq_skip (congrArg some hb43) (sq_skip (congrArg some hb43) (sq_skip (congrArg some hb43) (sq_skip (congrArg some hb43) (sq_skip (congrArg some hb43) (sq_skip (congrArg some hb43) (sq_skip (congrArg some hb43) (sq_skip (congrArg some hb43) (sq_skip (congrArg some hb43) (sq_end ?_)))))))))
     intro σ70 hm71
     replace H := H.grow (hm71.mono fun _ h => h); clear hm71
     refine st_skip (congrArg some hb43) (st_skip (congrArg some hb43) (st (v := (B false)) (rv_pick_f (congrArg B hb43) rfl) (w_end ?_)))
     obtain rfl := Option.some.inj h
     exact ⟨rfl, _, σ70, fr_join ⟨rfl, rfl, rfl, rfl, rfl, rfl, trivial⟩, rfl, H.sel' [0, 1, 2, 3] rfl rfl⟩
   ·clear hj
    have h := h'
    clear h' H
    rintro e a w ⟨rfl, ρ, σ72, rfl, rfl, H⟩
    refine q_then ?_
    refine cd_cond o42 rfl (fun hb73 => ?_) (fun hb73 => ?_)
    ·replace h := bif_t hb73 h
     refine c_skip (q_then (c_blk (rg (st (v := (I s40)) (rv_move rfl) (st (v := (I (w64 (s40 + 1)))) (rv_add (a := s40) (b := 1) rfl rfl) (st (v := (I (w64 (s40 + 1)))) (rv_assign rfl) (w_end (q_blk (q_then ?_)))))))))
     obtain rfl := Option.some.inj h
     exact ⟨_, rfl, _, σ72, fr_join ⟨rfl, rfl, rfl, rfl, rfl, trivial⟩, rfl, H.sel' [0, 1, 2, 3] rfl rfl⟩
    ·replace h := bif_f hb73 h
     refine c_exit (q_then_x (q_then_x (q_blk_hit ?_)))
     obtain rfl := Option.some.inj h
     obtain rfl := hres _ rfl
     exact ⟨rfl, _, σ72, fr_join ⟨rfl, rfl, rfl, rfl, rfl, trivial⟩, rfl, H.sel' [0, 1, 2, 3] rfl rfl⟩
  ·clear hj
   have h := h'
   clear h' H
   rintro e a w ⟨rfl, ρ, σ74, rfl, rfl, H⟩
   refine q_then (c_seq ?_)
   obtain ⟨o75, hj, h'⟩ := bind_some h
   clear h
   refine c_cut (fun e a w => e = .normal ∧ ∃ (ρ : Nat → Value) (σ : St), a = fr 178 (updL ρ [(0, (Sl Cp ((Cl.set Av.toNat (x1.1, x1.2.1, x1.2.2)).set Fh.toNat (x11.1, x11.2.1, x11.2.2)) Cq)), (1, (I Av)), (4, (.func (.func 88) #[] #[(pt Dm Dn), (pt Du Dv)])), (12, (I o39)), (13, (I o75))]) ∧ w = σ.w ∧ Hp S0 σ0 σ [Ch.own 0 0 (Sl Cp ((Cl.set Av.toNat (x1.1, x1.2.1, x1.2.2)).set Fh.toNat (x11.1, x11.2.1, x11.2.2)) Cq) ((Cl.set Av.toNat (x1.1, x1.2.1, x1.2.2)).set Fh.toNat (x11.1, x11.2.1, x11.2.2)), Ch.bx Dk Dm Dn [(I Di)] Do Dq, Ch.ro 0 (Sl Dr Dj Ds) Dj, Ch.bx Dt Du Dv [(Sl Dr Dj Ds)] Dw Dx]) ?_ ?_
   ·clear h'
    rename _ = some o75 => h
    refine c_blk (wp_loopM _ h (fun s76 a w => ∃ (ρ : Nat → Value) (σ : St), a = fr 178 (updL ρ [(0, (Sl Cp ((Cl.set Av.toNat (x1.1, x1.2.1, x1.2.2)).set Fh.toNat (x11.1, x11.2.1, x11.2.2)) Cq)), (1, (I Av)), (4, (.func (.func 88) #[] #[(pt Dm Dn), (pt Du Dv)])), (12, (I o39)), (13, (I s76))]) ∧ w = σ.w ∧ Hp S0 σ0 σ [Ch.own 0 0 (Sl Cp ((Cl.set Av.toNat (x1.1, x1.2.1, x1.2.2)).set Fh.toNat (x11.1, x11.2.1, x11.2.2)) Cq) ((Cl.set Av.toNat (x1.1, x1.2.1, x1.2.2)).set Fh.toNat (x11.1, x11.2.1, x11.2.2)), Ch.bx Dk Dm Dn [(I Di)] Do Dq, Ch.ro 0 (Sl Dr Dj Ds) Dj, Ch.bx Dt Du Dv [(Sl Dr Dj Ds)] Dw Dx]) ⟨_, σ74, fr_join ⟨rfl, rfl, rfl, rfl, rfl, trivial⟩, rfl, H.sel' [0, 1, 2, 3] rfl rfl⟩ ?_)
    clear h H
    rintro s76 a w o ⟨ρ, σ77, rfl, rfl, H⟩ h hres
    refine c_seq (c_seq ?_)
    obtain ⟨o78, hj, h'⟩ := bind_some h
    clear h
    refine c_cut (fun e a w => e = .normal ∧ ∃ (ρ : Nat → Value) (σ : St), a = fr 178 (updL ρ [(0, (Sl Cp ((Cl.set Av.toNat (x1.1, x1.2.1, x1.2.2)).set Fh.toNat (x11.1, x11.2.1, x11.2.2)) Cq)), (1, (I Av)), (4, (.func (.func 88) #[] #[(pt Dm Dn), (pt Du Dv)])), (12, (I o39)), (13, (I s76)), (66, (B o78))]) ∧ w = σ.w ∧ Hp S0 σ0 σ [Ch.own 0 0 (Sl Cp ((Cl.set Av.toNat (x1.1, x1.2.1, x1.2.2)).set Fh.toNat (x11.1, x11.2.1, x11.2.2)) Cq) ((Cl.set Av.toNat (x1.1, x1.2.1, x1.2.2)).set Fh.toNat (x11.1, x11.2.1, x11.2.2)), Ch.bx Dk Dm Dn [(I Di)] Do Dq, Ch.ro 0 (Sl Dr Dj Ds) Dj, Ch.bx Dt Du Dv [(Sl Dr Dj Ds)] Dw Dx]) ?_ ?_
    ·clear h'
     rename _ = some o78 => h
     refine rgP (σ := σ77) 13 (by kernel_rfl) (by kernel_rfl) (by kernel_rfl) ?_
     refine sq (v := (I o39)) (rv_move rfl) (sq (v := (I s76)) (rv_move rfl) (sq (v := (B (decide (o39 ≤ s76)))) (rv_leq (a := o39) (b := s76) rfl rfl) (sq (v := (B (decide (o39 ≤ s76)))) (rv_move rfl) ?_)))
     rcases Bool.eq_false_or_eq_true (decide (o39 ≤ s76)) with hb79 | hb79
     ·replace h := bif_t hb79 h
      refine sq_g (v := (.func (.func 88) #[] #[(pt Dm Dn), (pt Du Dv)])) (congrArg some hb79) (rv_move rfl) (sq_g (v := (Sl Cp ((Cl.set Av.toNat (x1.1, x1.2.1, x1.2.2)).set Fh.toNat (x11.1, x11.2.1, x11.2.2)) Cq)) (congrArg some hb79) (rv_move rfl) (sq_g (v := (I s76)) (congrArg some hb79) (rv_move rfl) ?_))
      obtain ⟨x80, hx81, h'⟩ := bind_some h
      clear h
      have h := h'; clear h'
      obtain ⟨b83, o84, hi82, -⟩ := (H.own 0 rfl).ix hx81
      refine sq_g (v := (pt b83 o84)) (congrArg some hb79) (rv_ix Try.underlying23 ti34 rfl rfl hi82) ?_
      obtain ⟨_, ⟨_, _, rfl, rfl, ⟨_, _, rfl, ⟨_, rfl, hR89⟩, rfl⟩⟩, hl85, hc86⟩ := ((H.own 0 rfl).at hx81 hi82).cells
      obtain ⟨a87, c88, rfl⟩ := hR89.isSl
      replace H := H.add (d := Ch.ro 0 (Sl a87 x80.2.1 c88) x80.2.1) hR89 (fun _ h => h)
      clear hR89
      refine sq_g (v := (.agg #[(I x80.1), (Sl a87 x80.2.1 c88), (I x80.2.2)])) (congrArg some hb79) (rv_load Try.underlying34 rfl ti34 rfl hl85 hc86) (sq_g (v := (Sl Cp ((Cl.set Av.toNat (x1.1, x1.2.1, x1.2.2)).set Fh.toNat (x11.1, x11.2.1, x11.2.2)) Cq)) (congrArg some hb79) (rv_move rfl) (sq_g (v := (I Av)) (congrArg some hb79) (rv_move rfl) ?_))
      obtain ⟨x90, hx91, h'⟩ := bind_some h
      clear h
      have h := h'; clear h'
      obtain ⟨b93, o94, hi92, -⟩ := (H.own 1 rfl).ix hx91
      refine sq_g (v := (pt b93 o94)) (congrArg some hb79) (rv_ix Try.underlying23 ti34 rfl rfl hi92) ?_
      obtain ⟨_, ⟨_, _, rfl, rfl, ⟨_, _, rfl, ⟨_, rfl, hR99⟩, rfl⟩⟩, hl95, hc96⟩ := ((H.own 1 rfl).at hx91 hi92).cells
      obtain ⟨a97, c98, rfl⟩ := hR99.isSl
      replace H := H.add (d := Ch.ro 0 (Sl a97 x90.2.1 c98) x90.2.1) hR99 (fun _ h => h)
      clear hR99
      refine sq_g (v := (.agg #[(I x90.1), (Sl a97 x90.2.1 c98), (I x90.2.2)])) (congrArg some hb79) (rv_load Try.underlying34 rfl ti34 rfl hl95 hc96) (sq_end ?_)
      intro σ100 hm101
      replace H := H.grow (hm101.mono fun _ h => h); clear hm101
      obtain ⟨r102, hx103, h'⟩ := bind_some h
      clear h
      have h := h'; clear h'
      have hc104 := c_impl_sortByDistance_1__p3__p24 (Ag := a87) (Ah := c88) (Bv := a97) (Bw := c98) (By := Dk) (Bz := Dm) (Ca := Dn) (Cb := Do) (Cc := Dq) (Cf := Dt) (Cg := Du) (Ci := Dv) (Cj := Dw) (Ck := Dx) (Cd := Dr) (Ce := Ds) hx103
      refine st_call (cx_call hc104 (ent_v (cap := [(pt Dm Dn), (pt Du Dv)]) hc104.fn rfl rfl) hn0 (H.sel' [1, 0, 3, 5, 4, 0, 1, 2, 4] rfl rfl : Hp S0 σ0 _ ([_, _, _, _, _] ++ _))) (wanted_yes rfl (by exact (congrArg some hb79))) ?_
      rintro _ σ105 ⟨_, ⟨rfl, rfl⟩, H, -⟩
      replace H : Hp _ _ _ [_, _, _, _, _, _] := H
      refine st_g (v := (B (decide (r102 < 0)))) (congrArg some hb79) (rv_lss (a := r102) (b := 0) rfl rfl) (st_g (v := (B (!(decide (r102 < 0))))) (congrArg some hb79) (rv_not rfl) (st (v := (B (!(decide (r102 < 0))))) (rv_pick_t (congrArg B hb79) rfl) (w_end ?_)))
      obtain rfl := Option.some.inj h
      exact ⟨rfl, _, σ105, fr_join ⟨rfl, rfl, rfl, rfl, rfl, rfl, trivial⟩, rfl, H.sel' [4, 0, 5, 1] rfl rfl⟩
     ·replace h := bif_f hb79 h
      refine sq_skip (congrArg some hb79) (sq_skip (congrArg some hb79) (sq_skip (congrArg some hb79) (sq_skip (congrArg some hb79) (sq_skip (congrArg some hb79) (sq_skip (congrArg some hb79) (sq_skip (congrArg some hb79) (sq_skip (congrArg some hb79) (sq_skip (congrArg some hb79) (sq_end ?_)))))))))
      intro σ106 hm107
      replace H := H.grow (hm107.mono fun _ h => h); clear hm107
      refine st_skip (congrArg some hb79) (st_skip (congrArg some hb79) (st_skip (congrArg some hb79) (st (v := (B false)) (rv_pick_f (congrArg B hb79) rfl) (w_end ?_))))
      obtain rfl := Option.some.inj h
      exact ⟨rfl, _, σ106, fr_join ⟨rfl, rfl, rfl, rfl, rfl, rfl, trivial⟩, rfl, H.sel' [0, 1, 2, 3] rfl rfl⟩
    ·clear hj
     have h := h'
     clear h' H
     rintro e a w ⟨rfl, ρ, σ108, rfl, rfl, H⟩
     refine q_then ?_
     refine cd_cond o78 rfl (fun hb109 => ?_) (fun hb109 => ?_)
     ·replace h := bif_t hb109 h
      refine c_skip (q_then (c_blk (rg (st (v := (I s76)) (rv_move rfl) (st (v := (I (w64 (s76 - 1)))) (rv_sub (a := s76) (b := 1) rfl rfl) (st (v := (I (w64 (s76 - 1)))) (rv_assign rfl) (w_end (q_blk (q_then ?_)))))))))
      obtain rfl := Option.some.inj h
      exact ⟨_, rfl, _, σ108, fr_join ⟨rfl, rfl, rfl, rfl, rfl, trivial⟩, rfl, H.sel' [0, 1, 2, 3] rfl rfl⟩
     ·replace h := bif_f hb109 h
      refine c_exit (q_then_x (q_then_x (q_blk_hit ?_)))
      obtain rfl := Option.some.inj h
      obtain rfl := hres _ rfl
      exact ⟨rfl, _, σ108, fr_join ⟨rfl, rfl, rfl, rfl, rfl, trivial⟩, rfl, H.sel' [0, 1, 2, 3] rfl rfl⟩
   ·clear hj
    have h := h'
    clear h' H
    rintro e a w ⟨rfl, ρ, σ110, rfl, rfl, H⟩
    refine q_then (c_seq (c_seq (rg (st (v := (I o39)) (rv_move rfl) (st (v := (I o75)) (rv_move rfl) (st (v := (B (decide (o75 < o39)))) (rv_gtr (a := o39) (b := o75) rfl rfl) (w_end (q_then ?_))))))))
    refine cd_cond (decide (o75 < o39)) rfl (fun hb111 => ?_) (fun hb111 => ?_)
    ·replace h := bif_t hb111 h
     refine c_seq ?_
     obtain ⟨x112, hx113, h'⟩ := bind_some h
     clear h
     have h := h'; clear h'
     obtain ⟨b115, o116, hi114, -⟩ := (H.own 0 rfl).ix hx113
     obtain ⟨_, ⟨_, _, rfl, rfl, ⟨_, _, rfl, ⟨_, rfl, hR121⟩, rfl⟩⟩, hl117, hc118⟩ := ((H.own 0 rfl).at hx113 hi114).cells
     obtain ⟨a119, c120, rfl⟩ := hR121.isSl
     replace H := H.add (d := Ch.ro 0 (Sl a119 x112.2.1 c120) x112.2.1) hR121 (fun _ h => h)
     clear hR121
     obtain ⟨x122, hx123, h'⟩ := bind_some h
     clear h
     have h := h'; clear h'
     obtain ⟨b125, o126, hi124, -⟩ := (H.own 1 rfl).ix hx123
     obtain ⟨_, ⟨_, _, rfl, rfl, ⟨_, _, rfl, ⟨_, rfl, hR131⟩, rfl⟩⟩, hl127, hc128⟩ := ((H.own 1 rfl).at hx123 hi124).cells
     obtain ⟨a129, c130, rfl⟩ := hR131.isSl
     replace H := H.add (d := Ch.ro 0 (Sl a129 x122.2.1 c130) x122.2.1) hR131 (fun _ h => h)
     clear hR131
     obtain ⟨x132, hx133, h'⟩ := bind_some h
     clear h
     have h := h'; clear h'
     obtain ⟨b135, o136, hi134, -⟩ := (H.own 2 rfl).ix hx133
     have Hs := H
     refine rg2 (σ := σ110) (Nm := Unit) 14 [13] [[false], [true]] [[(0, 0)], [(0, 0)], [(0, 0), (1, 1)], [(0, 0), (1, 1)], [(0, 0)], [(0, 0)], [(0, 0)], [(0, 0)], [(0, 0)], [(0, 0)], [(0, 0)], [(0, 0)], [(0, 0)], [(0, 1)]] 1 [fun _ => fun σm => Hp S0 σ0 σm [Ch.ro 0 (Sl a129 x122.2.1 c130) x122.2.1, Ch.ro 0 (Sl a119 x112.2.1 c120) x112.2.1, Ch.own 0 0 (Sl Cp ((Cl.set Av.toNat (x1.1, x1.2.1, x1.2.2)).set Fh.toNat (x11.1, x11.2.1, x11.2.2)) Cq) ((Cl.set Av.toNat (x1.1, x1.2.1, x1.2.2)).set Fh.toNat (x11.1, x11.2.1, x11.2.2)), Ch.bx Dk Dm Dn [(I Di)] Do Dq, Ch.ro 0 (Sl Dr Dj Ds) Dj, Ch.bx Dt Du Dv [(Sl Dr Dj Ds)] Dw Dx] ∧ Md (cov []) σ110 σm, fun _ => fun σm => Hp S0 σ0 σm [Ch.own 0 0 (Sl Cp ((Cl.set Av.toNat (x1.1, x1.2.1, x1.2.2)).set Fh.toNat (x11.1, x11.2.1, x11.2.2)) Cq) (((Cl.set Av.toNat (x1.1, x1.2.1, x1.2.2)).set Fh.toNat (x11.1, x11.2.1, x11.2.2)).set o75.toNat (x112.1, x112.2.1, x112.2.2)), Ch.ro 0 (Sl a129 x122.2.1 c130) x122.2.1, Ch.ro 0 (Sl a119 x112.2.1 c120) x112.2.1, Ch.bx Dk Dm Dn [(I Di)] Do Dq, Ch.ro 0 (Sl Dr Dj Ds) Dj, Ch.bx Dt Du Dv [(Sl Dr Dj Ds)] Dw Dx] ∧ Md (fun i => (cov []) i ∨ (fun b => blk (Sl Cp ((Cl.set Av.toNat (x1.1, x1.2.1, x1.2.2)).set Fh.toNat (x11.1, x11.2.1, x11.2.2)) Cq) = some b) i) σ110 σm] [fun _ => (Sl Cp ((Cl.set Av.toNat (x1.1, x1.2.1, x1.2.2)).set Fh.toNat (x11.1, x11.2.1, x11.2.2)) Cq), fun _ => (I o75), fun _ => (Sl Cp ((Cl.set Av.toNat (x1.1, x1.2.1, x1.2.2)).set Fh.toNat (x11.1, x11.2.1, x11.2.2)) Cq), fun _ => (I Av), fun _ => (Sl Cp ((Cl.set Av.toNat (x1.1, x1.2.1, x1.2.2)).set Fh.toNat (x11.1, x11.2.1, x11.2.2)) Cq), fun _ => (I Av), fun _ => (pt b115 o116), fun _ => (.agg #[(I x112.1), (Sl a119 x112.2.1 c120), (I x112.2.2)]), fun _ => (Sl Cp ((Cl.set Av.toNat (x1.1, x1.2.1, x1.2.2)).set Fh.toNat (x11.1, x11.2.1, x11.2.2)) Cq), fun _ => (I o75), fun _ => (pt b125 o126), fun _ => (.agg #[(I x122.1), (Sl a129 x122.2.1 c130), (I x122.2.2)]), fun _ => (pt b135 o136), fun _ => undef] () (by kernel_rfl) (by kernel_rfl) ?_ ?_ ?_
     ·intro σm m0
      exact ⟨H.grow (m0.mono fun _ h => h.elim), m0⟩
     ·refine ac rfl (by
        intro k _nm ρ σm hJ hoff hdep
        have e0 := look_off (N := 178) (hoff 0 rfl) rfl
        exact dp_v (v := (Sl Cp ((Cl.set Av.toNat (x1.1, x1.2.1, x1.2.2)).set Fh.toNat (x11.1, x11.2.1, x11.2.2)) Cq)) wn (rv_move e0) rfl hJ) ?_
      refine ac rfl (by
        intro k _nm ρ σm hJ hoff hdep
        have e13 := look_off (N := 178) (hoff 13 rfl) rfl
        exact dp_v (v := (I o75)) wn (rv_move e13) rfl hJ) ?_
      refine ac rfl (by
        intro k _nm ρ σm hJ hoff hdep
        have e0 := look_off (N := 178) (hoff 0 rfl) rfl
        exact dp_v (v := (Sl Cp ((Cl.set Av.toNat (x1.1, x1.2.1, x1.2.2)).set Fh.toNat (x11.1, x11.2.1, x11.2.2)) Cq)) wn (rv_move e0) rfl hJ) ?_
      refine ac rfl (by
        intro k _nm ρ σm hJ hoff hdep
        have e1 := look_off (N := 178) (hoff 1 rfl) rfl
        exact dp_v (v := (I Av)) wn (rv_move e1) rfl hJ) ?_
      refine ac rfl (by
        intro k _nm ρ σm hJ hoff hdep
        have e0 := look_off (N := 178) (hoff 0 rfl) rfl
        exact dp_v (v := (Sl Cp ((Cl.set Av.toNat (x1.1, x1.2.1, x1.2.2)).set Fh.toNat (x11.1, x11.2.1, x11.2.2)) Cq)) wn (rv_move e0) rfl hJ) ?_
      refine ac rfl (by
        intro k _nm ρ σm hJ hoff hdep
        have e1 := look_off (N := 178) (hoff 1 rfl) rfl
        exact dp_v (v := (I Av)) wn (rv_move e1) rfl hJ) ?_
      refine ac rfl (by
        intro k _nm ρ σm hJ hoff hdep
        have e76 := hdep 4 rfl rfl 76 rfl
        have e77 := hdep 5 rfl rfl 77 rfl
        exact dp_v (v := (pt b115 o116)) wn (rv_ix Try.underlying23 ti34 e76 e77 hi114) rfl hJ) ?_
      refine all_cons (by
        refine ⟨?_, ?_⟩
        ·intro _nm ρ σm hJ hoff hdep
         have e78 := hdep 6 rfl rfl 78 rfl
         obtain ⟨H, m⟩ := id hJ
         replace hc118 := fun j hj => m.hcell (hc118 j hj) nocov
         exact dp_v (v := (.agg #[(I x112.1), (Sl a119 x112.2.1 c120), (I x112.2.2)])) wn (rv_load Try.underlying34 rfl ti34 e78 hl117 hc118) rfl hJ
        trivial) ?_
      refine ac rfl (by
        intro k _nm ρ σm hJ hoff hdep
        have e0 := look_off (N := 178) (hoff 0 rfl) rfl
        exact dp_v (v := (Sl Cp ((Cl.set Av.toNat (x1.1, x1.2.1, x1.2.2)).set Fh.toNat (x11.1, x11.2.1, x11.2.2)) Cq)) wn (rv_move e0) rfl hJ) ?_
      refine ac rfl (by
        intro k _nm ρ σm hJ hoff hdep
        have e13 := look_off (N := 178) (hoff 13 rfl) rfl
        exact dp_v (v := (I o75)) wn (rv_move e13) rfl hJ) ?_
      refine ac rfl (by
        intro k _nm ρ σm hJ hoff hdep
        have e80 := hdep 8 rfl rfl 80 rfl
        have e81 := hdep 9 rfl rfl 81 rfl
        exact dp_v (v := (pt b125 o126)) wn (rv_ix Try.underlying23 ti34 e80 e81 hi124) rfl hJ) ?_
      refine all_cons (by
        refine ⟨?_, ?_⟩
        ·intro _nm ρ σm hJ hoff hdep
         have e82 := hdep 10 rfl rfl 82 rfl
         obtain ⟨H, m⟩ := id hJ
         replace hc128 := fun j hj => m.hcell (hc128 j hj) nocov
         exact dp_v (v := (.agg #[(I x122.1), (Sl a129 x122.2.1 c130), (I x122.2.2)])) wn (rv_load Try.underlying34 rfl ti34 e82 hl127 hc128) rfl hJ
        trivial) ?_
      refine ac rfl (by
        intro k _nm ρ σm hJ hoff hdep
        have e72 := hdep 0 rfl rfl 72 rfl
        have e73 := hdep 1 rfl rfl 73 rfl
        exact dp_v (v := (pt b135 o136)) wn (rv_ix Try.underlying23 ti34 e72 e73 hi134) rfl hJ) ?_
      refine all_cons (by
        refine ⟨?_, ?_⟩
        ·intro _nm ρ σm hJ hoff hdep
         have e84 := hdep 12 rfl rfl 84 rfl
         have e79 := hdep 7 rfl rfl 79 rfl
         obtain ⟨H, m⟩ := id hJ
         refine dp_exS wn rfl (ex_store_own (e' := (x112.1, x112.2.1, x112.2.2)) (vs := [(I x112.1), (Sl a119 x112.2.1 c120), (I x112.2.2)]) (k := 0) H (i := 2) rfl ti34 hx133 hi134 e84 rfl e79 rfl rfl (Nat.le_of_ble_eq_true rfl) (by simp [plain]) (by rintro _ ⟨_, _, rfl, rfl, ⟨_, _, rfl, ⟨_, rfl, hR139⟩, rfl⟩⟩; exact ⟨[(I x112.1)], [(Sl a119 x112.2.1 c120), (I x112.2.2)], rfl, rfl, ⟨[(Sl a119 x112.2.1 c120)], [(I x112.2.2)], rfl, ⟨_, rfl, (H.ro 1 rfl)⟩, rfl⟩⟩)) ?_
         rintro σq ⟨H2, m2⟩
         exact ⟨_, (), rfl, ⟨H2.sel' [0, 1, 2, 3, 4, 5] rfl rfl, m.comp m2⟩, stab [0, 1, 2, 3, 4, 5, 6, 7, 8, 9, 10, 11, 12] (by kernel_rfl) ⟨rfl, rfl, rfl, rfl, rfl, rfl, rfl, rfl, rfl, rfl, rfl, rfl, rfl, trivial⟩⟩
        trivial) ?_
      exact all_nil
     ·intro _nm ρ σ140 hJ hoff hrel
      have e0 := look_off (N := 178) (hoff 0 rfl) rfl
      have e4 := look_off (N := 178) (hoff 4 rfl) rfl
      have e13 := look_off (N := 178) (hoff 13 rfl) rfl
      have e74 := hrel 2 rfl 74 rfl
      have e75 := hrel 3 rfl 75 rfl
      have e83 := hrel 11 rfl 83 rfl
      obtain ⟨H, -⟩ := (show Hp S0 σ0 σ140 [Ch.own 0 0 (Sl Cp ((Cl.set Av.toNat (x1.1, x1.2.1, x1.2.2)).set Fh.toNat (x11.1, x11.2.1, x11.2.2)) Cq) (((Cl.set Av.toNat (x1.1, x1.2.1, x1.2.2)).set Fh.toNat (x11.1, x11.2.1, x11.2.2)).set o75.toNat (x112.1, x112.2.1, x112.2.2)), Ch.ro 0 (Sl a129 x122.2.1 c130) x122.2.1, Ch.ro 0 (Sl a119 x112.2.1 c120) x112.2.1, Ch.bx Dk Dm Dn [(I Di)] Do Dq, Ch.ro 0 (Sl Dr Dj Ds) Dj, Ch.bx Dt Du Dv [(Sl Dr Dj Ds)] Dw Dx] ∧ Md (fun i => (cov []) i ∨ (fun b => blk (Sl Cp ((Cl.set Av.toNat (x1.1, x1.2.1, x1.2.2)).set Fh.toNat (x11.1, x11.2.1, x11.2.2)) Cq) = some b) i) σ110 σ140 from hJ)
      clear hJ Hs
      rw [fr_lookL (L := [(0, (Sl Cp ((Cl.set Av.toNat (x1.1, x1.2.1, x1.2.2)).set Fh.toNat (x11.1, x11.2.1, x11.2.2)) Cq)), (4, (.func (.func 88) #[] #[(pt Dm Dn), (pt Du Dv)])), (13, (I o75)), (74, (Sl Cp ((Cl.set Av.toNat (x1.1, x1.2.1, x1.2.2)).set Fh.toNat (x11.1, x11.2.1, x11.2.2)) Cq)), (75, (I Av)), (83, (.agg #[(I x122.1), (Sl a129 x122.2.1 c130), (I x122.2.2)]))]) ⟨e0, e4, e13, e74, e75, e83, trivial⟩]
      clear hoff hrel e0 e4 e13 e74 e75 e83
      have hsl : (Sl Cp ((Cl.set Av.toNat (x1.1, x1.2.1, x1.2.2)).set Fh.toNat (x11.1, x11.2.1, x11.2.2)) Cq) = (Sl Cp (((Cl.set Av.toNat (x1.1, x1.2.1, x1.2.2)).set Fh.toNat (x11.1, x11.2.1, x11.2.2)).set o75.toNat (x112.1, x112.2.1, x112.2.2)) Cq) := sl_len (by simp)
      rw [hsl]; rw [hsl] at H; clear hsl
      obtain ⟨x141, hx142, h'⟩ := bind_some h
      clear h
      have h := h'; clear h'
      obtain ⟨b144, o145, hi143, -⟩ := (H.own 0 rfl).ix hx142
      refine st (v := (pt b144 o145)) (rv_ix Try.underlying23 ti34 rfl rfl hi143) ?_
      refine st_exS (ex_store_own (e' := (x122.1, x122.2.1, x122.2.2)) (vs := [(I x122.1), (Sl a129 x122.2.1 c130), (I x122.2.2)]) (k := 0) H (i := 0) rfl ti34 hx142 hi143 rfl rfl rfl rfl rfl (Nat.le_of_ble_eq_true rfl) (by simp [plain]) (by rintro _ ⟨_, _, rfl, rfl, ⟨_, _, rfl, ⟨_, rfl, hR148⟩, rfl⟩⟩; exact ⟨[(I x122.1)], [(Sl a129 x122.2.1 c130), (I x122.2.2)], rfl, rfl, ⟨[(Sl a129 x122.2.1 c130)], [(I x122.2.2)], rfl, ⟨_, rfl, (H.ro 1 rfl)⟩, rfl⟩⟩)) wn ?_
      rintro σ149 ⟨H, -⟩
      have hsl : (Sl Cp (((Cl.set Av.toNat (x1.1, x1.2.1, x1.2.2)).set Fh.toNat (x11.1, x11.2.1, x11.2.2)).set o75.toNat (x112.1, x112.2.1, x112.2.2)) Cq) = (Sl Cp ((((Cl.set Av.toNat (x1.1, x1.2.1, x1.2.2)).set Fh.toNat (x11.1, x11.2.1, x11.2.2)).set o75.toNat (x112.1, x112.2.1, x112.2.2)).set Av.toNat (x122.1, x122.2.1, x122.2.2)) Cq) := sl_len List.length_set.symm
      rw [hsl]; rw [hsl] at H; clear hsl
      refine w_end (q_then (c_seq (rg (st (v := (I o75)) (rv_move rfl) (st (v := (I o75)) (rv_assign rfl) (st (v := (B true)) (rv_assign rfl) (w_end (q_then (c_ret (q_then_r ?_))))))))))
      obtain rfl := Option.some.inj h
      exact fin_ret (v := (.tuple #[(I o75), (B true)])) (results_ok Try.results119 (res_tmp (v := (I o75)) rfl (res_tmp (v := (B true)) rfl res_nil)) rfl) ⟨rfl, rfl, (List.length_set.trans (List.length_set.trans (List.length_set.trans List.length_set)))⟩ (H.sel' [0, 3, 5] rfl rfl)
    ·replace h := bif_f hb111 h
     refine c_skip (q_then (c_seq ?_))
     obtain ⟨x150, hx151, h'⟩ := bind_some h
     clear h
     have h := h'; clear h'
     obtain ⟨b153, o154, hi152, -⟩ := (H.own 0 rfl).ix hx151
     obtain ⟨_, ⟨_, _, rfl, rfl, ⟨_, _, rfl, ⟨_, rfl, hR159⟩, rfl⟩⟩, hl155, hc156⟩ := ((H.own 0 rfl).at hx151 hi152).cells
     obtain ⟨a157, c158, rfl⟩ := hR159.isSl
     replace H := H.add (d := Ch.ro 0 (Sl a157 x150.2.1 c158) x150.2.1) hR159 (fun _ h => h)
     clear hR159
     obtain ⟨x160, hx161, h'⟩ := bind_some h
     clear h
     have h := h'; clear h'
     obtain ⟨b163, o164, hi162, -⟩ := (H.own 1 rfl).ix hx161
     obtain ⟨_, ⟨_, _, rfl, rfl, ⟨_, _, rfl, ⟨_, rfl, hR169⟩, rfl⟩⟩, hl165, hc166⟩ := ((H.own 1 rfl).at hx161 hi162).cells
     obtain ⟨a167, c168, rfl⟩ := hR169.isSl
     replace H := H.add (d := Ch.ro 0 (Sl a167 x160.2.1 c168) x160.2.1) hR169 (fun _ h => h)
     clear hR169
     obtain ⟨x170, hx171, h'⟩ := bind_some h
     clear h
     have h := h'; clear h'
     obtain ⟨b173, o174, hi172, -⟩ := (H.own 2 rfl).ix hx171
     have Hs := H
     refine rg2 (σ := σ110) (Nm := Unit) 14 [13] [[false], [true]] [[(0, 0)], [(0, 0)], [(0, 0), (1, 1)], [(0, 0), (1, 1)], [(0, 0)], [(0, 0)], [(0, 0)], [(0, 0)], [(0, 0)], [(0, 0)], [(0, 0)], [(0, 0)], [(0, 0)], [(0, 1)]] 1 [fun _ => fun σm => Hp S0 σ0 σm [Ch.ro 0 (Sl a167 x160.2.1 c168) x160.2.1, Ch.ro 0 (Sl a157 x150.2.1 c158) x150.2.1, Ch.own 0 0 (Sl Cp ((Cl.set Av.toNat (x1.1, x1.2.1, x1.2.2)).set Fh.toNat (x11.1, x11.2.1, x11.2.2)) Cq) ((Cl.set Av.toNat (x1.1, x1.2.1, x1.2.2)).set Fh.toNat (x11.1, x11.2.1, x11.2.2)), Ch.bx Dk Dm Dn [(I Di)] Do Dq, Ch.ro 0 (Sl Dr Dj Ds) Dj, Ch.bx Dt Du Dv [(Sl Dr Dj Ds)] Dw Dx] ∧ Md (cov []) σ110 σm, fun _ => fun σm => Hp S0 σ0 σm [Ch.own 0 0 (Sl Cp ((Cl.set Av.toNat (x1.1, x1.2.1, x1.2.2)).set Fh.toNat (x11.1, x11.2.1, x11.2.2)) Cq) (((Cl.set Av.toNat (x1.1, x1.2.1, x1.2.2)).set Fh.toNat (x11.1, x11.2.1, x11.2.2)).set o39.toNat (x150.1, x150.2.1, x150.2.2)), Ch.ro 0 (Sl a167 x160.2.1 c168) x160.2.1, Ch.ro 0 (Sl a157 x150.2.1 c158) x150.2.1, Ch.bx Dk Dm Dn [(I Di)] Do Dq, Ch.ro 0 (Sl Dr Dj Ds) Dj, Ch.bx Dt Du Dv [(Sl Dr Dj Ds)] Dw Dx] ∧ Md (fun i => (cov []) i ∨ (fun b => blk (Sl Cp ((Cl.set Av.toNat (x1.1, x1.2.1, x1.2.2)).set Fh.toNat (x11.1, x11.2.1, x11.2.2)) Cq) = some b) i) σ110 σm] [fun _ => (Sl Cp ((Cl.set Av.toNat (x1.1, x1.2.1, x1.2.2)).set Fh.toNat (x11.1, x11.2.1, x11.2.2)) Cq), fun _ => (I o39), fun _ => (Sl Cp ((Cl.set Av.toNat (x1.1, x1.2.1, x1.2.2)).set Fh.toNat (x11.1, x11.2.1, x11.2.2)) Cq), fun _ => (I o75), fun _ => (Sl Cp ((Cl.set Av.toNat (x1.1, x1.2.1, x1.2.2)).set Fh.toNat (x11.1, x11.2.1, x11.2.2)) Cq), fun _ => (I o75), fun _ => (pt b153 o154), fun _ => (.agg #[(I x150.1), (Sl a157 x150.2.1 c158), (I x150.2.2)]), fun _ => (Sl Cp ((Cl.set Av.toNat (x1.1, x1.2.1, x1.2.2)).set Fh.toNat (x11.1, x11.2.1, x11.2.2)) Cq), fun _ => (I o39), fun _ => (pt b163 o164), fun _ => (.agg #[(I x160.1), (Sl a167 x160.2.1 c168), (I x160.2.2)]), fun _ => (pt b173 o174), fun _ => undef] () (by kernel_rfl) (by kernel_rfl) ?_ ?_ ?_
     ·intro σm m0
      exact ⟨H.grow (m0.mono fun _ h => h.elim), m0⟩
     ·refine ac rfl (by
        intro k _nm ρ σm hJ hoff hdep
        have e0 := look_off (N := 178) (hoff 0 rfl) rfl
        exact dp_v (v := (Sl Cp ((Cl.set Av.toNat (x1.1, x1.2.1, x1.2.2)).set Fh.toNat (x11.1, x11.2.1, x11.2.2)) Cq)) wn (rv_move e0) rfl hJ) ?_
      refine ac rfl (by
        intro k _nm ρ σm hJ hoff hdep
        have e12 := look_off (N := 178) (hoff 12 rfl) rfl
        exact dp_v (v := (I o39)) wn (rv_move e12) rfl hJ) ?_
      refine ac rfl (by
        intro k _nm ρ σm hJ hoff hdep
        have e0 := look_off (N := 178) (hoff 0 rfl) rfl
        exact dp_v (v := (Sl Cp ((Cl.set Av.toNat (x1.1, x1.2.1, x1.2.2)).set Fh.toNat (x11.1, x11.2.1, x11.2.2)) Cq)) wn (rv_move e0) rfl hJ) ?_
      refine ac rfl (by
        intro k _nm ρ σm hJ hoff hdep
        have e13 := look_off (N := 178) (hoff 13 rfl) rfl
        exact dp_v (v := (I o75)) wn (rv_move e13) rfl hJ) ?_
      refine ac rfl (by
        intro k _nm ρ σm hJ hoff hdep
        have e0 := look_off (N := 178) (hoff 0 rfl) rfl
        exact dp_v (v := (Sl Cp ((Cl.set Av.toNat (x1.1, x1.2.1, x1.2.2)).set Fh.toNat (x11.1, x11.2.1, x11.2.2)) Cq)) wn (rv_move e0) rfl hJ) ?_
      refine ac rfl (by
        intro k _nm ρ σm hJ hoff hdep
        have e13 := look_off (N := 178) (hoff 13 rfl) rfl
        exact dp_v (v := (I o75)) wn (rv_move e13) rfl hJ) ?_
      refine ac rfl (by
        intro k _nm ρ σm hJ hoff hdep
        have e91 := hdep 4 rfl rfl 91 rfl
        have e92 := hdep 5 rfl rfl 92 rfl
        exact dp_v (v := (pt b153 o154)) wn (rv_ix Try.underlying23 ti34 e91 e92 hi152) rfl hJ) ?_
      refine all_cons (by
        refine ⟨?_, ?_⟩
        ·intro _nm ρ σm hJ hoff hdep
         have e93 := hdep 6 rfl rfl 93 rfl
         obtain ⟨H, m⟩ := id hJ
         replace hc156 := fun j hj => m.hcell (hc156 j hj) nocov
         exact dp_v (v := (.agg #[(I x150.1), (Sl a157 x150.2.1 c158), (I x150.2.2)])) wn (rv_load Try.underlying34 rfl ti34 e93 hl155 hc156) rfl hJ
        trivial) ?_
      refine ac rfl (by
        intro k _nm ρ σm hJ hoff hdep
        have e0 := look_off (N := 178) (hoff 0 rfl) rfl
        exact dp_v (v := (Sl Cp ((Cl.set Av.toNat (x1.1, x1.2.1, x1.2.2)).set Fh.toNat (x11.1, x11.2.1, x11.2.2)) Cq)) wn (rv_move e0) rfl hJ) ?_
      refine ac rfl (by
        intro k _nm ρ σm hJ hoff hdep
        have e12 := look_off (N := 178) (hoff 12 rfl) rfl
        exact dp_v (v := (I o39)) wn (rv_move e12) rfl hJ) ?_
      refine ac rfl (by
        intro k _nm ρ σm hJ hoff hdep
        have e95 := hdep 8 rfl rfl 95 rfl
        have e96 := hdep 9 rfl rfl 96 rfl
        exact dp_v (v := (pt b163 o164)) wn (rv_ix Try.underlying23 ti34 e95 e96 hi162) rfl hJ) ?_
      refine all_cons (by
        refine ⟨?_, ?_⟩
        ·intro _nm ρ σm hJ hoff hdep
         have e97 := hdep 10 rfl rfl 97 rfl
         obtain ⟨H, m⟩ := id hJ
         replace hc166 := fun j hj => m.hcell (hc166 j hj) nocov
         exact dp_v (v := (.agg #[(I x160.1), (Sl a167 x160.2.1 c168), (I x160.2.2)])) wn (rv_load Try.underlying34 rfl ti34 e97 hl165 hc166) rfl hJ
        trivial) ?_
      refine ac rfl (by
        intro k _nm ρ σm hJ hoff hdep
        have e87 := hdep 0 rfl rfl 87 rfl
        have e88 := hdep 1 rfl rfl 88 rfl
        exact dp_v (v := (pt b173 o174)) wn (rv_ix Try.underlying23 ti34 e87 e88 hi172) rfl hJ) ?_
      refine all_cons (by
        refine ⟨?_, ?_⟩
        ·intro _nm ρ σm hJ hoff hdep
         have e99 := hdep 12 rfl rfl 99 rfl
         have e94 := hdep 7 rfl rfl 94 rfl
         obtain ⟨H, m⟩ := id hJ
         refine dp_exS wn rfl (ex_store_own (e' := (x150.1, x150.2.1, x150.2.2)) (vs := [(I x150.1), (Sl a157 x150.2.1 c158), (I x150.2.2)]) (k := 0) H (i := 2) rfl ti34 hx171 hi172 e99 rfl e94 rfl rfl (Nat.le_of_ble_eq_true rfl) (by simp [plain]) (by rintro _ ⟨_, _, rfl, rfl, ⟨_, _, rfl, ⟨_, rfl, hR177⟩, rfl⟩⟩; exact ⟨[(I x150.1)], [(Sl a157 x150.2.1 c158), (I x150.2.2)], rfl, rfl, ⟨[(Sl a157 x150.2.1 c158)], [(I x150.2.2)], rfl, ⟨_, rfl, (H.ro 1 rfl)⟩, rfl⟩⟩)) ?_
         rintro σq ⟨H2, m2⟩
         exact ⟨_, (), rfl, ⟨H2.sel' [0, 1, 2, 3, 4, 5] rfl rfl, m.comp m2⟩, stab [0, 1, 2, 3, 4, 5, 6, 7, 8, 9, 10, 11, 12] (by kernel_rfl) ⟨rfl, rfl, rfl, rfl, rfl, rfl, rfl, rfl, rfl, rfl, rfl, rfl, rfl, trivial⟩⟩
        trivial) ?_
      exact all_nil
     ·intro _nm ρ σ178 hJ hoff hrel
      have e0 := look_off (N := 178) (hoff 0 rfl) rfl
      have e1 := look_off (N := 178) (hoff 1 rfl) rfl
      have e4 := look_off (N := 178) (hoff 4 rfl) rfl
      have e12 := look_off (N := 178) (hoff 12 rfl) rfl
      have e13 := look_off (N := 178) (hoff 13 rfl) rfl
      have e89 := hrel 2 rfl 89 rfl
      have e90 := hrel 3 rfl 90 rfl
      have e98 := hrel 11 rfl 98 rfl
      obtain ⟨H, -⟩ := (show Hp S0 σ0 σ178 [Ch.own 0 0 (Sl Cp ((Cl.set Av.toNat (x1.1, x1.2.1, x1.2.2)).set Fh.toNat (x11.1, x11.2.1, x11.2.2)) Cq) (((Cl.set Av.toNat (x1.1, x1.2.1, x1.2.2)).set Fh.toNat (x11.1, x11.2.1, x11.2.2)).set o39.toNat (x150.1, x150.2.1, x150.2.2)), Ch.ro 0 (Sl a167 x160.2.1 c168) x160.2.1, Ch.ro 0 (Sl a157 x150.2.1 c158) x150.2.1, Ch.bx Dk Dm Dn [(I Di)] Do Dq, Ch.ro 0 (Sl Dr Dj Ds) Dj, Ch.bx Dt Du Dv [(Sl Dr Dj Ds)] Dw Dx] ∧ Md (fun i => (cov []) i ∨ (fun b => blk (Sl Cp ((Cl.set Av.toNat (x1.1, x1.2.1, x1.2.2)).set Fh.toNat (x11.1, x11.2.1, x11.2.2)) Cq) = some b) i) σ110 σ178 from hJ)
      clear hJ Hs
      rw [fr_lookL (L := [(0, (Sl Cp ((Cl.set Av.toNat (x1.1, x1.2.1, x1.2.2)).set Fh.toNat (x11.1, x11.2.1, x11.2.2)) Cq)), (1, (I Av)), (4, (.func (.func 88) #[] #[(pt Dm Dn), (pt Du Dv)])), (12, (I o39)), (13, (I o75)), (89, (Sl Cp ((Cl.set Av.toNat (x1.1, x1.2.1, x1.2.2)).set Fh.toNat (x11.1, x11.2.1, x11.2.2)) Cq)), (90, (I o75)), (98, (.agg #[(I x160.1), (Sl a167 x160.2.1 c168), (I x160.2.2)]))]) ⟨e0, e1, e4, e12, e13, e89, e90, e98, trivial⟩]
      clear hoff hrel e0 e1 e4 e12 e13 e89 e90 e98
      have hsl : (Sl Cp ((Cl.set Av.toNat (x1.1, x1.2.1, x1.2.2)).set Fh.toNat (x11.1, x11.2.1, x11.2.2)) Cq) = (Sl Cp (((Cl.set Av.toNat (x1.1, x1.2.1, x1.2.2)).set Fh.toNat (x11.1, x11.2.1, x11.2.2)).set o39.toNat (x150.1, x150.2.1, x150.2.2)) Cq) := sl_len (by simp)
      rw [hsl]; rw [hsl] at H; clear hsl
      obtain ⟨x179, hx180, h'⟩ := bind_some h
      clear h
      have h := h'; clear h'
      obtain ⟨b182, o183, hi181, -⟩ := (H.own 0 rfl).ix hx180
      refine st (v := (pt b182 o183)) (rv_ix Try.underlying23 ti34 rfl rfl hi181) ?_
      refine st_exS (ex_store_own (e' := (x160.1, x160.2.1, x160.2.2)) (vs := [(I x160.1), (Sl a167 x160.2.1 c168), (I x160.2.2)]) (k := 0) H (i := 0) rfl ti34 hx180 hi181 rfl rfl rfl rfl rfl (Nat.le_of_ble_eq_true rfl) (by simp [plain]) (by rintro _ ⟨_, _, rfl, rfl, ⟨_, _, rfl, ⟨_, rfl, hR186⟩, rfl⟩⟩; exact ⟨[(I x160.1)], [(Sl a167 x160.2.1 c168), (I x160.2.2)], rfl, rfl, ⟨[(Sl a167 x160.2.1 c168)], [(I x160.2.2)], rfl, ⟨_, rfl, (H.ro 1 rfl)⟩, rfl⟩⟩)) wn ?_
      rintro σ187 ⟨H, -⟩
      have hsl : (Sl Cp (((Cl.set Av.toNat (x1.1, x1.2.1, x1.2.2)).set Fh.toNat (x11.1, x11.2.1, x11.2.2)).set o39.toNat (x150.1, x150.2.1, x150.2.2)) Cq) = (Sl Cp ((((Cl.set Av.toNat (x1.1, x1.2.1, x1.2.2)).set Fh.toNat (x11.1, x11.2.1, x11.2.2)).set o39.toNat (x150.1, x150.2.1, x150.2.2)).set o75.toNat (x160.1, x160.2.1, x160.2.2)) Cq) := sl_len List.length_set.symm
      rw [hsl]; rw [hsl] at H; clear hsl
      refine w_end (q_then (c_seq (rg (st (v := (I o39)) (rv_move rfl) (st (v := (I (w64 (o39 + 1)))) (rv_add (a := o39) (b := 1) rfl rfl) (st (v := (I (w64 (o39 + 1)))) (rv_assign rfl) (w_end (q_then (c_seq (rg (st (v := (I o75)) (rv_move rfl) ?_)))))))))))
      refine st (v := (I (w64 (o75 - 1)))) (rv_sub (a := o75) (b := 1) rfl rfl) (st (v := (I (w64 (o75 - 1)))) (rv_assign rfl) (w_end (q_then (c_seq ?_))))
      obtain ⟨o188, hj, h'⟩ := bind_some h
      clear h
      refine c_cut (fun e a w => e = .normal ∧ ∃ (ρ : Nat → Value) (σ : St), a = fr 178 (updL ρ [(0, (Sl Cp o188.1 Cq)), (1, (I Av)), (4, (.func (.func 88) #[] #[(pt Dm Dn), (pt Du Dv)])), (13, (I o188.2))]) ∧ w = σ.w ∧ Hp S0 σ0 σ [Ch.own 0 0 (Sl Cp o188.1 Cq) o188.1, Ch.bx Dk Dm Dn [(I Di)] Do Dq, Ch.ro 0 (Sl Dr Dj Ds) Dj, Ch.bx Dt Du Dv [(Sl Dr Dj Ds)] Dw Dx] ∧ o188.1.length = ((((Cl.set Av.toNat (x1.1, x1.2.1, x1.2.2)).set Fh.toNat (x11.1, x11.2.1, x11.2.2)).set o39.toNat (x150.1, x150.2.1, x150.2.2)).set o75.toNat (x160.1, x160.2.1, x160.2.2)).length) ?_ ?_
      ·clear h'
       rename _ = some o188 => h
       refine c_blk (wp_loopM _ h (fun s189 a w => ∃ (ρ : Nat → Value) (σ : St), a = fr 178 (updL ρ [(0, (Sl Cp s189.1 Cq)), (1, (I Av)), (4, (.func (.func 88) #[] #[(pt Dm Dn), (pt Du Dv)])), (12, (I s189.2.1)), (13, (I s189.2.2))]) ∧ w = σ.w ∧ Hp S0 σ0 σ [Ch.own 0 0 (Sl Cp s189.1 Cq) s189.1, Ch.bx Dk Dm Dn [(I Di)] Do Dq, Ch.ro 0 (Sl Dr Dj Ds) Dj, Ch.bx Dt Du Dv [(Sl Dr Dj Ds)] Dw Dx] ∧ s189.1.length = ((((Cl.set Av.toNat (x1.1, x1.2.1, x1.2.2)).set Fh.toNat (x11.1, x11.2.1, x11.2.2)).set o39.toNat (x150.1, x150.2.1, x150.2.2)).set o75.toNat (x160.1, x160.2.1, x160.2.2)).length) ⟨_, σ187, fr_join ⟨rfl, rfl, rfl, rfl, rfl, trivial⟩, rfl, H.sel' [0, 3, 4, 5] rfl rfl, rfl⟩ ?_)
       clear h H
       rintro s189 a w o ⟨ρ, σ190, rfl, rfl, H, hn191⟩ h hres
       refine c_blk (c_seq ?_)
       obtain ⟨o192, hj, h'⟩ := bind_some h
       clear h
       refine c_cut (fun e a w => e = .normal ∧ ∃ (ρ : Nat → Value) (σ : St), a = fr 178 (updL ρ [(0, (Sl Cp s189.1 Cq)), (1, (I Av)), (4, (.func (.func 88) #[] #[(pt Dm Dn), (pt Du Dv)])), (12, (I o192)), (13, (I s189.2.2))]) ∧ w = σ.w ∧ Hp S0 σ0 σ [Ch.own 0 0 (Sl Cp s189.1 Cq) s189.1, Ch.bx Dk Dm Dn [(I Di)] Do Dq, Ch.ro 0 (Sl Dr Dj Ds) Dj, Ch.bx Dt Du Dv [(Sl Dr Dj Ds)] Dw Dx]) ?_ ?_
       ·clear h'
        rename _ = some o192 => h
        refine c_blk (wp_loopM _ h (fun s193 a w => ∃ (ρ : Nat → Value) (σ : St), a = fr 178 (updL ρ [(0, (Sl Cp s189.1 Cq)), (1, (I Av)), (4, (.func (.func 88) #[] #[(pt Dm Dn), (pt Du Dv)])), (12, (I s193)), (13, (I s189.2.2))]) ∧ w = σ.w ∧ Hp S0 σ0 σ [Ch.own 0 0 (Sl Cp s189.1 Cq) s189.1, Ch.bx Dk Dm Dn [(I Di)] Do Dq, Ch.ro 0 (Sl Dr Dj Ds) Dj, Ch.bx Dt Du Dv [(Sl Dr Dj Ds)] Dw Dx]) ⟨_, σ190, fr_join ⟨rfl, rfl, rfl, rfl, rfl, trivial⟩, rfl, H.sel' [0, 1, 2, 3] rfl rfl⟩ ?_)
        clear h H
        rintro s193 a w o ⟨ρ, σ194, rfl, rfl, H⟩ h hres
        refine c_seq (c_seq ?_)
        obtain ⟨o195, hj, h'⟩ := bind_some h
        clear h
        refine c_cut (fun e a w => e = .normal ∧ ∃ (ρ : Nat → Value) (σ : St), a = fr 178 (updL ρ [(0, (Sl Cp s189.1 Cq)), (1, (I Av)), (4, (.func (.func 88) #[] #[(pt Dm Dn), (pt Du Dv)])), (12, (I s193)), (13, (I s189.2.2)), (120, (B o195))]) ∧ w = σ.w ∧ Hp S0 σ0 σ [Ch.own 0 0 (Sl Cp s189.1 Cq) s189.1, Ch.bx Dk Dm Dn [(I Di)] Do Dq, Ch.ro 0 (Sl Dr Dj Ds) Dj, Ch.bx Dt Du Dv [(Sl Dr Dj Ds)] Dw Dx]) ?_ ?_
        ·clear h'
         rename _ = some o195 => h
         refine rgP (σ := σ194) 13 (by kernel_rfl) (by kernel_rfl) (by kernel_rfl) ?_
         refine sq (v := (I s193)) (rv_move rfl) (sq (v := (I s189.2.2)) (rv_move rfl) (sq (v := (B (decide (s193 ≤ s189.2.2)))) (rv_leq (a := s193) (b := s189.2.2) rfl rfl) (sq (v := (B (decide (s193 ≤ s189.2.2)))) (rv_move rfl) ?_)))
         rcases Bool.eq_false_or_eq_true (decide (s193 ≤ s189.2.2)) with hb196 | hb196
         ·replace h := bif_t hb196 h
          refine sq_g (v := (.func (.func 88) #[] #[(pt Dm Dn), (pt Du Dv)])) (congrArg some hb196) (rv_move rfl) (sq_g (v := (Sl Cp s189.1 Cq)) (congrArg some hb196) (rv_move rfl) (sq_g (v := (I s193)) (congrArg some hb196) (rv_move rfl) ?_))
          obtain ⟨x197, hx198, h'⟩ := bind_some h
          clear h
          have h := h'; clear h'
          obtain ⟨b200, o201, hi199, -⟩ := (H.own 0 rfl).ix hx198
          refine sq_g (v := (pt b200 o201)) (congrArg some hb196) (rv_ix Try.underlying23 ti34 rfl rfl hi199) ?_
          obtain ⟨_, ⟨_, _, rfl, rfl, ⟨_, _, rfl, ⟨_, rfl, hR206⟩, rfl⟩⟩, hl202, hc203⟩ := ((H.own 0 rfl).at hx198 hi199).cells
          obtain ⟨a204, c205, rfl⟩ := hR206.isSl
          replace H := H.add (d := Ch.ro 0 (Sl a204 x197.2.1 c205) x197.2.1) hR206 (fun _ h => h)
          clear hR206
          refine sq_g (v := (.agg #[(I x197.1), (Sl a204 x197.2.1 c205), (I x197.2.2)])) (congrArg some hb196) (rv_load Try.underlying34 rfl ti34 rfl hl202 hc203) (sq_g (v := (Sl Cp s189.1 Cq)) (congrArg some hb196) (rv_move rfl) (sq_g (v := (I Av)) (congrArg some hb196) (rv_move rfl) ?_))
          obtain ⟨x207, hx208, h'⟩ := bind_some h
          clear h
          have h := h'; clear h'
          obtain ⟨b210, o211, hi209, -⟩ := (H.own 1 rfl).ix hx208
          refine sq_g (v := (pt b210 o211)) (congrArg some hb196) (rv_ix Try.underlying23 ti34 rfl rfl hi209) ?_
          obtain ⟨_, ⟨_, _, rfl, rfl, ⟨_, _, rfl, ⟨_, rfl, hR216⟩, rfl⟩⟩, hl212, hc213⟩ := ((H.own 1 rfl).at hx208 hi209).cells
          obtain ⟨a214, c215, rfl⟩ := hR216.isSl
          replace H := H.add (d := Ch.ro 0 (Sl a214 x207.2.1 c215) x207.2.1) hR216 (fun _ h => h)
          clear hR216
          refine sq_g (v := (.agg #[(I x207.1), (Sl a214 x207.2.1 c215), (I x207.2.2)])) (congrArg some hb196) (rv_load Try.underlying34 rfl ti34 rfl hl212 hc213) (sq_end ?_)
          intro σ217 hm218
          replace H := H.grow (hm218.mono fun _ h => h); clear hm218
          obtain ⟨r219, hx220, h'⟩ := bind_some h
          clear h
          have h := h'; clear h'
          have hc221 := c_impl_sortByDistance_1__p3__p24 (Ag := a204) (Ah := c205) (Bv := a214) (Bw := c215) (By := Dk) (Bz := Dm) (Ca := Dn) (Cb := Do) (Cc := Dq) (Cf := Dt) (Cg := Du) (Ci := Dv) (Cj := Dw) (Ck := Dx) (Cd := Dr) (Ce := Ds) hx220
          refine st_call (cx_call hc221 (ent_v (cap := [(pt Dm Dn), (pt Du Dv)]) hc221.fn rfl rfl) hn0 (H.sel' [1, 0, 3, 5, 4, 0, 1, 2, 4] rfl rfl : Hp S0 σ0 _ ([_, _, _, _, _] ++ _))) (wanted_yes rfl (by exact (congrArg some hb196))) ?_
          rintro _ σ222 ⟨_, ⟨rfl, rfl⟩, H, -⟩
          replace H : Hp _ _ _ [_, _, _, _, _, _] := H
          refine st_g (v := (B (decide (r219 < 0)))) (congrArg some hb196) (rv_lss (a := r219) (b := 0) rfl rfl) (st (v := (B (decide (r219 < 0)))) (rv_pick_t (congrArg B hb196) rfl) (w_end ?_))
          obtain rfl := Option.some.inj h
          exact ⟨rfl, _, σ222, fr_join ⟨rfl, rfl, rfl, rfl, rfl, rfl, trivial⟩, rfl, H.sel' [4, 0, 5, 1] rfl rfl⟩
         ·replace h := bif_f hb196 h
          refine sq_skip (congrArg some hb196) (sq_skip (congrArg some hb196) (sq_skip (congrArg some hb196) (sq_skip (congrArg some hb196) (sq_skip (congrArg some hb196) (sq_skip (congrArg some hb196) (sq_skip (congrArg some hb196) (sq_skip (congrArg some hb196) (sq_skip (congrArg some hb196) (sq_end ?_)))))))))
          intro σ223 hm224
          replace H := H.grow (hm224.mono fun _ h => h); clear hm224
          refine st_skip (congrArg some hb196) (st_skip (congrArg some hb196) (st (v := (B false)) (rv_pick_f (congrArg B hb196) rfl) (w_end ?_)))
          obtain rfl := Option.some.inj h
          exact ⟨rfl, _, σ223, fr_join ⟨rfl, rfl, rfl, rfl, rfl, rfl, trivial⟩, rfl, H.sel' [0, 1, 2, 3] rfl rfl⟩
        ·clear hj
         have h := h'
         clear h' H
         rintro e a w ⟨rfl, ρ, σ225, rfl, rfl, H⟩
         refine q_then ?_
         refine cd_cond o195 rfl (fun hb226 => ?_) (fun hb226 => ?_)
         ·replace h := bif_t hb226 h
          refine c_skip (q_then (c_blk (rg (st (v := (I s193)) (rv_move rfl) (st (v := (I (w64 (s193 + 1)))) (rv_add (a := s193) (b := 1) rfl rfl) (st (v := (I (w64 (s193 + 1)))) (rv_assign rfl) (w_end (q_blk (q_then ?_)))))))))
          obtain rfl := Option.some.inj h
          exact ⟨_, rfl, _, σ225, fr_join ⟨rfl, rfl, rfl, rfl, rfl, trivial⟩, rfl, H.sel' [0, 1, 2, 3] rfl rfl⟩
         ·replace h := bif_f hb226 h
          refine c_exit (q_then_x (q_then_x (q_blk_hit ?_)))
          obtain rfl := Option.some.inj h
          obtain rfl := hres _ rfl
          exact ⟨rfl, _, σ225, fr_join ⟨rfl, rfl, rfl, rfl, rfl, trivial⟩, rfl, H.sel' [0, 1, 2, 3] rfl rfl⟩
       ·clear hj
        have h := h'
        clear h' H
        rintro e a w ⟨rfl, ρ, σ227, rfl, rfl, H⟩
        refine q_then (c_seq ?_)
        obtain ⟨o228, hj, h'⟩ := bind_some h
        clear h
        refine c_cut (fun e a w => e = .normal ∧ ∃ (ρ : Nat → Value) (σ : St), a = fr 178 (updL ρ [(0, (Sl Cp s189.1 Cq)), (1, (I Av)), (4, (.func (.func 88) #[] #[(pt Dm Dn), (pt Du Dv)])), (12, (I o192)), (13, (I o228))]) ∧ w = σ.w ∧ Hp S0 σ0 σ [Ch.own 0 0 (Sl Cp s189.1 Cq) s189.1, Ch.bx Dk Dm Dn [(I Di)] Do Dq, Ch.ro 0 (Sl Dr Dj Ds) Dj, Ch.bx Dt Du Dv [(Sl Dr Dj Ds)] Dw Dx]) ?_ ?_
        ·clear h'
         rename _ = some o228 => h
         refine c_blk (wp_loopM _ h (fun s229 a w => ∃ (ρ : Nat → Value) (σ : St), a = fr 178 (updL ρ [(0, (Sl Cp s189.1 Cq)), (1, (I Av)), (4, (.func (.func 88) #[] #[(pt Dm Dn), (pt Du Dv)])), (12, (I o192)), (13, (I s229))]) ∧ w = σ.w ∧ Hp S0 σ0 σ [Ch.own 0 0 (Sl Cp s189.1 Cq) s189.1, Ch.bx Dk Dm Dn [(I Di)] Do Dq, Ch.ro 0 (Sl Dr Dj Ds) Dj, Ch.bx Dt Du Dv [(Sl Dr Dj Ds)] Dw Dx]) ⟨_, σ227, fr_join ⟨rfl, rfl, rfl, rfl, rfl, trivial⟩, rfl, H.sel' [0, 1, 2, 3] rfl rfl⟩ ?_)
         clear h H
         rintro s229 a w o ⟨ρ, σ230, rfl, rfl, H⟩ h hres
         refine c_seq (c_seq ?_)
         obtain ⟨o231, hj, h'⟩ := bind_some h
         clear h
         refine c_cut (fun e a w => e = .normal ∧ ∃ (ρ : Nat → Value) (σ : St), a = fr 178 (updL ρ [(0, (Sl Cp s189.1 Cq)), (1, (I Av)), (4, (.func (.func 88) #[] #[(pt Dm Dn), (pt Du Dv)])), (12, (I o192)), (13, (I s229)), (139, (B o231))]) ∧ w = σ.w ∧ Hp S0 σ0 σ [Ch.own 0 0 (Sl Cp s189.1 Cq) s189.1, Ch.bx Dk Dm Dn [(I Di)] Do Dq, Ch.ro 0 (Sl Dr Dj Ds) Dj, Ch.bx Dt Du Dv [(Sl Dr Dj Ds)] Dw Dx]) ?_ ?_
         ·clear h'
          rename _ = some o231 => h
          refine rgP (σ := σ230) 13 (by kernel_rfl) (by kernel_rfl) (by kernel_rfl) ?_
          refine sq (v := (I o192)) (rv_move rfl) (sq (v := (I s229)) (rv_move rfl) (sq (v := (B (decide (o192 ≤ s229)))) (rv_leq (a := o192) (b := s229) rfl rfl) (sq (v := (B (decide (o192 ≤ s229)))) (rv_move rfl) ?_)))
          rcases Bool.eq_false_or_eq_true (decide (o192 ≤ s229)) with hb232 | hb232
          ·replace h := bif_t hb232 h
           refine sq_g (v := (.func (.func 88) #[] #[(pt Dm Dn), (pt Du Dv)])) (congrArg some hb232) (rv_move rfl) (sq_g (v := (Sl Cp s189.1 Cq)) (congrArg some hb232) (rv_move rfl) (sq_g (v := (I s229)) (congrArg some hb232) (rv_move rfl) ?_))
           obtain ⟨x233, hx234, h'⟩ := bind_some h
           clear h
           have h := h'; clear h'
           obtain ⟨b236, o237, hi235, -⟩ := (H.own 0 rfl).ix hx234
           refine sq_g (v := (pt b236 o237)) (congrArg some hb232) (rv_ix Try.underlying23 ti34 rfl rfl hi235) ?_
           obtain ⟨_, ⟨_, _, rfl, rfl, ⟨_, _, rfl, ⟨_, rfl, hR242⟩, rfl⟩⟩, hl238, hc239⟩ := ((H.own 0 rfl).at hx234 hi235).cells
           obtain ⟨a240, c241, rfl⟩ := hR242.isSl
           replace H := H.add (d := Ch.ro 0 (Sl a240 x233.2.1 c241) x233.2.1) hR242 (fun _ h => h)
           clear hR242
           refine sq_g (v := (.agg #[(I x233.1), (Sl a240 x233.2.1 c241), (I x233.2.2)])) (congrArg some hb232) (rv_load Try.underlying34 rfl ti34 rfl hl238 hc239) (sq_g (v := (Sl Cp s189.1 Cq)) (congrArg some hb232) (rv_move rfl) (sq_g (v := (I Av)) (congrArg some hb232) (rv_move rfl) ?_))
           obtain ⟨x243, hx244, h'⟩ := bind_some h
           clear h
           have h := h'; clear h'
           obtain ⟨b246, o247, hi245, -⟩ := (H.own 1 rfl).ix hx244
           refine sq_g (v := (pt b246 o247)) (congrArg some hb232) (rv_ix Try.underlying23 ti34 rfl rfl hi245) ?_
           obtain ⟨_, ⟨_, _, rfl, rfl, ⟨_, _, rfl, ⟨_, rfl, hR252⟩, rfl⟩⟩, hl248, hc249⟩ := ((H.own 1 rfl).at hx244 hi245).cells
           obtain ⟨a250, c251, rfl⟩ := hR252.isSl
           replace H := H.add (d := Ch.ro 0 (Sl a250 x243.2.1 c251) x243.2.1) hR252 (fun _ h => h)
           clear hR252
           refine sq_g (v := (.agg #[(I x243.1), (Sl a250 x243.2.1 c251), (I x243.2.2)])) (congrArg some hb232) (rv_load Try.underlying34 rfl ti34 rfl hl248 hc249) (sq_end ?_)
           intro σ253 hm254
           replace H := H.grow (hm254.mono fun _ h => h); clear hm254
           obtain ⟨r255, hx256, h'⟩ := bind_some h
           clear h
           have h := h'; clear h'
           have hc257 := c_impl_sortByDistance_1__p3__p24 (Ag := a240) (Ah := c241) (Bv := a250) (Bw := c251) (By := Dk) (Bz := Dm) (Ca := Dn) (Cb := Do) (Cc := Dq) (Cf := Dt) (Cg := Du) (Ci := Dv) (Cj := Dw) (Ck := Dx) (Cd := Dr) (Ce := Ds) hx256
           refine st_call (cx_call hc257 (ent_v (cap := [(pt Dm Dn), (pt Du Dv)]) hc257.fn rfl rfl) hn0 (H.sel' [1, 0, 3, 5, 4, 0, 1, 2, 4] rfl rfl : Hp S0 σ0 _ ([_, _, _, _, _] ++ _))) (wanted_yes rfl (by exact (congrArg some hb232))) ?_
           rintro _ σ258 ⟨_, ⟨rfl, rfl⟩, H, -⟩
           replace H : Hp _ _ _ [_, _, _, _, _, _] := H
           refine st_g (v := (B (decide (r255 < 0)))) (congrArg some hb232) (rv_lss (a := r255) (b := 0) rfl rfl) (st_g (v := (B (!(decide (r255 < 0))))) (congrArg some hb232) (rv_not rfl) (st (v := (B (!(decide (r255 < 0))))) (rv_pick_t (congrArg B hb232) rfl) (w_end ?_)))
           obtain rfl := Option.some.inj h
           exact ⟨rfl, _, σ258, fr_join ⟨rfl, rfl, rfl, rfl, rfl, rfl, trivial⟩, rfl, H.sel' [4, 0, 5, 1] rfl rfl⟩
          ·replace h := bif_f hb232 h
           refine sq_skip (congrArg some hb232) (sq_skip (congrArg some hb232) (sq_skip (congrArg some hb232) (sq_skip (congrArg some hb232) (sq_skip (congrArg some hb232) (sq_skip (congrArg some hb232) (sq_skip (congrArg some hb232) (sq_skip (congrArg some hb232) (sq_skip (congrArg some hb232) (sq_end ?_)))))))))
           intro σ259 hm260
           replace H := H.grow (hm260.mono fun _ h => h); clear hm260
           refine st_skip (congrArg some hb232) (st_skip (congrArg some hb232) (st_skip (congrArg some hb232) (st (v := (B false)) (rv_pick_f (congrArg B hb232) rfl) (w_end ?_))))
           obtain rfl := Option.some.inj h
           exact ⟨rfl, _, σ259, fr_join ⟨rfl, rfl, rfl, rfl, rfl, rfl, trivial⟩, rfl, H.sel' [0, 1, 2, 3] rfl rfl⟩
         ·clear hj
          have h := h'
          clear h' H
          rintro e a w ⟨rfl, ρ, σ261, rfl, rfl, H⟩
          refine q_then ?_
          refine cd_cond o231 rfl (fun hb262 => ?_) (fun hb262 => ?_)
          ·replace h := bif_t hb262 h
           refine c_skip (q_then (c_blk (rg (st (v := (I s229)) (rv_move rfl) (st (v := (I (w64 (s229 - 1)))) (rv_sub (a := s229) (b := 1) rfl rfl) (st (v := (I (w64 (s229 - 1)))) (rv_assign rfl) (w_end (q_blk (q_then ?_)))))))))
           obtain rfl := Option.some.inj h
           exact ⟨_, rfl, _, σ261, fr_join ⟨rfl, rfl, rfl, rfl, rfl, trivial⟩, rfl, H.sel' [0, 1, 2, 3] rfl rfl⟩
          ·replace h := bif_f hb262 h
           refine c_exit (q_then_x (q_then_x (q_blk_hit ?_)))
           obtain rfl := Option.some.inj h
           obtain rfl := hres _ rfl
           exact ⟨rfl, _, σ261, fr_join ⟨rfl, rfl, rfl, rfl, rfl, trivial⟩, rfl, H.sel' [0, 1, 2, 3] rfl rfl⟩
        ·clear hj
         have h := h'
         clear h' H
         rintro e a w ⟨rfl, ρ, σ263, rfl, rfl, H⟩
         refine q_then (c_seq (c_seq (rg (st (v := (I o192)) (rv_move rfl) (st (v := (I o228)) (rv_move rfl) (st (v := (B (decide (o228 < o192)))) (rv_gtr (a := o192) (b := o228) rfl rfl) (w_end (q_then ?_))))))))
         refine cd_cond (decide (o228 < o192)) rfl (fun hb264 => ?_) (fun hb264 => ?_)
         ·replace h := bif_t hb264 h
          refine c_exit (q_then_x ?_)
          refine q_blk_x (by decide) ?_
          refine q_then_x (q_blk_hit ?_)
          obtain rfl := Option.some.inj h
          obtain rfl := hres _ rfl
          exact ⟨rfl, _, σ263, fr_join ⟨rfl, rfl, rfl, rfl, trivial⟩, rfl, H.sel' [0, 1, 2, 3] rfl rfl, ((hn191.trans (List.length_set.trans (List.length_set.trans (List.length_set.trans List.length_set)))).trans (List.length_set.trans (List.length_set.trans (List.length_set.trans List.length_set))).symm)⟩
         ·replace h := bif_f hb264 h
          refine c_skip (q_then (c_seq ?_))
          obtain ⟨x265, hx266, h'⟩ := bind_some h
          clear h
          have h := h'; clear h'
          obtain ⟨b268, o269, hi267, -⟩ := (H.own 0 rfl).ix hx266
          obtain ⟨_, ⟨_, _, rfl, rfl, ⟨_, _, rfl, ⟨_, rfl, hR274⟩, rfl⟩⟩, hl270, hc271⟩ := ((H.own 0 rfl).at hx266 hi267).cells
          obtain ⟨a272, c273, rfl⟩ := hR274.isSl
          replace H := H.add (d := Ch.ro 0 (Sl a272 x265.2.1 c273) x265.2.1) hR274 (fun _ h => h)
          clear hR274
          obtain ⟨x275, hx276, h'⟩ := bind_some h
          clear h
          have h := h'; clear h'
          obtain ⟨b278, o279, hi277, -⟩ := (H.own 1 rfl).ix hx276
          obtain ⟨_, ⟨_, _, rfl, rfl, ⟨_, _, rfl, ⟨_, rfl, hR284⟩, rfl⟩⟩, hl280, hc281⟩ := ((H.own 1 rfl).at hx276 hi277).cells
          obtain ⟨a282, c283, rfl⟩ := hR284.isSl
          replace H := H.add (d := Ch.ro 0 (Sl a282 x275.2.1 c283) x275.2.1) hR284 (fun _ h => h)
          clear hR284
          obtain ⟨x285, hx286, h'⟩ := bind_some h
          clear h
          have h := h'; clear h'
          obtain ⟨b288, o289, hi287, -⟩ := (H.own 2 rfl).ix hx286
          have Hs := H
          refine rg2 (σ := σ263) (Nm := Unit) 14 [13] [[false], [true]] [[(0, 0)], [(0, 0)], [(0, 0), (1, 1)], [(0, 0), (1, 1)], [(0, 0)], [(0, 0)], [(0, 0)], [(0, 0)], [(0, 0)], [(0, 0)], [(0, 0)], [(0, 0)], [(0, 0)], [(0, 1)]] 1 [fun _ => fun σm => Hp S0 σ0 σm [Ch.ro 0 (Sl a282 x275.2.1 c283) x275.2.1, Ch.ro 0 (Sl a272 x265.2.1 c273) x265.2.1, Ch.own 0 0 (Sl Cp s189.1 Cq) s189.1, Ch.bx Dk Dm Dn [(I Di)] Do Dq, Ch.ro 0 (Sl Dr Dj Ds) Dj, Ch.bx Dt Du Dv [(Sl Dr Dj Ds)] Dw Dx] ∧ Md (cov []) σ263 σm, fun _ => fun σm => Hp S0 σ0 σm [Ch.own 0 0 (Sl Cp s189.1 Cq) (s189.1.set o192.toNat (x265.1, x265.2.1, x265.2.2)), Ch.ro 0 (Sl a282 x275.2.1 c283) x275.2.1, Ch.ro 0 (Sl a272 x265.2.1 c273) x265.2.1, Ch.bx Dk Dm Dn [(I Di)] Do Dq, Ch.ro 0 (Sl Dr Dj Ds) Dj, Ch.bx Dt Du Dv [(Sl Dr Dj Ds)] Dw Dx] ∧ Md (fun i => (cov []) i ∨ (fun b => blk (Sl Cp s189.1 Cq) = some b) i) σ263 σm] [fun _ => (Sl Cp s189.1 Cq), fun _ => (I o192), fun _ => (Sl Cp s189.1 Cq), fun _ => (I o228), fun _ => (Sl Cp s189.1 Cq), fun _ => (I o228), fun _ => (pt b268 o269), fun _ => (.agg #[(I x265.1), (Sl a272 x265.2.1 c273), (I x265.2.2)]), fun _ => (Sl Cp s189.1 Cq), fun _ => (I o192), fun _ => (pt b278 o279), fun _ => (.agg #[(I x275.1), (Sl a282 x275.2.1 c283), (I x275.2.2)]), fun _ => (pt b288 o289), fun _ => undef] () (by kernel_rfl) (by kernel_rfl) ?_ ?_ ?_
          ·intro σm m0
           exact ⟨H.grow (m0.mono fun _ h => h.elim), m0⟩
          ·refine ac rfl (by
             intro k _nm ρ σm hJ hoff hdep
             have e0 := look_off (N := 178) (hoff 0 rfl) rfl
             exact dp_v (v := (Sl Cp s189.1 Cq)) wn (rv_move e0) rfl hJ) ?_
           refine ac rfl (by
             intro k _nm ρ σm hJ hoff hdep
             have e12 := look_off (N := 178) (hoff 12 rfl) rfl
             exact dp_v (v := (I o192)) wn (rv_move e12) rfl hJ) ?_
           refine ac rfl (by
             intro k _nm ρ σm hJ hoff hdep
             have e0 := look_off (N := 178) (hoff 0 rfl) rfl
             exact dp_v (v := (Sl Cp s189.1 Cq)) wn (rv_move e0) rfl hJ) ?_
           refine ac rfl (by
             intro k _nm ρ σm hJ hoff hdep
             have e13 := look_off (N := 178) (hoff 13 rfl) rfl
             exact dp_v (v := (I o228)) wn (rv_move e13) rfl hJ) ?_
           refine ac rfl (by
             intro k _nm ρ σm hJ hoff hdep
             have e0 := look_off (N := 178) (hoff 0 rfl) rfl
             exact dp_v (v := (Sl Cp s189.1 Cq)) wn (rv_move e0) rfl hJ) ?_
           refine ac rfl (by
             intro k _nm ρ σm hJ hoff hdep
             have e13 := look_off (N := 178) (hoff 13 rfl) rfl
             exact dp_v (v := (I o228)) wn (rv_move e13) rfl hJ) ?_
           refine ac rfl (by
             intro k _nm ρ σm hJ hoff hdep
             have e149 := hdep 4 rfl rfl 149 rfl
             have e150 := hdep 5 rfl rfl 150 rfl
             exact dp_v (v := (pt b268 o269)) wn (rv_ix Try.underlying23 ti34 e149 e150 hi267) rfl hJ) ?_
           refine all_cons (by
             refine ⟨?_, ?_⟩
             ·intro _nm ρ σm hJ hoff hdep
              have e151 := hdep 6 rfl rfl 151 rfl
              obtain ⟨H, m⟩ := id hJ
              replace hc271 := fun j hj => m.hcell (hc271 j hj) nocov
              exact dp_v (v := (.agg #[(I x265.1), (Sl a272 x265.2.1 c273), (I x265.2.2)])) wn (rv_load Try.underlying34 rfl ti34 e151 hl270 hc271) rfl hJ
             trivial) ?_
           refine ac rfl (by
             intro k _nm ρ σm hJ hoff hdep
             have e0 := look_off (N := 178) (hoff 0 rfl) rfl
             exact dp_v (v := (Sl Cp s189.1 Cq)) wn (rv_move e0) rfl hJ) ?_
           refine ac rfl (by
             intro k _nm ρ σm hJ hoff hdep
             have e12 := look_off (N := 178) (hoff 12 rfl) rfl
             exact dp_v (v := (I o192)) wn (rv_move e12) rfl hJ) ?_
           refine ac rfl (by
             intro k _nm ρ σm hJ hoff hdep
             have e153 := hdep 8 rfl rfl 153 rfl
             have e154 := hdep 9 rfl rfl 154 rfl
             exact dp_v (v := (pt b278 o279)) wn (rv_ix Try.underlying23 ti34 e153 e154 hi277) rfl hJ) ?_
           refine all_cons (by
             refine ⟨?_, ?_⟩
             ·intro _nm ρ σm hJ hoff hdep
              have e155 := hdep 10 rfl rfl 155 rfl
              obtain ⟨H, m⟩ := id hJ
              replace hc281 := fun j hj => m.hcell (hc281 j hj) nocov
              exact dp_v (v := (.agg #[(I x275.1), (Sl a282 x275.2.1 c283), (I x275.2.2)])) wn (rv_load Try.underlying34 rfl ti34 e155 hl280 hc281) rfl hJ
             trivial) ?_
           refine ac rfl (by
             intro k _nm ρ σm hJ hoff hdep
             have e145 := hdep 0 rfl rfl 145 rfl
             have e146 := hdep 1 rfl rfl 146 rfl
             exact dp_v (v := (pt b288 o289)) wn (rv_ix Try.underlying23 ti34 e145 e146 hi287) rfl hJ) ?_
           refine all_cons (by
             refine ⟨?_, ?_⟩
             ·intro _nm ρ σm hJ hoff hdep
              have e157 := hdep 12 rfl rfl 157 rfl
              have e152 := hdep 7 rfl rfl 152 rfl
              obtain ⟨H, m⟩ := id hJ
              refine dp_exS wn rfl (ex_store_own (e' := (x265.1, x265.2.1, x265.2.2)) (vs := [(I x265.1), (Sl a272 x265.2.1 c273), (I x265.2.2)]) (k := 0) H (i := 2) rfl ti34 hx286 hi287 e157 rfl e152 rfl rfl (Nat.le_of_ble_eq_true rfl) (by simp [plain]) (by rintro _ ⟨_, _, rfl, rfl, ⟨_, _, rfl, ⟨_, rfl, hR292⟩, rfl⟩⟩; exact ⟨[(I x265.1)], [(Sl a272 x265.2.1 c273), (I x265.2.2)], rfl, rfl, ⟨[(Sl a272 x265.2.1 c273)], [(I x265.2.2)], rfl, ⟨_, rfl, (H.ro 1 rfl)⟩, rfl⟩⟩)) ?_
              rintro σq ⟨H2, m2⟩
              exact ⟨_, (), rfl, ⟨H2.sel' [0, 1, 2, 3, 4, 5] rfl rfl, m.comp m2⟩, stab [0, 1, 2, 3, 4, 5, 6, 7, 8, 9, 10, 11, 12] (by kernel_rfl) ⟨rfl, rfl, rfl, rfl, rfl, rfl, rfl, rfl, rfl, rfl, rfl, rfl, rfl, trivial⟩⟩
             trivial) ?_
           exact all_nil
          ·intro _nm ρ σ293 hJ hoff hrel
           have e0 := look_off (N := 178) (hoff 0 rfl) rfl
           have e1 := look_off (N := 178) (hoff 1 rfl) rfl
           have e4 := look_off (N := 178) (hoff 4 rfl) rfl
           have e12 := look_off (N := 178) (hoff 12 rfl) rfl
           have e13 := look_off (N := 178) (hoff 13 rfl) rfl
           have e147 := hrel 2 rfl 147 rfl
           have e148 := hrel 3 rfl 148 rfl
           have e156 := hrel 11 rfl 156 rfl
           obtain ⟨H, -⟩ := (show Hp S0 σ0 σ293 [Ch.own 0 0 (Sl Cp s189.1 Cq) (s189.1.set o192.toNat (x265.1, x265.2.1, x265.2.2)), Ch.ro 0 (Sl a282 x275.2.1 c283) x275.2.1, Ch.ro 0 (Sl a272 x265.2.1 c273) x265.2.1, Ch.bx Dk Dm Dn [(I Di)] Do Dq, Ch.ro 0 (Sl Dr Dj Ds) Dj, Ch.bx Dt Du Dv [(Sl Dr Dj Ds)] Dw Dx] ∧ Md (fun i => (cov []) i ∨ (fun b => blk (Sl Cp s189.1 Cq) = some b) i) σ263 σ293 from hJ)
           clear hJ Hs
           rw [fr_lookL (L := [(0, (Sl Cp s189.1 Cq)), (1, (I Av)), (4, (.func (.func 88) #[] #[(pt Dm Dn), (pt Du Dv)])), (12, (I o192)), (13, (I o228)), (147, (Sl Cp s189.1 Cq)), (148, (I o228)), (156, (.agg #[(I x275.1), (Sl a282 x275.2.1 c283), (I x275.2.2)]))]) ⟨e0, e1, e4, e12, e13, e147, e148, e156, trivial⟩]
           clear hoff hrel e0 e1 e4 e12 e13 e147 e148 e156
           have hsl : (Sl Cp s189.1 Cq) = (Sl Cp (s189.1.set o192.toNat (x265.1, x265.2.1, x265.2.2)) Cq) := sl_len (by simp)
           rw [hsl]; rw [hsl] at H; clear hsl
           obtain ⟨x294, hx295, h'⟩ := bind_some h
           clear h
           have h := h'; clear h'
           obtain ⟨b297, o298, hi296, -⟩ := (H.own 0 rfl).ix hx295
           refine st (v := (pt b297 o298)) (rv_ix Try.underlying23 ti34 rfl rfl hi296) ?_
           refine st_exS (ex_store_own (e' := (x275.1, x275.2.1, x275.2.2)) (vs := [(I x275.1), (Sl a282 x275.2.1 c283), (I x275.2.2)]) (k := 0) H (i := 0) rfl ti34 hx295 hi296 rfl rfl rfl rfl rfl (Nat.le_of_ble_eq_true rfl) (by simp [plain]) (by rintro _ ⟨_, _, rfl, rfl, ⟨_, _, rfl, ⟨_, rfl, hR301⟩, rfl⟩⟩; exact ⟨[(I x275.1)], [(Sl a282 x275.2.1 c283), (I x275.2.2)], rfl, rfl, ⟨[(Sl a282 x275.2.1 c283)], [(I x275.2.2)], rfl, ⟨_, rfl, (H.ro 1 rfl)⟩, rfl⟩⟩)) wn ?_
           rintro σ302 ⟨H, -⟩
           have hsl : (Sl Cp (s189.1.set o192.toNat (x265.1, x265.2.1, x265.2.2)) Cq) = (Sl Cp ((s189.1.set o192.toNat (x265.1, x265.2.1, x265.2.2)).set o228.toNat (x275.1, x275.2.1, x275.2.2)) Cq) := sl_len List.length_set.symm
           rw [hsl]; rw [hsl] at H; clear hsl
           refine w_end (q_then (c_seq (rg (st (v := (I o192)) (rv_move rfl) (st (v := (I (w64 (o192 + 1)))) (rv_add (a := o192) (b := 1) rfl rfl) (st (v := (I (w64 (o192 + 1)))) (rv_assign rfl) (w_end (q_then (rg (st (v := (I o228)) (rv_move rfl) (st (v := (I (w64 (o228 - 1)))) (rv_sub (a := o228) (b := 1) rfl rfl) ?_)))))))))))
           refine st (v := (I (w64 (o228 - 1)))) (rv_assign rfl) (w_end (q_blk (q_then ?_)))
           obtain rfl := Option.some.inj h
           exact ⟨_, rfl, _, σ302, fr_join ⟨rfl, rfl, rfl, rfl, rfl, trivial⟩, rfl, H.sel' [0, 3, 4, 5] rfl rfl, ((List.length_set.trans (List.length_set.trans (hn191.trans (List.length_set.trans (List.length_set.trans (List.length_set.trans List.length_set)))))).trans (List.length_set.trans (List.length_set.trans (List.length_set.trans List.length_set))).symm)⟩
      ·clear hj
       have h := h'
       clear h' H
       rintro e a w ⟨rfl, ρ, σ303, rfl, rfl, H, hn304⟩
       refine q_then (c_seq ?_)
       obtain ⟨x305, hx306, h'⟩ := bind_some h
       clear h
       have h := h'; clear h'
       obtain ⟨b308, o309, hi307, -⟩ := (H.own 0 rfl).ix hx306
       obtain ⟨_, ⟨_, _, rfl, rfl, ⟨_, _, rfl, ⟨_, rfl, hR314⟩, rfl⟩⟩, hl310, hc311⟩ := ((H.own 0 rfl).at hx306 hi307).cells
       obtain ⟨a312, c313, rfl⟩ := hR314.isSl
       replace H := H.add (d := Ch.ro 0 (Sl a312 x305.2.1 c313) x305.2.1) hR314 (fun _ h => h)
       clear hR314
       obtain ⟨x315, hx316, h'⟩ := bind_some h
       clear h
       have h := h'; clear h'
       obtain ⟨b318, o319, hi317, -⟩ := (H.own 1 rfl).ix hx316
       obtain ⟨_, ⟨_, _, rfl, rfl, ⟨_, _, rfl, ⟨_, rfl, hR324⟩, rfl⟩⟩, hl320, hc321⟩ := ((H.own 1 rfl).at hx316 hi317).cells
       obtain ⟨a322, c323, rfl⟩ := hR324.isSl
       replace H := H.add (d := Ch.ro 0 (Sl a322 x315.2.1 c323) x315.2.1) hR324 (fun _ h => h)
       clear hR324
       obtain ⟨x325, hx326, h'⟩ := bind_some h
       clear h
       have h := h'; clear h'
       obtain ⟨b328, o329, hi327, -⟩ := (H.own 2 rfl).ix hx326
       have Hs := H
       refine rg2 (σ := σ303) (Nm := Unit) 14 [13] [[false], [true]] [[(0, 0)], [(0, 0)], [(0, 0), (1, 1)], [(0, 0), (1, 1)], [(0, 0)], [(0, 0)], [(0, 0)], [(0, 0)], [(0, 0)], [(0, 0)], [(0, 0)], [(0, 0)], [(0, 0)], [(0, 1)]] 1 [fun _ => fun σm => Hp S0 σ0 σm [Ch.ro 0 (Sl a322 x315.2.1 c323) x315.2.1, Ch.ro 0 (Sl a312 x305.2.1 c313) x305.2.1, Ch.own 0 0 (Sl Cp o188.1 Cq) o188.1, Ch.bx Dk Dm Dn [(I Di)] Do Dq, Ch.ro 0 (Sl Dr Dj Ds) Dj, Ch.bx Dt Du Dv [(Sl Dr Dj Ds)] Dw Dx] ∧ Md (cov []) σ303 σm, fun _ => fun σm => Hp S0 σ0 σm [Ch.own 0 0 (Sl Cp o188.1 Cq) (o188.1.set o188.2.toNat (x305.1, x305.2.1, x305.2.2)), Ch.ro 0 (Sl a322 x315.2.1 c323) x315.2.1, Ch.ro 0 (Sl a312 x305.2.1 c313) x305.2.1, Ch.bx Dk Dm Dn [(I Di)] Do Dq, Ch.ro 0 (Sl Dr Dj Ds) Dj, Ch.bx Dt Du Dv [(Sl Dr Dj Ds)] Dw Dx] ∧ Md (fun i => (cov []) i ∨ (fun b => blk (Sl Cp o188.1 Cq) = some b) i) σ303 σm] [fun _ => (Sl Cp o188.1 Cq), fun _ => (I o188.2), fun _ => (Sl Cp o188.1 Cq), fun _ => (I Av), fun _ => (Sl Cp o188.1 Cq), fun _ => (I Av), fun _ => (pt b308 o309), fun _ => (.agg #[(I x305.1), (Sl a312 x305.2.1 c313), (I x305.2.2)]), fun _ => (Sl Cp o188.1 Cq), fun _ => (I o188.2), fun _ => (pt b318 o319), fun _ => (.agg #[(I x315.1), (Sl a322 x315.2.1 c323), (I x315.2.2)]), fun _ => (pt b328 o329), fun _ => undef] () (by kernel_rfl) (by kernel_rfl) ?_ ?_ ?_
       ·intro σm m0
        exact ⟨H.grow (m0.mono fun _ h => h.elim), m0⟩
       ·refine ac rfl (by
          intro k _nm ρ σm hJ hoff hdep
          have e0 := look_off (N := 178) (hoff 0 rfl) rfl
          exact dp_v (v := (Sl Cp o188.1 Cq)) wn (rv_move e0) rfl hJ) ?_
        refine ac rfl (by
          intro k _nm ρ σm hJ hoff hdep
          have e13 := look_off (N := 178) (hoff 13 rfl) rfl
          exact dp_v (v := (I o188.2)) wn (rv_move e13) rfl hJ) ?_
        refine ac rfl (by
          intro k _nm ρ σm hJ hoff hdep
          have e0 := look_off (N := 178) (hoff 0 rfl) rfl
          exact dp_v (v := (Sl Cp o188.1 Cq)) wn (rv_move e0) rfl hJ) ?_
        refine ac rfl (by
          intro k _nm ρ σm hJ hoff hdep
          have e1 := look_off (N := 178) (hoff 1 rfl) rfl
          exact dp_v (v := (I Av)) wn (rv_move e1) rfl hJ) ?_
        refine ac rfl (by
          intro k _nm ρ σm hJ hoff hdep
          have e0 := look_off (N := 178) (hoff 0 rfl) rfl
          exact dp_v (v := (Sl Cp o188.1 Cq)) wn (rv_move e0) rfl hJ) ?_
        refine ac rfl (by
          intro k _nm ρ σm hJ hoff hdep
          have e1 := look_off (N := 178) (hoff 1 rfl) rfl
          exact dp_v (v := (I Av)) wn (rv_move e1) rfl hJ) ?_
        refine ac rfl (by
          intro k _nm ρ σm hJ hoff hdep
          have e167 := hdep 4 rfl rfl 167 rfl
          have e168 := hdep 5 rfl rfl 168 rfl
          exact dp_v (v := (pt b308 o309)) wn (rv_ix Try.underlying23 ti34 e167 e168 hi307) rfl hJ) ?_
        refine all_cons (by
          refine ⟨?_, ?_⟩
          ·intro _nm ρ σm hJ hoff hdep
           have e169 := hdep 6 rfl rfl 169 rfl
           obtain ⟨H, m⟩ := id hJ
           replace hc311 := fun j hj => m.hcell (hc311 j hj) nocov
           exact dp_v (v := (.agg #[(I x305.1), (Sl a312 x305.2.1 c313), (I x305.2.2)])) wn (rv_load Try.underlying34 rfl ti34 e169 hl310 hc311) rfl hJ
          trivial) ?_
        refine ac rfl (by
          intro k _nm ρ σm hJ hoff hdep
          have e0 := look_off (N := 178) (hoff 0 rfl) rfl
          exact dp_v (v := (Sl Cp o188.1 Cq)) wn (rv_move e0) rfl hJ) ?_
        refine ac rfl (by
          intro k _nm ρ σm hJ hoff hdep
          have e13 := look_off (N := 178) (hoff 13 rfl) rfl
          exact dp_v (v := (I o188.2)) wn (rv_move e13) rfl hJ) ?_
        refine ac rfl (by
          intro k _nm ρ σm hJ hoff hdep
          have e171 := hdep 8 rfl rfl 171 rfl
          have e172 := hdep 9 rfl rfl 172 rfl
          exact dp_v (v := (pt b318 o319)) wn (rv_ix Try.underlying23 ti34 e171 e172 hi317) rfl hJ) ?_
        refine all_cons (by
          refine ⟨?_, ?_⟩
          ·intro _nm ρ σm hJ hoff hdep
           have e173 := hdep 10 rfl rfl 173 rfl
           obtain ⟨H, m⟩ := id hJ
           replace hc321 := fun j hj => m.hcell (hc321 j hj) nocov
           exact dp_v (v := (.agg #[(I x315.1), (Sl a322 x315.2.1 c323), (I x315.2.2)])) wn (rv_load Try.underlying34 rfl ti34 e173 hl320 hc321) rfl hJ
          trivial) ?_
        refine ac rfl (by
          intro k _nm ρ σm hJ hoff hdep
          have e163 := hdep 0 rfl rfl 163 rfl
          have e164 := hdep 1 rfl rfl 164 rfl
          exact dp_v (v := (pt b328 o329)) wn (rv_ix Try.underlying23 ti34 e163 e164 hi327) rfl hJ) ?_
        refine all_cons (by
          refine ⟨?_, ?_⟩
          ·intro _nm ρ σm hJ hoff hdep
           have e175 := hdep 12 rfl rfl 175 rfl
           have e170 := hdep 7 rfl rfl 170 rfl
           obtain ⟨H, m⟩ := id hJ
           refine dp_exS wn rfl (ex_store_own (e' := (x305.1, x305.2.1, x305.2.2)) (vs := [(I x305.1), (Sl a312 x305.2.1 c313), (I x305.2.2)]) (k := 0) H (i := 2) rfl ti34 hx326 hi327 e175 rfl e170 rfl rfl (Nat.le_of_ble_eq_true rfl) (by simp [plain]) (by rintro _ ⟨_, _, rfl, rfl, ⟨_, _, rfl, ⟨_, rfl, hR332⟩, rfl⟩⟩; exact ⟨[(I x305.1)], [(Sl a312 x305.2.1 c313), (I x305.2.2)], rfl, rfl, ⟨[(Sl a312 x305.2.1 c313)], [(I x305.2.2)], rfl, ⟨_, rfl, (H.ro 1 rfl)⟩, rfl⟩⟩)) ?_
           rintro σq ⟨H2, m2⟩
           exact ⟨_, (), rfl, ⟨H2.sel' [0, 1, 2, 3, 4, 5] rfl rfl, m.comp m2⟩, stab [0, 1, 2, 3, 4, 5, 6, 7, 8, 9, 10, 11, 12] (by kernel_rfl) ⟨rfl, rfl, rfl, rfl, rfl, rfl, rfl, rfl, rfl, rfl, rfl, rfl, rfl, trivial⟩⟩
          trivial) ?_
        exact all_nil
       ·intro _nm ρ σ333 hJ hoff hrel
        have e0 := look_off (N := 178) (hoff 0 rfl) rfl
        have e4 := look_off (N := 178) (hoff 4 rfl) rfl
        have e13 := look_off (N := 178) (hoff 13 rfl) rfl
        have e165 := hrel 2 rfl 165 rfl
        have e166 := hrel 3 rfl 166 rfl
        have e174 := hrel 11 rfl 174 rfl
        obtain ⟨H, -⟩ := (show Hp S0 σ0 σ333 [Ch.own 0 0 (Sl Cp o188.1 Cq) (o188.1.set o188.2.toNat (x305.1, x305.2.1, x305.2.2)), Ch.ro 0 (Sl a322 x315.2.1 c323) x315.2.1, Ch.ro 0 (Sl a312 x305.2.1 c313) x305.2.1, Ch.bx Dk Dm Dn [(I Di)] Do Dq, Ch.ro 0 (Sl Dr Dj Ds) Dj, Ch.bx Dt Du Dv [(Sl Dr Dj Ds)] Dw Dx] ∧ Md (fun i => (cov []) i ∨ (fun b => blk (Sl Cp o188.1 Cq) = some b) i) σ303 σ333 from hJ)
        clear hJ Hs
        rw [fr_lookL (L := [(0, (Sl Cp o188.1 Cq)), (4, (.func (.func 88) #[] #[(pt Dm Dn), (pt Du Dv)])), (13, (I o188.2)), (165, (Sl Cp o188.1 Cq)), (166, (I Av)), (174, (.agg #[(I x315.1), (Sl a322 x315.2.1 c323), (I x315.2.2)]))]) ⟨e0, e4, e13, e165, e166, e174, trivial⟩]
        clear hoff hrel e0 e4 e13 e165 e166 e174
        have hsl : (Sl Cp o188.1 Cq) = (Sl Cp (o188.1.set o188.2.toNat (x305.1, x305.2.1, x305.2.2)) Cq) := sl_len (by simp)
        rw [hsl]; rw [hsl] at H; clear hsl
        obtain ⟨x334, hx335, h'⟩ := bind_some h
        clear h
        have h := h'; clear h'
        obtain ⟨b337, o338, hi336, -⟩ := (H.own 0 rfl).ix hx335
        refine st (v := (pt b337 o338)) (rv_ix Try.underlying23 ti34 rfl rfl hi336) ?_
        refine st_exS (ex_store_own (e' := (x315.1, x315.2.1, x315.2.2)) (vs := [(I x315.1), (Sl a322 x315.2.1 c323), (I x315.2.2)]) (k := 0) H (i := 0) rfl ti34 hx335 hi336 rfl rfl rfl rfl rfl (Nat.le_of_ble_eq_true rfl) (by simp [plain]) (by rintro _ ⟨_, _, rfl, rfl, ⟨_, _, rfl, ⟨_, rfl, hR341⟩, rfl⟩⟩; exact ⟨[(I x315.1)], [(Sl a322 x315.2.1 c323), (I x315.2.2)], rfl, rfl, ⟨[(Sl a322 x315.2.1 c323)], [(I x315.2.2)], rfl, ⟨_, rfl, (H.ro 1 rfl)⟩, rfl⟩⟩)) wn ?_
        rintro σ342 ⟨H, -⟩
        have hsl : (Sl Cp (o188.1.set o188.2.toNat (x305.1, x305.2.1, x305.2.2)) Cq) = (Sl Cp ((o188.1.set o188.2.toNat (x305.1, x305.2.1, x305.2.2)).set Av.toNat (x315.1, x315.2.1, x315.2.2)) Cq) := sl_len List.length_set.symm
        rw [hsl]; rw [hsl] at H; clear hsl
        refine w_end (q_then (c_seq (rg (st (v := (I o188.2)) (rv_move rfl) (st (v := (I o188.2)) (rv_assign rfl) (st (v := (B false)) (rv_assign rfl) (w_end (q_then (c_ret ?_)))))))))
        obtain rfl := Option.some.inj h
        exact fin_ret (v := (.tuple #[(I o188.2), (B false)])) (results_ok Try.results119 (res_tmp (v := (I o188.2)) rfl (res_tmp (v := (B false)) rfl res_nil)) rfl) ⟨rfl, rfl, (List.length_set.trans (List.length_set.trans (hn304.trans (List.length_set.trans (List.length_set.trans (List.length_set.trans List.length_set))))))⟩ (H.sel' [0, 3, 5] rfl rfl)

theorem c_slices_pdqsortCmpFunc_impl_Item__impl_sortByDistance_1 : ∀ (fuel : Nat) {Cl : List (Int × (List Int) × Int)} {Av : Int} {Aw : Int} {Fi : Int} {Di : Int} {Dj : List Int} {Cp : Option Addr} {Cq : Nat} {Dk Dm Dn : Nat} {Do Dq : List Value} {Dr : Option Addr} {Ds : Nat} {Dt Du Dv : Nat} {Dw Dx : List Value} {r : (List (Int × (List Int) × Int))} (h : M.slices_pdqsortCmpFunc_impl_Item__impl_sortByDistance_1 fuel Cl Av Aw Fi Di Dj = some r),
    Cal2 Try.prog 104 [(Sl Cp Cl Cq), (I Av), (I Aw), (I Fi), (.func (.func 88) #[] #[(pt Dm Dn), (pt Du Dv)])] [Ch.own 0 0 (Sl Cp Cl Cq) Cl, Ch.bx Dk Dm Dn [(I Di)] Do Dq, Ch.bx Dt Du Dv [(Sl Dr Dj Ds)] Dw Dx, Ch.ro 0 (Sl Dr Dj Ds) Dj] (fun n0 v L => v = (.tuple #[]) ∧ L = [Ch.own 0 0 (Sl Cp r Cq) r, Ch.bx Dk Dm Dn [(I Di)] Do Dq, Ch.bx Dt Du Dv [(Sl Dr Dj Ds)] Dw Dx] ∧ r.length = Cl.length) := by
 intro fuel
 induction fuel with
 | zero => intro _ _ _ _ _ _ _ _ _ _ _ _ _ _ _ _ _ _ _ _ r h; cases h
 | succ fuel ih =>
 ·intro Cl Av Aw Fi Di Dj Cp Cq Dk Dm Dn Do Dq Dr Ds Dt Du Dv Dw Dx r h
  replace h : M.slices_pdqsortCmpFunc_impl_Item__impl_sortByDistance_1_F (M.slices_pdqsortCmpFunc_impl_Item__impl_sortByDistance_1 fuel) Cl Av Aw Fi Di Dj = some r := h
  refine cal2 (n := 148) Try.func104 rfl rfl rfl rfl ?_
  intro S0 σ0 n0 hn0 H
  unfold M.slices_pdqsortCmpFunc_impl_Item__impl_sortByDistance_1_F at h
  refine c_seq (rg (st (v := (B true)) (rv_assign rfl) (w_end (q_then (c_seq (rg (st (v := (B true)) (rv_assign rfl) (w_end (q_then ?_)))))))))
  obtain ⟨o1, hj, h'⟩ := bind_some h
  clear h
  refine c_cut (fun e a w => e = .ret ∧ ∃ (ρ : Nat → Value) (σ : St), a = fr 148 (updL ρ [(0, (Sl Cp o1 Cq)), (4, (.func (.func 88) #[] #[(pt Dm Dn), (pt Du Dv)]))]) ∧ w = σ.w ∧ Hp S0 σ0 σ [Ch.own 0 0 (Sl Cp o1 Cq) o1, Ch.bx Dk Dm Dn [(I Di)] Do Dq, Ch.ro 0 (Sl Dr Dj Ds) Dj, Ch.bx Dt Du Dv [(Sl Dr Dj Ds)] Dw Dx] ∧ o1.length = Cl.length) ?_ ?_
  ·clear h'
   rename _ = some o1 => h
   refine c_blk (wp_loopM _ h (fun s2 a w => ∃ (ρ : Nat → Value) (σ : St), a = fr 148 (updL ρ [(0, (Sl Cp s2.1 Cq)), (1, (I s2.2.1)), (2, (I s2.2.2.1)), (3, (I s2.2.2.2.1)), (4, (.func (.func 88) #[] #[(pt Dm Dn), (pt Du Dv)])), (10, (B s2.2.2.2.2.1)), (11, (B s2.2.2.2.2.2))]) ∧ w = σ.w ∧ Hp S0 σ0 σ [Ch.own 0 0 (Sl Cp s2.1 Cq) s2.1, Ch.bx Dk Dm Dn [(I Di)] Do Dq, Ch.ro 0 (Sl Dr Dj Ds) Dj, Ch.bx Dt Du Dv [(Sl Dr Dj Ds)] Dw Dx] ∧ s2.1.length = Cl.length) ⟨_, σ0, fr_join ⟨rfl, rfl, rfl, rfl, rfl, rfl, rfl, trivial⟩, rfl, H.sel' [0, 1, 3, 2] rfl rfl, rfl⟩ ?_)
   clear h H
   rintro s2 a w o ⟨ρ, σ3, rfl, rfl, H, hn4⟩ h hres
   refine c_blk (c_seq (rg (st (v := (I s2.2.2.1)) (rv_move rfl) (st (v := (I s2.2.1)) (rv_move rfl) (st (v := (I (w64 (s2.2.2.1 - s2.2.1)))) (rv_sub (a := s2.2.2.1) (b := s2.2.1) rfl rfl) (st (v := (I (w64 (s2.2.2.1 - s2.2.1)))) (rv_assign rfl) (w_end (q_then (c_seq (c_seq (rg ?_)))))))))))
   refine st (v := (I (w64 (s2.2.2.1 - s2.2.1)))) (rv_move rfl) (st (v := (B (decide ((w64 (s2.2.2.1 - s2.2.1)) ≤ 12)))) (rv_leq (a := (w64 (s2.2.2.1 - s2.2.1))) (b := 12) rfl rfl) (w_end (q_then ?_)))
   refine cd_cond (decide ((w64 (s2.2.2.1 - s2.2.1)) ≤ 12)) rfl (fun hb5 => ?_) (fun hb5 => ?_)
   ·replace h := bif_t hb5 h
    refine c_seq (rg (st (v := (Sl Cp s2.1 Cq)) (rv_move rfl) (st (v := (I s2.2.1)) (rv_move rfl) (st (v := (I s2.2.2.1)) (rv_move rfl) (st (v := (.func (.func 88) #[] #[(pt Dm Dn), (pt Du Dv)])) (rv_move rfl) ?_)))))
    obtain ⟨r6, hx7, h'⟩ := bind_some h
    clear h
    have h := h'; clear h'
    have hc8 := c_slices_insertionSortCmpFunc_impl_Item__impl_sortByDistance_1 (Cp := Cp) (Cq := Cq) (Cr := Dk) (Cs := Dm) (Ct := Dn) (Cu := Do) (Cv := Dq) (Cz := Dt) (Da := Du) (Db := Dv) (Dc := Dw) (Dd := Dx) (Cw := Dr) (Cy := Ds) hx7
    refine st_call (cx_call hc8 (ent_f hc8.fn rfl) hn0 (H.sel' [0, 1, 3, 2, 2] rfl rfl : Hp S0 σ0 _ ([_, _, _, _] ++ _))) wn ?_
    rintro _ σ10 ⟨_, ⟨rfl, rfl, hn9⟩, H, -⟩
    replace H : Hp _ _ _ [_, _, _, _] := H
    have hsl : (Sl Cp s2.1 Cq) = (Sl Cp r6 Cq) := sl_len hn9.symm
    try rw [hsl]
    try rw [hsl] at H
    clear hsl
    refine w_end (q_then (c_ret (q_then_r (q_blk_r (q_then_r (q_blk_r ?_))))))
    obtain rfl := Option.some.inj h
    obtain rfl := hres _ rfl
    exact ⟨rfl, _, σ10, fr_join ⟨rfl, rfl, trivial⟩, rfl, H.sel' [0, 1, 3, 2] rfl rfl, (hn9.trans hn4)⟩
   ·replace h := bif_f hb5 h
    refine c_skip (q_then (c_seq (c_seq (rg (st (v := (I s2.2.2.2.1)) (rv_move rfl) (st (v := (B (s2.2.2.2.1 == 0))) (rv_eql (a := s2.2.2.2.1) (b := 0) rfl rfl) (w_end (q_then ?_))))))))
    refine cd_cond (s2.2.2.2.1 == 0) rfl (fun hb11 => ?_) (fun hb11 => ?_)
    ·replace h := bif_t hb11 h
     refine c_seq (rg (st (v := (Sl Cp s2.1 Cq)) (rv_move rfl) (st (v := (I s2.2.1)) (rv_move rfl) (st (v := (I s2.2.2.1)) (rv_move rfl) (st (v := (.func (.func 88) #[] #[(pt Dm Dn), (pt Du Dv)])) (rv_move rfl) ?_)))))
     obtain ⟨r12, hx13, h'⟩ := bind_some h
     clear h
     have h := h'; clear h'
     have hc14 := c_slices_heapSortCmpFunc_impl_Item__impl_sortByDistance_1 (Cp := Cp) (Cq := Cq) (Cr := Dk) (Cs := Dm) (Ct := Dn) (Cu := Do) (Cv := Dq) (Cz := Dt) (Da := Du) (Db := Dv) (Dc := Dw) (Dd := Dx) (Cw := Dr) (Cy := Ds) hx13
     refine st_call (cx_call hc14 (ent_f hc14.fn rfl) hn0 (H.sel' [0, 1, 3, 2, 2] rfl rfl : Hp S0 σ0 _ ([_, _, _, _] ++ _))) wn ?_
     rintro _ σ16 ⟨_, ⟨rfl, rfl, hn15⟩, H, -⟩
     replace H : Hp _ _ _ [_, _, _, _] := H
     have hsl : (Sl Cp s2.1 Cq) = (Sl Cp r12 Cq) := sl_len hn15.symm
     try rw [hsl]
     try rw [hsl] at H
     clear hsl
     refine w_end (q_then (c_ret (q_then_r (q_blk_r (q_then_r (q_blk_r ?_))))))
     obtain rfl := Option.some.inj h
     obtain rfl := hres _ rfl
     exact ⟨rfl, _, σ16, fr_join ⟨rfl, rfl, trivial⟩, rfl, H.sel' [0, 1, 3, 2] rfl rfl, (hn15.trans hn4)⟩
    ·replace h := bif_f hb11 h
     refine c_skip (q_then (c_seq (c_seq (rg (st (v := (B s2.2.2.2.2.1)) (rv_move rfl) (st (v := (B (!s2.2.2.2.2.1))) (rv_not rfl) (w_end (q_then ?_))))))))
     obtain ⟨o17, hj, h'⟩ := bind_some h
     clear h
     refine c_cut (fun e a w => e = .normal ∧ ∃ (ρ : Nat → Value) (σ : St), a = fr 148 (updL ρ [(0, (Sl Cp o17.1 Cq)), (1, (I s2.2.1)), (2, (I s2.2.2.1)), (3, (I o17.2)), (4, (.func (.func 88) #[] #[(pt Dm Dn), (pt Du Dv)])), (10, (B s2.2.2.2.2.1)), (11, (B s2.2.2.2.2.2)), (12, (I (w64 (s2.2.2.1 - s2.2.1))))]) ∧ w = σ.w ∧ Hp S0 σ0 σ [Ch.own 0 0 (Sl Cp o17.1 Cq) o17.1, Ch.bx Dk Dm Dn [(I Di)] Do Dq, Ch.ro 0 (Sl Dr Dj Ds) Dj, Ch.bx Dt Du Dv [(Sl Dr Dj Ds)] Dw Dx] ∧ o17.1.length = s2.1.length) ?_ ?_
     ·clear h'
      rename _ = some o17 => h
      refine cd_cond (!s2.2.2.2.2.1) rfl (fun hb18 => ?_) (fun hb18 => ?_)
      ·replace h := bif_t hb18 h
       refine c_seq (rg (st (v := (Sl Cp s2.1 Cq)) (rv_move rfl) (st (v := (I s2.2.1)) (rv_move rfl) (st (v := (I s2.2.2.1)) (rv_move rfl) (st (v := (.func (.func 88) #[] #[(pt Dm Dn), (pt Du Dv)])) (rv_move rfl) ?_)))))
       obtain ⟨r19, hx20, h'⟩ := bind_some h
       clear h
       have h := h'; clear h'
       have hc21 := c_slices_breakPatternsCmpFunc_impl_Item__impl_sortByDistance_1 (Cp := Cp) (Cq := Cq) (Cr := Dk) (Cs := Dm) (Ct := Dn) (Cu := Do) (Cv := Dq) (Cz := Dt) (Da := Du) (Db := Dv) (Dc := Dw) (Dd := Dx) (Cw := Dr) (Cy := Ds) hx20
       refine st_call (cx_call hc21 (ent_f hc21.fn rfl) hn0 (H.sel' [0, 1, 3, 2, 2] rfl rfl : Hp S0 σ0 _ ([_, _, _, _] ++ _))) wn ?_
       rintro _ σ23 ⟨_, ⟨rfl, rfl, hn22⟩, H, -⟩
       replace H : Hp _ _ _ [_, _, _, _] := H
       have hsl : (Sl Cp s2.1 Cq) = (Sl Cp r19 Cq) := sl_len hn22.symm
       try rw [hsl]
       try rw [hsl] at H
       clear hsl
       refine w_end (q_then (rg (st (v := (I s2.2.2.2.1)) (rv_move rfl) (st (v := (I (w64 (s2.2.2.2.1 - 1)))) (rv_sub (a := s2.2.2.2.1) (b := 1) rfl rfl) (st (v := (I (w64 (s2.2.2.2.1 - 1)))) (rv_assign rfl) (w_end ?_))))))
       obtain rfl := Option.some.inj h
       exact ⟨rfl, _, σ23, fr_join ⟨rfl, rfl, rfl, rfl, rfl, rfl, rfl, rfl, trivial⟩, rfl, H.sel' [0, 1, 3, 2] rfl rfl, ((hn22.trans hn4).trans hn4.symm)⟩
      ·replace h := bif_f hb18 h
       refine c_skip ?_
       obtain rfl := Option.some.inj h
       exact ⟨rfl, _, σ3, fr_join ⟨rfl, rfl, rfl, rfl, rfl, rfl, rfl, rfl, trivial⟩, rfl, H.sel' [0, 1, 2, 3] rfl rfl, rfl⟩
     ·clear hj
      have h := h'
      clear h' H
      rintro e a w ⟨rfl, ρ, σ24, rfl, rfl, H, hn25⟩
      refine q_then (c_seq (rg (st (v := (Sl Cp o17.1 Cq)) (rv_move rfl) (st (v := (I s2.2.1)) (rv_move rfl) (st (v := (I s2.2.2.1)) (rv_move rfl) (st (v := (.func (.func 88) #[] #[(pt Dm Dn), (pt Du Dv)])) (rv_move rfl) ?_))))))
      obtain ⟨r26, hx27, h'⟩ := bind_some h
      clear h
      have h := h'; clear h'
      have hc28 := c_slices_choosePivotCmpFunc_impl_Item__impl_sortByDistance_1 (Cp := Cp) (Cq := Cq) (Cr := Dk) (Cs := Dm) (Ct := Dn) (Cu := Do) (Cv := Dq) (Cz := Dt) (Da := Du) (Db := Dv) (Dc := Dw) (Dd := Dx) (Cw := Dr) (Cy := Ds) hx27
      have hle := Nat.le_trans hn0 H.size
      refine st_call (cx_lend (Loan.lend (Loan.same (Loan.same (Loan.same Loan.nil)))) hc28 (ent_f hc28.fn rfl) (show Hp S0 σ0 _ ([Ch.own 0 0 (Sl Cp o17.1 Cq) o17.1] ++ ([Ch.bx Dk Dm Dn [(I Di)] Do Dq, Ch.bx Dt Du Dv [(Sl Dr Dj Ds)] Dw Dx, Ch.ro 0 (Sl Dr Dj Ds) Dj] ++ [Ch.ro 0 (Sl Dr Dj Ds) Dj])) from (H.sel' [0, 1, 3, 2, 2] rfl rfl)) (by rintro _ _ _ ⟨rfl, rfl⟩; exact ⟨Ab.bx, Ab.bx, trivial⟩)) wn ?_
      rintro _ σ29 ⟨_, ⟨rfl, rfl⟩, H, -, -⟩
      replace H : Hp _ _ _ [_, _, _, _] := H
      clear hle
      replace H : Hp _ _ _ [_, _, _, _] := H
      refine st (v := (.tuple #[(I r26.1), (I r26.2)])) (rv_move rfl) (st (v := (I r26.1)) (rv_extract rfl rfl) (st (v := (I r26.2)) (rv_extract rfl rfl) (st (v := (I r26.1)) (rv_assign rfl) (st (v := (I r26.2)) (rv_assign rfl) (w_end (q_then (c_seq (c_seq (rg (st (v := (I r26.2)) (rv_move rfl) (st (v := (B (r26.2 == 2))) (rv_eql (a := r26.2) (b := 2) rfl rfl) ?_)))))))))))
      refine w_end (q_then ?_)
      obtain ⟨o30, hj, h'⟩ := bind_some h
      clear h
      refine c_cut (fun e a w => e = .normal ∧ ∃ (ρ : Nat → Value) (σ : St), a = fr 148 (updL ρ [(0, (Sl Cp o30.1 Cq)), (1, (I s2.2.1)), (2, (I s2.2.2.1)), (3, (I o17.2)), (4, (.func (.func 88) #[] #[(pt Dm Dn), (pt Du Dv)])), (10, (B s2.2.2.2.2.1)), (11, (B s2.2.2.2.2.2)), (12, (I (w64 (s2.2.2.1 - s2.2.1)))), (13, (I o30.2.1)), (14, (I o30.2.2))]) ∧ w = σ.w ∧ Hp S0 σ0 σ [Ch.own 0 0 (Sl Cp o30.1 Cq) o30.1, Ch.bx Dk Dm Dn [(I Di)] Do Dq, Ch.ro 0 (Sl Dr Dj Ds) Dj, Ch.bx Dt Du Dv [(Sl Dr Dj Ds)] Dw Dx] ∧ o30.1.length = o17.1.length) ?_ ?_
      ·clear h'
       rename _ = some o30 => h
       refine cd_cond (r26.2 == 2) rfl (fun hb31 => ?_) (fun hb31 => ?_)
       ·replace h := bif_t hb31 h
        refine c_seq (rg (st (v := (Sl Cp o17.1 Cq)) (rv_move rfl) (st (v := (I s2.2.1)) (rv_move rfl) (st (v := (I s2.2.2.1)) (rv_move rfl) (st (v := (.func (.func 88) #[] #[(pt Dm Dn), (pt Du Dv)])) (rv_move rfl) ?_)))))
        obtain ⟨r32, hx33, h'⟩ := bind_some h
        clear h
        have h := h'; clear h'
        have hc34 := c_slices_reverseRangeCmpFunc_impl_Item__impl_sortByDistance_1 (Cp := Cp) (Cq := Cq) (Cr := Dk) (Cs := Dm) (Ct := Dn) (Cu := Do) (Cv := Dq) (Cz := Dt) (Da := Du) (Db := Dv) (Dc := Dw) (Dd := Dx) (Cw := Dr) (Cy := Ds) hx33
        refine st_call (cx_call hc34 (ent_f hc34.fn rfl) hn0 (H.sel' [2, 0, 1, 3, 3] rfl rfl : Hp S0 σ0 _ ([_, _, _, _] ++ _))) wn ?_
        rintro _ σ36 ⟨_, ⟨rfl, rfl, hn35⟩, H, -⟩
        replace H : Hp _ _ _ [_, _, _, _] := H
        have hsl : (Sl Cp o17.1 Cq) = (Sl Cp r32 Cq) := sl_len hn35.symm
        try rw [hsl]
        try rw [hsl] at H
        clear hsl
        refine w_end (q_then (c_seq (rg (st (v := (I s2.2.2.1)) (rv_move rfl) (st (v := (I (w64 (s2.2.2.1 - 1)))) (rv_sub (a := s2.2.2.1) (b := 1) rfl rfl) (st (v := (I r26.1)) (rv_move rfl) (st (v := (I s2.2.1)) (rv_move rfl) (st (v := (I (w64 (r26.1 - s2.2.1)))) (rv_sub (a := r26.1) (b := s2.2.1) rfl rfl) (st (v := (I (w64 ((w64 (s2.2.2.1 - 1)) - (w64 (r26.1 - s2.2.1)))))) (rv_sub (a := (w64 (s2.2.2.1 - 1))) (b := (w64 (r26.1 - s2.2.1))) rfl rfl) (st (v := (I (w64 ((w64 (s2.2.2.1 - 1)) - (w64 (r26.1 - s2.2.1)))))) (rv_assign rfl) (w_end ?_)))))))))))
        refine q_then (rg (st (v := (I 1)) (rv_assign rfl) (w_end ?_)))
        obtain rfl := Option.some.inj h
        exact ⟨rfl, _, σ36, fr_join ⟨rfl, rfl, rfl, rfl, rfl, rfl, rfl, rfl, rfl, rfl, trivial⟩, rfl, H.sel' [0, 1, 3, 2] rfl rfl, ((hn35.trans (hn25.trans hn4)).trans (hn25.trans hn4).symm)⟩
       ·replace h := bif_f hb31 h
        refine c_skip ?_
        obtain rfl := Option.some.inj h
        exact ⟨rfl, _, σ29, fr_join ⟨rfl, rfl, rfl, rfl, rfl, rfl, rfl, rfl, rfl, rfl, trivial⟩, rfl, H.sel' [2, 0, 3, 1] rfl rfl, rfl⟩
      ·clear hj
       have h := h'
       clear h' H
       rintro e a w ⟨rfl, ρ, σ37, rfl, rfl, H, hn38⟩
       refine q_then (c_seq (c_seq ?_))
       obtain ⟨o39, hj, h'⟩ := bind_some h
       clear h
       refine c_cut (fun e a w => e = .normal ∧ ∃ (ρ : Nat → Value) (σ : St), a = fr 148 (updL ρ [(0, (Sl Cp o30.1 Cq)), (1, (I s2.2.1)), (2, (I s2.2.2.1)), (3, (I o17.2)), (4, (.func (.func 88) #[] #[(pt Dm Dn), (pt Du Dv)])), (10, (B s2.2.2.2.2.1)), (11, (B s2.2.2.2.2.2)), (12, (I (w64 (s2.2.2.1 - s2.2.1)))), (13, (I o30.2.1)), (75, (B o39))]) ∧ w = σ.w ∧ Hp S0 σ0 σ [Ch.own 0 0 (Sl Cp o30.1 Cq) o30.1, Ch.bx Dk Dm Dn [(I Di)] Do Dq, Ch.ro 0 (Sl Dr Dj Ds) Dj, Ch.bx Dt Du Dv [(Sl Dr Dj Ds)] Dw Dx]) ?_ ?_
       ·clear h'
        rename _ = some o39 => h
        refine rg (st (v := (B s2.2.2.2.2.1)) (rv_move rfl) (st (v := (B s2.2.2.2.2.1)) (rv_move rfl) ?_))
        rcases Bool.eq_false_or_eq_true s2.2.2.2.2.1 with hb40 | hb40
        ·replace h := bif_t hb40 h
         refine st_g (v := (B s2.2.2.2.2.2)) (congrArg some hb40) (rv_move rfl) (st (v := (B s2.2.2.2.2.2)) (rv_pick_t (congrArg B hb40) rfl) (st (v := (B s2.2.2.2.2.2)) (rv_move rfl) ?_))
         rcases Bool.eq_false_or_eq_true s2.2.2.2.2.2 with hb41 | hb41
         ·replace h := bif_t hb41 h
          refine st_g (v := (I o30.2.2)) (congrArg some hb41) (rv_move rfl) (st_g (v := (B (o30.2.2 == 1))) (congrArg some hb41) (rv_eql (a := o30.2.2) (b := 1) rfl rfl) (st (v := (B (o30.2.2 == 1))) (rv_pick_t (congrArg B hb41) rfl) (w_end ?_)))
          obtain rfl := Option.some.inj h
          exact ⟨rfl, _, σ37, fr_join ⟨rfl, rfl, rfl, rfl, rfl, rfl, rfl, rfl, rfl, rfl, trivial⟩, rfl, H.sel' [0, 1, 2, 3] rfl rfl⟩
         ·replace h := bif_f hb41 h
          refine st_skip (congrArg some hb41) (st_skip (congrArg some hb41) (st (v := (B false)) (rv_pick_f (congrArg B hb41) rfl) (w_end ?_)))
          obtain rfl := Option.some.inj h
          exact ⟨rfl, _, σ37, fr_join ⟨rfl, rfl, rfl, rfl, rfl, rfl, rfl, rfl, rfl, rfl, trivial⟩, rfl, H.sel' [0, 1, 2, 3] rfl rfl⟩
        ·replace h := bif_f hb40 h
         refine st_skip (congrArg some hb40) (st (v := (B false)) (rv_pick_f (congrArg B hb40) rfl) (st (v := (B false)) (rv_move rfl) (st_skip rfl (st_skip rfl (st (v := (B false)) (rv_pick_f rfl rfl) (w_end ?_))))))
         obtain rfl := Option.some.inj h
         exact ⟨rfl, _, σ37, fr_join ⟨rfl, rfl, rfl, rfl, rfl, rfl, rfl, rfl, rfl, rfl, trivial⟩, rfl, H.sel' [0, 1, 2, 3] rfl rfl⟩
       ·clear hj
        have h := h'
        clear h' H
        rintro e a w ⟨rfl, ρ, σ42, rfl, rfl, H⟩
        refine q_then ?_
        obtain ⟨o43, hj, h'⟩ := bind_some h
        clear h
        refine c_cut (fun e a w => (∃ t, o43 = (.inl t) ∧ e = .normal ∧ ∃ (ρ : Nat → Value) (σ : St), a = fr 148 (updL ρ [(0, (Sl Cp t Cq)), (1, (I s2.2.1)), (2, (I s2.2.2.1)), (3, (I o17.2)), (4, (.func (.func 88) #[] #[(pt Dm Dn), (pt Du Dv)])), (10, (B s2.2.2.2.2.1)), (11, (B s2.2.2.2.2.2)), (12, (I (w64 (s2.2.2.1 - s2.2.1)))), (13, (I o30.2.1))]) ∧ w = σ.w ∧ Hp S0 σ0 σ [Ch.own 0 0 (Sl Cp t Cq) t, Ch.bx Dk Dm Dn [(I Di)] Do Dq, Ch.ro 0 (Sl Dr Dj Ds) Dj, Ch.bx Dt Du Dv [(Sl Dr Dj Ds)] Dw Dx] ∧ t.length = o30.1.length) ∨ (∃ t, o43 = (.inr t) ∧ e = .ret ∧ ∃ (ρ : Nat → Value) (σ : St), a = fr 148 (updL ρ [(0, (Sl Cp t Cq)), (4, (.func (.func 88) #[] #[(pt Dm Dn), (pt Du Dv)]))]) ∧ w = σ.w ∧ Hp S0 σ0 σ [Ch.own 0 0 (Sl Cp t Cq) t, Ch.bx Dk Dm Dn [(I Di)] Do Dq, Ch.ro 0 (Sl Dr Dj Ds) Dj, Ch.bx Dt Du Dv [(Sl Dr Dj Ds)] Dw Dx] ∧ t.length = o30.1.length)) ?_ ?_
        ·clear h'
         rename _ = some o43 => h
         refine cd_cond o39 rfl (fun hb44 => ?_) (fun hb44 => ?_)
         ·replace h := bif_t hb44 h
          refine c_seq (rg (st (v := (Sl Cp o30.1 Cq)) (rv_move rfl) (st (v := (I s2.2.1)) (rv_move rfl) (st (v := (I s2.2.2.1)) (rv_move rfl) (st (v := (.func (.func 88) #[] #[(pt Dm Dn), (pt Du Dv)])) (rv_move rfl) ?_)))))
          obtain ⟨r45, hx46, h'⟩ := bind_some h
          clear h
          have h := h'; clear h'
          have hc47 := c_slices_partialInsertionSortCmpFunc_impl_Item__impl_sortByDistance_1 (Cp := Cp) (Cq := Cq) (Cr := Dk) (Cs := Dm) (Ct := Dn) (Cu := Do) (Cv := Dq) (Cz := Dt) (Da := Du) (Db := Dv) (Dc := Dw) (Dd := Dx) (Cw := Dr) (Cy := Ds) hx46
          refine st_call (cx_call hc47 (ent_f hc47.fn rfl) hn0 (H.sel' [0, 1, 3, 2, 2] rfl rfl : Hp S0 σ0 _ ([_, _, _, _] ++ _))) wn ?_
          rintro _ σ49 ⟨_, ⟨rfl, rfl, hn48⟩, H, -⟩
          replace H : Hp _ _ _ [_, _, _, _] := H
          have hsl : (Sl Cp o30.1 Cq) = (Sl Cp r45.2 Cq) := sl_len hn48.symm
          try rw [hsl]
          try rw [hsl] at H
          clear hsl
          refine w_end (q_then ?_)
          refine cd_cond r45.1 rfl (fun hb50 => ?_) (fun hb50 => ?_)
          ·replace h := bif_t hb50 h
           refine c_ret ?_
           obtain rfl := Option.some.inj h
           exact .inr (⟨_, rfl, rfl, _, σ49, fr_join ⟨rfl, rfl, trivial⟩, rfl, H.sel' [0, 1, 3, 2] rfl rfl, ((hn48.trans (hn38.trans (hn25.trans hn4))).trans (hn38.trans (hn25.trans hn4)).symm)⟩)
          ·replace h := bif_f hb50 h
           refine c_skip ?_
           obtain rfl := Option.some.inj h
           exact .inl ⟨_, rfl, rfl, _, σ49, fr_join ⟨rfl, rfl, rfl, rfl, rfl, rfl, rfl, rfl, rfl, trivial⟩, rfl, H.sel' [0, 1, 3, 2] rfl rfl, ((hn48.trans (hn38.trans (hn25.trans hn4))).trans (hn38.trans (hn25.trans hn4)).symm)⟩
         ·replace h := bif_f hb44 h
          refine c_skip ?_
          obtain rfl := Option.some.inj h
          exact .inl ⟨_, rfl, rfl, _, σ42, fr_join ⟨rfl, rfl, rfl, rfl, rfl, rfl, rfl, rfl, rfl, trivial⟩, rfl, H.sel' [0, 1, 2, 3] rfl rfl, rfl⟩
        ·clear hj
         have h := h'
         clear h' H
         rintro e a w (⟨t51, rfl, rfl, ρ, σ52, rfl, rfl, H, hn53⟩ | ⟨t107, rfl, rfl, ρ, σ108, rfl, rfl, H, hn109⟩)
         ·replace h := selim_l h
          refine q_then (c_seq (c_seq ?_))
          obtain ⟨o54, hj, h'⟩ := bind_some h
          clear h
          refine c_cut (fun e a w => e = .normal ∧ ∃ (ρ : Nat → Value) (σ : St), a = fr 148 (updL ρ [(0, (Sl Cp t51 Cq)), (1, (I s2.2.1)), (2, (I s2.2.2.1)), (3, (I o17.2)), (4, (.func (.func 88) #[] #[(pt Dm Dn), (pt Du Dv)])), (10, (B s2.2.2.2.2.1)), (11, (B s2.2.2.2.2.2)), (12, (I (w64 (s2.2.2.1 - s2.2.1)))), (13, (I o30.2.1)), (97, (B o54))]) ∧ w = σ.w ∧ Hp S0 σ0 σ [Ch.own 0 0 (Sl Cp t51 Cq) t51, Ch.bx Dk Dm Dn [(I Di)] Do Dq, Ch.ro 0 (Sl Dr Dj Ds) Dj, Ch.bx Dt Du Dv [(Sl Dr Dj Ds)] Dw Dx]) ?_ ?_
          ·clear h'
           rename _ = some o54 => h
           refine rgP (σ := σ52) 13 (by kernel_rfl) (by kernel_rfl) (by kernel_rfl) ?_
           refine sq (v := (I s2.2.1)) (rv_move rfl) (sq (v := (B (decide (0 < s2.2.1)))) (rv_gtr (a := s2.2.1) (b := 0) rfl rfl) (sq (v := (B (decide (0 < s2.2.1)))) (rv_move rfl) ?_))
           rcases Bool.eq_false_or_eq_true (decide (0 < s2.2.1)) with hb55 | hb55
           ·replace h := bif_t hb55 h
            refine sq_g (v := (.func (.func 88) #[] #[(pt Dm Dn), (pt Du Dv)])) (congrArg some hb55) (rv_move rfl) (sq_g (v := (Sl Cp t51 Cq)) (congrArg some hb55) (rv_move rfl) (sq_g (v := (I s2.2.1)) (congrArg some hb55) (rv_move rfl) (sq_g (v := (I (w64 (s2.2.1 - 1)))) (congrArg some hb55) (rv_sub (a := s2.2.1) (b := 1) rfl rfl) ?_)))
            obtain ⟨x56, hx57, h'⟩ := bind_some h
            clear h
            have h := h'; clear h'
            obtain ⟨b59, o60, hi58, -⟩ := (H.own 0 rfl).ix hx57
            refine sq_g (v := (pt b59 o60)) (congrArg some hb55) (rv_ix Try.underlying23 ti34 rfl rfl hi58) ?_
            obtain ⟨_, ⟨_, _, rfl, rfl, ⟨_, _, rfl, ⟨_, rfl, hR65⟩, rfl⟩⟩, hl61, hc62⟩ := ((H.own 0 rfl).at hx57 hi58).cells
            obtain ⟨a63, c64, rfl⟩ := hR65.isSl
            replace H := H.add (d := Ch.ro 0 (Sl a63 x56.2.1 c64) x56.2.1) hR65 (fun _ h => h)
            clear hR65
            refine sq_g (v := (.agg #[(I x56.1), (Sl a63 x56.2.1 c64), (I x56.2.2)])) (congrArg some hb55) (rv_load Try.underlying34 rfl ti34 rfl hl61 hc62) (sq_g (v := (Sl Cp t51 Cq)) (congrArg some hb55) (rv_move rfl) (sq_g (v := (I o30.2.1)) (congrArg some hb55) (rv_move rfl) ?_))
            obtain ⟨x66, hx67, h'⟩ := bind_some h
            clear h
            have h := h'; clear h'
            obtain ⟨b69, o70, hi68, -⟩ := (H.own 1 rfl).ix hx67
            refine sq_g (v := (pt b69 o70)) (congrArg some hb55) (rv_ix Try.underlying23 ti34 rfl rfl hi68) ?_
            obtain ⟨_, ⟨_, _, rfl, rfl, ⟨_, _, rfl, ⟨_, rfl, hR75⟩, rfl⟩⟩, hl71, hc72⟩ := ((H.own 1 rfl).at hx67 hi68).cells
            obtain ⟨a73, c74, rfl⟩ := hR75.isSl
            replace H := H.add (d := Ch.ro 0 (Sl a73 x66.2.1 c74) x66.2.1) hR75 (fun _ h => h)
            clear hR75
            refine sq_g (v := (.agg #[(I x66.1), (Sl a73 x66.2.1 c74), (I x66.2.2)])) (congrArg some hb55) (rv_load Try.underlying34 rfl ti34 rfl hl71 hc72) (sq_end ?_)
            intro σ76 hm77
            replace H := H.grow (hm77.mono fun _ h => h); clear hm77
            obtain ⟨r78, hx79, h'⟩ := bind_some h
            clear h
            have h := h'; clear h'
            have hc80 := c_impl_sortByDistance_1__p3__p24 (Ag := a63) (Ah := c64) (Bv := a73) (Bw := c74) (By := Dk) (Bz := Dm) (Ca := Dn) (Cb := Do) (Cc := Dq) (Cf := Dt) (Cg := Du) (Ci := Dv) (Cj := Dw) (Ck := Dx) (Cd := Dr) (Ce := Ds) hx79
            refine st_call (cx_call hc80 (ent_v (cap := [(pt Dm Dn), (pt Du Dv)]) hc80.fn rfl rfl) hn0 (H.sel' [1, 0, 3, 5, 4, 0, 1, 2, 4] rfl rfl : Hp S0 σ0 _ ([_, _, _, _, _] ++ _))) (wanted_yes rfl (by exact (congrArg some hb55))) ?_
            rintro _ σ81 ⟨_, ⟨rfl, rfl⟩, H, -⟩
            replace H : Hp _ _ _ [_, _, _, _, _, _] := H
            refine st_g (v := (B (decide (r78 < 0)))) (congrArg some hb55) (rv_lss (a := r78) (b := 0) rfl rfl) (st_g (v := (B (!(decide (r78 < 0))))) (congrArg some hb55) (rv_not rfl) (st (v := (B (!(decide (r78 < 0))))) (rv_pick_t (congrArg B hb55) rfl) (w_end ?_)))
            obtain rfl := Option.some.inj h
            exact ⟨rfl, _, σ81, fr_join ⟨rfl, rfl, rfl, rfl, rfl, rfl, rfl, rfl, rfl, rfl, trivial⟩, rfl, H.sel' [4, 0, 5, 1] rfl rfl⟩
           ·replace h := bif_f hb55 h
            refine sq_skip (congrArg some hb55) (sq_skip (congrArg some hb55) (sq_skip (congrArg some hb55) (sq_skip (congrArg some hb55) (sq_skip (congrArg some hb55) (sq_skip (congrArg some hb55) (sq_skip (congrArg some hb55) (sq_skip (congrArg some hb55) (sq_skip (congrArg some hb55) (sq_skip (congrArg some hb55) (sq_end ?_))))))))))
            intro σ82 hm83
            replace H := H.grow (hm83.mono fun _ h => h); clear hm83
            refine st_skip (congrArg some hb55) (st_skip (congrArg some hb55) (st_skip (congrArg some hb55) (st (v := (B false)) (rv_pick_f (congrArg B hb55) rfl) (w_end ?_))))
            obtain rfl := Option.some.inj h
            exact ⟨rfl, _, σ82, fr_join ⟨rfl, rfl, rfl, rfl, rfl, rfl, rfl, rfl, rfl, rfl, trivial⟩, rfl, H.sel' [0, 1, 2, 3] rfl rfl⟩
          ·clear hj
           have h := h'
           clear h' H
           rintro e a w ⟨rfl, ρ, σ84, rfl, rfl, H⟩
           refine q_then ?_
           refine cd_cond o54 rfl (fun hb85 => ?_) (fun hb85 => ?_)
           ·replace h := bif_t hb85 h
            refine c_seq (rg (st (v := (Sl Cp t51 Cq)) (rv_move rfl) (st (v := (I s2.2.1)) (rv_move rfl) (st (v := (I s2.2.2.1)) (rv_move rfl) (st (v := (I o30.2.1)) (rv_move rfl) (st (v := (.func (.func 88) #[] #[(pt Dm Dn), (pt Du Dv)])) (rv_move rfl) ?_))))))
            obtain ⟨r86, hx87, h'⟩ := bind_some h
            clear h
            have h := h'; clear h'
            have hc88 := c_slices_partitionEqualCmpFunc_impl_Item__impl_sortByDistance_1 (Cp := Cp) (Cq := Cq) (Dk := Dk) (Dm := Dm) (Dn := Dn) (Do := Do) (Dq := Dq) (Dt := Dt) (Du := Du) (Dv := Dv) (Dw := Dw) (Dx := Dx) (Dr := Dr) (Ds := Ds) hx87
            refine st_call (cx_call hc88 (ent_f hc88.fn rfl) hn0 (H.sel' [0, 1, 3, 2, 2] rfl rfl : Hp S0 σ0 _ ([_, _, _, _] ++ _))) wn ?_
            rintro _ σ90 ⟨_, ⟨rfl, rfl, hn89⟩, H, -⟩
            replace H : Hp _ _ _ [_, _, _, _] := H
            have hsl : (Sl Cp t51 Cq) = (Sl Cp r86.2 Cq) := sl_len hn89.symm
            try rw [hsl]
            try rw [hsl] at H
            clear hsl
            refine st (v := (I r86.1)) (rv_assign rfl) (w_end (q_then (c_seq (rg (st (v := (I r86.1)) (rv_move rfl) (st (v := (I r86.1)) (rv_assign rfl) (w_end (q_then (c_exit (q_then_x (q_blk_hit ?_)))))))))))
            refine q_then ?_
            obtain rfl := Option.some.inj h
            exact ⟨_, rfl, _, σ90, fr_join ⟨rfl, rfl, rfl, rfl, rfl, rfl, rfl, trivial⟩, rfl, H.sel' [0, 1, 3, 2] rfl rfl, (hn89.trans (hn53.trans (hn38.trans (hn25.trans hn4))))⟩
           ·replace h := bif_f hb85 h
            refine c_skip (q_then (c_seq (rg (st (v := (Sl Cp t51 Cq)) (rv_move rfl) (st (v := (I s2.2.1)) (rv_move rfl) (st (v := (I s2.2.2.1)) (rv_move rfl) (st (v := (I o30.2.1)) (rv_move rfl) (st (v := (.func (.func 88) #[] #[(pt Dm Dn), (pt Du Dv)])) (rv_move rfl) ?_))))))))
            obtain ⟨r91, hx92, h'⟩ := bind_some h
            clear h
            have h := h'; clear h'
            have hc93 := c_slices_partitionCmpFunc_impl_Item__impl_sortByDistance_1 (Cp := Cp) (Cq := Cq) (Dk := Dk) (Dm := Dm) (Dn := Dn) (Do := Do) (Dq := Dq) (Dt := Dt) (Du := Du) (Dv := Dv) (Dw := Dw) (Dx := Dx) (Dr := Dr) (Ds := Ds) hx92
            refine st_call (cx_call hc93 (ent_f hc93.fn rfl) hn0 (H.sel' [0, 1, 3, 2, 2] rfl rfl : Hp S0 σ0 _ ([_, _, _, _] ++ _))) wn ?_
            rintro _ σ95 ⟨_, ⟨rfl, rfl, hn94⟩, H, -⟩
            replace H : Hp _ _ _ [_, _, _, _] := H
            have hsl : (Sl Cp t51 Cq) = (Sl Cp r91.2.2 Cq) := sl_len hn94.symm
            try rw [hsl]
            try rw [hsl] at H
            clear hsl
            refine st (v := (.tuple #[(I r91.1), (B r91.2.1)])) (rv_move rfl) (st (v := (I r91.1)) (rv_extract rfl rfl) (st (v := (B r91.2.1)) (rv_extract rfl rfl) (st (v := (I r91.1)) (rv_assign rfl) (st (v := (B r91.2.1)) (rv_assign rfl) (w_end (q_then (c_seq (rg (st (v := (B r91.2.1)) (rv_move rfl) (st (v := (B r91.2.1)) (rv_assign rfl) (w_end ?_)))))))))))
            refine q_then (c_seq (rg (st (v := (I r91.1)) (rv_move rfl) (st (v := (I s2.2.1)) (rv_move rfl) (st (v := (I (w64 (r91.1 - s2.2.1)))) (rv_sub (a := r91.1) (b := s2.2.1) rfl rfl) (st (v := (I s2.2.2.1)) (rv_move rfl) (st (v := (I r91.1)) (rv_move rfl) (st (v := (I (w64 (s2.2.2.1 - r91.1)))) (rv_sub (a := s2.2.2.1) (b := r91.1) rfl rfl) (st (v := (I (w64 (r91.1 - s2.2.1)))) (rv_assign rfl) (st (v := (I (w64 (s2.2.2.1 - r91.1)))) (rv_assign rfl) (w_end ?_)))))))))))
            refine q_then (c_seq (rg (st (v := (I (w64 (s2.2.2.1 - s2.2.1)))) (rv_move rfl) ?_)))
            refine st (v := (I (w64 ((w64 (s2.2.2.1 - s2.2.1)).tdiv 8)))) (rv_quo (a := (w64 (s2.2.2.1 - s2.2.1))) (b := 8) rfl rfl (by decide)) ?_
            refine st (v := (I (w64 ((w64 (s2.2.2.1 - s2.2.1)).tdiv 8)))) (rv_assign rfl) (w_end (q_then (c_seq (rg (st (v := (I (w64 (r91.1 - s2.2.1)))) (rv_move rfl) (st (v := (I (w64 (s2.2.2.1 - r91.1)))) (rv_move rfl) (st (v := (B (decide ((w64 (r91.1 - s2.2.1)) < (w64 (s2.2.2.1 - r91.1)))))) (rv_lss (a := (w64 (r91.1 - s2.2.1))) (b := (w64 (s2.2.2.1 - r91.1))) rfl rfl) (w_end (q_then ?_)))))))))
            refine cd_cond (decide ((w64 (r91.1 - s2.2.1)) < (w64 (s2.2.2.1 - r91.1)))) rfl (fun hb96 => ?_) (fun hb96 => ?_)
            ·replace h := bif_t hb96 h
             refine c_seq (rg (st (v := (I (w64 (r91.1 - s2.2.1)))) (rv_move rfl) (st (v := (I (w64 ((w64 (s2.2.2.1 - s2.2.1)).tdiv 8)))) (rv_move rfl) (st (v := (B (decide ((w64 ((w64 (s2.2.2.1 - s2.2.1)).tdiv 8)) ≤ (w64 (r91.1 - s2.2.1)))))) (rv_geq (a := (w64 (r91.1 - s2.2.1))) (b := (w64 ((w64 (s2.2.2.1 - s2.2.1)).tdiv 8))) rfl rfl) (st (v := (B (decide ((w64 ((w64 (s2.2.2.1 - s2.2.1)).tdiv 8)) ≤ (w64 (r91.1 - s2.2.1)))))) (rv_assign rfl) (w_end (q_then (c_seq (rg (st (v := (Sl Cp r91.2.2 Cq)) (rv_move rfl) (st (v := (I s2.2.1)) (rv_move rfl) ?_)))))))))))
             refine st (v := (I r91.1)) (rv_move rfl) (st (v := (I o17.2)) (rv_move rfl) (st (v := (.func (.func 88) #[] #[(pt Dm Dn), (pt Du Dv)])) (rv_move rfl) ?_))
             obtain ⟨r97, hx98, h'⟩ := bind_some h
             clear h
             have h := h'; clear h'
             have hc99 := ih (Cp := Cp) (Cq := Cq) (Dk := Dk) (Dm := Dm) (Dn := Dn) (Do := Do) (Dq := Dq) (Dt := Dt) (Du := Du) (Dv := Dv) (Dw := Dw) (Dx := Dx) (Dr := Dr) (Ds := Ds) hx98
             refine st_call (cx_call hc99 (ent_f hc99.fn rfl) hn0 (H.sel' [0, 1, 2, 3, 3] rfl rfl : Hp S0 σ0 _ ([_, _, _, _] ++ _))) wn ?_
             rintro _ σ101 ⟨_, ⟨rfl, rfl, hn100⟩, H, -⟩
             replace H : Hp _ _ _ [_, _, _, _] := H
             have hsl : (Sl Cp r91.2.2 Cq) = (Sl Cp r97 Cq) := sl_len hn100.symm
             try rw [hsl]
             try rw [hsl] at H
             clear hsl
             refine w_end (q_then (rg (st (v := (I r91.1)) (rv_move rfl) (st (v := (I (w64 (r91.1 + 1)))) (rv_add (a := r91.1) (b := 1) rfl rfl) (st (v := (I (w64 (r91.1 + 1)))) (rv_assign rfl) (w_end (q_blk (q_then ?_))))))))
             obtain rfl := Option.some.inj h
             exact ⟨_, rfl, _, σ101, fr_join ⟨rfl, rfl, rfl, rfl, rfl, rfl, rfl, trivial⟩, rfl, H.sel' [0, 1, 3, 2] rfl rfl, (hn100.trans (hn94.trans (hn53.trans (hn38.trans (hn25.trans hn4)))))⟩
            ·replace h := bif_f hb96 h
             refine c_seq (rg (st (v := (I (w64 (s2.2.2.1 - r91.1)))) (rv_move rfl) (st (v := (I (w64 ((w64 (s2.2.2.1 - s2.2.1)).tdiv 8)))) (rv_move rfl) (st (v := (B (decide ((w64 ((w64 (s2.2.2.1 - s2.2.1)).tdiv 8)) ≤ (w64 (s2.2.2.1 - r91.1)))))) (rv_geq (a := (w64 (s2.2.2.1 - r91.1))) (b := (w64 ((w64 (s2.2.2.1 - s2.2.1)).tdiv 8))) rfl rfl) (st (v := (B (decide ((w64 ((w64 (s2.2.2.1 - s2.2.1)).tdiv 8)) ≤ (w64 (s2.2.2.1 - r91.1)))))) (rv_assign rfl) (w_end (q_then (c_seq (rg (st (v := (Sl Cp r91.2.2 Cq)) (rv_move rfl) (st (v := (I r91.1)) (rv_move rfl) ?_)))))))))))
             refine st (v := (I (w64 (r91.1 + 1)))) (rv_add (a := r91.1) (b := 1) rfl rfl) (st (v := (I s2.2.2.1)) (rv_move rfl) (st (v := (I o17.2)) (rv_move rfl) (st (v := (.func (.func 88) #[] #[(pt Dm Dn), (pt Du Dv)])) (rv_move rfl) ?_)))
             obtain ⟨r102, hx103, h'⟩ := bind_some h
             clear h
             have h := h'; clear h'
             have hc104 := ih (Cp := Cp) (Cq := Cq) (Dk := Dk) (Dm := Dm) (Dn := Dn) (Do := Do) (Dq := Dq) (Dt := Dt) (Du := Du) (Dv := Dv) (Dw := Dw) (Dx := Dx) (Dr := Dr) (Ds := Ds) hx103
             refine st_call (cx_call hc104 (ent_f hc104.fn rfl) hn0 (H.sel' [0, 1, 2, 3, 3] rfl rfl : Hp S0 σ0 _ ([_, _, _, _] ++ _))) wn ?_
             rintro _ σ106 ⟨_, ⟨rfl, rfl, hn105⟩, H, -⟩
             replace H : Hp _ _ _ [_, _, _, _] := H
             have hsl : (Sl Cp r91.2.2 Cq) = (Sl Cp r102 Cq) := sl_len hn105.symm
             try rw [hsl]
             try rw [hsl] at H
             clear hsl
             refine w_end (q_then (rg (st (v := (I r91.1)) (rv_move rfl) (st (v := (I r91.1)) (rv_assign rfl) (w_end (q_blk (q_then ?_)))))))
             obtain rfl := Option.some.inj h
             exact ⟨_, rfl, _, σ106, fr_join ⟨rfl, rfl, rfl, rfl, rfl, rfl, rfl, trivial⟩, rfl, H.sel' [0, 1, 3, 2] rfl rfl, (hn105.trans (hn94.trans (hn53.trans (hn38.trans (hn25.trans hn4)))))⟩
         ·replace h := selim_r h
          refine q_then_r (q_blk_r (q_then_r (q_blk_r ?_)))
          obtain rfl := Option.some.inj h
          obtain rfl := hres _ rfl
          exact ⟨rfl, _, σ108, fr_join ⟨rfl, rfl, trivial⟩, rfl, H.sel' [0, 1, 2, 3] rfl rfl, (hn109.trans (hn38.trans (hn25.trans hn4)))⟩
  ·clear hj
   have h := h'
   clear h' H
   rintro e a w ⟨rfl, ρ, σ110, rfl, rfl, H, hn111⟩
   obtain rfl := Option.some.inj h
   exact fin_ret (v := (.tuple #[])) (results_ok Try.results104 res_nil rfl) ⟨rfl, rfl, hn111⟩ (H.sel' [0, 1, 3] rfl rfl)

end Go.Vs

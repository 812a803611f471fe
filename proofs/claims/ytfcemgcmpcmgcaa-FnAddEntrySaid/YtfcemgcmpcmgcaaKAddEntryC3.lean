/- The functions compute what their models say. -/
import Derived.Test.YtfcemgcmpcmgcaaKAddEntryC2
set_option linter.unusedVariables false
set_option linter.unusedSimpArgs false
set_option maxHeartbeats 2000000
set_option maxRecDepth 20000
namespace Go.Vs
open Go Go.Proofs
attribute [local irreducible] Code.wp Code.wpIn wpList wpListIn wpQuiet Calls CallsIn

theorem c_spec_reader_pick {Cy : (List UInt8) × Int} {Cz : Int} {Da : Option Addr} {Db : Nat} {Dc Dd De : Nat} {Dg Dh : List Value} {r : Int × ((List UInt8) × Int)} (h : M.spec_reader_pick Cy Cz = some r) :
    Cal2 Try.prog 73 [(pt Dd De), (I Cz)] [Ch.bx Dc Dd De [(Sl Da Cy.1 Db), (I Cy.2)] Dg Dh, Ch.ro 0 (Sl Da Cy.1 Db) Cy.1] (fun n0 v L => ∃ (az1 : Option Addr), ∃ (cz2 : Nat), v = (I r.1) ∧ L = [Ch.bx Dc Dd De [(Sl az1 r.2.1 cz2), (I r.2.2)] Dg Dh, Ch.ro 0 (Sl az1 r.2.1 cz2) r.2.1]) := by
 refine cal2 (n := 99) Try.func73 rfl rfl rfl rfl ?_
 intro S0 σ0 n0 hn0 H
 unfold M.spec_reader_pick at h
 refine c_seq (rg (sa (I 0) rfl (w_end (q_then (c_seq (rg (sm (pt Dd De) rfl (sm (pt Dd De) rfl (st (v := (pt Dd De)) (rv_nilCheck rfl) (st (v := (pt Dd (De + 1))) (rv_fieldAddr (off := 1) (ft := 3) Try.underlying101 rfl ti3 rfl rfl) ?_))))))))))
 have hc1 := H.cell (u := (I Cy.2)) (o' := (De + 1)) 0 1 rfl rfl rfl
 refine st (v := (I Cy.2)) (rv_load1 Try.underlying3 rfl rfl hc1) (st (v := (I (w64 (Cy.2 + 1)))) (rv_add (a := Cy.2) (b := 1) rfl rfl) (st (v := (pt Dd De)) (rv_nilCheck rfl) (st (v := (pt Dd (De + 1))) (rv_fieldAddr (off := 1) (ft := 3) Try.underlying101 rfl ti3 rfl rfl) ?_)))
 refine st_exS (ex_store_box (k := 1) (cs := [(Sl Da Cy.1 Db), (I Cy.2)]) (vs := [(I (w64 (Cy.2 + 1)))]) (cs' := [(Sl Da Cy.1 Db), (I (w64 (Cy.2 + 1)))]) H (i := 0) rfl ti3 rfl rfl rfl rfl rfl (Nat.le_of_ble_eq_true rfl) (by simp [plain]) rfl) wn ?_
 rintro σ2 ⟨H, -⟩
 refine w_end (q_then (c_seq (c_seq ?_)))
 obtain ⟨o3, hj, h'⟩ := bind_some h
 clear h
 refine c_cut (fun e a w => e = .normal ∧ ∃ (ρ : Nat → Value) (σ : St), a = fr 99 (updL ρ [(0, (pt Dd De)), (1, (I Cz)), (24, (B o3))]) ∧ w = σ.w ∧ Hp S0 σ0 σ [Ch.ro 0 (Sl Da Cy.1 Db) Cy.1, Ch.bx Dc Dd De [(Sl Da Cy.1 Db), (I (w64 (Cy.2 + 1)))] Dg Dh]) ?_ ?_
 ·clear h'
  rename _ = some o3 => h
  refine rg (sm (I Cz) rfl (st (v := (B (decide (Cz < 1)))) (rv_lss (a := Cz) (b := 1) rfl rfl) (sm (B (decide (Cz < 1))) rfl ?_)))
  rcases Bool.eq_false_or_eq_true (decide (Cz < 1)) with hb4 | hb4
  ·replace h := bif_t hb4 h
   refine st_skip (congrArg some hb4) (st_skip (congrArg some hb4) (st_skip (congrArg some hb4) (st_skip (congrArg some hb4) (st_skip (congrArg some hb4) (st_skip (congrArg some hb4) (st (v := (B true)) (rv_pick_t (congrArg B hb4) rfl) (w_end ?_)))))))
   obtain rfl := sj h
   exact ⟨rfl, _, σ2, fr_join ⟨rfl, rfl, rfl, trivial⟩, rfl, H.sel' [1, 0] rfl rfl⟩
  ·replace h := bif_f hb4 h
   refine st_g (v := (pt Dd De)) (congrArg some hb4) (rv_move rfl) (st_g (v := (pt Dd De)) (congrArg some hb4) (rv_nilCheck rfl) (st_g (v := (pt Dd De)) (congrArg some hb4) (rv_fieldAddr (off := 0) (ft := 22) Try.underlying101 rfl ti22 rfl rfl) ?_))
   have hc5 := H.cell (u := (Sl Da Cy.1 Db)) (o' := De) 0 0 rfl rfl rfl
   refine st_g (v := (Sl Da Cy.1 Db)) (congrArg some hb4) (rv_load1 Try.underlying22 rfl rfl hc5) (st_g (v := (I (Cy.1.length : Int))) (congrArg some hb4) (rv_len Try.underlying22 rfl) (st_g (v := (B ((Cy.1.length : Int) == 0))) (congrArg some hb4) (rv_eql (a := (Cy.1.length : Int)) (b := 0) rfl rfl) (st (v := (B ((Cy.1.length : Int) == 0))) (rv_pick_f (congrArg B hb4) rfl) (w_end ?_))))
   obtain rfl := sj h
   exact ⟨rfl, _, σ2, fr_join ⟨rfl, rfl, rfl, trivial⟩, rfl, H.sel' [1, 0] rfl rfl⟩
 ·clear hj
  have h := h'
  clear h' H
  rintro e a w ⟨rfl, ρ, σ6, rfl, rfl, H⟩
  refine q_then ?_
  refine cd_cond o3 rfl (fun hb7 => ?_) (fun hb7 => ?_)
  ·replace h := bif_t hb7 h
   refine c_seq (rg (sa (I 0) rfl (w_end (q_then (c_ret (q_then_r ?_))))))
   obtain rfl := sj h
   exact fin_ret (v := (I 0)) (results_ok Try.results73 (res_tmp (v := (I 0)) rfl res_nil) rfl) ⟨Da, Db, rfl, rfl⟩ (H.sel' [1, 0] rfl rfl)
  ·replace h := bif_f hb7 h
   refine c_skip (q_then (c_seq (rg (sm (pt Dd De) rfl (st (v := (pt Dd De)) (rv_nilCheck rfl) (st (v := (pt Dd (De + 1))) (rv_fieldAddr (off := 1) (ft := 3) Try.underlying101 rfl ti3 rfl rfl) ?_))))))
   have hc8 := H.cell (u := (I (w64 (Cy.2 + 1)))) (o' := (De + 1)) 1 1 rfl rfl rfl
   refine st (v := (I (w64 (Cy.2 + 1)))) (rv_load1 Try.underlying3 rfl rfl hc8) (st (v := (I (w64 ((w64 (Cy.2 + 1)) - 1)))) (rv_sub (a := (w64 (Cy.2 + 1))) (b := 1) rfl rfl) (sa (I (w64 ((w64 (Cy.2 + 1)) - 1))) rfl (w_end (q_then (c_seq (c_seq (rg (sm (I (w64 ((w64 (Cy.2 + 1)) - 1))) rfl (sm (pt Dd De) rfl (st (v := (pt Dd De)) (rv_nilCheck rfl) (st (v := (pt Dd De)) (rv_fieldAddr (off := 0) (ft := 22) Try.underlying101 rfl ti22 rfl rfl) ?_)))))))))))
   have hc9 := H.cell (u := (Sl Da Cy.1 Db)) (o' := De) 1 0 rfl rfl rfl
   refine st (v := (Sl Da Cy.1 Db)) (rv_load1 Try.underlying22 rfl rfl hc9) (st (v := (I (Cy.1.length : Int))) (rv_len Try.underlying22 rfl) (st (v := (B (decide ((w64 ((w64 (Cy.2 + 1)) - 1)) < (Cy.1.length : Int))))) (rv_lss (a := (w64 ((w64 (Cy.2 + 1)) - 1))) (b := (Cy.1.length : Int)) rfl rfl) (w_end (q_then ?_))))
   refine cd_cond (decide ((w64 ((w64 (Cy.2 + 1)) - 1)) < (Cy.1.length : Int))) rfl (fun hb10 => ?_) (fun hb10 => ?_)
   ·replace h := bif_t hb10 h
    refine c_seq (rg (sm (pt Dd De) rfl (st (v := (pt Dd De)) (rv_nilCheck rfl) (st (v := (pt Dd De)) (rv_fieldAddr (off := 0) (ft := 22) Try.underlying101 rfl ti22 rfl rfl) ?_))))
    have hc11 := H.cell (u := (Sl Da Cy.1 Db)) (o' := De) 1 0 rfl rfl rfl
    refine st (v := (Sl Da Cy.1 Db)) (rv_load1 Try.underlying22 rfl rfl hc11) (sm (I (w64 ((w64 (Cy.2 + 1)) - 1))) rfl ?_)
    revert h; refine br fun x12 hx13 h => ?_
    obtain ⟨b15, o16, hi14, -⟩ := (H.ro 0 rfl).ix hx13
    refine st (v := (pt b15 o16)) (rv_ix Try.underlying22 ti5 rfl rfl hi14) ?_
    have hc17 := ((H.ro 0 rfl).at hx13 hi14).byte
    refine st (v := (.int .u8 (x12.toNat : Int))) (rv_load1 Try.underlying5 rfl rfl hc17) (st (v := (I (w64 (x12.toNat : Int)))) (rv_conv Try.underlying5 Try.underlying3 rfl) (sm (I Cz) rfl ?_))
    revert h; refine br fun q18 hx19 h => ?_
    refine st (v := (I q18)) (rv_remG (a := (w64 (x12.toNat : Int))) (b := Cz) hx19 rfl rfl) (sa (I q18) rfl (w_end (q_then (c_ret (q_then_r ?_)))))
    obtain rfl := sj h
    exact fin_ret (v := (I q18)) (results_ok Try.results73 (res_tmp (v := (I q18)) rfl res_nil) rfl) ⟨Da, Db, rfl, rfl⟩ (H.sel' [1, 0] rfl rfl)
   ·replace h := bif_f hb10 h
    refine c_skip (q_then (c_seq ?_))
    refine rgP (σ := σ6) 44 (by kernel_rfl) (by kernel_rfl) (by kernel_rfl) ?_
    refine sq (v := (pt Dd De)) (rv_move rfl) (sq (v := (pt Dd De)) (rv_nilCheck rfl) (sq (v := (pt Dd De)) (rv_fieldAddr (off := 0) (ft := 22) Try.underlying101 rfl ti22 rfl rfl) ?_))
    have hc20 := H.cell (u := (Sl Da Cy.1 Db)) (o' := De) 1 0 rfl rfl rfl
    refine sq (v := (Sl Da Cy.1 Db)) (rv_load1 Try.underlying22 rfl rfl hc20) (sq (v := (I (w64 ((w64 (Cy.2 + 1)) - 1)))) (rv_move rfl) (sq (v := (pt Dd De)) (rv_move rfl) (sq (v := (pt Dd De)) (rv_nilCheck rfl) (sq (v := (pt Dd De)) (rv_fieldAddr (off := 0) (ft := 22) Try.underlying101 rfl ti22 rfl rfl) ?_))))
    have hc21 := H.cell (u := (Sl Da Cy.1 Db)) (o' := De) 1 0 rfl rfl rfl
    refine sq (v := (Sl Da Cy.1 Db)) (rv_load1 Try.underlying22 rfl rfl hc21) (sq (v := (I (Cy.1.length : Int))) (rv_len Try.underlying22 rfl) ?_)
    revert h; refine br fun q22 hx23 h => ?_
    refine sq (v := (I q22)) (rv_remG (a := (w64 ((w64 (Cy.2 + 1)) - 1))) (b := (Cy.1.length : Int)) hx23 rfl rfl) ?_
    revert h; refine br fun x24 hx25 h => ?_
    obtain ⟨b27, o28, hi26, -⟩ := (H.ro 0 rfl).ix hx25
    refine sq (v := (pt b27 o28)) (rv_ix Try.underlying22 ti5 rfl rfl hi26) ?_
    have hc29 := ((H.ro 0 rfl).at hx25 hi26).byte
    refine sq (v := (.int .u8 (x24.toNat : Int))) (rv_load1 Try.underlying5 rfl rfl hc29) (sq (v := (I (w64 (x24.toNat : Int)))) (rv_conv Try.underlying5 Try.underlying3 rfl) (sq (v := (I (w64 ((w64 (x24.toNat : Int)) * 131)))) (rv_mul (a := (w64 (x24.toNat : Int))) (b := 131) rfl rfl) (sq (v := (pt Dd De)) (rv_move rfl) (sq (v := (pt Dd De)) (rv_nilCheck rfl) (sq (v := (pt Dd De)) (rv_fieldAddr (off := 0) (ft := 22) Try.underlying101 rfl ti22 rfl rfl) ?_)))))
    have hc30 := H.cell (u := (Sl Da Cy.1 Db)) (o' := De) 1 0 rfl rfl rfl
    refine sq (v := (Sl Da Cy.1 Db)) (rv_load1 Try.underlying22 rfl rfl hc30) (sq (v := (I (w64 ((w64 (Cy.2 + 1)) - 1)))) (rv_move rfl) (sq (v := (I (w64 ((w64 ((w64 (Cy.2 + 1)) - 1)) * 7)))) (rv_mul (a := (w64 ((w64 (Cy.2 + 1)) - 1))) (b := 7) rfl rfl) (sq (v := (I (w64 ((w64 ((w64 ((w64 (Cy.2 + 1)) - 1)) * 7)) + 3)))) (rv_add (a := (w64 ((w64 ((w64 (Cy.2 + 1)) - 1)) * 7))) (b := 3) rfl rfl) (sq (v := (pt Dd De)) (rv_move rfl) (sq (v := (pt Dd De)) (rv_nilCheck rfl) (sq (v := (pt Dd De)) (rv_fieldAddr (off := 0) (ft := 22) Try.underlying101 rfl ti22 rfl rfl) ?_))))))
    have hc31 := H.cell (u := (Sl Da Cy.1 Db)) (o' := De) 1 0 rfl rfl rfl
    refine sq (v := (Sl Da Cy.1 Db)) (rv_load1 Try.underlying22 rfl rfl hc31) (sq (v := (I (Cy.1.length : Int))) (rv_len Try.underlying22 rfl) ?_)
    revert h; refine br fun q32 hx33 h => ?_
    refine sq (v := (I q32)) (rv_remG (a := (w64 ((w64 ((w64 ((w64 (Cy.2 + 1)) - 1)) * 7)) + 3))) (b := (Cy.1.length : Int)) hx33 rfl rfl) ?_
    revert h; refine br fun x34 hx35 h => ?_
    obtain ⟨b37, o38, hi36, -⟩ := (H.ro 0 rfl).ix hx35
    refine sq (v := (pt b37 o38)) (rv_ix Try.underlying22 ti5 rfl rfl hi36) ?_
    have hc39 := ((H.ro 0 rfl).at hx35 hi36).byte
    refine sq (v := (.int .u8 (x34.toNat : Int))) (rv_load1 Try.underlying5 rfl rfl hc39) (sq (v := (I (w64 (x34.toNat : Int)))) (rv_conv Try.underlying5 Try.underlying3 rfl) (sq (v := (I (w64 ((w64 (x34.toNat : Int)) * 1117)))) (rv_mul (a := (w64 (x34.toNat : Int))) (b := 1117) rfl rfl) (sq (v := (I (w64 ((w64 ((w64 (x24.toNat : Int)) * 131)) + (w64 ((w64 (x34.toNat : Int)) * 1117)))))) (rv_add (a := (w64 ((w64 (x24.toNat : Int)) * 131))) (b := (w64 ((w64 (x34.toNat : Int)) * 1117))) rfl rfl) (sq (v := (I (w64 ((w64 (Cy.2 + 1)) - 1)))) (rv_move rfl) (sq (v := (I (w64 ((w64 ((w64 (Cy.2 + 1)) - 1)) * 29)))) (rv_mul (a := (w64 ((w64 (Cy.2 + 1)) - 1))) (b := 29) rfl rfl) (sq (v := (I (w64 ((w64 ((w64 ((w64 (x24.toNat : Int)) * 131)) + (w64 ((w64 (x34.toNat : Int)) * 1117)))) + (w64 ((w64 ((w64 (Cy.2 + 1)) - 1)) * 29)))))) (rv_add (a := (w64 ((w64 ((w64 (x24.toNat : Int)) * 131)) + (w64 ((w64 (x34.toNat : Int)) * 1117))))) (b := (w64 ((w64 ((w64 (Cy.2 + 1)) - 1)) * 29))) rfl rfl) (sq (v := (I (w64 ((w64 (Cy.2 + 1)) - 1)))) (rv_move rfl) (sq (v := (pt Dd De)) (rv_move rfl) (sq (v := (pt Dd De)) (rv_nilCheck rfl) (sq (v := (pt Dd De)) (rv_fieldAddr (off := 0) (ft := 22) Try.underlying101 rfl ti22 rfl rfl) ?_))))))))))
    have hc40 := H.cell (u := (Sl Da Cy.1 Db)) (o' := De) 1 0 rfl rfl rfl
    refine sq (v := (Sl Da Cy.1 Db)) (rv_load1 Try.underlying22 rfl rfl hc40) (sq (v := (I (Cy.1.length : Int))) (rv_len Try.underlying22 rfl) ?_)
    revert h; refine br fun q41 hx42 h => ?_
    refine sq (v := (I q41)) (rv_quoG (a := (w64 ((w64 (Cy.2 + 1)) - 1))) (b := (Cy.1.length : Int)) hx42 rfl rfl) (sq (v := (I (w64 (q41 * 53)))) (rv_mul (a := q41) (b := 53) rfl rfl) (sq_end ?_))
    intro σ43 hm44
    replace H := H.grow (hm44.mono fun _ h => h); clear hm44
    refine st (v := (I (w64 ((w64 ((w64 ((w64 ((w64 (x24.toNat : Int)) * 131)) + (w64 ((w64 (x34.toNat : Int)) * 1117)))) + (w64 ((w64 ((w64 (Cy.2 + 1)) - 1)) * 29)))) + (w64 (q41 * 53)))))) (rv_add (a := (w64 ((w64 ((w64 ((w64 (x24.toNat : Int)) * 131)) + (w64 ((w64 (x34.toNat : Int)) * 1117)))) + (w64 ((w64 ((w64 (Cy.2 + 1)) - 1)) * 29))))) (b := (w64 (q41 * 53))) rfl rfl) (sa (I (w64 ((w64 ((w64 ((w64 ((w64 (x24.toNat : Int)) * 131)) + (w64 ((w64 (x34.toNat : Int)) * 1117)))) + (w64 ((w64 ((w64 (Cy.2 + 1)) - 1)) * 29)))) + (w64 (q41 * 53))))) rfl (w_end (q_then (c_seq (rg (sm (I (w64 ((w64 ((w64 ((w64 ((w64 (x24.toNat : Int)) * 131)) + (w64 ((w64 (x34.toNat : Int)) * 1117)))) + (w64 ((w64 ((w64 (Cy.2 + 1)) - 1)) * 29)))) + (w64 (q41 * 53))))) rfl (sm (I (w64 ((w64 ((w64 ((w64 ((w64 (x24.toNat : Int)) * 131)) + (w64 ((w64 (x34.toNat : Int)) * 1117)))) + (w64 ((w64 ((w64 (Cy.2 + 1)) - 1)) * 29)))) + (w64 (q41 * 53))))) rfl ?_)))))))
    refine st (v := (I (w64 ((w64 ((w64 ((w64 ((w64 ((w64 (x24.toNat : Int)) * 131)) + (w64 ((w64 (x34.toNat : Int)) * 1117)))) + (w64 ((w64 ((w64 (Cy.2 + 1)) - 1)) * 29)))) + (w64 (q41 * 53)))).tdiv 64)))) (rv_quo (a := (w64 ((w64 ((w64 ((w64 ((w64 (x24.toNat : Int)) * 131)) + (w64 ((w64 (x34.toNat : Int)) * 1117)))) + (w64 ((w64 ((w64 (Cy.2 + 1)) - 1)) * 29)))) + (w64 (q41 * 53))))) (b := 64) rfl rfl (by decide)) ?_
    refine st (v := (I (gxor (w64 ((w64 ((w64 ((w64 ((w64 (x24.toNat : Int)) * 131)) + (w64 ((w64 (x34.toNat : Int)) * 1117)))) + (w64 ((w64 ((w64 (Cy.2 + 1)) - 1)) * 29)))) + (w64 (q41 * 53)))) (w64 ((w64 ((w64 ((w64 ((w64 ((w64 (x24.toNat : Int)) * 131)) + (w64 ((w64 (x34.toNat : Int)) * 1117)))) + (w64 ((w64 ((w64 (Cy.2 + 1)) - 1)) * 29)))) + (w64 (q41 * 53)))).tdiv 64))))) (rv_xor (a := (w64 ((w64 ((w64 ((w64 ((w64 (x24.toNat : Int)) * 131)) + (w64 ((w64 (x34.toNat : Int)) * 1117)))) + (w64 ((w64 ((w64 (Cy.2 + 1)) - 1)) * 29)))) + (w64 (q41 * 53))))) (b := (w64 ((w64 ((w64 ((w64 ((w64 ((w64 (x24.toNat : Int)) * 131)) + (w64 ((w64 (x34.toNat : Int)) * 1117)))) + (w64 ((w64 ((w64 (Cy.2 + 1)) - 1)) * 29)))) + (w64 (q41 * 53)))).tdiv 64))) rfl rfl) (sa (I (gxor (w64 ((w64 ((w64 ((w64 ((w64 (x24.toNat : Int)) * 131)) + (w64 ((w64 (x34.toNat : Int)) * 1117)))) + (w64 ((w64 ((w64 (Cy.2 + 1)) - 1)) * 29)))) + (w64 (q41 * 53)))) (w64 ((w64 ((w64 ((w64 ((w64 ((w64 (x24.toNat : Int)) * 131)) + (w64 ((w64 (x34.toNat : Int)) * 1117)))) + (w64 ((w64 ((w64 (Cy.2 + 1)) - 1)) * 29)))) + (w64 (q41 * 53)))).tdiv 64)))) rfl (w_end (q_then (c_seq (rg (sm (I (gxor (w64 ((w64 ((w64 ((w64 ((w64 (x24.toNat : Int)) * 131)) + (w64 ((w64 (x34.toNat : Int)) * 1117)))) + (w64 ((w64 ((w64 (Cy.2 + 1)) - 1)) * 29)))) + (w64 (q41 * 53)))) (w64 ((w64 ((w64 ((w64 ((w64 ((w64 (x24.toNat : Int)) * 131)) + (w64 ((w64 (x34.toNat : Int)) * 1117)))) + (w64 ((w64 ((w64 (Cy.2 + 1)) - 1)) * 29)))) + (w64 (q41 * 53)))).tdiv 64)))) rfl (sm (I Cz) rfl ?_)))))))
    revert h; refine br fun q45 hx46 h => ?_
    refine st (v := (I q45)) (rv_remG (a := (gxor (w64 ((w64 ((w64 ((w64 ((w64 (x24.toNat : Int)) * 131)) + (w64 ((w64 (x34.toNat : Int)) * 1117)))) + (w64 ((w64 ((w64 (Cy.2 + 1)) - 1)) * 29)))) + (w64 (q41 * 53)))) (w64 ((w64 ((w64 ((w64 ((w64 ((w64 (x24.toNat : Int)) * 131)) + (w64 ((w64 (x34.toNat : Int)) * 1117)))) + (w64 ((w64 ((w64 (Cy.2 + 1)) - 1)) * 29)))) + (w64 (q41 * 53)))).tdiv 64)))) (b := Cz) hx46 rfl rfl) (sa (I q45) rfl (w_end (q_then (c_ret ?_))))
    obtain rfl := sj h
    exact fin_ret (v := (I q45)) (results_ok Try.results73 (res_tmp (v := (I q45)) rfl res_nil) rfl) ⟨Da, Db, rfl, rfl⟩ (H.sel' [1, 0] rfl rfl)

theorem c_spec_reader_one {Cy : (List UInt8) × Int} {Bj : List Int} {Da : Option Addr} {Db : Nat} {Dc Dd De : Nat} {Dg Dh : List Value} {Bk : Option Addr} {Bl : Nat} {r : Int × ((List UInt8) × Int)} (h : M.spec_reader_one Cy Bj = some r) :
    Cal2 Try.prog 55 [(pt Dd De), (Sl Bk Bj Bl)] [Ch.bx Dc Dd De [(Sl Da Cy.1 Db), (I Cy.2)] Dg Dh, Ch.ro 0 (Sl Da Cy.1 Db) Cy.1, Ch.ro 0 (Sl Bk Bj Bl) Bj] (fun n0 v L => ∃ (az1 : Option Addr), ∃ (cz2 : Nat), v = (I r.1) ∧ L = [Ch.bx Dc Dd De [(Sl az1 r.2.1 cz2), (I r.2.2)] Dg Dh, Ch.ro 0 (Sl az1 r.2.1 cz2) r.2.1]) := by
 refine cal2 (n := 12) Try.func55 rfl rfl rfl rfl ?_
 intro S0 σ0 n0 hn0 H
 unfold M.spec_reader_one at h
 refine c_seq (rg (sa (I 0) rfl (w_end (q_then (c_seq (rg (sm (Sl Bk Bj Bl) rfl (sm (pt Dd De) rfl (sm (Sl Bk Bj Bl) rfl (st (v := (I (Bj.length : Int))) (rv_len Try.underlying24 rfl) ?_))))))))))
 revert h; refine br fun r1 hx2 h => ?_
 have hc3 := c_spec_reader_pick (Dc := Dc) (Dd := Dd) (De := De) (Dg := Dg) (Dh := Dh) (Da := Da) (Db := Db) hx2
 refine st_call (cx_call hc3 (ent_f hc3.fn rfl) hn0 (H.sel' [0, 1, 1, 2] rfl rfl : Hp S0 σ0 _ ([_, _] ++ _))) wn ?_
 rintro _ σ6 ⟨_, ⟨a4, c5, rfl, rfl⟩, H, -⟩
 replace H : Hp _ _ _ [_, _, _, _] := H
 revert h; refine br fun x7 hx8 h => ?_
 obtain ⟨b10, o11, hi9, -⟩ := (H.ro 3 rfl).ix hx8
 refine st (v := (pt b10 o11)) (rv_ix Try.underlying24 ti3 rfl rfl hi9) ?_
 have hc12 := ((H.ro 3 rfl).at hx8 hi9).int
 refine st (v := (I x7)) (rv_load1 Try.underlying3 rfl rfl hc12) (sa (I x7) rfl (w_end (q_then (c_ret ?_))))
 obtain rfl := sj h
 exact fin_ret (v := (I x7)) (results_ok Try.results55 (res_tmp (v := (I x7)) rfl res_nil) rfl) ⟨a4, c5, rfl, rfl⟩ (H.sel' [0, 1] rfl rfl)

theorem c_spec_someCoord {Cy : (List UInt8) × Int} {Da : Option Addr} {Db : Nat} {Dc Dd De : Nat} {Dg Dh : List Value} {r : Int × ((List UInt8) × Int)} (h : M.spec_someCoord Cy = some r) :
    Cal2 Try.prog 118 [(pt Dd De)] [Ch.bx Dc Dd De [(Sl Da Cy.1 Db), (I Cy.2)] Dg Dh, Ch.ro 0 (Sl Da Cy.1 Db) Cy.1] (fun n0 v L => ∃ (az1 : Option Addr), ∃ (cz2 : Nat), v = (I r.1) ∧ L = [Ch.bx Dc Dd De [(Sl az1 r.2.1 cz2), (I r.2.2)] Dg Dh, Ch.ro 0 (Sl az1 r.2.1 cz2) r.2.1]) := by
 refine cal2 (n := 12) Try.func118 rfl rfl rfl rfl ?_
 intro S0 σ0 n0 hn0 H
 unfold M.spec_someCoord at h
 refine c_seq (rg (sa (I 0) rfl (w_end (q_then (c_seq (rg (sm (pt Dd De) rfl (sm (pt Dd De) rfl ?_))))))))
 revert h; refine br fun r1 hx2 h => ?_
 have hc3 := c_spec_reader_pick (Dc := Dc) (Dd := Dd) (De := De) (Dg := Dg) (Dh := Dh) (Da := Da) (Db := Db) hx2
 refine st_call (cx_call hc3 (ent_f hc3.fn rfl) hn0 (H.sel' [0, 1, 1] rfl rfl : Hp S0 σ0 _ ([_, _] ++ _))) wn ?_
 rintro _ σ6 ⟨_, ⟨a4, c5, rfl, rfl⟩, H, -⟩
 replace H : Hp _ _ _ [_, _, _] := H
 refine st (v := (I (w64 (r1.1 - 100)))) (rv_sub (a := r1.1) (b := 100) rfl rfl) (sm (pt Dd De) rfl ?_)
 revert h; refine br fun r7 hx8 h => ?_
 have hc9 := c_spec_reader_pick (Dc := Dc) (Dd := Dd) (De := De) (Dg := Dg) (Dh := Dh) (Da := a4) (Db := c5) hx8
 refine st_call (cx_call hc9 (ent_f hc9.fn rfl) hn0 (H.sel' [0, 1, 1, 2] rfl rfl : Hp S0 σ0 _ ([_, _] ++ _))) wn ?_
 rintro _ σ12 ⟨_, ⟨a10, c11, rfl, rfl⟩, H, -⟩
 replace H : Hp _ _ _ [_, _, _, _] := H
 refine st (v := (I (w64 (r7.1 - 10)))) (rv_sub (a := r7.1) (b := 10) rfl rfl) ?_
 refine st_ex (ex_buildSlice (el := n0) (xs := ([0, 1, -1, 5, -7, 10, 3, 100, -100, w64 (r1.1 - 100), w64 (r7.1 - 10)] : List Int)) (ps := [(0, (I 0)), (1, (I 1)), (2, (I (-1))), (3, (I 5)), (4, (I (-7))), (5, (I 10)), (6, (I 3)), (7, (I 100)), (8, (I (-100))), (9, (I (w64 (r1.1 - 100)))), (10, (I (w64 (r7.1 - 10))))]) (cs := [(I 0), (I 1), (I (-1)), (I 5), (I (-7)), (I 10), (I 3), (I 100), (I (-100)), (I (w64 (r1.1 - 100))), (I (w64 (r7.1 - 10)))]) H hn0 Try.underlying24 ti3 rfl rfl (by kernel_rfl) (.cons (c := [(I 0)]) rfl (.cons (c := [(I 1)]) rfl (.cons (c := [(I (-1))]) rfl (.cons (c := [(I 5)]) rfl (.cons (c := [(I (-7))]) rfl (.cons (c := [(I 10)]) rfl (.cons (c := [(I 3)]) rfl (.cons (c := [(I 100)]) rfl (.cons (c := [(I (-100))]) rfl (.cons (c := [(I (w64 (r1.1 - 100)))]) rfl (.cons (c := [(I (w64 (r7.1 - 10)))]) rfl (.nil)))))))))))) rfl) wn ?_
 rintro _ σ14 ⟨b13, rfl, H, -⟩
 obtain ⟨σ15, hw16, H, -⟩ := H.pub 0 rfl (Nat.le_refl _)
 rw [← hw16]; clear hw16
 replace H := H.roLow 0 0 rfl (Nat.zero_le _)
 revert h; refine br fun r17 hx18 h => ?_
 have hc19 := c_spec_reader_one (Dc := Dc) (Dd := Dd) (De := De) (Dg := Dg) (Dh := Dh) (Da := a10) (Db := c11) (Bk := (some ⟨b13, 0, none⟩)) (Bl := 11) hx18
 refine st_call (cx_call hc19 (ent_f hc19.fn rfl) hn0 (H.sel' [2, 3, 0, 0, 1, 3, 4, 5] rfl rfl : Hp S0 σ0 _ ([_, _, _] ++ _))) wn ?_
 rintro _ σ22 ⟨_, ⟨a20, c21, rfl, rfl⟩, H, -⟩
 replace H : Hp _ _ _ [_, _, _, _, _, _, _] := H
 refine sa (I r17.1) rfl (w_end (q_then (c_ret ?_)))
 obtain rfl := sj h
 exact fin_ret (v := (I r17.1)) (results_ok Try.results118 (res_tmp (v := (I r17.1)) rfl res_nil) rfl) ⟨a20, c21, rfl, rfl⟩ (H.sel' [0, 1] rfl rfl)

theorem c_spec_someVector {Cy : (List UInt8) × Int} {Da : Option Addr} {Db : Nat} {Dc Dd De : Nat} {Dg Dh : List Value} {r : (List Int) × ((List UInt8) × Int)} (h : M.spec_someVector Cy = some r) :
    Cal2 Try.prog 116 [(pt Dd De)] [Ch.bx Dc Dd De [(Sl Da Cy.1 Db), (I Cy.2)] Dg Dh, Ch.ro 0 (Sl Da Cy.1 Db) Cy.1] (fun n0 v L => ∃ (az1 : Option Addr), ∃ (cz2 : Nat), ∃ (az3 : Option Addr), ∃ (cz4 : Nat), v = (Sl az1 r.1 cz2) ∧ L = [Ch.own n0 n0 (Sl az1 r.1 cz2) r.1, Ch.bx Dc Dd De [(Sl az3 r.2.1 cz4), (I r.2.2)] Dg Dh, Ch.ro 0 (Sl az3 r.2.1 cz4) r.2.1]) := by
 refine cal2 (n := 16) Try.func116 rfl rfl rfl rfl ?_
 intro S0 σ0 n0 hn0 H
 unfold M.spec_someVector at h
 refine c_seq (rg (sa (.slice none 0 0) rfl (w_end (q_then (c_seq (rg ?_))))))
 refine st_ex (ex_buildSlice (el := n0) (xs := ([] : List Int)) (ps := []) (cs := []) H hn0 Try.underlying24 ti3 rfl rfl (by kernel_rfl) (.nil) rfl) wn ?_
 rintro _ σ2 ⟨b1, rfl, H, -⟩
 refine sa (Sl (some ⟨b1, 0, none⟩) ([] : List Int) 0) rfl (w_end (q_then (c_seq (c_seq (rg (sa (I 0) rfl (w_end (q_then ?_))))))))
 obtain ⟨o3, hj, h'⟩ := bind_some h
 clear h
 refine c_cut (fun e a w => e = .normal ∧ ∃ (ρ : Nat → Value) (σ : St) (aj1 : Option Addr) (cj2 : Nat) (aj3 : Option Addr) (cj4 : Nat), a = fr 16 (updL ρ [(0, (pt Dd De)), (3, (Sl aj3 o3.2 cj4))]) ∧ w = σ.w ∧ Hp S0 σ0 σ [Ch.bx Dc Dd De [(Sl aj1 o3.1.1 cj2), (I o3.1.2)] Dg Dh, Ch.ro 0 (Sl aj1 o3.1.1 cj2) o3.1.1, Ch.own n0 n0 (Sl aj3 o3.2 cj4) o3.2]) ?_ ?_
 ·clear h'
  rename _ = some o3 => h
  refine c_blk (wp_loopM _ h (fun s4 a w => ∃ (ρ : Nat → Value) (σ : St) (aj1 : Option Addr) (cj2 : Nat) (aj3 : Option Addr) (cj4 : Nat), a = fr 16 (updL ρ [(0, (pt Dd De)), (3, (Sl aj3 s4.2.1 cj4)), (4, (I s4.2.2))]) ∧ w = σ.w ∧ Hp S0 σ0 σ [Ch.bx Dc Dd De [(Sl aj1 s4.1.1 cj2), (I s4.1.2)] Dg Dh, Ch.ro 0 (Sl aj1 s4.1.1 cj2) s4.1.1, Ch.own n0 n0 (Sl aj3 s4.2.1 cj4) s4.2.1]) ⟨_, σ2, Da, Db, (some ⟨b1, 0, none⟩), 0, fr_join ⟨rfl, rfl, rfl, trivial⟩, rfl, H.sel' [1, 2, 0] rfl rfl⟩ ?_)
  clear h H
  rintro s4 a w o ⟨ρ, σ5, a6, c7, a8, c9, rfl, rfl, H⟩ h hres
  refine c_seq (c_seq (rg (sm (I s4.2.2) rfl (st (v := (B (decide (s4.2.2 < 4)))) (rv_lss (a := s4.2.2) (b := 4) rfl rfl) (w_end (q_then ?_))))))
  refine cd_cond (decide (s4.2.2 < 4)) rfl (fun hb10 => ?_) (fun hb10 => ?_)
  ·replace h := bif_t hb10 h
   refine c_skip (q_then (c_seq (c_blk (rg (sm (Sl a8 s4.2.1 c9) rfl (sm (pt Dd De) rfl ?_))))))
   revert h; refine br fun r11 hx12 h => ?_
   have hc13 := c_spec_someCoord (Dc := Dc) (Dd := Dd) (De := De) (Dg := Dg) (Dh := Dh) (Da := a6) (Db := c7) hx12
   refine st_call (cx_call hc13 (ent_f hc13.fn rfl) hn0 (H.sel' [0, 1, 1, 2] rfl rfl : Hp S0 σ0 _ ([_, _] ++ _))) wn ?_
   rintro _ σ16 ⟨_, ⟨a14, c15, rfl, rfl⟩, H, -⟩
   replace H : Hp _ _ _ [_, _, _, _] := H
   refine st_ex (ex_buildSlice (el := n0) (xs := ([r11.1] : List Int)) (ps := [(0, (I r11.1))]) (cs := [(I r11.1)]) H hn0 Try.underlying24 ti3 rfl rfl (by kernel_rfl) (.cons (c := [(I r11.1)]) rfl (.nil)) rfl) wn ?_
   rintro _ σ18 ⟨b17, rfl, H, -⟩
   revert h; refine br fun xs19 hx20 h => ?_
   refine st_ex (ex_append H (i := 4) rfl Try.underlying24 Try.underlying24 ti3 rfl rfl (by decide) (H.own 0 rfl).rd hx20 hn0 rfl rfl) wn ?_
   rintro _ σ23 ⟨a21, c22, rfl, H, -⟩
   refine sa (Sl a21 xs19 c22) rfl (w_end (q_blk (q_then (rg (sm (I s4.2.2) rfl (st (v := (I (w64 (s4.2.2 + 1)))) (rv_add (a := s4.2.2) (b := 1) rfl rfl) (sa (I (w64 (s4.2.2 + 1))) rfl (w_end (q_then ?_)))))))))
   obtain rfl := sj h
   exact ⟨_, rfl, _, σ23, a14, c15, a21, c22, fr_join ⟨rfl, rfl, rfl, trivial⟩, rfl, H.sel' [2, 3, 0] rfl rfl⟩
  ·replace h := bif_f hb10 h
   refine c_exit (q_then_x (q_then_x (q_blk_hit ?_)))
   obtain rfl := sj h
   obtain rfl := hres _ rfl
   exact ⟨rfl, _, σ5, a6, c7, a8, c9, fr_join ⟨rfl, rfl, trivial⟩, rfl, H.sel' [0, 1, 2] rfl rfl⟩
 ·clear hj
  have h := h'
  clear h' H
  rintro e a w ⟨rfl, ρ, σ24, a25, c26, a27, c28, rfl, rfl, H⟩
  refine q_then (c_seq (rg (sm (Sl a27 o3.2 c28) rfl (sa (Sl a27 o3.2 c28) rfl (w_end (q_then (c_ret ?_)))))))
  obtain rfl := sj h
  exact fin_ret (v := (Sl a27 o3.2 c28)) (results_ok Try.results116 (res_tmp (v := (Sl a27 o3.2 c28)) rfl res_nil) rfl) ⟨a27, c28, a25, c26, rfl, rfl⟩ (H.sel' [2, 0, 1] rfl rfl)

theorem c_spec_someItem {Cy : (List UInt8) × Int} {Da : Option Addr} {Db : Nat} {Dc Dd De : Nat} {Dg Dh : List Value} {r : (Int × (List Int) × Int) × ((List UInt8) × Int)} (h : M.spec_someItem Cy = some r) :
    Cal2 Try.prog 108 [(pt Dd De)] [Ch.bx Dc Dd De [(Sl Da Cy.1 Db), (I Cy.2)] Dg Dh, Ch.ro 0 (Sl Da Cy.1 Db) Cy.1] (fun n0 v L => ∃ (az1 : Option Addr), ∃ (cz2 : Nat), ∃ (az3 : Option Addr), ∃ (cz4 : Nat), v = (.agg #[(I r.1.1), (Sl az1 r.1.2.1 cz2), (I r.1.2.2)]) ∧ L = [Ch.own n0 n0 (Sl az1 r.1.2.1 cz2) r.1.2.1, Ch.bx Dc Dd De [(Sl az3 r.2.1 cz4), (I r.2.2)] Dg Dh, Ch.ro 0 (Sl az3 r.2.1 cz4) r.2.1]) := by
 refine cal2 (n := 11) Try.func108 rfl rfl rfl rfl ?_
 intro S0 σ0 n0 hn0 H
 unfold M.spec_someItem at h
 refine c_seq (rg (st_ex (ex_alloc (cs := [(I 0), (.slice none 0 0), (I 0)]) H hn0 ti41 rfl) wn ?_))
 rintro _ σ2 ⟨b1, rfl, H, -⟩
 refine w_end (q_then (c_seq (rg (sm (pt Dd De) rfl ?_))))
 revert h; refine br fun r3 hx4 h => ?_
 have hc5 := c_spec_reader_pick (Dc := Dc) (Dd := Dd) (De := De) (Dg := Dg) (Dh := Dh) (Da := Da) (Db := Db) hx4
 refine st_call (cx_call hc5 (ent_f hc5.fn rfl) hn0 (H.sel' [1, 2, 0, 2] rfl rfl : Hp S0 σ0 _ ([_, _] ++ _))) wn ?_
 rintro _ σ8 ⟨_, ⟨a6, c7, rfl, rfl⟩, H, -⟩
 replace H : Hp _ _ _ [_, _, _, _] := H
 refine st (v := (I (w64 (1 + r3.1)))) (rv_add (a := 1) (b := r3.1) rfl rfl) (sm (pt Dd De) rfl ?_)
 revert h; refine br fun r9 hx10 h => ?_
 have hc11 := c_spec_someVector (Dc := Dc) (Dd := Dd) (De := De) (Dg := Dg) (Dh := Dh) (Da := a6) (Db := c7) hx10
 refine st_call (cx_call hc11 (ent_f hc11.fn rfl) hn0 (H.sel' [0, 1, 1, 2, 3] rfl rfl : Hp S0 σ0 _ ([_, _] ++ _))) wn ?_
 rintro _ σ16 ⟨_, ⟨a12, c13, a14, c15, rfl, rfl⟩, H, -⟩
 replace H : Hp _ _ _ [_, _, _, _, _, _] := H
 refine sm (pt Dd De) rfl ?_
 revert h; refine br fun r17 hx18 h => ?_
 have hc19 := c_spec_reader_pick (Dc := Dc) (Dd := Dd) (De := De) (Dg := Dg) (Dh := Dh) (Da := a14) (Db := c15) hx18
 refine st_call (cx_call hc19 (ent_f hc19.fn rfl) hn0 (H.sel' [1, 2, 0, 2, 3, 4, 5] rfl rfl : Hp S0 σ0 _ ([_, _] ++ _))) wn ?_
 rintro _ σ22 ⟨_, ⟨a20, c21, rfl, rfl⟩, H, -⟩
 replace H : Hp _ _ _ [_, _, _, _, _, _, _] := H
 refine st (v := (.agg #[(I (w64 (1 + r3.1))), (Sl a12 r9.1 c13), (I r17.1)])) (rv_build (ps := [(0, (I (w64 (1 + r3.1)))), (1, (Sl a12 r9.1 c13)), (2, (I r17.1))]) Try.underlying41 ti41 (bp41 Try.underlying41) rfl (by kernel_rfl)) ?_
 refine st_exS (ex_store_box (k := 0) (cs := [(I 0), (.slice none 0 0), (I 0)]) (vs := [(I (w64 (1 + r3.1))), (Sl a12 r9.1 c13), (I r17.1)]) (cs' := [(I (w64 (1 + r3.1))), (Sl a12 r9.1 c13), (I r17.1)]) H (i := 5) rfl ti41 rfl rfl rfl rfl rfl (Nat.le_of_ble_eq_true rfl) (by simp [plain]) rfl) wn ?_
 rintro σ23 ⟨H, -⟩
 refine w_end (q_then (c_ret ?_))
 obtain rfl := sj h
 exact fin_ret (v := (.agg #[(I (w64 (1 + r3.1))), (Sl a12 r9.1 c13), (I r17.1)])) (results_ok Try.results108 (res_cell rfl (run_cellRes (cs := [(I (w64 (1 + r3.1))), (Sl a12 r9.1 c13), (I r17.1)]) Try.underlying41 rfl ti41 rfl (H.cells 0 rfl)) res_nil) rfl) ⟨a12, c13, a20, c21, rfl, rfl⟩ (H.sel' [3, 1, 2] rfl rfl)

theorem c_spec_someEntry {Cy : (List UInt8) × Int} {Da : Option Addr} {Db : Nat} {Dc Dd De : Nat} {Dg Dh : List Value} {r : (Int × (Int × (List Int) × Int)) × ((List UInt8) × Int)} (h : M.spec_someEntry Cy = some r) :
    Cal2 Try.prog 87 [(pt Dd De)] [Ch.bx Dc Dd De [(Sl Da Cy.1 Db), (I Cy.2)] Dg Dh, Ch.ro 0 (Sl Da Cy.1 Db) Cy.1] (fun n0 v L => ∃ (az1 : Option Addr), ∃ (cz2 : Nat), ∃ (az3 : Option Addr), ∃ (cz4 : Nat), v = (.agg #[(I r.1.1), (I r.1.2.1), (Sl az1 r.1.2.2.1 cz2), (I r.1.2.2.2)]) ∧ L = [Ch.own n0 n0 (Sl az1 r.1.2.2.1 cz2) r.1.2.2.1, Ch.bx Dc Dd De [(Sl az3 r.2.1 cz4), (I r.2.2)] Dg Dh, Ch.ro 0 (Sl az3 r.2.1 cz4) r.2.1]) := by
 refine cal2 (n := 21) Try.func87 rfl rfl rfl rfl ?_
 intro S0 σ0 n0 hn0 H
 unfold M.spec_someEntry at h
 refine c_seq (rg (st_ex (ex_alloc (cs := [(I 0), (I 0), (.slice none 0 0), (I 0)]) H hn0 ti43 rfl) wn ?_))
 rintro _ σ2 ⟨b1, rfl, H, -⟩
 refine w_end (q_then (c_seq (c_seq (rg (sm (pt Dd De) rfl ?_)))))
 revert h; refine br fun r3 hx4 h => ?_
 have hc5 := c_spec_reader_pick (Dc := Dc) (Dd := Dd) (De := De) (Dg := Dg) (Dh := Dh) (Da := Da) (Db := Db) hx4
 refine st_call (cx_call hc5 (ent_f hc5.fn rfl) hn0 (H.sel' [1, 2, 0, 2] rfl rfl : Hp S0 σ0 _ ([_, _] ++ _))) wn ?_
 rintro _ σ8 ⟨_, ⟨a6, c7, rfl, rfl⟩, H, -⟩
 replace H : Hp _ _ _ [_, _, _, _] := H
 refine st (v := (B (r3.1 == 0))) (rv_eql (a := r3.1) (b := 0) rfl rfl) (w_end (q_then ?_))
 refine cd_cond (r3.1 == 0) rfl (fun hb9 => ?_) (fun hb9 => ?_)
 ·replace h := bif_t hb9 h
  refine c_seq (rg (sm (pt Dd De) rfl ?_))
  revert h; refine br fun r10 hx11 h => ?_
  have hc12 := c_spec_reader_pick (Dc := Dc) (Dd := Dd) (De := De) (Dg := Dg) (Dh := Dh) (Da := a6) (Db := c7) hx11
  refine st_call (cx_call hc12 (ent_f hc12.fn rfl) hn0 (H.sel' [0, 1, 1, 2, 3] rfl rfl : Hp S0 σ0 _ ([_, _] ++ _))) wn ?_
  rintro _ σ15 ⟨_, ⟨a13, c14, rfl, rfl⟩, H, -⟩
  replace H : Hp _ _ _ [_, _, _, _, _] := H
  refine st (v := (I (w64 (1 + r10.1)))) (rv_add (a := 1) (b := r10.1) rfl rfl) ?_
  refine st_ex (ex_buildSlice (el := n0) (xs := ([] : List Int)) (ps := []) (cs := []) H hn0 Try.underlying24 ti3 rfl rfl (by kernel_rfl) (.nil) rfl) wn ?_
  rintro _ σ17 ⟨b16, rfl, H, -⟩
  refine st (v := (.agg #[(I (w64 (1 + r10.1))), (Sl (some ⟨b16, 0, none⟩) ([] : List Int) 0), (I 0)])) (rv_build (ps := [(0, (I (w64 (1 + r10.1)))), (1, (Sl (some ⟨b16, 0, none⟩) ([] : List Int) 0))]) Try.underlying41 ti41 (bp41 Try.underlying41) rfl (by kernel_rfl)) ?_
  refine st (v := (.agg #[(I 2), (I (w64 (1 + r10.1))), (Sl (some ⟨b16, 0, none⟩) ([] : List Int) 0), (I 0)])) (rv_build (ps := [(0, (I 2)), (1, (.agg #[(I (w64 (1 + r10.1))), (Sl (some ⟨b16, 0, none⟩) ([] : List Int) 0), (I 0)]))]) Try.underlying43 ti43 (bp43 Try.underlying43) rfl (by kernel_rfl)) ?_
  refine st_exS (ex_store_box (k := 0) (cs := [(I 0), (I 0), (.slice none 0 0), (I 0)]) (vs := [(I 2), (I (w64 (1 + r10.1))), (Sl (some ⟨b16, 0, none⟩) ([] : List Int) 0), (I 0)]) (cs' := [(I 2), (I (w64 (1 + r10.1))), (Sl (some ⟨b16, 0, none⟩) ([] : List Int) 0), (I 0)]) H (i := 4) rfl ti43 rfl rfl rfl rfl rfl (Nat.le_of_ble_eq_true rfl) (by simp [plain]) rfl) wn ?_
  rintro σ18 ⟨H, -⟩
  refine w_end (q_then (c_ret (q_then_r ?_)))
  obtain rfl := sj h
  exact fin_ret (v := (.agg #[(I 2), (I (w64 (1 + r10.1))), (Sl (some ⟨b16, 0, none⟩) ([] : List Int) 0), (I 0)])) (results_ok Try.results87 (res_cell rfl (run_cellRes (cs := [(I 2), (I (w64 (1 + r10.1))), (Sl (some ⟨b16, 0, none⟩) ([] : List Int) 0), (I 0)]) Try.underlying43 rfl ti43 rfl (H.cells 0 rfl)) res_nil) rfl) ⟨(some ⟨b16, 0, none⟩), 0, a13, c14, rfl, rfl⟩ (H.sel' [1, 2, 3] rfl rfl)
 ·replace h := bif_f hb9 h
  refine c_skip (q_then (c_seq (rg (sm (pt Dd De) rfl ?_))))
  revert h; refine br fun r19 hx20 h => ?_
  have hc21 := c_spec_someItem (Dc := Dc) (Dd := Dd) (De := De) (Dg := Dg) (Dh := Dh) (Da := a6) (Db := c7) hx20
  refine st_call (cx_call hc21 (ent_f hc21.fn rfl) hn0 (H.sel' [0, 1, 1, 2, 3] rfl rfl : Hp S0 σ0 _ ([_, _] ++ _))) wn ?_
  rintro _ σ26 ⟨_, ⟨a22, c23, a24, c25, rfl, rfl⟩, H, -⟩
  replace H : Hp _ _ _ [_, _, _, _, _, _] := H
  refine st_ex (ex_alloc (cs := [(I 0), (.slice none 0 0), (I 0)]) H hn0 ti41 rfl) wn ?_
  rintro _ σ28 ⟨b27, rfl, H, -⟩
  refine st_exS (ex_store_box (k := 0) (cs := [(I 0), (.slice none 0 0), (I 0)]) (vs := [(I r19.1.1), (Sl a22 r19.1.2.1 c23), (I r19.1.2.2)]) (cs' := [(I r19.1.1), (Sl a22 r19.1.2.1 c23), (I r19.1.2.2)]) H (i := 0) rfl ti41 rfl rfl rfl rfl rfl (Nat.le_of_ble_eq_true rfl) (by simp [plain]) rfl) wn ?_
  rintro σ29 ⟨H, -⟩
  refine w_end (q_then (c_seq (rg (sm (pt Dd De) rfl ?_))))
  revert h; refine br fun r30 hx31 h => ?_
  have hc32 := c_spec_reader_pick (Dc := Dc) (Dd := Dd) (De := De) (Dg := Dg) (Dh := Dh) (Da := a24) (Db := c25) hx31
  refine st_call (cx_call hc32 (ent_f hc32.fn rfl) hn0 (H.sel' [2, 3, 0, 1, 3, 4, 5, 6] rfl rfl : Hp S0 σ0 _ ([_, _] ++ _))) wn ?_
  rintro _ σ35 ⟨_, ⟨a33, c34, rfl, rfl⟩, H, -⟩
  replace H : Hp _ _ _ [_, _, _, _, _, _, _, _] := H
  replace H : Hp S0 σ0 σ35 [Ch.bx Dc Dd De [(Sl a33 r30.2.1 c34), (I r30.2.2)] Dg Dh, Ch.ro 0 (Sl a33 r30.2.1 c34) r30.2.1, Ch.bx n0 b27 0 [(I r19.1.1), (Sl a22 r19.1.2.1 c23), (I r19.1.2.2)] [] [], Ch.own n0 n0 (Sl a22 r19.1.2.1 c23) r19.1.2.1, Ch.bx n0 b1 0 [(I 0), (I 0), (.slice none 0 0), (I 0)] [] []] := H.sel' [0, 1, 2, 3, 6] rfl rfl
  refine st (v := (I (w64 (1 + r30.1)))) (rv_add (a := 1) (b := r30.1) rfl rfl) (st (v := (pt b27 0)) (rv_fieldAddr (off := 0) (ft := 3) Try.underlying41 rfl ti3 rfl rfl) ?_)
  refine st_exS (ex_store_box (k := 0) (cs := [(I r19.1.1), (Sl a22 r19.1.2.1 c23), (I r19.1.2.2)]) (vs := [(I (w64 (1 + r30.1)))]) (cs' := [(I (w64 (1 + r30.1))), (Sl a22 r19.1.2.1 c23), (I r19.1.2.2)]) H (i := 2) rfl ti3 rfl rfl rfl rfl rfl (Nat.le_of_ble_eq_true rfl) (by simp [plain]) rfl) wn ?_
  rintro σ36 ⟨H, -⟩
  refine w_end (q_then (c_seq (rg ?_)))
  have hc37 := H.cells 0 rfl
  refine st (v := (.agg #[(I (w64 (1 + r30.1))), (Sl a22 r19.1.2.1 c23), (I r19.1.2.2)])) (rv_load (cs := [(I (w64 (1 + r30.1))), (Sl a22 r19.1.2.1 c23), (I r19.1.2.2)]) Try.underlying41 rfl ti41 rfl rfl hc37) ?_
  refine st (v := (.agg #[(I 1), (I (w64 (1 + r30.1))), (Sl a22 r19.1.2.1 c23), (I r19.1.2.2)])) (rv_build (ps := [(0, (I 1)), (1, (.agg #[(I (w64 (1 + r30.1))), (Sl a22 r19.1.2.1 c23), (I r19.1.2.2)]))]) Try.underlying43 ti43 (bp43 Try.underlying43) rfl (by kernel_rfl)) ?_
  refine st_exS (ex_store_box (k := 0) (cs := [(I 0), (I 0), (.slice none 0 0), (I 0)]) (vs := [(I 1), (I (w64 (1 + r30.1))), (Sl a22 r19.1.2.1 c23), (I r19.1.2.2)]) (cs' := [(I 1), (I (w64 (1 + r30.1))), (Sl a22 r19.1.2.1 c23), (I r19.1.2.2)]) H (i := 4) rfl ti43 rfl rfl rfl rfl rfl (Nat.le_of_ble_eq_true rfl) (by simp [plain]) rfl) wn ?_
  rintro σ38 ⟨H, -⟩
  refine w_end (q_then (c_ret ?_))
  obtain rfl := sj h
  exact fin_ret (v := (.agg #[(I 1), (I (w64 (1 + r30.1))), (Sl a22 r19.1.2.1 c23), (I r19.1.2.2)])) (results_ok Try.results87 (res_cell rfl (run_cellRes (cs := [(I 1), (I (w64 (1 + r30.1))), (Sl a22 r19.1.2.1 c23), (I r19.1.2.2)]) Try.underlying43 rfl ti43 rfl (H.cells 0 rfl)) res_nil) rfl) ⟨a22, c23, a33, c34, rfl, rfl⟩ (H.sel' [4, 2, 3] rfl rfl)

theorem c_spec_copyInts {Ao : List Int} {Ap : Option Addr} {Aq : Nat} {r : (List Int)} (h : M.spec_copyInts Ao = some r) :
    Cal2 Try.prog 91 [(Sl Ap Ao Aq)] [Ch.ro 0 (Sl Ap Ao Aq) Ao] (fun n0 v L => ∃ (az1 : Option Addr), ∃ (cz2 : Nat), v = (Sl az1 r cz2) ∧ L = [Ch.own n0 n0 (Sl az1 r cz2) r]) := by
 refine cal2 (n := 6) Try.func91 rfl rfl rfl rfl ?_
 intro S0 σ0 n0 hn0 H
 unfold M.spec_copyInts at h
 refine c_seq (rg (sa (.slice none 0 0) rfl (w_end (q_then (c_seq (rg ?_))))))
 refine st_ex (ex_buildSlice (el := n0) (xs := ([] : List Int)) (ps := []) (cs := []) H hn0 Try.underlying24 ti3 rfl rfl (by kernel_rfl) (.nil) rfl) wn ?_
 rintro _ σ2 ⟨b1, rfl, H, -⟩
 refine sm (Sl Ap Ao Aq) rfl ?_
 revert h; refine br fun xs3 hx4 h => ?_
 refine st_ex (ex_append H (i := 0) rfl Try.underlying24 Try.underlying24 ti3 rfl rfl (by decide) ((H.ro 1 rfl).rd.sc) hx4 hn0 rfl rfl) wn ?_
 rintro _ σ7 ⟨a5, c6, rfl, H, -⟩
 refine sa (Sl a5 xs3 c6) rfl (w_end (q_then (c_ret ?_)))
 obtain rfl := sj h
 exact fin_ret (v := (Sl a5 xs3 c6)) (results_ok Try.results91 (res_tmp (v := (Sl a5 xs3 c6)) rfl res_nil) rfl) ⟨a5, c6, rfl, rfl⟩ (H.sel' [0] rfl rfl)

theorem c_spec_reader_spoil {Cy : (List UInt8) × Int} {Bj : List Int} {Di : Int} {Da : Option Addr} {Db : Nat} {Dc Dd De : Nat} {Dg Dh : List Value} {Bk : Option Addr} {Bl : Nat} {r : (List Int) × ((List UInt8) × Int)} (h : M.spec_reader_spoil Cy Bj Di = some r) :
    Cal2 Try.prog 74 [(pt Dd De), (Sl Bk Bj Bl), (I Di)] [Ch.bx Dc Dd De [(Sl Da Cy.1 Db), (I Cy.2)] Dg Dh, Ch.ro 0 (Sl Da Cy.1 Db) Cy.1, Ch.ro 0 (Sl Bk Bj Bl) Bj] (fun n0 v L => ∃ (az1 : Option Addr), ∃ (cz2 : Nat), ∃ (az3 : Option Addr), ∃ (cz4 : Nat), v = (Sl az1 r.1 cz2) ∧ L = [Ch.own n0 n0 (Sl az1 r.1 cz2) r.1, Ch.bx Dc Dd De [(Sl az3 r.2.1 cz4), (I r.2.2)] Dg Dh, Ch.ro 0 (Sl az3 r.2.1 cz4) r.2.1]) := by
 refine cal2 (n := 41) Try.func74 rfl rfl rfl rfl ?_
 intro S0 σ0 n0 hn0 H
 unfold M.spec_reader_spoil at h
 refine c_seq (rg (sa (.slice none 0 0) rfl (w_end (q_then (c_seq (rg (sm (Sl Bk Bj Bl) rfl ?_)))))))
 revert h; refine br fun r1 hx2 h => ?_
 have hc3 := c_spec_copyInts (Ap := Bk) (Aq := Bl) hx2
 refine st_call (cx_call hc3 (ent_f hc3.fn rfl) hn0 (H.sel' [2, 0, 1, 2] rfl rfl : Hp S0 σ0 _ ([_] ++ _))) wn ?_
 rintro _ σ6 ⟨_, ⟨a4, c5, rfl, rfl⟩, H, -⟩
 replace H : Hp _ _ _ [_, _, _, _] := H
 refine sa (Sl a4 r1 c5) rfl (w_end (q_then (c_seq (c_seq (rg (sm (pt Dd De) rfl ?_))))))
 revert h; refine br fun r7 hx8 h => ?_
 have hc9 := c_spec_reader_pick (Dc := Dc) (Dd := Dd) (De := De) (Dg := Dg) (Dh := Dh) (Da := Da) (Db := Db) hx8
 refine st_call (cx_call hc9 (ent_f hc9.fn rfl) hn0 (H.sel' [1, 2, 0, 2, 3] rfl rfl : Hp S0 σ0 _ ([_, _] ++ _))) wn ?_
 rintro _ σ12 ⟨_, ⟨a10, c11, rfl, rfl⟩, H, -⟩
 replace H : Hp _ _ _ [_, _, _, _, _] := H
 refine w_end (q_then ?_)
 obtain ⟨o13, hj, h'⟩ := bind_some h
 clear h
 refine c_cut (fun e a w => e = .normal ∧ ∃ (ρ : Nat → Value) (σ : St) (aj1 : Option Addr) (cj2 : Nat) (aj3 : Option Addr) (cj4 : Nat), a = fr 41 (updL ρ [(0, (pt Dd De)), (7, (Sl aj3 o13.2 cj4))]) ∧ w = σ.w ∧ Hp S0 σ0 σ [Ch.bx Dc Dd De [(Sl aj1 o13.1.1 cj2), (I o13.1.2)] Dg Dh, Ch.ro 0 (Sl aj1 o13.1.1 cj2) o13.1.1, Ch.own n0 n0 (Sl aj3 o13.2 cj4) o13.2]) ?_ ?_
 ·clear h'
  rename _ = some o13 => h
  refine c_blk (c_seq (rg (st (v := (B (r7.1 == 0))) (rv_eql (a := r7.1) (b := 0) rfl rfl) (sa (B (r7.1 == 0)) rfl (w_end (q_then ?_))))))
  refine cd_cond (r7.1 == 0) rfl (fun hb14 => ?_) (fun hb14 => ?_)
  ·replace h := bif_t hb14 h
   refine rg (sm (Sl a4 r1 c5) rfl (sm (I Di) rfl ?_))
   refine st_ex (ex_buildSlice (el := n0) (xs := ([Di] : List Int)) (ps := [(0, (I Di))]) (cs := [(I Di)]) H hn0 Try.underlying24 ti3 rfl rfl (by kernel_rfl) (.cons (c := [(I Di)]) rfl (.nil)) rfl) wn ?_
   rintro _ σ16 ⟨b15, rfl, H, -⟩
   revert h; refine br fun xs17 hx18 h => ?_
   refine st_ex (ex_append H (i := 3) rfl Try.underlying24 Try.underlying24 ti3 rfl rfl (by decide) (H.own 0 rfl).rd hx18 hn0 rfl rfl) wn ?_
   rintro _ σ21 ⟨a19, c20, rfl, H, -⟩
   refine sa (Sl a19 xs17 c20) rfl (w_end (q_blk ?_))
   obtain rfl := sj h
   exact ⟨rfl, _, σ21, a10, c11, a19, c20, fr_join ⟨rfl, rfl, trivial⟩, rfl, H.sel' [2, 3, 0] rfl rfl⟩
  ·replace h := bif_f hb14 h
   refine c_seq (rg (st (v := (B (r7.1 == 1))) (rv_eql (a := r7.1) (b := 1) rfl rfl) (sa (B (r7.1 == 1)) rfl (w_end (q_then ?_)))))
   refine cd_cond (r7.1 == 1) rfl (fun hb22 => ?_) (fun hb22 => ?_)
   ·replace h := bif_t hb22 h
    refine c_seq (rg (sm (Sl a4 r1 c5) rfl (st (v := (I (r1.length : Int))) (rv_len Try.underlying24 rfl) (st (v := (B (decide (0 < (r1.length : Int))))) (rv_gtr (a := (r1.length : Int)) (b := 0) rfl rfl) (w_end (q_then ?_))))))
    refine cd_cond (decide (0 < (r1.length : Int))) rfl (fun hb23 => ?_) (fun hb23 => ?_)
    ·replace h := bif_t hb23 h
     refine rg (sm (Sl a4 r1 c5) rfl ?_)
     revert h; refine br fun xs24 hx25 h => ?_
     obtain ⟨a26, c27, hs28, hR29, hb30⟩ := (H.own 2 rfl).slice hx25
     replace H := (H.front (i := 2) rfl).turn (d := Ch.own n0 n0 (Sl a26 xs24 c27) xs24) (fun _ => hR29) hb30; clear hR29 hb30
     refine st (v := (Sl a26 xs24 c27)) (rv_slice_l Try.underlying24 ti3 hs28 rfl rfl) (sa (Sl a26 xs24 c27) rfl (w_end (q_blk ?_)))
     obtain rfl := sj h
     exact ⟨rfl, _, σ12, a10, c11, a26, c27, fr_join ⟨rfl, rfl, trivial⟩, rfl, H.sel' [1, 2, 0] rfl rfl⟩
    ·replace h := bif_f hb23 h
     refine c_skip (q_blk ?_)
     obtain rfl := sj h
     exact ⟨rfl, _, σ12, a10, c11, a4, c5, fr_join ⟨rfl, rfl, trivial⟩, rfl, H.sel' [0, 1, 2] rfl rfl⟩
   ·replace h := bif_f hb22 h
    refine c_seq (rg (st (v := (B (r7.1 == 2))) (rv_eql (a := r7.1) (b := 2) rfl rfl) (sa (B (r7.1 == 2)) rfl (w_end (q_then ?_)))))
    refine cd_cond (r7.1 == 2) rfl (fun hb31 => ?_) (fun hb31 => ?_)
    ·replace h := bif_t hb31 h
     refine c_seq (rg (sm (Sl a4 r1 c5) rfl (st (v := (I (r1.length : Int))) (rv_len Try.underlying24 rfl) (st (v := (B (decide (0 < (r1.length : Int))))) (rv_gtr (a := (r1.length : Int)) (b := 0) rfl rfl) (w_end (q_then ?_))))))
     refine cd_cond (decide (0 < (r1.length : Int))) rfl (fun hb32 => ?_) (fun hb32 => ?_)
     ·replace h := bif_t hb32 h
      refine rg (sm (Sl a4 r1 c5) rfl (sm (pt Dd De) rfl (sm (Sl a4 r1 c5) rfl (st (v := (I (r1.length : Int))) (rv_len Try.underlying24 rfl) ?_))))
      revert h; refine br fun r33 hx34 h => ?_
      have hc35 := c_spec_reader_pick (Dc := Dc) (Dd := Dd) (De := De) (Dg := Dg) (Dh := Dh) (Da := a10) (Db := c11) hx34
      refine st_call (cx_call hc35 (ent_f hc35.fn rfl) hn0 (H.sel' [0, 1, 1, 2, 3, 4] rfl rfl : Hp S0 σ0 _ ([_, _] ++ _))) wn ?_
      rintro _ σ38 ⟨_, ⟨a36, c37, rfl, rfl⟩, H, -⟩
      replace H : Hp _ _ _ [_, _, _, _, _, _] := H
      refine sm (pt Dd De) rfl (sm (I Di) rfl ?_)
      refine st_ex (ex_buildSlice (el := n0) (xs := ([-1, Di, 0, 1] : List Int)) (ps := [(0, (I (-1))), (1, (I Di)), (2, (I 0)), (3, (I 1))]) (cs := [(I (-1)), (I Di), (I 0), (I 1)]) H hn0 Try.underlying24 ti3 rfl rfl (by kernel_rfl) (.cons (c := [(I (-1))]) rfl (.cons (c := [(I Di)]) rfl (.cons (c := [(I 0)]) rfl (.cons (c := [(I 1)]) rfl (.nil))))) rfl) wn ?_
      rintro _ σ40 ⟨b39, rfl, H, -⟩
      obtain ⟨σ41, hw42, H, -⟩ := H.pub 0 rfl (Nat.le_refl _)
      rw [← hw42]; clear hw42
      replace H := H.roLow 0 0 rfl (Nat.zero_le _)
      revert h; refine br fun r43 hx44 h => ?_
      have hc45 := c_spec_reader_one (Dc := Dc) (Dd := Dd) (De := De) (Dg := Dg) (Dh := Dh) (Da := a36) (Db := c37) (Bk := (some ⟨b39, 0, none⟩)) (Bl := 4) hx44
      refine st_call (cx_call hc45 (ent_f hc45.fn rfl) hn0 (H.sel' [2, 3, 0, 0, 1, 3, 4, 5, 6, 7] rfl rfl : Hp S0 σ0 _ ([_, _, _] ++ _))) wn ?_
      rintro _ σ48 ⟨_, ⟨a46, c47, rfl, rfl⟩, H, -⟩
      replace H : Hp _ _ _ [_, _, _, _, _, _, _, _, _] := H
      replace H : Hp S0 σ0 σ48 [Ch.bx Dc Dd De [(Sl a46 r43.2.1 c47), (I r43.2.2)] Dg Dh, Ch.ro 0 (Sl a46 r43.2.1 c47) r43.2.1, Ch.own n0 n0 (Sl a4 r1 c5) r1] := H.sel' [0, 1, 6] rfl rfl
      revert h; refine br fun x49 hx50 h => ?_
      obtain ⟨b52, o53, hi51, -⟩ := (H.own 2 rfl).ix hx50
      refine st (v := (pt b52 o53)) (rv_ix Try.underlying24 ti3 rfl rfl hi51) ?_
      refine st_exS (ex_store_own (e' := r43.1) (vs := [(I r43.1)]) (k := 0) H (i := 2) rfl ti3 hx50 hi51 rfl rfl rfl rfl rfl (Nat.le_of_ble_eq_true rfl) (by simp [plain]) (by rintro _ rfl; exact rfl)) wn ?_
      rintro σ54 ⟨H, -⟩
      have hsl : (Sl a4 r1 c5) = (Sl a4 (r1.set r33.1.toNat r43.1) c5) := sl_len List.length_set.symm
      rw [hsl]; rw [hsl] at H; clear hsl
      refine w_end (q_blk ?_)
      obtain rfl := sj h
      exact ⟨rfl, _, σ54, a46, c47, a4, c5, fr_join ⟨rfl, rfl, trivial⟩, rfl, H.sel' [1, 2, 0] rfl rfl⟩
     ·replace h := bif_f hb32 h
      refine c_skip (q_blk ?_)
      obtain rfl := sj h
      exact ⟨rfl, _, σ12, a10, c11, a4, c5, fr_join ⟨rfl, rfl, trivial⟩, rfl, H.sel' [0, 1, 2] rfl rfl⟩
    ·replace h := bif_f hb31 h
     refine c_skip (q_blk ?_)
     obtain rfl := sj h
     exact ⟨rfl, _, σ12, a10, c11, a4, c5, fr_join ⟨rfl, rfl, trivial⟩, rfl, H.sel' [0, 1, 2] rfl rfl⟩
 ·clear hj
  have h := h'
  clear h' H
  rintro e a w ⟨rfl, ρ, σ55, a56, c57, a58, c59, rfl, rfl, H⟩
  refine q_then (c_seq (rg (sm (Sl a58 o13.2 c59) rfl (sa (Sl a58 o13.2 c59) rfl (w_end (q_then (c_ret ?_)))))))
  obtain rfl := sj h
  exact fin_ret (v := (Sl a58 o13.2 c59)) (results_ok Try.results74 (res_tmp (v := (Sl a58 o13.2 c59)) rfl res_nil) rfl) ⟨a58, c59, a56, c57, rfl, rfl⟩ (H.sel' [2, 0, 1] rfl rfl)

theorem c_spec_anyVector {Cy : (List UInt8) × Int} {Da : Option Addr} {Db : Nat} {Dc Dd De : Nat} {Dg Dh : List Value} {r : (List Int) × ((List UInt8) × Int)} (h : M.spec_anyVector Cy = some r) :
    Cal2 Try.prog 109 [(pt Dd De)] [Ch.bx Dc Dd De [(Sl Da Cy.1 Db), (I Cy.2)] Dg Dh, Ch.ro 0 (Sl Da Cy.1 Db) Cy.1] (fun n0 v L => ∃ (az1 : Option Addr), ∃ (cz2 : Nat), ∃ (az3 : Option Addr), ∃ (cz4 : Nat), v = (Sl az1 r.1 cz2) ∧ L = [Ch.own n0 n0 (Sl az1 r.1 cz2) r.1, Ch.bx Dc Dd De [(Sl az3 r.2.1 cz4), (I r.2.2)] Dg Dh, Ch.ro 0 (Sl az3 r.2.1 cz4) r.2.1]) := by
 refine cal2 (n := 12) Try.func109 rfl rfl rfl rfl ?_
 intro S0 σ0 n0 hn0 H
 unfold M.spec_anyVector at h
 refine c_seq (rg (sa (.slice none 0 0) rfl (w_end (q_then (c_seq (c_seq (rg (sm (pt Dd De) rfl ?_))))))))
 revert h; refine br fun r1 hx2 h => ?_
 have hc3 := c_spec_reader_pick (Dc := Dc) (Dd := Dd) (De := De) (Dg := Dg) (Dh := Dh) (Da := Da) (Db := Db) hx2
 refine st_call (cx_call hc3 (ent_f hc3.fn rfl) hn0 (H.sel' [0, 1, 1] rfl rfl : Hp S0 σ0 _ ([_, _] ++ _))) wn ?_
 rintro _ σ6 ⟨_, ⟨a4, c5, rfl, rfl⟩, H, -⟩
 replace H : Hp _ _ _ [_, _, _] := H
 refine st (v := (B (r1.1 == 0))) (rv_eql (a := r1.1) (b := 0) rfl rfl) (w_end (q_then ?_))
 refine cd_cond (r1.1 == 0) rfl (fun hb7 => ?_) (fun hb7 => ?_)
 ·replace h := bif_t hb7 h
  refine c_seq (rg (sm (pt Dd De) rfl (sm (pt Dd De) rfl ?_)))
  revert h; refine br fun r8 hx9 h => ?_
  have hc10 := c_spec_someVector (Dc := Dc) (Dd := Dd) (De := De) (Dg := Dg) (Dh := Dh) (Da := a4) (Db := c5) hx9
  refine st_call (cx_call hc10 (ent_f hc10.fn rfl) hn0 (H.sel' [0, 1, 1, 2] rfl rfl : Hp S0 σ0 _ ([_, _] ++ _))) wn ?_
  rintro _ σ15 ⟨_, ⟨a11, c12, a13, c14, rfl, rfl⟩, H, -⟩
  replace H : Hp _ _ _ [_, _, _, _, _] := H
  obtain ⟨σ16, hw17, H, -⟩ := H.pub 0 rfl (Nat.le_refl _)
  rw [← hw17]; clear hw17
  replace H := H.roLow 0 0 rfl (Nat.zero_le _)
  revert h; refine br fun r18 hx19 h => ?_
  have hc20 := c_spec_reader_spoil (Dc := Dc) (Dd := Dd) (De := De) (Dg := Dg) (Dh := Dh) (Da := a13) (Db := c14) (Bk := a11) (Bl := c12) hx19
  refine st_call (cx_call hc20 (ent_f hc20.fn rfl) hn0 (H.sel' [2, 3, 0, 0, 1, 3, 4, 5] rfl rfl : Hp S0 σ0 _ ([_, _, _] ++ _))) wn ?_
  rintro _ σ25 ⟨_, ⟨a21, c22, a23, c24, rfl, rfl⟩, H, -⟩
  replace H : Hp _ _ _ [_, _, _, _, _, _, _, _] := H
  replace H : Hp S0 σ0 σ25 [Ch.own n0 n0 (Sl a21 r18.1 c22) r18.1, Ch.bx Dc Dd De [(Sl a23 r18.2.1 c24), (I r18.2.2)] Dg Dh, Ch.ro 0 (Sl a23 r18.2.1 c24) r18.2.1] := H.sel' [0, 1, 2] rfl rfl
  refine sa (Sl a21 r18.1 c22) rfl (w_end (q_then (c_ret (q_then_r ?_))))
  obtain rfl := sj h
  exact fin_ret (v := (Sl a21 r18.1 c22)) (results_ok Try.results109 (res_tmp (v := (Sl a21 r18.1 c22)) rfl res_nil) rfl) ⟨a21, c22, a23, c24, rfl, rfl⟩ (H.sel' [0, 1, 2] rfl rfl)
 ·replace h := bif_f hb7 h
  refine c_skip (q_then (c_seq (rg (sm (pt Dd De) rfl ?_))))
  revert h; refine br fun r26 hx27 h => ?_
  have hc28 := c_spec_someVector (Dc := Dc) (Dd := Dd) (De := De) (Dg := Dg) (Dh := Dh) (Da := a4) (Db := c5) hx27
  refine st_call (cx_call hc28 (ent_f hc28.fn rfl) hn0 (H.sel' [0, 1, 1, 2] rfl rfl : Hp S0 σ0 _ ([_, _] ++ _))) wn ?_
  rintro _ σ33 ⟨_, ⟨a29, c30, a31, c32, rfl, rfl⟩, H, -⟩
  replace H : Hp _ _ _ [_, _, _, _, _] := H
  refine sa (Sl a29 r26.1 c30) rfl (w_end (q_then (c_ret ?_)))
  obtain rfl := sj h
  exact fin_ret (v := (Sl a29 r26.1 c30)) (results_ok Try.results109 (res_tmp (v := (Sl a29 r26.1 c30)) rfl res_nil) rfl) ⟨a29, c30, a31, c32, rfl, rfl⟩ (H.sel' [0, 1, 2] rfl rfl)

theorem c_spec_anyItem {Cy : (List UInt8) × Int} {Da : Option Addr} {Db : Nat} {Dc Dd De : Nat} {Dg Dh : List Value} {r : (Int × (List Int) × Int) × ((List UInt8) × Int)} (h : M.spec_anyItem Cy = some r) :
    Cal2 Try.prog 88 [(pt Dd De)] [Ch.bx Dc Dd De [(Sl Da Cy.1 Db), (I Cy.2)] Dg Dh, Ch.ro 0 (Sl Da Cy.1 Db) Cy.1] (fun n0 v L => ∃ (az1 : Option Addr), ∃ (cz2 : Nat), ∃ (az3 : Option Addr), ∃ (cz4 : Nat), v = (.agg #[(I r.1.1), (Sl az1 r.1.2.1 cz2), (I r.1.2.2)]) ∧ L = [Ch.own n0 n0 (Sl az1 r.1.2.1 cz2) r.1.2.1, Ch.bx Dc Dd De [(Sl az3 r.2.1 cz4), (I r.2.2)] Dg Dh, Ch.ro 0 (Sl az3 r.2.1 cz4) r.2.1]) := by
 refine cal2 (n := 26) Try.func88 rfl rfl rfl rfl ?_
 intro S0 σ0 n0 hn0 H
 unfold M.spec_anyItem at h
 refine c_seq (rg (st_ex (ex_alloc (cs := [(I 0), (.slice none 0 0), (I 0)]) H hn0 ti41 rfl) wn ?_))
 rintro _ σ2 ⟨b1, rfl, H, -⟩
 refine w_end (q_then (c_seq (rg (sm (pt Dd De) rfl ?_))))
 revert h; refine br fun r3 hx4 h => ?_
 have hc5 := c_spec_someItem (Dc := Dc) (Dd := Dd) (De := De) (Dg := Dg) (Dh := Dh) (Da := Da) (Db := Db) hx4
 refine st_call (cx_call hc5 (ent_f hc5.fn rfl) hn0 (H.sel' [1, 2, 0, 2] rfl rfl : Hp S0 σ0 _ ([_, _] ++ _))) wn ?_
 rintro _ σ10 ⟨_, ⟨a6, c7, a8, c9, rfl, rfl⟩, H, -⟩
 replace H : Hp _ _ _ [_, _, _, _, _] := H
 refine st_ex (ex_alloc (cs := [(I 0), (.slice none 0 0), (I 0)]) H hn0 ti41 rfl) wn ?_
 rintro _ σ12 ⟨b11, rfl, H, -⟩
 refine st_exS (ex_store_box (k := 0) (cs := [(I 0), (.slice none 0 0), (I 0)]) (vs := [(I r3.1.1), (Sl a6 r3.1.2.1 c7), (I r3.1.2.2)]) (cs' := [(I r3.1.1), (Sl a6 r3.1.2.1 c7), (I r3.1.2.2)]) H (i := 0) rfl ti41 rfl rfl rfl rfl rfl (Nat.le_of_ble_eq_true rfl) (by simp [plain]) rfl) wn ?_
 rintro σ13 ⟨H, -⟩
 refine w_end (q_then (c_seq (c_seq (rg (sm (pt Dd De) rfl ?_)))))
 revert h; refine br fun r14 hx15 h => ?_
 have hc16 := c_spec_reader_pick (Dc := Dc) (Dd := Dd) (De := De) (Dg := Dg) (Dh := Dh) (Da := a8) (Db := c9) hx15
 refine st_call (cx_call hc16 (ent_f hc16.fn rfl) hn0 (H.sel' [2, 3, 0, 1, 3, 4, 5] rfl rfl : Hp S0 σ0 _ ([_, _] ++ _))) wn ?_
 rintro _ σ19 ⟨_, ⟨a17, c18, rfl, rfl⟩, H, -⟩
 replace H : Hp _ _ _ [_, _, _, _, _, _, _] := H
 refine w_end (q_then ?_)
 obtain ⟨o20, hj, h'⟩ := bind_some h
 clear h
 refine c_cut (fun e a w => e = .normal ∧ ∃ (ρ : Nat → Value) (σ : St) (aj1 : Option Addr) (cj2 : Nat) (aj3 : Option Addr) (cj4 : Nat), a = fr 26 (updL ρ [(0, (pt Dd De)), (2, (pt b1 0)), (3, (pt b11 0))]) ∧ w = σ.w ∧ Hp S0 σ0 σ [Ch.bx Dc Dd De [(Sl aj1 o20.1.1 cj2), (I o20.1.2)] Dg Dh, Ch.ro 0 (Sl aj1 o20.1.1 cj2) o20.1.1, Ch.bx n0 b11 0 [(I o20.2.1), (Sl aj3 o20.2.2.1 cj4), (I o20.2.2.2)] [] [], Ch.own n0 n0 (Sl aj3 o20.2.2.1 cj4) o20.2.2.1, Ch.bx n0 b1 0 [(I 0), (.slice none 0 0), (I 0)] [] []]) ?_ ?_
 ·clear h'
  rename _ = some o20 => h
  refine c_blk (c_seq (rg (st (v := (B (r14.1 == 0))) (rv_eql (a := r14.1) (b := 0) rfl rfl) (sa (B (r14.1 == 0)) rfl (w_end (q_then ?_))))))
  refine cd_cond (r14.1 == 0) rfl (fun hb21 => ?_) (fun hb21 => ?_)
  ·replace h := bif_t hb21 h
   refine rg (sm (pt Dd De) rfl ?_)
   refine st_ex (ex_buildSlice (el := n0) (xs := ([0, 99, 100] : List Int)) (ps := [(0, (I 0)), (1, (I 99)), (2, (I 100))]) (cs := [(I 0), (I 99), (I 100)]) H hn0 Try.underlying24 ti3 rfl rfl (by kernel_rfl) (.cons (c := [(I 0)]) rfl (.cons (c := [(I 99)]) rfl (.cons (c := [(I 100)]) rfl (.nil)))) rfl) wn ?_
   rintro _ σ23 ⟨b22, rfl, H, -⟩
   replace H : Hp S0 σ0 σ23 [Ch.own n0 n0 (Sl (some ⟨b22, 0, none⟩) ([0, 99, 100] : List Int) 3) ([0, 99, 100] : List Int), Ch.bx Dc Dd De [(Sl a17 r14.2.1 c18), (I r14.2.2)] Dg Dh, Ch.ro 0 (Sl a17 r14.2.1 c18) r14.2.1, Ch.bx n0 b11 0 [(I r3.1.1), (Sl a6 r3.1.2.1 c7), (I r3.1.2.2)] [] [], Ch.own n0 n0 (Sl a6 r3.1.2.1 c7) r3.1.2.1, Ch.bx n0 b1 0 [(I 0), (.slice none 0 0), (I 0)] [] []] := H.sel' [0, 1, 2, 3, 4, 6] rfl rfl
   obtain ⟨σ24, hw25, H, -⟩ := H.pub 0 rfl (Nat.le_refl _)
   rw [← hw25]; clear hw25
   replace H := H.roLow 0 0 rfl (Nat.zero_le _)
   revert h; refine br fun r26 hx27 h => ?_
   have hc28 := c_spec_reader_one (Dc := Dc) (Dd := Dd) (De := De) (Dg := Dg) (Dh := Dh) (Da := a17) (Db := c18) (Bk := (some ⟨b22, 0, none⟩)) (Bl := 3) hx27
   refine st_call (cx_call hc28 (ent_f hc28.fn rfl) hn0 (H.sel' [2, 3, 0, 0, 1, 3, 4, 5, 6] rfl rfl : Hp S0 σ0 _ ([_, _, _] ++ _))) wn ?_
   rintro _ σ31 ⟨_, ⟨a29, c30, rfl, rfl⟩, H, -⟩
   replace H : Hp _ _ _ [_, _, _, _, _, _, _, _] := H
   replace H : Hp S0 σ0 σ31 [Ch.bx Dc Dd De [(Sl a29 r26.2.1 c30), (I r26.2.2)] Dg Dh, Ch.ro 0 (Sl a29 r26.2.1 c30) r26.2.1, Ch.bx n0 b11 0 [(I r3.1.1), (Sl a6 r3.1.2.1 c7), (I r3.1.2.2)] [] [], Ch.own n0 n0 (Sl a6 r3.1.2.1 c7) r3.1.2.1, Ch.bx n0 b1 0 [(I 0), (.slice none 0 0), (I 0)] [] []] := H.sel' [0, 1, 5, 6, 7] rfl rfl
   refine st (v := (pt b11 0)) (rv_fieldAddr (off := 0) (ft := 3) Try.underlying41 rfl ti3 rfl rfl) ?_
   refine st_exS (ex_store_box (k := 0) (cs := [(I r3.1.1), (Sl a6 r3.1.2.1 c7), (I r3.1.2.2)]) (vs := [(I r26.1)]) (cs' := [(I r26.1), (Sl a6 r3.1.2.1 c7), (I r3.1.2.2)]) H (i := 2) rfl ti3 rfl rfl rfl rfl rfl (Nat.le_of_ble_eq_true rfl) (by simp [plain]) rfl) wn ?_
   rintro σ32 ⟨H, -⟩
   refine w_end (q_blk ?_)
   obtain rfl := sj h
   exact ⟨rfl, _, σ32, a29, c30, a6, c7, fr_join ⟨rfl, rfl, rfl, trivial⟩, rfl, H.sel' [1, 2, 0, 3, 4] rfl rfl⟩
  ·replace h := bif_f hb21 h
   refine c_seq (rg (st (v := (B (r14.1 == 1))) (rv_eql (a := r14.1) (b := 1) rfl rfl) (sa (B (r14.1 == 1)) rfl (w_end (q_then ?_)))))
   refine cd_cond (r14.1 == 1) rfl (fun hb33 => ?_) (fun hb33 => ?_)
   ·replace h := bif_t hb33 h
    refine rg (sm (pt Dd De) rfl ?_)
    revert h; refine br fun r34 hx35 h => ?_
    have hc36 := c_spec_anyVector (Dc := Dc) (Dd := Dd) (De := De) (Dg := Dg) (Dh := Dh) (Da := a17) (Db := c18) hx35
    refine st_call (cx_call hc36 (ent_f hc36.fn rfl) hn0 (H.sel' [0, 1, 1, 2, 3, 4, 5, 6] rfl rfl : Hp S0 σ0 _ ([_, _] ++ _))) wn ?_
    rintro _ σ41 ⟨_, ⟨a37, c38, a39, c40, rfl, rfl⟩, H, -⟩
    replace H : Hp _ _ _ [_, _, _, _, _, _, _, _, _] := H
    replace H : Hp S0 σ0 σ41 [Ch.own n0 n0 (Sl a37 r34.1 c38) r34.1, Ch.bx Dc Dd De [(Sl a39 r34.2.1 c40), (I r34.2.2)] Dg Dh, Ch.ro 0 (Sl a39 r34.2.1 c40) r34.2.1, Ch.bx n0 b11 0 [(I r3.1.1), (Sl a6 r3.1.2.1 c7), (I r3.1.2.2)] [] [], Ch.own n0 n0 (Sl a6 r3.1.2.1 c7) r3.1.2.1, Ch.bx n0 b1 0 [(I 0), (.slice none 0 0), (I 0)] [] []] := H.sel' [0, 1, 2, 4, 5, 7] rfl rfl
    refine st (v := (pt b11 1)) (rv_fieldAddr (off := 1) (ft := 24) Try.underlying41 rfl ti24 rfl rfl) ?_
    refine st_exS (ex_store_box (k := 1) (cs := [(I r3.1.1), (Sl a6 r3.1.2.1 c7), (I r3.1.2.2)]) (vs := [(Sl a37 r34.1 c38)]) (cs' := [(I r3.1.1), (Sl a37 r34.1 c38), (I r3.1.2.2)]) H (i := 3) rfl ti24 rfl rfl rfl rfl rfl (Nat.le_of_ble_eq_true rfl) (by simp [plain]) rfl) wn ?_
    rintro σ42 ⟨H, -⟩
    refine w_end (q_blk ?_)
    obtain rfl := sj h
    exact ⟨rfl, _, σ42, a39, c40, a37, c38, fr_join ⟨rfl, rfl, rfl, trivial⟩, rfl, H.sel' [2, 3, 0, 1, 5] rfl rfl⟩
   ·replace h := bif_f hb33 h
    refine c_seq (rg (st (v := (B (r14.1 == 2))) (rv_eql (a := r14.1) (b := 2) rfl rfl) (sa (B (r14.1 == 2)) rfl (w_end (q_then ?_)))))
    refine cd_cond (r14.1 == 2) rfl (fun hb43 => ?_) (fun hb43 => ?_)
    ·replace h := bif_t hb43 h
     refine rg (sm (pt Dd De) rfl ?_)
     refine st_ex (ex_buildSlice (el := n0) (xs := ([-1, 16] : List Int)) (ps := [(0, (I (-1))), (1, (I 16))]) (cs := [(I (-1)), (I 16)]) H hn0 Try.underlying24 ti3 rfl rfl (by kernel_rfl) (.cons (c := [(I (-1))]) rfl (.cons (c := [(I 16)]) rfl (.nil))) rfl) wn ?_
     rintro _ σ45 ⟨b44, rfl, H, -⟩
     replace H : Hp S0 σ0 σ45 [Ch.own n0 n0 (Sl (some ⟨b44, 0, none⟩) ([-1, 16] : List Int) 2) ([-1, 16] : List Int), Ch.bx Dc Dd De [(Sl a17 r14.2.1 c18), (I r14.2.2)] Dg Dh, Ch.ro 0 (Sl a17 r14.2.1 c18) r14.2.1, Ch.bx n0 b11 0 [(I r3.1.1), (Sl a6 r3.1.2.1 c7), (I r3.1.2.2)] [] [], Ch.own n0 n0 (Sl a6 r3.1.2.1 c7) r3.1.2.1, Ch.bx n0 b1 0 [(I 0), (.slice none 0 0), (I 0)] [] []] := H.sel' [0, 1, 2, 3, 4, 6] rfl rfl
     obtain ⟨σ46, hw47, H, -⟩ := H.pub 0 rfl (Nat.le_refl _)
     rw [← hw47]; clear hw47
     replace H := H.roLow 0 0 rfl (Nat.zero_le _)
     revert h; refine br fun r48 hx49 h => ?_
     have hc50 := c_spec_reader_one (Dc := Dc) (Dd := Dd) (De := De) (Dg := Dg) (Dh := Dh) (Da := a17) (Db := c18) (Bk := (some ⟨b44, 0, none⟩)) (Bl := 2) hx49
     refine st_call (cx_call hc50 (ent_f hc50.fn rfl) hn0 (H.sel' [2, 3, 0, 0, 1, 3, 4, 5, 6] rfl rfl : Hp S0 σ0 _ ([_, _, _] ++ _))) wn ?_
     rintro _ σ53 ⟨_, ⟨a51, c52, rfl, rfl⟩, H, -⟩
     replace H : Hp _ _ _ [_, _, _, _, _, _, _, _] := H
     replace H : Hp S0 σ0 σ53 [Ch.bx Dc Dd De [(Sl a51 r48.2.1 c52), (I r48.2.2)] Dg Dh, Ch.ro 0 (Sl a51 r48.2.1 c52) r48.2.1, Ch.bx n0 b11 0 [(I r3.1.1), (Sl a6 r3.1.2.1 c7), (I r3.1.2.2)] [] [], Ch.own n0 n0 (Sl a6 r3.1.2.1 c7) r3.1.2.1, Ch.bx n0 b1 0 [(I 0), (.slice none 0 0), (I 0)] [] []] := H.sel' [0, 1, 5, 6, 7] rfl rfl
     refine st (v := (pt b11 2)) (rv_fieldAddr (off := 2) (ft := 3) Try.underlying41 rfl ti3 rfl rfl) ?_
     refine st_exS (ex_store_box (k := 2) (cs := [(I r3.1.1), (Sl a6 r3.1.2.1 c7), (I r3.1.2.2)]) (vs := [(I r48.1)]) (cs' := [(I r3.1.1), (Sl a6 r3.1.2.1 c7), (I r48.1)]) H (i := 2) rfl ti3 rfl rfl rfl rfl rfl (Nat.le_of_ble_eq_true rfl) (by simp [plain]) rfl) wn ?_
     rintro σ54 ⟨H, -⟩
     refine w_end (q_blk ?_)
     obtain rfl := sj h
     exact ⟨rfl, _, σ54, a51, c52, a6, c7, fr_join ⟨rfl, rfl, rfl, trivial⟩, rfl, H.sel' [1, 2, 0, 3, 4] rfl rfl⟩
    ·replace h := bif_f hb43 h
     refine c_skip (q_blk ?_)
     obtain rfl := sj h
     exact ⟨rfl, _, σ19, a17, c18, a6, c7, fr_join ⟨rfl, rfl, rfl, trivial⟩, rfl, H.sel' [0, 1, 2, 3, 5] rfl rfl⟩
 ·clear hj
  have h := h'
  clear h' H
  rintro e a w ⟨rfl, ρ, σ55, a56, c57, a58, c59, rfl, rfl, H⟩
  refine q_then (c_seq (rg ?_))
  have hc60 := H.cells 2 rfl
  refine st (v := (.agg #[(I o20.2.1), (Sl a58 o20.2.2.1 c59), (I o20.2.2.2)])) (rv_load (cs := [(I o20.2.1), (Sl a58 o20.2.2.1 c59), (I o20.2.2.2)]) Try.underlying41 rfl ti41 rfl rfl hc60) ?_
  refine st_exS (ex_store_box (k := 0) (cs := [(I 0), (.slice none 0 0), (I 0)]) (vs := [(I o20.2.1), (Sl a58 o20.2.2.1 c59), (I o20.2.2.2)]) (cs' := [(I o20.2.1), (Sl a58 o20.2.2.1 c59), (I o20.2.2.2)]) H (i := 4) rfl ti41 rfl rfl rfl rfl rfl (Nat.le_of_ble_eq_true rfl) (by simp [plain]) rfl) wn ?_
  rintro σ61 ⟨H, -⟩
  refine w_end (q_then (c_ret ?_))
  obtain rfl := sj h
  exact fin_ret (v := (.agg #[(I o20.2.1), (Sl a58 o20.2.2.1 c59), (I o20.2.2.2)])) (results_ok Try.results88 (res_cell rfl (run_cellRes (cs := [(I o20.2.1), (Sl a58 o20.2.2.1 c59), (I o20.2.2.2)]) Try.underlying41 rfl ti41 rfl (H.cells 0 rfl)) res_nil) rfl) ⟨a58, c59, a56, c57, rfl, rfl⟩ (H.sel' [4, 1, 2] rfl rfl)

theorem c_spec_anyEntry {Cy : (List UInt8) × Int} {Da : Option Addr} {Db : Nat} {Dc Dd De : Nat} {Dg Dh : List Value} {r : (Int × (Int × (List Int) × Int)) × ((List UInt8) × Int)} (h : M.spec_anyEntry Cy = some r) :
    Cal2 Try.prog 56 [(pt Dd De)] [Ch.bx Dc Dd De [(Sl Da Cy.1 Db), (I Cy.2)] Dg Dh, Ch.ro 0 (Sl Da Cy.1 Db) Cy.1] (fun n0 v L => ∃ (az1 : Option Addr), ∃ (cz2 : Nat), ∃ (az3 : Option Addr), ∃ (cz4 : Nat), v = (.agg #[(I r.1.1), (I r.1.2.1), (Sl az1 r.1.2.2.1 cz2), (I r.1.2.2.2)]) ∧ L = [Ch.own n0 n0 (Sl az1 r.1.2.2.1 cz2) r.1.2.2.1, Ch.bx Dc Dd De [(Sl az3 r.2.1 cz4), (I r.2.2)] Dg Dh, Ch.ro 0 (Sl az3 r.2.1 cz4) r.2.1]) := by
 refine cal2 (n := 20) Try.func56 rfl rfl rfl rfl ?_
 intro S0 σ0 n0 hn0 H
 unfold M.spec_anyEntry at h
 refine c_seq (rg (st_ex (ex_alloc (cs := [(I 0), (I 0), (.slice none 0 0), (I 0)]) H hn0 ti43 rfl) wn ?_))
 rintro _ σ2 ⟨b1, rfl, H, -⟩
 refine w_end (q_then (c_seq (rg (sm (pt Dd De) rfl ?_))))
 revert h; refine br fun r3 hx4 h => ?_
 have hc5 := c_spec_someEntry (Dc := Dc) (Dd := Dd) (De := De) (Dg := Dg) (Dh := Dh) (Da := Da) (Db := Db) hx4
 refine st_call (cx_call hc5 (ent_f hc5.fn rfl) hn0 (H.sel' [1, 2, 0, 2] rfl rfl : Hp S0 σ0 _ ([_, _] ++ _))) wn ?_
 rintro _ σ10 ⟨_, ⟨a6, c7, a8, c9, rfl, rfl⟩, H, -⟩
 replace H : Hp _ _ _ [_, _, _, _, _] := H
 refine st_ex (ex_alloc (cs := [(I 0), (I 0), (.slice none 0 0), (I 0)]) H hn0 ti43 rfl) wn ?_
 rintro _ σ12 ⟨b11, rfl, H, -⟩
 refine st_exS (ex_store_box (k := 0) (cs := [(I 0), (I 0), (.slice none 0 0), (I 0)]) (vs := [(I r3.1.1), (I r3.1.2.1), (Sl a6 r3.1.2.2.1 c7), (I r3.1.2.2.2)]) (cs' := [(I r3.1.1), (I r3.1.2.1), (Sl a6 r3.1.2.2.1 c7), (I r3.1.2.2.2)]) H (i := 0) rfl ti43 rfl rfl rfl rfl rfl (Nat.le_of_ble_eq_true rfl) (by simp [plain]) rfl) wn ?_
 rintro σ13 ⟨H, -⟩
 refine w_end (q_then (c_seq (c_seq (rg (sm (pt Dd De) rfl ?_)))))
 revert h; refine br fun r14 hx15 h => ?_
 have hc16 := c_spec_reader_pick (Dc := Dc) (Dd := Dd) (De := De) (Dg := Dg) (Dh := Dh) (Da := a8) (Db := c9) hx15
 refine st_call (cx_call hc16 (ent_f hc16.fn rfl) hn0 (H.sel' [2, 3, 0, 1, 3, 4, 5] rfl rfl : Hp S0 σ0 _ ([_, _] ++ _))) wn ?_
 rintro _ σ19 ⟨_, ⟨a17, c18, rfl, rfl⟩, H, -⟩
 replace H : Hp _ _ _ [_, _, _, _, _, _, _] := H
 refine w_end (q_then ?_)
 obtain ⟨o20, hj, h'⟩ := bind_some h
 clear h
 refine c_cut (fun e a w => e = .normal ∧ ∃ (ρ : Nat → Value) (σ : St) (aj1 : Option Addr) (cj2 : Nat) (aj3 : Option Addr) (cj4 : Nat), a = fr 20 (updL ρ [(0, (pt Dd De)), (2, (pt b1 0)), (3, (pt b11 0))]) ∧ w = σ.w ∧ Hp S0 σ0 σ [Ch.bx Dc Dd De [(Sl aj1 o20.1.1 cj2), (I o20.1.2)] Dg Dh, Ch.ro 0 (Sl aj1 o20.1.1 cj2) o20.1.1, Ch.bx n0 b11 0 [(I o20.2.1), (I o20.2.2.1), (Sl aj3 o20.2.2.2.1 cj4), (I o20.2.2.2.2)] [] [], Ch.own n0 n0 (Sl aj3 o20.2.2.2.1 cj4) o20.2.2.2.1, Ch.bx n0 b1 0 [(I 0), (I 0), (.slice none 0 0), (I 0)] [] []]) ?_ ?_
 ·clear h'
  rename _ = some o20 => h
  refine c_blk (c_seq (rg (st (v := (B (r14.1 == 0))) (rv_eql (a := r14.1) (b := 0) rfl rfl) (sa (B (r14.1 == 0)) rfl (w_end (q_then ?_))))))
  refine cd_cond (r14.1 == 0) rfl (fun hb21 => ?_) (fun hb21 => ?_)
  ·replace h := bif_t hb21 h
   refine rg (sm (pt Dd De) rfl ?_)
   refine st_ex (ex_buildSlice (el := n0) (xs := ([0, 3, 1, 2] : List Int)) (ps := [(0, (I 0)), (1, (I 3)), (2, (I 1)), (3, (I 2))]) (cs := [(I 0), (I 3), (I 1), (I 2)]) H hn0 Try.underlying24 ti3 rfl rfl (by kernel_rfl) (.cons (c := [(I 0)]) rfl (.cons (c := [(I 3)]) rfl (.cons (c := [(I 1)]) rfl (.cons (c := [(I 2)]) rfl (.nil))))) rfl) wn ?_
   rintro _ σ23 ⟨b22, rfl, H, -⟩
   replace H : Hp S0 σ0 σ23 [Ch.own n0 n0 (Sl (some ⟨b22, 0, none⟩) ([0, 3, 1, 2] : List Int) 4) ([0, 3, 1, 2] : List Int), Ch.bx Dc Dd De [(Sl a17 r14.2.1 c18), (I r14.2.2)] Dg Dh, Ch.ro 0 (Sl a17 r14.2.1 c18) r14.2.1, Ch.bx n0 b11 0 [(I r3.1.1), (I r3.1.2.1), (Sl a6 r3.1.2.2.1 c7), (I r3.1.2.2.2)] [] [], Ch.own n0 n0 (Sl a6 r3.1.2.2.1 c7) r3.1.2.2.1, Ch.bx n0 b1 0 [(I 0), (I 0), (.slice none 0 0), (I 0)] [] []] := H.sel' [0, 1, 2, 3, 4, 6] rfl rfl
   obtain ⟨σ24, hw25, H, -⟩ := H.pub 0 rfl (Nat.le_refl _)
   rw [← hw25]; clear hw25
   replace H := H.roLow 0 0 rfl (Nat.zero_le _)
   revert h; refine br fun r26 hx27 h => ?_
   have hc28 := c_spec_reader_one (Dc := Dc) (Dd := Dd) (De := De) (Dg := Dg) (Dh := Dh) (Da := a17) (Db := c18) (Bk := (some ⟨b22, 0, none⟩)) (Bl := 4) hx27
   refine st_call (cx_call hc28 (ent_f hc28.fn rfl) hn0 (H.sel' [2, 3, 0, 0, 1, 3, 4, 5, 6] rfl rfl : Hp S0 σ0 _ ([_, _, _] ++ _))) wn ?_
   rintro _ σ31 ⟨_, ⟨a29, c30, rfl, rfl⟩, H, -⟩
   replace H : Hp _ _ _ [_, _, _, _, _, _, _, _] := H
   replace H : Hp S0 σ0 σ31 [Ch.bx Dc Dd De [(Sl a29 r26.2.1 c30), (I r26.2.2)] Dg Dh, Ch.ro 0 (Sl a29 r26.2.1 c30) r26.2.1, Ch.bx n0 b11 0 [(I r3.1.1), (I r3.1.2.1), (Sl a6 r3.1.2.2.1 c7), (I r3.1.2.2.2)] [] [], Ch.own n0 n0 (Sl a6 r3.1.2.2.1 c7) r3.1.2.2.1, Ch.bx n0 b1 0 [(I 0), (I 0), (.slice none 0 0), (I 0)] [] []] := H.sel' [0, 1, 5, 6, 7] rfl rfl
   refine st (v := (pt b11 0)) (rv_fieldAddr (off := 0) (ft := 3) Try.underlying43 rfl ti3 rfl rfl) ?_
   refine st_exS (ex_store_box (k := 0) (cs := [(I r3.1.1), (I r3.1.2.1), (Sl a6 r3.1.2.2.1 c7), (I r3.1.2.2.2)]) (vs := [(I r26.1)]) (cs' := [(I r26.1), (I r3.1.2.1), (Sl a6 r3.1.2.2.1 c7), (I r3.1.2.2.2)]) H (i := 2) rfl ti3 rfl rfl rfl rfl rfl (Nat.le_of_ble_eq_true rfl) (by simp [plain]) rfl) wn ?_
   rintro σ32 ⟨H, -⟩
   refine w_end (q_blk ?_)
   obtain rfl := sj h
   exact ⟨rfl, _, σ32, a29, c30, a6, c7, fr_join ⟨rfl, rfl, rfl, trivial⟩, rfl, H.sel' [1, 2, 0, 3, 4] rfl rfl⟩
  ·replace h := bif_f hb21 h
   refine c_seq (rg (st (v := (B (r14.1 == 1))) (rv_eql (a := r14.1) (b := 1) rfl rfl) (sa (B (r14.1 == 1)) rfl (w_end (q_then ?_)))))
   refine cd_cond (r14.1 == 1) rfl (fun hb33 => ?_) (fun hb33 => ?_)
   ·replace h := bif_t hb33 h
    refine rg (sm (pt Dd De) rfl ?_)
    revert h; refine br fun r34 hx35 h => ?_
    have hc36 := c_spec_anyItem (Dc := Dc) (Dd := Dd) (De := De) (Dg := Dg) (Dh := Dh) (Da := a17) (Db := c18) hx35
    refine st_call (cx_call hc36 (ent_f hc36.fn rfl) hn0 (H.sel' [0, 1, 1, 2, 3, 4, 5, 6] rfl rfl : Hp S0 σ0 _ ([_, _] ++ _))) wn ?_
    rintro _ σ41 ⟨_, ⟨a37, c38, a39, c40, rfl, rfl⟩, H, -⟩
    replace H : Hp _ _ _ [_, _, _, _, _, _, _, _, _] := H
    replace H : Hp S0 σ0 σ41 [Ch.own n0 n0 (Sl a37 r34.1.2.1 c38) r34.1.2.1, Ch.bx Dc Dd De [(Sl a39 r34.2.1 c40), (I r34.2.2)] Dg Dh, Ch.ro 0 (Sl a39 r34.2.1 c40) r34.2.1, Ch.bx n0 b11 0 [(I r3.1.1), (I r3.1.2.1), (Sl a6 r3.1.2.2.1 c7), (I r3.1.2.2.2)] [] [], Ch.own n0 n0 (Sl a6 r3.1.2.2.1 c7) r3.1.2.2.1, Ch.bx n0 b1 0 [(I 0), (I 0), (.slice none 0 0), (I 0)] [] []] := H.sel' [0, 1, 2, 4, 5, 7] rfl rfl
    refine st (v := (pt b11 1)) (rv_fieldAddr (off := 1) (ft := 41) Try.underlying43 rfl ti41 rfl rfl) ?_
    refine st_exS (ex_store_box (k := 1) (cs := [(I r3.1.1), (I r3.1.2.1), (Sl a6 r3.1.2.2.1 c7), (I r3.1.2.2.2)]) (vs := [(I r34.1.1), (Sl a37 r34.1.2.1 c38), (I r34.1.2.2)]) (cs' := [(I r3.1.1), (I r34.1.1), (Sl a37 r34.1.2.1 c38), (I r34.1.2.2)]) H (i := 3) rfl ti41 rfl rfl rfl rfl rfl (Nat.le_of_ble_eq_true rfl) (by simp [plain]) rfl) wn ?_
    rintro σ42 ⟨H, -⟩
    refine w_end (q_blk ?_)
    obtain rfl := sj h
    exact ⟨rfl, _, σ42, a39, c40, a37, c38, fr_join ⟨rfl, rfl, rfl, trivial⟩, rfl, H.sel' [2, 3, 0, 1, 5] rfl rfl⟩
   ·replace h := bif_f hb33 h
    refine c_skip (q_blk ?_)
    obtain rfl := sj h
    exact ⟨rfl, _, σ19, a17, c18, a6, c7, fr_join ⟨rfl, rfl, rfl, trivial⟩, rfl, H.sel' [0, 1, 2, 3, 5] rfl rfl⟩
 ·clear hj
  have h := h'
  clear h' H
  rintro e a w ⟨rfl, ρ, σ43, a44, c45, a46, c47, rfl, rfl, H⟩
  refine q_then (c_seq (rg ?_))
  have hc48 := H.cells 2 rfl
  refine st (v := (.agg #[(I o20.2.1), (I o20.2.2.1), (Sl a46 o20.2.2.2.1 c47), (I o20.2.2.2.2)])) (rv_load (cs := [(I o20.2.1), (I o20.2.2.1), (Sl a46 o20.2.2.2.1 c47), (I o20.2.2.2.2)]) Try.underlying43 rfl ti43 rfl rfl hc48) ?_
  refine st_exS (ex_store_box (k := 0) (cs := [(I 0), (I 0), (.slice none 0 0), (I 0)]) (vs := [(I o20.2.1), (I o20.2.2.1), (Sl a46 o20.2.2.2.1 c47), (I o20.2.2.2.2)]) (cs' := [(I o20.2.1), (I o20.2.2.1), (Sl a46 o20.2.2.2.1 c47), (I o20.2.2.2.2)]) H (i := 4) rfl ti43 rfl rfl rfl rfl rfl (Nat.le_of_ble_eq_true rfl) (by simp [plain]) rfl) wn ?_
  rintro σ49 ⟨H, -⟩
  refine w_end (q_then (c_ret ?_))
  obtain rfl := sj h
  exact fin_ret (v := (.agg #[(I o20.2.1), (I o20.2.2.1), (Sl a46 o20.2.2.2.1 c47), (I o20.2.2.2.2)])) (results_ok Try.results56 (res_cell rfl (run_cellRes (cs := [(I o20.2.1), (I o20.2.2.1), (Sl a46 o20.2.2.2.1 c47), (I o20.2.2.2.2)]) Try.underlying43 rfl ti43 rfl (H.cells 0 rfl)) res_nil) rfl) ⟨a46, c47, a44, c45, rfl, rfl⟩ (H.sel' [4, 1, 2] rfl rfl)

theorem c_spec_inRange {Dj : Int} {Dk : Int} {Dm : Int}  {r : Bool} (h : M.spec_inRange Dj Dk Dm = some r) :
    Cal2 Try.prog 50 [(I Dj), (I Dk), (I Dm)] [] (fun n0 v L => v = (B r) ∧ L = []) := by
 refine cal2 (n := 15) Try.func50 rfl rfl rfl rfl ?_
 intro S0 σ0 n0 hn0 H
 unfold M.spec_inRange at h
 refine c_seq (rg (sa (B false) rfl (w_end (q_then (c_seq (rg (sm (I Dk) rfl (sm (I Dj) rfl (st (v := (B (decide (Dk ≤ Dj)))) (rv_leq (a := Dk) (b := Dj) rfl rfl) (sm (B (decide (Dk ≤ Dj))) rfl ?_))))))))))
 rcases Bool.eq_false_or_eq_true (decide (Dk ≤ Dj)) with hb1 | hb1
 ·replace h := bif_t hb1 h
  refine st_g (v := (I Dj)) (congrArg some hb1) (rv_move rfl) (st_g (v := (I Dm)) (congrArg some hb1) (rv_move rfl) (st_g (v := (B (decide (Dj ≤ Dm)))) (congrArg some hb1) (rv_leq (a := Dj) (b := Dm) rfl rfl) (st (v := (B (decide (Dj ≤ Dm)))) (rv_pick_t (congrArg B hb1) rfl) (sa (B (decide (Dj ≤ Dm))) rfl (w_end (q_then (c_ret ?_)))))))
  obtain rfl := sj h
  exact fin_ret (v := (B (decide (Dj ≤ Dm)))) (results_ok Try.results50 (res_tmp (v := (B (decide (Dj ≤ Dm)))) rfl res_nil) rfl) ⟨rfl, rfl⟩ (H.sel' [] rfl rfl)
 ·replace h := bif_f hb1 h
  refine st_skip (congrArg some hb1) (st_skip (congrArg some hb1) (st_skip (congrArg some hb1) (st (v := (B false)) (rv_pick_f (congrArg B hb1) rfl) (sa (B false) rfl (w_end (q_then (c_ret ?_)))))))
  obtain rfl := sj h
  exact fin_ret (v := (B false)) (results_ok Try.results50 (res_tmp (v := (B false)) rfl res_nil) rfl) ⟨rfl, rfl⟩ (H.sel' [] rfl rfl)

theorem c_spec_allIn {Ao : List Int} {Dk : Int} {Dm : Int} {Ap : Option Addr} {Aq : Nat} {r : Bool} (h : M.spec_allIn Ao Dk Dm = some r) :
    Cal2 Try.prog 117 [(Sl Ap Ao Aq), (I Dk), (I Dm)] [Ch.ro 0 (Sl Ap Ao Aq) Ao] (fun n0 v L => v = (B r) ∧ L = []) := by
 refine cal2 (n := 22) Try.func117 rfl rfl rfl rfl ?_
 intro S0 σ0 n0 hn0 H
 unfold M.spec_allIn at h
 refine c_seq (rg (sa (B false) rfl (w_end (q_then (c_seq (c_seq (rg (sa (I 0) rfl (w_end (q_then ?_))))))))))
 obtain ⟨o1, hj, h'⟩ := bind_some h
 clear h
 refine c_cut (fun e a w => (∃ t, o1 = (.inl t) ∧ e = .normal ∧ ∃ (ρ : Nat → Value) (σ : St), a = fr 22 (updL ρ []) ∧ w = σ.w ∧ Hp S0 σ0 σ []) ∨ (∃ t, o1 = (.inr t) ∧ e = .ret ∧ ∃ (ρ : Nat → Value) (σ : St), a = fr 22 (updL ρ [(6, (B t))]) ∧ w = σ.w ∧ Hp S0 σ0 σ [])) ?_ ?_
 ·clear h'
  rename _ = some o1 => h
  refine c_blk (wp_loopM _ h (fun s2 a w => ∃ (ρ : Nat → Value) (σ : St), a = fr 22 (updL ρ [(0, (Sl Ap Ao Aq)), (1, (I Dk)), (2, (I Dm)), (7, (I s2))]) ∧ w = σ.w ∧ Hp S0 σ0 σ [Ch.ro 0 (Sl Ap Ao Aq) Ao]) ⟨_, σ0, fr_join ⟨rfl, rfl, rfl, rfl, trivial⟩, rfl, H.sel' [0] rfl rfl⟩ ?_)
  clear h H
  rintro s2 a w o ⟨ρ, σ3, rfl, rfl, H⟩ h hres
  refine c_seq (c_seq (rg (sm (I s2) rfl (sm (Sl Ap Ao Aq) rfl (st (v := (I (Ao.length : Int))) (rv_len Try.underlying24 rfl) (st (v := (B (decide (s2 < (Ao.length : Int))))) (rv_lss (a := s2) (b := (Ao.length : Int)) rfl rfl) (w_end (q_then ?_))))))))
  refine cd_cond (decide (s2 < (Ao.length : Int))) rfl (fun hb4 => ?_) (fun hb4 => ?_)
  ·replace h := bif_t hb4 h
   refine c_skip (q_then (c_seq (c_blk (c_seq (rg (sm (Sl Ap Ao Aq) rfl (sm (I s2) rfl ?_)))))))
   revert h; refine br fun x5 hx6 h => ?_
   obtain ⟨b8, o9, hi7, -⟩ := (H.ro 0 rfl).ix hx6
   refine st (v := (pt b8 o9)) (rv_ix Try.underlying24 ti3 rfl rfl hi7) ?_
   have hc10 := ((H.ro 0 rfl).at hx6 hi7).int
   refine st (v := (I x5)) (rv_load1 Try.underlying3 rfl rfl hc10) (sm (I Dk) rfl (sm (I Dm) rfl ?_))
   revert h; refine br fun r11 hx12 h => ?_
   have hc13 := c_spec_inRange hx12
   refine st_call (cx_call hc13 (ent_f hc13.fn rfl) hn0 (H.sel' [0] rfl rfl : Hp S0 σ0 _ ([] ++ _))) wn ?_
   rintro _ σ14 ⟨_, ⟨rfl, rfl⟩, H, -⟩
   replace H : Hp _ _ _ [_] := H
   refine st (v := (B (!r11))) (rv_not rfl) (w_end (q_then ?_))
   refine cd_cond (!r11) rfl (fun hb15 => ?_) (fun hb15 => ?_)
   ·replace h := bif_t hb15 h
    refine c_seq (rg (sa (B false) rfl (w_end (q_then (c_ret (q_blk_r (q_then_r (q_then_r (q_blk_r ?_)))))))))
    obtain rfl := sj h
    obtain rfl := hres _ rfl
    exact .inr (⟨_, rfl, rfl, _, σ14, fr_join ⟨rfl, trivial⟩, rfl, H.sel' [] rfl rfl⟩)
   ·replace h := bif_f hb15 h
    refine c_skip (q_blk (q_then (rg (sm (I s2) rfl (st (v := (I (w64 (s2 + 1)))) (rv_add (a := s2) (b := 1) rfl rfl) (sa (I (w64 (s2 + 1))) rfl (w_end (q_then ?_))))))))
    obtain rfl := sj h
    exact ⟨_, rfl, _, σ14, fr_join ⟨rfl, rfl, rfl, rfl, trivial⟩, rfl, H.sel' [0] rfl rfl⟩
  ·replace h := bif_f hb4 h
   refine c_exit (q_then_x (q_then_x (q_blk_hit ?_)))
   obtain rfl := sj h
   obtain rfl := hres _ rfl
   exact .inl ⟨_, rfl, rfl, _, σ3, fr_join trivial, rfl, H.sel' [] rfl rfl⟩
 ·clear hj
  have h := h'
  clear h' H
  rintro e a w (⟨t16, rfl, rfl, ρ, σ17, rfl, rfl, H⟩ | ⟨t18, rfl, rfl, ρ, σ19, rfl, rfl, H⟩)
  ·replace h := selim_l h
   refine q_then (c_seq (rg (sa (B true) rfl (w_end (q_then (c_ret ?_))))))
   obtain rfl := sj h
   exact fin_ret (v := (B true)) (results_ok Try.results117 (res_tmp (v := (B true)) rfl res_nil) rfl) ⟨rfl, rfl⟩ (H.sel' [] rfl rfl)
  ·replace h := selim_r h
   refine q_then_r ?_
   obtain rfl := sj h
   exact fin_ret (v := (B t18)) (results_ok Try.results117 (res_tmp (v := (B t18)) rfl res_nil) rfl) ⟨rfl, rfl⟩ (H.sel' [] rfl rfl)

theorem c_spec_isVector {Af : List Int} {Ag : Option Addr} {Ah : Nat} {r : Bool} (h : M.spec_isVector Af = some r) :
    Cal2 Try.prog 110 [(Sl Ag Af Ah)] [Ch.ro 0 (Sl Ag Af Ah) Af] (fun n0 v L => v = (B r) ∧ L = []) := by
 refine cal2 (n := 10) Try.func110 rfl rfl rfl rfl ?_
 intro S0 σ0 n0 hn0 H
 unfold M.spec_isVector at h
 refine c_seq (rg (sa (B false) rfl (w_end (q_then (c_seq (rg (sm (Sl Ag Af Ah) rfl (st (v := (I (Af.length : Int))) (rv_len Try.underlying24 rfl) (st (v := (B ((Af.length : Int) == 4))) (rv_eql (a := (Af.length : Int)) (b := 4) rfl rfl) (sm (B ((Af.length : Int) == 4)) rfl ?_))))))))))
 rcases Bool.eq_false_or_eq_true ((Af.length : Int) == 4) with hb1 | hb1
 ·replace h := bif_t hb1 h
  refine st_g (v := (Sl Ag Af Ah)) (congrArg some hb1) (rv_move rfl) ?_
  revert h; refine br fun r2 hx3 h => ?_
  have hc4 := c_spec_allIn (Ap := Ag) (Aq := Ah) hx3
  refine st_call (cx_call hc4 (ent_f hc4.fn rfl) hn0 (H.sel' [0, 0] rfl rfl : Hp S0 σ0 _ ([_] ++ _))) (wanted_yes rfl (by exact (congrArg some hb1))) ?_
  rintro _ σ5 ⟨_, ⟨rfl, rfl⟩, H, -⟩
  replace H : Hp _ _ _ [_] := H
  refine st (v := (B r2)) (rv_pick_t (congrArg B hb1) rfl) (sa (B r2) rfl (w_end (q_then (c_ret ?_))))
  obtain rfl := sj h
  exact fin_ret (v := (B r2)) (results_ok Try.results110 (res_tmp (v := (B r2)) rfl res_nil) rfl) ⟨rfl, rfl⟩ (H.sel' [] rfl rfl)
 ·replace h := bif_f hb1 h
  refine st_skip (congrArg some hb1) (st_skip (congrArg some hb1) (st (v := (B false)) (rv_pick_f (congrArg B hb1) rfl) (sa (B false) rfl (w_end (q_then (c_ret ?_))))))
  obtain rfl := sj h
  exact fin_ret (v := (B false)) (results_ok Try.results110 (res_tmp (v := (B false)) rfl res_nil) rfl) ⟨rfl, rfl⟩ (H.sel' [] rfl rfl)

theorem c_spec_validItem {Aj : Int × (List Int) × Int} {Ak : Option Addr} {Am : Nat} {r : Bool} (h : M.spec_validItem Aj = some r) :
    Cal2 Try.prog 90 [(.agg #[(I Aj.1), (Sl Ak Aj.2.1 Am), (I Aj.2.2)])] [Ch.ro 0 (Sl Ak Aj.2.1 Am) Aj.2.1] (fun n0 v L => v = (B r) ∧ L = []) := by
 refine cal2 (n := 16) Try.func90 rfl rfl rfl rfl ?_
 intro S0 σ0 n0 hn0 H
 unfold M.spec_validItem at h
 refine c_seq (rg (st_ex (ex_box (cs := [(I Aj.1), (Sl Ak Aj.2.1 Am), (I Aj.2.2)]) H hn0 rfl rfl) wn ?_))
 rintro _ σ2 ⟨b1, rfl, H, -⟩
 refine sa (B false) rfl (w_end (q_then (c_seq (rg (st (v := (pt b1 0)) (rv_fieldAddr (off := 0) (ft := 3) Try.underlying41 rfl ti3 rfl rfl) ?_)))))
 have hc3 := H.cell (u := (I Aj.1)) (o' := 0) 0 0 rfl rfl rfl
 refine st (v := (I Aj.1)) (rv_load1 Try.underlying3 rfl rfl hc3) ?_
 revert h; refine br fun r4 hx5 h => ?_
 have hc6 := c_spec_inRange hx5
 refine st_call (cx_call hc6 (ent_f hc6.fn rfl) hn0 (H.sel' [0, 1] rfl rfl : Hp S0 σ0 _ ([] ++ _))) wn ?_
 rintro _ σ7 ⟨_, ⟨rfl, rfl⟩, H, -⟩
 replace H : Hp _ _ _ [_, _] := H
 refine sm (B r4) rfl ?_
 rcases Bool.eq_false_or_eq_true r4 with hb8 | hb8
 ·replace h := bif_t hb8 h
  refine st_g (v := (pt b1 1)) (congrArg some hb8) (rv_fieldAddr (off := 1) (ft := 24) Try.underlying41 rfl ti24 rfl rfl) ?_
  have hc9 := H.cell (u := (Sl Ak Aj.2.1 Am)) (o' := 1) 0 1 rfl rfl rfl
  refine st_g (v := (Sl Ak Aj.2.1 Am)) (congrArg some hb8) (rv_load1 Try.underlying24 rfl rfl hc9) ?_
  revert h; refine br fun r10 hx11 h => ?_
  have hc12 := c_spec_isVector (Ag := Ak) (Ah := Am) hx11
  refine st_call (cx_call hc12 (ent_f hc12.fn rfl) hn0 (H.sel' [1, 0, 1] rfl rfl : Hp S0 σ0 _ ([_] ++ _))) (wanted_yes rfl (by exact (congrArg some hb8))) ?_
  rintro _ σ13 ⟨_, ⟨rfl, rfl⟩, H, -⟩
  replace H : Hp _ _ _ [_, _] := H
  refine st (v := (B r10)) (rv_pick_t (congrArg B hb8) rfl) (sm (B r10) rfl ?_)
  rcases Bool.eq_false_or_eq_true r10 with hb14 | hb14
  ·replace h := bif_t hb14 h
   refine st_g (v := (pt b1 2)) (congrArg some hb14) (rv_fieldAddr (off := 2) (ft := 3) Try.underlying41 rfl ti3 rfl rfl) ?_
   have hc15 := H.cell (u := (I Aj.2.2)) (o' := 2) 0 2 rfl rfl rfl
   refine st_g (v := (I Aj.2.2)) (congrArg some hb14) (rv_load1 Try.underlying3 rfl rfl hc15) ?_
   revert h; refine br fun r16 hx17 h => ?_
   have hc18 := c_spec_inRange hx17
   refine st_call (cx_call hc18 (ent_f hc18.fn rfl) hn0 (H.sel' [0, 1] rfl rfl : Hp S0 σ0 _ ([] ++ _))) (wanted_yes rfl (by exact (congrArg some hb14))) ?_
   rintro _ σ19 ⟨_, ⟨rfl, rfl⟩, H, -⟩
   replace H : Hp _ _ _ [_, _] := H
   refine st (v := (B r16)) (rv_pick_t (congrArg B hb14) rfl) (sa (B r16) rfl (w_end (q_then (c_ret ?_))))
   obtain rfl := sj h
   exact fin_ret (v := (B r16)) (results_ok Try.results90 (res_tmp (v := (B r16)) rfl res_nil) rfl) ⟨rfl, rfl⟩ (H.sel' [] rfl rfl)
  ·replace h := bif_f hb14 h
   refine st_skip (congrArg some hb14) (st_skip (congrArg some hb14) (st_skip (congrArg some hb14) (st (v := (B false)) (rv_pick_f (congrArg B hb14) rfl) (sa (B false) rfl (w_end (q_then (c_ret ?_)))))))
   obtain rfl := sj h
   exact fin_ret (v := (B false)) (results_ok Try.results90 (res_tmp (v := (B false)) rfl res_nil) rfl) ⟨rfl, rfl⟩ (H.sel' [] rfl rfl)
 ·replace h := bif_f hb8 h
  refine st_skip (congrArg some hb8) (st_skip (congrArg some hb8) (st_skip (congrArg some hb8) (st (v := (B false)) (rv_pick_f (congrArg B hb8) rfl) (sm (B false) rfl (st_skip rfl (st_skip rfl (st_skip rfl (st (v := (B false)) (rv_pick_f rfl rfl) (sa (B false) rfl (w_end (q_then ?_)))))))))))
  refine c_ret ?_
  obtain rfl := sj h
  exact fin_ret (v := (B false)) (results_ok Try.results90 (res_tmp (v := (B false)) rfl res_nil) rfl) ⟨rfl, rfl⟩ (H.sel' [] rfl rfl)

theorem c_spec_validEntry {Ar : Int × (Int × (List Int) × Int)} {As : Option Addr} {Au : Nat} {r : Bool} (h : M.spec_validEntry Ar = some r) :
    Cal2 Try.prog 60 [(.agg #[(I Ar.1), (I Ar.2.1), (Sl As Ar.2.2.1 Au), (I Ar.2.2.2)])] [Ch.ro 0 (Sl As Ar.2.2.1 Au) Ar.2.2.1] (fun n0 v L => v = (B r) ∧ L = []) := by
 refine cal2 (n := 31) Try.func60 rfl rfl rfl rfl ?_
 intro S0 σ0 n0 hn0 H
 unfold M.spec_validEntry at h
 refine c_seq (rg (st_ex (ex_box (cs := [(I Ar.1), (I Ar.2.1), (Sl As Ar.2.2.1 Au), (I Ar.2.2.2)]) H hn0 rfl rfl) wn ?_))
 rintro _ σ2 ⟨b1, rfl, H, -⟩
 refine sa (B false) rfl (w_end (q_then (c_seq (c_seq (rg (st (v := (pt b1 0)) (rv_fieldAddr (off := 0) (ft := 3) Try.underlying43 rfl ti3 rfl rfl) ?_))))))
 have hc3 := H.cell (u := (I Ar.1)) (o' := 0) 0 0 rfl rfl rfl
 refine st (v := (I Ar.1)) (rv_load1 Try.underlying3 rfl rfl hc3) (st (v := (B (Ar.1 == 1))) (rv_eql (a := Ar.1) (b := 1) rfl rfl) (w_end (q_then ?_)))
 refine cd_cond (Ar.1 == 1) rfl (fun hb4 => ?_) (fun hb4 => ?_)
 ·replace h := bif_t hb4 h
  refine c_seq (rg (st (v := (pt b1 1)) (rv_fieldAddr (off := 1) (ft := 41) Try.underlying43 rfl ti41 rfl rfl) ?_))
  have hc5 := H.part (us := [(I Ar.2.1), (Sl As Ar.2.2.1 Au), (I Ar.2.2.2)]) (o' := 1) 0 1 3 rfl rfl rfl rfl
  refine st (v := (.agg #[(I Ar.2.1), (Sl As Ar.2.2.1 Au), (I Ar.2.2.2)])) (rv_load (cs := [(I Ar.2.1), (Sl As Ar.2.2.1 Au), (I Ar.2.2.2)]) Try.underlying41 rfl ti41 rfl rfl hc5) ?_
  revert h; refine br fun r6 hx7 h => ?_
  have hc8 := c_spec_validItem (Ak := As) (Am := Au) hx7
  refine st_call (cx_call hc8 (ent_f hc8.fn rfl) hn0 (H.sel' [1, 0, 1] rfl rfl : Hp S0 σ0 _ ([_] ++ _))) wn ?_
  rintro _ σ9 ⟨_, ⟨rfl, rfl⟩, H, -⟩
  replace H : Hp _ _ _ [_, _] := H
  refine sa (B r6) rfl (w_end (q_then (c_ret (q_then_r ?_))))
  obtain rfl := sj h
  exact fin_ret (v := (B r6)) (results_ok Try.results60 (res_tmp (v := (B r6)) rfl res_nil) rfl) ⟨rfl, rfl⟩ (H.sel' [] rfl rfl)
 ·replace h := bif_f hb4 h
  refine c_skip (q_then (c_seq (rg (st (v := (pt b1 0)) (rv_fieldAddr (off := 0) (ft := 3) Try.underlying43 rfl ti3 rfl rfl) ?_))))
  have hc10 := H.cell (u := (I Ar.1)) (o' := 0) 0 0 rfl rfl rfl
  refine st (v := (I Ar.1)) (rv_load1 Try.underlying3 rfl rfl hc10) (st (v := (B (Ar.1 == 2))) (rv_eql (a := Ar.1) (b := 2) rfl rfl) (sm (B (Ar.1 == 2)) rfl ?_))
  rcases Bool.eq_false_or_eq_true (Ar.1 == 2) with hb11 | hb11
  ·replace h := bif_t hb11 h
   refine st_g (v := (pt b1 1)) (congrArg some hb11) (rv_fieldAddr (off := 1) (ft := 41) Try.underlying43 rfl ti41 rfl rfl) (st_g (v := (pt b1 1)) (congrArg some hb11) (rv_fieldAddr (off := 0) (ft := 3) Try.underlying41 rfl ti3 rfl rfl) ?_)
   have hc12 := H.cell (u := (I Ar.2.1)) (o' := 1) 0 1 rfl rfl rfl
   refine st_g (v := (I Ar.2.1)) (congrArg some hb11) (rv_load1 Try.underlying3 rfl rfl hc12) ?_
   revert h; refine br fun r13 hx14 h => ?_
   have hc15 := c_spec_inRange hx14
   refine st_call (cx_call hc15 (ent_f hc15.fn rfl) hn0 (H.sel' [0, 1] rfl rfl : Hp S0 σ0 _ ([] ++ _))) (wanted_yes rfl (by exact (congrArg some hb11))) ?_
   rintro _ σ16 ⟨_, ⟨rfl, rfl⟩, H, -⟩
   replace H : Hp _ _ _ [_, _] := H
   refine st (v := (B r13)) (rv_pick_t (congrArg B hb11) rfl) (sm (B r13) rfl ?_)
   rcases Bool.eq_false_or_eq_true r13 with hb17 | hb17
   ·replace h := bif_t hb17 h
    refine st_g (v := (pt b1 1)) (congrArg some hb17) (rv_fieldAddr (off := 1) (ft := 41) Try.underlying43 rfl ti41 rfl rfl) (st_g (v := (pt b1 2)) (congrArg some hb17) (rv_fieldAddr (off := 1) (ft := 24) Try.underlying41 rfl ti24 rfl rfl) ?_)
    have hc18 := H.cell (u := (Sl As Ar.2.2.1 Au)) (o' := 2) 0 2 rfl rfl rfl
    refine st_g (v := (Sl As Ar.2.2.1 Au)) (congrArg some hb17) (rv_load1 Try.underlying24 rfl rfl hc18) (st_g (v := (I (Ar.2.2.1.length : Int))) (congrArg some hb17) (rv_len Try.underlying24 rfl) (st_g (v := (B ((Ar.2.2.1.length : Int) == 0))) (congrArg some hb17) (rv_eql (a := (Ar.2.2.1.length : Int)) (b := 0) rfl rfl) (st (v := (B ((Ar.2.2.1.length : Int) == 0))) (rv_pick_t (congrArg B hb17) rfl) (sm (B ((Ar.2.2.1.length : Int) == 0)) rfl ?_))))
    rcases Bool.eq_false_or_eq_true ((Ar.2.2.1.length : Int) == 0) with hb19 | hb19
    ·replace h := bif_t hb19 h
     refine st_g (v := (pt b1 1)) (congrArg some hb19) (rv_fieldAddr (off := 1) (ft := 41) Try.underlying43 rfl ti41 rfl rfl) (st_g (v := (pt b1 3)) (congrArg some hb19) (rv_fieldAddr (off := 2) (ft := 3) Try.underlying41 rfl ti3 rfl rfl) ?_)
     have hc20 := H.cell (u := (I Ar.2.2.2)) (o' := 3) 0 3 rfl rfl rfl
     refine st_g (v := (I Ar.2.2.2)) (congrArg some hb19) (rv_load1 Try.underlying3 rfl rfl hc20) (st_g (v := (B (Ar.2.2.2 == 0))) (congrArg some hb19) (rv_eql (a := Ar.2.2.2) (b := 0) rfl rfl) (st (v := (B (Ar.2.2.2 == 0))) (rv_pick_t (congrArg B hb19) rfl) (sa (B (Ar.2.2.2 == 0)) rfl (w_end (q_then (c_ret ?_))))))
     obtain rfl := sj h
     exact fin_ret (v := (B (Ar.2.2.2 == 0))) (results_ok Try.results60 (res_tmp (v := (B (Ar.2.2.2 == 0))) rfl res_nil) rfl) ⟨rfl, rfl⟩ (H.sel' [] rfl rfl)
    ·replace h := bif_f hb19 h
     refine st_skip (congrArg some hb19) (st_skip (congrArg some hb19) (st_skip (congrArg some hb19) (st_skip (congrArg some hb19) (st (v := (B false)) (rv_pick_f (congrArg B hb19) rfl) (sa (B false) rfl (w_end (q_then (c_ret ?_))))))))
     obtain rfl := sj h
     exact fin_ret (v := (B false)) (results_ok Try.results60 (res_tmp (v := (B false)) rfl res_nil) rfl) ⟨rfl, rfl⟩ (H.sel' [] rfl rfl)
   ·replace h := bif_f hb17 h
    refine st_skip (congrArg some hb17) (st_skip (congrArg some hb17) (st_skip (congrArg some hb17) (st_skip (congrArg some hb17) (st_skip (congrArg some hb17) (st (v := (B false)) (rv_pick_f (congrArg B hb17) rfl) (sm (B false) rfl (st_skip rfl (st_skip rfl (st_skip rfl (st_skip rfl (st (v := (B false)) (rv_pick_f rfl rfl) ?_)))))))))))
    refine sa (B false) rfl (w_end (q_then (c_ret ?_)))
    obtain rfl := sj h
    exact fin_ret (v := (B false)) (results_ok Try.results60 (res_tmp (v := (B false)) rfl res_nil) rfl) ⟨rfl, rfl⟩ (H.sel' [] rfl rfl)
  ·replace h := bif_f hb11 h
   refine st_skip (congrArg some hb11) (st_skip (congrArg some hb11) (st_skip (congrArg some hb11) (st_skip (congrArg some hb11) (st (v := (B false)) (rv_pick_f (congrArg B hb11) rfl) (sm (B false) rfl (st_skip rfl (st_skip rfl (st_skip rfl (st_skip rfl (st_skip rfl (st (v := (B false)) (rv_pick_f rfl rfl) ?_)))))))))))
   refine sm (B false) rfl (st_skip rfl (st_skip rfl (st_skip rfl (st_skip rfl (st (v := (B false)) (rv_pick_f rfl rfl) (sa (B false) rfl (w_end (q_then (c_ret ?_)))))))))
   obtain rfl := sj h
   exact fin_ret (v := (B false)) (results_ok Try.results60 (res_tmp (v := (B false)) rfl res_nil) rfl) ⟨rfl, rfl⟩ (H.sel' [] rfl rfl)

theorem c_spec_validLog {Ao : List (Int × (Int × (List Int) × Int))} {Ap : Option Addr} {Aq : Nat} {r : Bool} (h : M.spec_validLog Ao = some r) :
    Cal2 Try.prog 76 [(Sl Ap Ao Aq)] [Ch.ro 0 (Sl Ap Ao Aq) Ao] (fun n0 v L => v = (B r) ∧ L = []) := by
 refine cal2 (n := 19) Try.func76 rfl rfl rfl rfl ?_
 intro S0 σ0 n0 hn0 H
 unfold M.spec_validLog at h
 refine c_seq (rg (sa (B false) rfl (w_end (q_then (c_seq (c_seq (rg (sa (I 0) rfl (w_end (q_then ?_))))))))))
 obtain ⟨o1, hj, h'⟩ := bind_some h
 clear h
 refine c_cut (fun e a w => (∃ t, o1 = (.inl t) ∧ e = .normal ∧ ∃ (ρ : Nat → Value) (σ : St), a = fr 19 (updL ρ [(0, (Sl Ap Ao Aq))]) ∧ w = σ.w ∧ Hp S0 σ0 σ [Ch.ro 0 (Sl Ap Ao Aq) Ao]) ∨ (∃ t, o1 = (.inr t) ∧ e = .ret ∧ ∃ (ρ : Nat → Value) (σ : St), a = fr 19 (updL ρ [(2, (B t))]) ∧ w = σ.w ∧ Hp S0 σ0 σ [])) ?_ ?_
 ·clear h'
  rename _ = some o1 => h
  refine c_blk (wp_loopM _ h (fun s2 a w => ∃ (ρ : Nat → Value) (σ : St), a = fr 19 (updL ρ [(0, (Sl Ap Ao Aq)), (3, (I s2))]) ∧ w = σ.w ∧ Hp S0 σ0 σ [Ch.ro 0 (Sl Ap Ao Aq) Ao]) ⟨_, σ0, fr_join ⟨rfl, rfl, trivial⟩, rfl, H.sel' [0] rfl rfl⟩ ?_)
  clear h H
  rintro s2 a w o ⟨ρ, σ3, rfl, rfl, H⟩ h hres
  refine c_seq (c_seq (rg (sm (I s2) rfl (sm (Sl Ap Ao Aq) rfl (st (v := (I (Ao.length : Int))) (rv_len Try.underlying23 rfl) (st (v := (B (decide (s2 < (Ao.length : Int))))) (rv_lss (a := s2) (b := (Ao.length : Int)) rfl rfl) (w_end (q_then ?_))))))))
  refine cd_cond (decide (s2 < (Ao.length : Int))) rfl (fun hb4 => ?_) (fun hb4 => ?_)
  ·replace h := bif_t hb4 h
   refine c_skip (q_then (c_seq (c_blk (c_seq (rg (sm (Sl Ap Ao Aq) rfl (sm (I s2) rfl ?_)))))))
   revert h; refine br fun x5 hx6 h => ?_
   obtain ⟨b8, o9, hi7, -⟩ := (H.ro 0 rfl).ix hx6
   refine st (v := (pt b8 o9)) (rv_ix Try.underlying23 ti43 rfl rfl hi7) ?_
   obtain ⟨_, ⟨_, _, rfl, rfl, ⟨_, _, rfl, rfl, ⟨_, _, rfl, ⟨_, rfl, hR14⟩, rfl⟩⟩⟩, hl10, hc11⟩ := ((H.ro 0 rfl).at hx6 hi7).cells
   obtain ⟨a12, c13, rfl⟩ := hR14.isSl
   replace H := H.add (d := Ch.ro 0 (Sl a12 x5.2.2.1 c13) x5.2.2.1) hR14 (fun _ h => h)
   clear hR14
   refine st (v := (.agg #[(I x5.1), (I x5.2.1), (Sl a12 x5.2.2.1 c13), (I x5.2.2.2)])) (rv_load Try.underlying43 rfl ti43 rfl hl10 hc11) ?_
   revert h; refine br fun r15 hx16 h => ?_
   have hc17 := c_spec_validEntry (As := a12) (Au := c13) hx16
   refine st_call (cx_call hc17 (ent_f hc17.fn rfl) hn0 (H.sel' [0, 0, 1] rfl rfl : Hp S0 σ0 _ ([_] ++ _))) wn ?_
   rintro _ σ18 ⟨_, ⟨rfl, rfl⟩, H, -⟩
   replace H : Hp _ _ _ [_, _] := H
   refine st (v := (B (!r15))) (rv_not rfl) (w_end (q_then ?_))
   refine cd_cond (!r15) rfl (fun hb19 => ?_) (fun hb19 => ?_)
   ·replace h := bif_t hb19 h
    refine c_seq (rg (sa (B false) rfl (w_end (q_then (c_ret (q_blk_r (q_then_r (q_then_r (q_blk_r ?_)))))))))
    obtain rfl := sj h
    obtain rfl := hres _ rfl
    exact .inr (⟨_, rfl, rfl, _, σ18, fr_join ⟨rfl, trivial⟩, rfl, H.sel' [] rfl rfl⟩)
   ·replace h := bif_f hb19 h
    refine c_skip (q_blk (q_then (rg (sm (I s2) rfl (st (v := (I (w64 (s2 + 1)))) (rv_add (a := s2) (b := 1) rfl rfl) (sa (I (w64 (s2 + 1))) rfl (w_end (q_then ?_))))))))
    obtain rfl := sj h
    exact ⟨_, rfl, _, σ18, fr_join ⟨rfl, rfl, trivial⟩, rfl, H.sel' [1] rfl rfl⟩
  ·replace h := bif_f hb4 h
   refine c_exit (q_then_x (q_then_x (q_blk_hit ?_)))
   obtain rfl := sj h
   obtain rfl := hres _ rfl
   exact .inl ⟨_, rfl, rfl, _, σ3, fr_join ⟨rfl, trivial⟩, rfl, H.sel' [0] rfl rfl⟩
 ·clear hj
  have h := h'
  clear h' H
  rintro e a w (⟨t20, rfl, rfl, ρ, σ21, rfl, rfl, H⟩ | ⟨t22, rfl, rfl, ρ, σ23, rfl, rfl, H⟩)
  ·replace h := selim_l h
   refine q_then (c_seq (rg (sm (Sl Ap Ao Aq) rfl (st (v := (I (Ao.length : Int))) (rv_len Try.underlying23 rfl) (st (v := (B (decide ((Ao.length : Int) ≤ 32)))) (rv_leq (a := (Ao.length : Int)) (b := 32) rfl rfl) (sa (B (decide ((Ao.length : Int) ≤ 32))) rfl (w_end (q_then (c_ret ?_)))))))))
   obtain rfl := sj h
   exact fin_ret (v := (B (decide ((Ao.length : Int) ≤ 32)))) (results_ok Try.results76 (res_tmp (v := (B (decide ((Ao.length : Int) ≤ 32)))) rfl res_nil) rfl) ⟨rfl, rfl⟩ (H.sel' [] rfl rfl)
  ·replace h := selim_r h
   refine q_then_r ?_
   obtain rfl := sj h
   exact fin_ret (v := (B t22)) (results_ok Try.results76 (res_tmp (v := (B t22)) rfl res_nil) rfl) ⟨rfl, rfl⟩ (H.sel' [] rfl rfl)

end Go.Vs

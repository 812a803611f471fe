/- The functions compute what their models say. -/
import Derived.Test.YtefojfippfoppabKExactListsOfC2
set_option linter.unusedVariables false
set_option linter.unusedSimpArgs false
set_option maxRecDepth 20000
namespace Go.Vs
open Go Go.Proofs
attribute [local irreducible] Code.wp Code.wpIn wpList wpListIn wpQuiet Calls CallsIn

theorem c_impl_AssignItems {centres_0 : List (List Int)} {list_1 : List (Int × (List Int) × Int)} {acentres_0 : Option Addr} {ccentres_0 : Nat} {alist_1 : Option Addr} {clist_1 : Nat} {r : (List Int)} (h : M.impl_AssignItems centres_0 list_1 = some r) :
    Cal2 Try.prog 47 [(Sl acentres_0 centres_0 ccentres_0), (Sl alist_1 list_1 clist_1)] [Ch.ro 0 (Sl acentres_0 centres_0 ccentres_0) centres_0, Ch.ro 0 (Sl alist_1 list_1 clist_1) list_1] (fun n0 v L => ∃ (az1 : Option Addr), ∃ (cz2 : Nat), v = (Sl az1 r cz2) ∧ L = [Ch.own n0 n0 (Sl az1 r cz2) r] ∧ cz2 = r.length) := by
 refine cal2 (n := 31) Try.func47 rfl rfl rfl rfl ?_
 intro S0 σ0 n0 hn0 H
 unfold M.impl_AssignItems at h
 refine c_seq ?_
 refine rg ?_
 refine st (v := (.slice none 0 0)) (rv_assign rfl) ?_
 refine w_end ?_
 refine q_then ?_
 refine c_seq ?_
 refine c_seq ?_
 refine rg ?_
 refine st (v := (Sl acentres_0 centres_0 ccentres_0)) (rv_move rfl) ?_
 refine st (v := (Sl alist_1 list_1 clist_1)) (rv_move rfl) ?_
 obtain ⟨r1, hx2, h'⟩ := bind_some h
 clear h
 have h := h'; clear h'
 have hc3 := c_impl_validClusters (acentres_0 := acentres_0) (ccentres_0 := ccentres_0) (alist_1 := alist_1) (clist_1 := clist_1) hx2
 refine st_call (cx_call hc3 (ent_f hc3.fn rfl) hn0 (show Hp S0 σ0 _ ([Ch.ro 0 (Sl acentres_0 centres_0 ccentres_0) centres_0, Ch.ro 0 (Sl alist_1 list_1 clist_1) list_1] ++ [Ch.ro 0 (Sl acentres_0 centres_0 ccentres_0) centres_0, Ch.ro 0 (Sl alist_1 list_1 clist_1) list_1]) from (H.sel' [0, 1, 0, 1] rfl rfl))) wn ?_
 rintro _ σ4 ⟨_, ⟨rfl, rfl⟩, H, -⟩
 replace H : Hp S0 σ0 σ4 [Ch.ro 0 (Sl acentres_0 centres_0 ccentres_0) centres_0, Ch.ro 0 (Sl alist_1 list_1 clist_1) list_1] := H
 refine st (v := (B (!r1))) (rv_not rfl) ?_
 refine w_end ?_
 refine q_then ?_
 refine cd_cond (!r1) rfl (fun hb5 => ?_) (fun hb5 => ?_)
 ·replace h := bif_t hb5 h
  refine c_seq ?_
  refine rg ?_
  refine st (v := (.slice none 0 0)) (rv_assign rfl) ?_
  refine w_end ?_
  refine q_then ?_
  refine c_ret ?_
  refine q_then_r ?_
  replace H := H.nilOwn Int n0 n0
  obtain rfl := Option.some.inj h
  exact fin_ret (v := (.slice none 0 0)) (results_ok Try.results47 (res_tmp (v := (.slice none 0 0)) rfl res_nil) rfl) ⟨none, 0, rfl, rfl, rfl⟩ (H.sel' [0] rfl rfl)
 ·replace h := bif_f hb5 h
  refine c_skip ?_
  refine q_then ?_
  refine c_seq ?_
  refine rg ?_
  refine st (v := (Sl alist_1 list_1 clist_1)) (rv_move rfl) ?_
  refine st (v := (I (list_1.length : Int))) (rv_len Try.underlying29 rfl) ?_
  obtain ⟨xs6, hx7, h'⟩ := bind_some h
  clear h
  have h := h'; clear h'
  refine st_ex (ex_make (el := n0) (z0 := (0 : Int)) (zs := [(I 0)]) H hn0 Try.underlying37 ti3 rfl rfl rfl (by decide) hx7 rfl rfl) wn ?_
  rintro _ σ11 ⟨b8, c9, rfl, ht10, H, -⟩
  replace ht10 := ht10.trans (gmake_len hx7).symm
  refine st (v := (Sl (some ⟨b8, 0, none⟩) xs6 c9)) (rv_assign rfl) ?_
  refine w_end ?_
  refine q_then ?_
  refine c_seq ?_
  refine c_seq ?_
  refine rg ?_
  refine st (v := (Sl alist_1 list_1 clist_1)) (rv_move rfl) ?_
  refine st (v := (I (list_1.length : Int))) (rv_len Try.underlying29 rfl) ?_
  refine st (v := (I 0)) (rv_move rfl) ?_
  refine w_end ?_
  refine q_then ?_
  obtain ⟨o12, hj, h'⟩ := bind_some h
  clear h
  refine c_cut (fun e a w => e = .normal ∧ ∃ (ρ : Nat → Value) (σ : St), a = fr 31 (updL ρ [(5, (Sl (some ⟨b8, 0, none⟩) o12 c9))]) ∧ w = σ.w ∧ Hp S0 σ0 σ [Ch.own n0 n0 (Sl (some ⟨b8, 0, none⟩) o12 c9) o12] ∧ c9 = o12.length ∧ o12.length = xs6.length) ?_ ?_
  ·clear h'
   rename _ = some o12 => h
   refine c_blk ?_
   refine wp_loopM _ h (fun s13 a w => ∃ (ρ : Nat → Value) (σ : St), a = fr 31 (updL ρ [(0, (Sl acentres_0 centres_0 ccentres_0)), (5, (Sl (some ⟨b8, 0, none⟩) s13.1 c9)), (15, (Sl alist_1 list_1 clist_1)), (16, (I (list_1.length : Int))), (17, (I s13.2))]) ∧ w = σ.w ∧ Hp S0 σ0 σ [Ch.ro 0 (Sl acentres_0 centres_0 ccentres_0) centres_0, Ch.own n0 n0 (Sl (some ⟨b8, 0, none⟩) s13.1 c9) s13.1, Ch.ro 0 (Sl alist_1 list_1 clist_1) list_1] ∧ c9 = s13.1.length ∧ s13.1.length = xs6.length) ⟨_, σ11, fr_join ⟨rfl, rfl, rfl, rfl, rfl, trivial⟩, rfl, H.sel' [1, 0, 2] rfl rfl, ht10, rfl⟩ ?_
   clear h H
   rintro s13 a w o ⟨ρ, σ14, rfl, rfl, H, ht15, hn16⟩ h hres
   refine c_seq ?_
   refine rg ?_
   refine st (v := (B (decide (s13.2 < (list_1.length : Int))))) (rv_lss (a := s13.2) (b := (list_1.length : Int)) rfl rfl) ?_
   refine w_end ?_
   refine q_then ?_
   refine c_seq ?_
   refine cd_cond (decide (s13.2 < (list_1.length : Int))) rfl (fun hb17 => ?_) (fun hb17 => ?_)
   ·replace h := bif_t hb17 h
    refine c_skip ?_
    refine q_then ?_
    refine c_seq ?_
    refine c_blk ?_
    refine c_seq ?_
    refine rg ?_
    refine st (v := (I s13.2)) (rv_move rfl) ?_
    obtain ⟨x18, hx19, h'⟩ := bind_some h
    clear h
    have h := h'; clear h'
    obtain ⟨b21, o22, hi20, -⟩ := (H.ro 2 rfl).ix hx19
    refine st (v := (pt b21 o22)) (rv_ix Try.underlying29 ti44 rfl rfl hi20) ?_
    obtain ⟨_, ⟨_, _, rfl, rfl, ⟨_, _, rfl, ⟨_, rfl, hR27⟩, rfl⟩⟩, hl23, hc24⟩ := ((H.ro 2 rfl).at hx19 hi20).cells
    obtain ⟨a25, c26, rfl⟩ := hR27.isSl
    replace H := H.add (d := Ch.ro 0 (Sl a25 x18.2.1 c26) x18.2.1) hR27 (fun _ h => h)
    clear hR27
    refine st (v := (.agg #[(I x18.1), (Sl a25 x18.2.1 c26), (I x18.2.2)])) (rv_load Try.underlying44 rfl ti44 rfl hl23 hc24) ?_
    refine st_ex (ex_alloc (cs := [(I 0), (.slice none 0 0), (I 0)]) H hn0 ti44 rfl) wn ?_
    rintro _ σ29 ⟨b28, rfl, H, -⟩
    refine st (v := (I s13.2)) (rv_assign rfl) ?_
    refine st_exS (ex_store_box (k := 0) (cs := [(I 0), (.slice none 0 0), (I 0)]) (vs := [(I x18.1), (Sl a25 x18.2.1 c26), (I x18.2.2)]) (cs' := [(I x18.1), (Sl a25 x18.2.1 c26), (I x18.2.2)]) H (i := 0) rfl ti44 rfl rfl rfl rfl rfl (Nat.le_of_ble_eq_true rfl) (by simp [plain]) rfl) wn ?_
    rintro σ30 ⟨H, -⟩
    refine w_end ?_
    refine q_then ?_
    refine rg ?_
    refine st (v := (Sl (some ⟨b8, 0, none⟩) s13.1 c9)) (rv_move rfl) ?_
    refine st (v := (I s13.2)) (rv_move rfl) ?_
    refine st (v := (Sl acentres_0 centres_0 ccentres_0)) (rv_move rfl) ?_
    refine st (v := (pt b28 1)) (rv_fieldAddr (off := 1) (ft := 37) Try.underlying44 rfl ti37 rfl rfl) ?_
    have hc31 := H.cell (u := (Sl a25 x18.2.1 c26)) (o' := 1) 0 1 rfl rfl rfl
    refine st (v := (Sl a25 x18.2.1 c26)) (rv_load1 Try.underlying37 rfl rfl hc31) ?_
    obtain ⟨r32, hx33, h'⟩ := bind_some h
    clear h
    have h := h'; clear h'
    have hc34 := c_impl_CentreOf (acentres_0 := acentres_0) (ccentres_0 := ccentres_0) (aat_1 := a25) (cat_1 := c26) hx33
    refine st_call (cx_call hc34 (ent_f hc34.fn rfl) hn0 (show Hp S0 σ0 _ ([Ch.ro 0 (Sl acentres_0 centres_0 ccentres_0) centres_0, Ch.ro 0 (Sl a25 x18.2.1 c26) x18.2.1] ++ [Ch.bx n0 b28 0 [(I x18.1), (Sl a25 x18.2.1 c26), (I x18.2.2)] [] [], Ch.ro 0 (Sl a25 x18.2.1 c26) x18.2.1, Ch.ro 0 (Sl acentres_0 centres_0 ccentres_0) centres_0, Ch.own n0 n0 (Sl (some ⟨b8, 0, none⟩) s13.1 c9) s13.1, Ch.ro 0 (Sl alist_1 list_1 clist_1) list_1]) from (H.sel' [2, 1, 0, 1, 2, 3, 4] rfl rfl))) wn ?_
    rintro _ σ35 ⟨_, ⟨rfl, rfl⟩, H, -⟩
    replace H : Hp S0 σ0 σ35 [Ch.bx n0 b28 0 [(I x18.1), (Sl a25 x18.2.1 c26), (I x18.2.2)] [] [], Ch.ro 0 (Sl a25 x18.2.1 c26) x18.2.1, Ch.ro 0 (Sl acentres_0 centres_0 ccentres_0) centres_0, Ch.own n0 n0 (Sl (some ⟨b8, 0, none⟩) s13.1 c9) s13.1, Ch.ro 0 (Sl alist_1 list_1 clist_1) list_1] := H
    obtain ⟨x36, hx37, h'⟩ := bind_some h
    clear h
    have h := h'; clear h'
    obtain ⟨b39, o40, hi38, -⟩ := (H.own 3 rfl).ix hx37
    refine st (v := (pt b39 o40)) (rv_ix Try.underlying37 ti3 rfl rfl hi38) ?_
    refine st_exS (ex_store_own (e' := r32) (vs := [(I r32)]) (k := 0) H (i := 3) rfl ti3 hx37 hi38 rfl rfl rfl rfl rfl (Nat.le_of_ble_eq_true rfl) (by simp [plain]) (by rintro _ rfl; exact rfl)) wn ?_
    rintro σ41 ⟨H, -⟩
    have hsl : (Sl (some ⟨b8, 0, none⟩) s13.1 c9) = (Sl (some ⟨b8, 0, none⟩) (s13.1.set s13.2.toNat r32) c9) := sl_len List.length_set.symm
    rw [hsl]; rw [hsl] at H; clear hsl
    refine w_end ?_
    refine q_blk ?_
    refine q_then ?_
    refine rg ?_
    refine st (v := (I (w64 (s13.2 + 1)))) (rv_add (a := s13.2) (b := 1) rfl rfl) ?_
    refine st (v := (I (w64 (s13.2 + 1)))) (rv_move rfl) ?_
    refine w_end ?_
    refine q_then ?_
    obtain rfl := Option.some.inj h
    exact ⟨_, rfl, _, σ41, fr_join ⟨rfl, rfl, rfl, rfl, rfl, trivial⟩, rfl, H.sel' [3, 0, 4] rfl rfl, (ht15.trans List.length_set.symm), (List.length_set.trans hn16)⟩
   ·replace h := bif_f hb17 h
    refine c_exit ?_
    refine q_then_x ?_
    refine q_then_x ?_
    refine q_blk_hit ?_
    obtain rfl := Option.some.inj h
    obtain rfl := hres _ rfl
    exact ⟨rfl, _, σ14, fr_join ⟨rfl, trivial⟩, rfl, H.sel' [1] rfl rfl, ht15, hn16⟩
  ·clear hj
   have h := h'
   clear h' H
   rintro e a w ⟨rfl, ρ, σ42, rfl, rfl, H, ht43, hn44⟩
   refine q_then ?_
   refine c_seq ?_
   refine rg ?_
   refine st (v := (Sl (some ⟨b8, 0, none⟩) o12 c9)) (rv_move rfl) ?_
   refine st (v := (Sl (some ⟨b8, 0, none⟩) o12 c9)) (rv_assign rfl) ?_
   refine w_end ?_
   refine q_then ?_
   refine c_ret ?_
   obtain rfl := Option.some.inj h
   exact fin_ret (v := (Sl (some ⟨b8, 0, none⟩) o12 c9)) (results_ok Try.results47 (res_tmp (v := (Sl (some ⟨b8, 0, none⟩) o12 c9)) rfl res_nil) rfl) ⟨(some ⟨b8, 0, none⟩), c9, rfl, rfl, ht43⟩ (H.sel' [0] rfl rfl)

theorem c_impl_itemsByCentre {centres_0 : List (List Int)} {list_1 : List (Int × (List Int) × Int)} {acentres_0 : Option Addr} {ccentres_0 : Nat} {alist_1 : Option Addr} {clist_1 : Nat} {r : (List (Int × (List (Int × (List Int) × Int))))} (h : M.impl_itemsByCentre centres_0 list_1 = some r) :
    Cal2 Try.prog 36 [(Sl acentres_0 centres_0 ccentres_0), (Sl alist_1 list_1 clist_1)] [Ch.ro 0 (Sl acentres_0 centres_0 ccentres_0) centres_0, Ch.ro 0 (Sl alist_1 list_1 clist_1) list_1] (fun n0 v L => ∃ (bz1 : Nat), ∃ (Kz2 : List Ch), v = (.map (some bz1)) ∧ L = [Ch.big Kz2] ∧ Mp n0 0 bz1 r Kz2) := by
 refine cal2 (n := 31) Try.func36 rfl rfl rfl rfl ?_
 intro S0 σ0 n0 hn0 H
 unfold M.impl_itemsByCentre at h
 refine c_seq ?_
 refine rg ?_
 refine st (v := (.map none)) (rv_assign rfl) ?_
 refine w_end ?_
 refine q_then ?_
 refine c_seq ?_
 refine rg ?_
 refine st_ex (ex_makeMap (lo := n0) (Int × (List Int) × Int) 0 H hn0) wn ?_
 rintro _ σ4 ⟨b1, K2, rfl, hK3, H, -⟩
 refine st (v := (.map (some b1))) (rv_assign rfl) ?_
 refine w_end ?_
 refine q_then ?_
 refine c_seq ?_
 refine c_seq ?_
 refine rg ?_
 refine st (v := (Sl acentres_0 centres_0 ccentres_0)) (rv_move rfl) ?_
 refine st (v := (Sl alist_1 list_1 clist_1)) (rv_move rfl) ?_
 obtain ⟨r5, hx6, h'⟩ := bind_some h
 clear h
 have h := h'; clear h'
 have hc7 := c_impl_AssignItems (acentres_0 := acentres_0) (ccentres_0 := ccentres_0) (alist_1 := alist_1) (clist_1 := clist_1) hx6
 refine st_call (cx_call hc7 (ent_f hc7.fn rfl) hn0 (show Hp S0 σ0 _ ([Ch.ro 0 (Sl acentres_0 centres_0 ccentres_0) centres_0, Ch.ro 0 (Sl alist_1 list_1 clist_1) list_1] ++ [Ch.big K2, Ch.ro 0 (Sl acentres_0 centres_0 ccentres_0) centres_0, Ch.ro 0 (Sl alist_1 list_1 clist_1) list_1]) from (H.sel' [1, 2, 0, 1, 2] rfl rfl))) wn ?_
 rintro _ σ11 ⟨_, ⟨a8, c9, rfl, rfl, ht10⟩, H, -⟩
 replace H : Hp S0 σ0 σ11 [Ch.own n0 n0 (Sl a8 r5 c9) r5, Ch.big K2, Ch.ro 0 (Sl acentres_0 centres_0 ccentres_0) centres_0, Ch.ro 0 (Sl alist_1 list_1 clist_1) list_1] := H
 refine st (v := (I (r5.length : Int))) (rv_len Try.underlying37 rfl) ?_
 refine st (v := (I 0)) (rv_move rfl) ?_
 refine w_end ?_
 refine q_then ?_
 obtain ⟨o12, hj, h'⟩ := bind_some h
 clear h
 refine c_cut (fun e a w => e = .normal ∧ ∃ (ρ : Nat → Value) (σ : St) (bj1 : Nat) (Kj2 : List Ch), a = fr 31 (updL ρ [(5, (.map (some bj1)))]) ∧ w = σ.w ∧ Hp S0 σ0 σ [Ch.big Kj2] ∧ Mp n0 0 bj1 o12 Kj2) ?_ ?_
 ·clear h'
  rename _ = some o12 => h
  refine c_blk ?_
  refine wp_loopM _ h (fun s13 a w => ∃ (ρ : Nat → Value) (σ : St) (bj1 : Nat) (Kj2 : List Ch), a = fr 31 (updL ρ [(1, (Sl alist_1 list_1 clist_1)), (5, (.map (some bj1))), (11, (Sl a8 r5 c9)), (12, (I (r5.length : Int))), (13, (I s13.2))]) ∧ w = σ.w ∧ Hp S0 σ0 σ [Ch.ro 0 (Sl alist_1 list_1 clist_1) list_1, Ch.big Kj2, Ch.own n0 n0 (Sl a8 r5 c9) r5] ∧ Mp n0 0 bj1 s13.1 Kj2) ⟨_, σ11, b1, K2, fr_join ⟨rfl, rfl, rfl, rfl, rfl, trivial⟩, rfl, H.sel' [3, 1, 0] rfl rfl, hK3⟩ ?_
  clear h H
  rintro s13 a w o ⟨ρ, σ14, b15, K16, rfl, rfl, H, hK17⟩ h hres
  refine c_seq ?_
  refine rg ?_
  refine st (v := (B (decide (s13.2 < (r5.length : Int))))) (rv_lss (a := s13.2) (b := (r5.length : Int)) rfl rfl) ?_
  refine w_end ?_
  refine q_then ?_
  refine c_seq ?_
  refine cd_cond (decide (s13.2 < (r5.length : Int))) rfl (fun hb18 => ?_) (fun hb18 => ?_)
  ·replace h := bif_t hb18 h
   refine c_skip ?_
   refine q_then ?_
   refine c_seq ?_
   refine c_blk ?_
   refine c_seq ?_
   refine rg ?_
   refine st (v := (I s13.2)) (rv_move rfl) ?_
   obtain ⟨x19, hx20, h'⟩ := bind_some h
   clear h
   have h := h'; clear h'
   obtain ⟨b22, o23, hi21, -⟩ := (H.own 2 rfl).ix hx20
   refine st (v := (pt b22 o23)) (rv_ix Try.underlying37 ti3 rfl rfl hi21) ?_
   have hc24 := ((H.own 2 rfl).at hx20 hi21).int
   refine st (v := (I x19)) (rv_load1 Try.underlying3 rfl rfl hc24) ?_
   refine st (v := (I s13.2)) (rv_assign rfl) ?_
   refine st (v := (I x19)) (rv_assign rfl) ?_
   refine w_end ?_
   refine q_then ?_
   obtain ⟨v28, K29, H, hK30⟩ := H.mpOut x19 1 rfl hK17
   obtain ⟨a25, c26, rfl⟩ := (H.own 0 rfl).isSl
   have hL27 := hK30.look H 1 rfl
   obtain ⟨x31, hx32, h'⟩ := bind_some h
   clear h
   have h := h'; clear h'
   obtain ⟨b34, o35, hi33, -⟩ := (H.ro 2 rfl).ix hx32
   obtain ⟨_, ⟨_, _, rfl, rfl, ⟨_, _, rfl, ⟨_, rfl, hR40⟩, rfl⟩⟩, hl36, hc37⟩ := ((H.ro 2 rfl).at hx32 hi33).cells
   obtain ⟨a38, c39, rfl⟩ := hR40.isSl
   replace H := H.add (d := Ch.ro 0 (Sl a38 x31.2.1 c39) x31.2.1) hR40 (fun _ h => h)
   clear hR40
   obtain ⟨xs42, hx43, h'⟩ := bind_some h
   clear h
   have h := h'; clear h'
   have Hs := H
   refine rg2 (σ := σ14) (Nm := (Nat) × (Option Addr) × (Nat)) 11 [9, 10] [[false, false], [true, false], [true, true]] [[(0, 0), (1, 1), (2, 2)], [(0, 0), (1, 1), (2, 2)], [(0, 0), (1, 1)], [(0, 0), (1, 1)], [(0, 0), (1, 1)], [(0, 0)], [(0, 0)], [(0, 0)], [(0, 0)], [(0, 1)], [(1, 2)]] 2 [fun ((b41, a44, c45) : (Nat) × (Option Addr) × (Nat)) => fun σm => Hp S0 σ0 σm [Ch.ro 0 (Sl a38 x31.2.1 c39) x31.2.1, Ch.own n0 0 (Sl a25 (mget s13.1 x19) c26) (mget s13.1 x19), Ch.big K29, Ch.ro 0 (Sl alist_1 list_1 clist_1) list_1, Ch.own n0 n0 (Sl a8 r5 c9) r5] ∧ Md (cov []) σ14 σm, fun ((b41, a44, c45) : (Nat) × (Option Addr) × (Nat)) => fun σm => Hp S0 σ0 σm [Ch.own n0 0 (Sl (some ⟨b41, 0, none⟩) ([(x31.1, x31.2.1, x31.2.2)] : List (Int × (List Int) × Int)) 1) ([(x31.1, x31.2.1, x31.2.2)] : List (Int × (List Int) × Int)), Ch.ro 0 (Sl a38 x31.2.1 c39) x31.2.1, Ch.own n0 0 (Sl a25 (mget s13.1 x19) c26) (mget s13.1 x19), Ch.big K29, Ch.ro 0 (Sl alist_1 list_1 clist_1) list_1, Ch.own n0 n0 (Sl a8 r5 c9) r5] ∧ Md (cov []) σ14 σm, fun ((b41, a44, c45) : (Nat) × (Option Addr) × (Nat)) => fun σm => Hp S0 σ0 σm [Ch.own n0 0 (Sl a44 xs42 c45) xs42, Ch.own n0 0 (Sl (some ⟨b41, 0, none⟩) ([(x31.1, x31.2.1, x31.2.2)] : List (Int × (List Int) × Int)) 1) ([(x31.1, x31.2.1, x31.2.2)] : List (Int × (List Int) × Int)), Ch.ro 0 (Sl a38 x31.2.1 c39) x31.2.1, Ch.big K29, Ch.ro 0 (Sl alist_1 list_1 clist_1) list_1, Ch.own n0 n0 (Sl a8 r5 c9) r5] ∧ Md (fun i => (cov []) i ∨ (fun b => blk (Sl a25 (mget s13.1 x19) c26) = some b) i) σ14 σm] [fun ((b41, a44, c45) : (Nat) × (Option Addr) × (Nat)) => (.map (some b15)), fun ((b41, a44, c45) : (Nat) × (Option Addr) × (Nat)) => (I x19), fun ((b41, a44, c45) : (Nat) × (Option Addr) × (Nat)) => (.map (some b15)), fun ((b41, a44, c45) : (Nat) × (Option Addr) × (Nat)) => (I x19), fun ((b41, a44, c45) : (Nat) × (Option Addr) × (Nat)) => (Sl a25 (mget s13.1 x19) c26), fun ((b41, a44, c45) : (Nat) × (Option Addr) × (Nat)) => (Sl alist_1 list_1 clist_1), fun ((b41, a44, c45) : (Nat) × (Option Addr) × (Nat)) => (I s13.2), fun ((b41, a44, c45) : (Nat) × (Option Addr) × (Nat)) => (pt b34 o35), fun ((b41, a44, c45) : (Nat) × (Option Addr) × (Nat)) => (.agg #[(I x31.1), (Sl a38 x31.2.1 c39), (I x31.2.2)]), fun ((b41, a44, c45) : (Nat) × (Option Addr) × (Nat)) => (Sl (some ⟨b41, 0, none⟩) ([(x31.1, x31.2.1, x31.2.2)] : List (Int × (List Int) × Int)) 1), fun ((b41, a44, c45) : (Nat) × (Option Addr) × (Nat)) => (Sl a44 xs42 c45)] (0, none, 0) (by kernel_rfl) (by kernel_rfl) ?_ ?_ ?_
   ·intro σm m0
    exact ⟨H.grow (m0.mono fun _ h => h.elim), m0⟩
   ·refine ac rfl (by
      intro k; rintro ⟨b41, a44, c45⟩ ρ σm hJ hoff hdep
      have e5 := look_off (N := 31) (hoff 5 rfl) rfl
      exact dp_v (v := (.map (some b15))) wn (rv_move e5) rfl hJ) ?_
    refine ac rfl (by
      intro k; rintro ⟨b41, a44, c45⟩ ρ σm hJ hoff hdep
      have e7 := look_off (N := 31) (hoff 7 rfl) rfl
      exact dp_v (v := (I x19)) wn (rv_move e7) rfl hJ) ?_
    refine ac rfl (by
      intro k; rintro ⟨b41, a44, c45⟩ ρ σm hJ hoff hdep
      have e5 := look_off (N := 31) (hoff 5 rfl) rfl
      exact dp_v (v := (.map (some b15))) wn (rv_move e5) rfl hJ) ?_
    refine ac rfl (by
      intro k; rintro ⟨b41, a44, c45⟩ ρ σm hJ hoff hdep
      have e7 := look_off (N := 31) (hoff 7 rfl) rfl
      exact dp_v (v := (I x19)) wn (rv_move e7) rfl hJ) ?_
    refine all_cons (by
      refine ⟨?_, ?_⟩
      ·rintro ⟨b41, a44, c45⟩ ρ σm hJ hoff hdep
       have e20 := hdep 2 rfl rfl 20 rfl
       have e21 := hdep 3 rfl rfl 21 rfl
       obtain ⟨H, m⟩ := id hJ
       have hL27 := hK30.look H 2 rfl
       exact dp_v (v := (Sl a25 (mget s13.1 x19) c26)) wn (rv_lookup Try.underlying51 Try.underlying3 ti29 e20 e21 hL27) rfl hJ
      refine ⟨?_, ?_⟩
      ·rintro ⟨b41, a44, c45⟩ ρ σm hJ hoff hdep
       have e20 := hdep 2 rfl rfl 20 rfl
       have e21 := hdep 3 rfl rfl 21 rfl
       obtain ⟨H, m⟩ := id hJ
       have hL27 := hK30.look H 3 rfl
       exact dp_v (v := (Sl a25 (mget s13.1 x19) c26)) wn (rv_lookup Try.underlying51 Try.underlying3 ti29 e20 e21 hL27) rfl hJ
      trivial) ?_
    refine ac rfl (by
      intro k; rintro ⟨b41, a44, c45⟩ ρ σm hJ hoff hdep
      have e1 := look_off (N := 31) (hoff 1 rfl) rfl
      exact dp_v (v := (Sl alist_1 list_1 clist_1)) wn (rv_move e1) rfl hJ) ?_
    refine ac rfl (by
      intro k; rintro ⟨b41, a44, c45⟩ ρ σm hJ hoff hdep
      have e6 := look_off (N := 31) (hoff 6 rfl) rfl
      exact dp_v (v := (I s13.2)) wn (rv_move e6) rfl hJ) ?_
    refine ac rfl (by
      intro k; rintro ⟨b41, a44, c45⟩ ρ σm hJ hoff hdep
      have e23 := hdep 5 rfl rfl 23 rfl
      have e24 := hdep 6 rfl rfl 24 rfl
      exact dp_v (v := (pt b34 o35)) wn (rv_ix Try.underlying29 ti44 e23 e24 hi33) rfl hJ) ?_
    refine all_cons (by
      refine ⟨?_, ?_⟩
      ·rintro ⟨b41, a44, c45⟩ ρ σm hJ hoff hdep
       have e25 := hdep 7 rfl rfl 25 rfl
       obtain ⟨H, m⟩ := id hJ
       replace hc37 := fun j hj => (Hs.ro 3 rfl).hmd hx32 hi33 (k := j) (Nat.lt_of_lt_of_eq hj hl36) (hc37 j hj) m
       exact dp_v (v := (.agg #[(I x31.1), (Sl a38 x31.2.1 c39), (I x31.2.2)])) wn (rv_load Try.underlying44 rfl ti44 e25 hl36 hc37) rfl hJ
      trivial) ?_
    refine all_cons (by
      refine ⟨?_, ?_⟩
      ·rintro ⟨b41, a44, c45⟩ ρ σm hJ hoff hdep
       have e26 : look 31 ρ 26 = (.agg #[(I x31.1), (Sl a38 x31.2.1 c39), (I x31.2.2)]) := hdep 8 rfl rfl 26 rfl
       obtain ⟨H, m⟩ := id hJ
       refine dp_ex wn (ex_buildSlice (el := 0) (xs := ([(x31.1, x31.2.1, x31.2.2)] : List (Int × (List Int) × Int))) (ps := [(0, (.agg #[(I x31.1), (Sl a38 x31.2.1 c39), (I x31.2.2)]))]) (cs := [(I x31.1), (Sl a38 x31.2.1 c39), (I x31.2.2)]) H hn0 Try.underlying29 ti44 rfl (by show [(0, look 31 ρ 26)] = _; rw [e26]) (by kernel_rfl) (.cons (c := [(I x31.1), (Sl a38 x31.2.1 c39), (I x31.2.2)]) ⟨[(I x31.1)], [(Sl a38 x31.2.1 c39), (I x31.2.2)], rfl, rfl, ⟨[(Sl a38 x31.2.1 c39)], [(I x31.2.2)], rfl, ⟨_, rfl, (H.ro 0 rfl)⟩, rfl⟩⟩ (.nil)) rfl) ?_
       rintro _ σq ⟨b41x, rfl, H2, m2⟩
       exact ⟨_, (b41x, a44, c45), rfl, rfl, ⟨H2.sel' [0, 1, 2, 3, 4, 5] rfl rfl, m.comp0 m2⟩, stab [0, 1, 2, 3, 4, 5, 6, 7, 8] (by kernel_rfl) ⟨rfl, rfl, rfl, rfl, rfl, rfl, rfl, rfl, rfl, trivial⟩⟩
      trivial) ?_
    refine all_cons (by
      refine ⟨?_, ?_⟩
      ·rintro ⟨b41, a44, c45⟩ ρ σm hJ hoff hdep
       have e22 := hdep 4 rfl rfl 22 rfl
       have e27 := hdep 9 rfl rfl 27 rfl
       obtain ⟨H, m⟩ := id hJ
       refine dp_ex wn (ex_append H (i := 2) rfl Try.underlying29 Try.underlying29 ti44 rfl rfl (by decide) (H.own 0 rfl).rd hx43 hn0 e22 e27) ?_
       rintro _ σq ⟨a44x, c45x, rfl, H2, m2⟩
       exact ⟨_, (b41, a44x, c45x), rfl, rfl, ⟨H2.sel' [0, 1, 2, 3, 4, 5] rfl rfl, m.comp m2⟩, stab [0, 1, 2, 3, 4, 5, 6, 7, 8, 9] (by kernel_rfl) ⟨rfl, rfl, rfl, rfl, rfl, rfl, rfl, rfl, rfl, rfl, trivial⟩⟩
      trivial) ?_
    exact all_nil
   ·rintro ⟨b41, a44, c45⟩ ρ σ46 hJ hoff hrel
    have e1 := look_off (N := 31) (hoff 1 rfl) rfl
    have e5 := look_off (N := 31) (hoff 5 rfl) rfl
    have e11 := look_off (N := 31) (hoff 11 rfl) rfl
    have e12 := look_off (N := 31) (hoff 12 rfl) rfl
    have e13 := look_off (N := 31) (hoff 13 rfl) rfl
    have e18 := hrel 0 rfl 18 rfl
    have e19 := hrel 1 rfl 19 rfl
    have e28 := hrel 10 rfl 28 rfl
    obtain ⟨H, -⟩ := (show Hp S0 σ0 σ46 [Ch.own n0 0 (Sl a44 xs42 c45) xs42, Ch.own n0 0 (Sl (some ⟨b41, 0, none⟩) ([(x31.1, x31.2.1, x31.2.2)] : List (Int × (List Int) × Int)) 1) ([(x31.1, x31.2.1, x31.2.2)] : List (Int × (List Int) × Int)), Ch.ro 0 (Sl a38 x31.2.1 c39) x31.2.1, Ch.big K29, Ch.ro 0 (Sl alist_1 list_1 clist_1) list_1, Ch.own n0 n0 (Sl a8 r5 c9) r5] ∧ Md (fun i => (cov []) i ∨ (fun b => blk (Sl a25 (mget s13.1 x19) c26) = some b) i) σ14 σ46 from hJ)
    clear hJ Hs
    rw [fr_lookL (L := [(1, (Sl alist_1 list_1 clist_1)), (5, (.map (some b15))), (11, (Sl a8 r5 c9)), (12, (I (r5.length : Int))), (13, (I s13.2)), (18, (.map (some b15))), (19, (I x19)), (28, (Sl a44 xs42 c45))]) ⟨e1, e5, e11, e12, e13, e18, e19, e28, trivial⟩]
    clear hoff hrel e1 e5 e11 e12 e13 e18 e19 e28
    replace H := H.sel' [3, 0, 1, 2, 4, 5] rfl rfl
    obtain ⟨K47, hK48, he49⟩ := hK30.put (Sl a44 xs42 c45) xs42
    refine st_exS (he49 (ty := _) H Try.underlying51 Try.underlying3 rfl rfl rfl) wn ?_
    rintro σ50 ⟨H, -⟩
    refine w_end ?_
    refine q_blk ?_
    refine q_then ?_
    refine rg ?_
    refine st (v := (I (w64 (s13.2 + 1)))) (rv_add (a := s13.2) (b := 1) rfl rfl) ?_
    refine st (v := (I (w64 (s13.2 + 1)))) (rv_move rfl) ?_
    refine w_end ?_
    refine q_then ?_
    obtain rfl := Option.some.inj h
    exact ⟨_, rfl, _, σ50, b15, K47, fr_join ⟨rfl, rfl, rfl, rfl, rfl, trivial⟩, rfl, H.sel' [3, 0, 4] rfl rfl, hK48⟩
  ·replace h := bif_f hb18 h
   refine c_exit ?_
   refine q_then_x ?_
   refine q_then_x ?_
   refine q_blk_hit ?_
   obtain rfl := Option.some.inj h
   obtain rfl := hres _ rfl
   exact ⟨rfl, _, σ14, b15, K16, fr_join ⟨rfl, trivial⟩, rfl, H.sel' [1] rfl rfl, hK17⟩
 ·clear hj
  have h := h'
  clear h' H
  rintro e a w ⟨rfl, ρ, σ51, b52, K53, rfl, rfl, H, hK54⟩
  refine q_then ?_
  refine c_seq ?_
  refine rg ?_
  refine st (v := (.map (some b52))) (rv_move rfl) ?_
  refine st (v := (.map (some b52))) (rv_assign rfl) ?_
  refine w_end ?_
  refine q_then ?_
  refine c_ret ?_
  obtain rfl := Option.some.inj h
  exact fin_ret (v := (.map (some b52))) (results_ok Try.results36 (res_tmp (v := (.map (some b52))) rfl res_nil) rfl) ⟨b52, K53, rfl, rfl, hK54⟩ (H.sel' [0] rfl rfl)

theorem c_impl_ListsOf {centres_0 : List (List Int)} {list_1 : List (Int × (List Int) × Int)} {acentres_0 : Option Addr} {ccentres_0 : Nat} {alist_1 : Option Addr} {clist_1 : Nat} {r : (List (List Int))} (h : M.impl_ListsOf centres_0 list_1 = some r) :
    Cal2 Try.prog 17 [(Sl acentres_0 centres_0 ccentres_0), (Sl alist_1 list_1 clist_1)] [Ch.ro 0 (Sl acentres_0 centres_0 ccentres_0) centres_0, Ch.ro 0 (Sl alist_1 list_1 clist_1) list_1] (fun n0 v L => ∃ (az1 : Option Addr), ∃ (cz2 : Nat), ∃ (Kz3 : List Ch), v = (Sl az1 r cz2) ∧ L = [Ch.big Kz3] ∧ Dp 0 (Sl az1 r cz2) r Kz3) := by
 refine cal2 (n := 47) Try.func17 rfl rfl rfl rfl ?_
 intro S0 σ0 n0 hn0 H
 unfold M.impl_ListsOf at h
 refine c_seq ?_
 refine rg ?_
 refine st (v := (.slice none 0 0)) (rv_assign rfl) ?_
 refine w_end ?_
 refine q_then ?_
 refine c_seq ?_
 refine c_seq ?_
 refine rg ?_
 refine st (v := (Sl acentres_0 centres_0 ccentres_0)) (rv_move rfl) ?_
 refine st (v := (Sl alist_1 list_1 clist_1)) (rv_move rfl) ?_
 obtain ⟨r1, hx2, h'⟩ := bind_some h
 clear h
 have h := h'; clear h'
 have hc3 := c_impl_validClusters (acentres_0 := acentres_0) (ccentres_0 := ccentres_0) (alist_1 := alist_1) (clist_1 := clist_1) hx2
 refine st_call (cx_call hc3 (ent_f hc3.fn rfl) hn0 (show Hp S0 σ0 _ ([Ch.ro 0 (Sl acentres_0 centres_0 ccentres_0) centres_0, Ch.ro 0 (Sl alist_1 list_1 clist_1) list_1] ++ [Ch.ro 0 (Sl acentres_0 centres_0 ccentres_0) centres_0, Ch.ro 0 (Sl alist_1 list_1 clist_1) list_1]) from (H.sel' [0, 1, 0, 1] rfl rfl))) wn ?_
 rintro _ σ4 ⟨_, ⟨rfl, rfl⟩, H, -⟩
 replace H : Hp S0 σ0 σ4 [Ch.ro 0 (Sl acentres_0 centres_0 ccentres_0) centres_0, Ch.ro 0 (Sl alist_1 list_1 clist_1) list_1] := H
 refine st (v := (B (!r1))) (rv_not rfl) ?_
 refine w_end ?_
 refine q_then ?_
 refine cd_cond (!r1) rfl (fun hb5 => ?_) (fun hb5 => ?_)
 ·replace h := bif_t hb5 h
  refine c_seq ?_
  refine rg ?_
  refine st (v := (.slice none 0 0)) (rv_assign rfl) ?_
  refine w_end ?_
  refine q_then ?_
  refine c_ret ?_
  refine q_then_r ?_
  obtain ⟨K6, hK7, H⟩ := H.nilDp (List Int) 0
  obtain rfl := Option.some.inj h
  exact fin_ret (v := (.slice none 0 0)) (results_ok Try.results17 (res_tmp (v := (.slice none 0 0)) rfl res_nil) rfl) ⟨none, 0, K6, rfl, rfl, hK7⟩ (H.sel' [0] rfl rfl)
 ·replace h := bif_f hb5 h
  refine c_skip ?_
  refine q_then ?_
  refine c_seq ?_
  refine rg ?_
  refine st (v := (Sl acentres_0 centres_0 ccentres_0)) (rv_move rfl) ?_
  refine st (v := (Sl alist_1 list_1 clist_1)) (rv_move rfl) ?_
  obtain ⟨r8, hx9, h'⟩ := bind_some h
  clear h
  have h := h'; clear h'
  have hc10 := c_impl_itemsByCentre (acentres_0 := acentres_0) (ccentres_0 := ccentres_0) (alist_1 := alist_1) (clist_1 := clist_1) hx9
  refine st_call (cx_call hc10 (ent_f hc10.fn rfl) hn0 (show Hp S0 σ0 _ ([Ch.ro 0 (Sl acentres_0 centres_0 ccentres_0) centres_0, Ch.ro 0 (Sl alist_1 list_1 clist_1) list_1] ++ [Ch.ro 0 (Sl acentres_0 centres_0 ccentres_0) centres_0, Ch.ro 0 (Sl alist_1 list_1 clist_1) list_1]) from (H.sel' [0, 1, 0, 1] rfl rfl))) wn ?_
  rintro _ σ14 ⟨_, ⟨b11, K12, rfl, rfl, hK13⟩, H, -⟩
  replace H : Hp S0 σ0 σ14 [Ch.big K12, Ch.ro 0 (Sl acentres_0 centres_0 ccentres_0) centres_0, Ch.ro 0 (Sl alist_1 list_1 clist_1) list_1] := H
  refine st (v := (.map (some b11))) (rv_assign rfl) ?_
  refine w_end ?_
  refine q_then ?_
  refine c_seq ?_
  refine rg ?_
  refine st (v := (Sl acentres_0 centres_0 ccentres_0)) (rv_move rfl) ?_
  refine st (v := (I (centres_0.length : Int))) (rv_len Try.underlying22 rfl) ?_
  obtain ⟨xs15, hx16, h'⟩ := bind_some h
  clear h
  have h := h'; clear h'
  obtain ⟨k21, he22, hv23⟩ := gmake_dp (zv := (.slice none 0 0 : Value)) hx16
  refine st_ex (ex_make (el := n0) (z0 := (.slice none 0 0 : Value)) (zs := [(.slice none 0 0)]) H hn0 Try.underlying22 ti37 rfl rfl (⟨rfl, rfl⟩) (by decide) hv23 rfl rfl) wn ?_
  rintro _ σ27 ⟨b17, c18, rfl, ht19, H, -⟩
  have hs26 : (Sl (some ⟨b17, 0, none⟩) (List.replicate k21 (.slice none 0 0 : Value)) c18) = (Sl (some ⟨b17, 0, none⟩) xs15 c18) := sl_len (by rw [he22]; simp)
  rw [hs26] at H ⊢
  obtain ⟨K24, hK25, H⟩ := H.dpMake (z := ([] : List Int)) rfl rfl
  rw [← he22] at hK25; clear he22 hv23 hs26 ht19
  refine st (v := (Sl (some ⟨b17, 0, none⟩) xs15 c18)) (rv_assign rfl) ?_
  refine w_end ?_
  refine q_then ?_
  refine c_seq ?_
  refine c_seq ?_
  refine rg ?_
  refine st (v := (Sl (some ⟨b17, 0, none⟩) xs15 c18)) (rv_move rfl) ?_
  refine st (v := (I (xs15.length : Int))) (rv_len Try.underlying22 rfl) ?_
  refine st (v := (I 0)) (rv_move rfl) ?_
  refine w_end ?_
  refine q_then ?_
  obtain ⟨o28, hj, h'⟩ := bind_some h
  clear h
  refine c_cut (fun e a w => e = .normal ∧ ∃ (ρ : Nat → Value) (σ : St) (Kj1 : List Ch), a = fr 47 (updL ρ [(6, (Sl (some ⟨b17, 0, none⟩) o28 c18))]) ∧ w = σ.w ∧ Hp S0 σ0 σ [Ch.big Kj1] ∧ Dp n0 (Sl (some ⟨b17, 0, none⟩) o28 c18) o28 Kj1 ∧ o28.length = xs15.length) ?_ ?_
  ·clear h'
   rename _ = some o28 => h
   refine c_blk ?_
   obtain ⟨σ30, hw31, H, -⟩ := H.mpPub 1 rfl hK13
   rw [← hw31]; clear hw31
   refine wp_loopM _ h (fun s29 a w => ∃ (ρ : Nat → Value) (σ : St) (Kj1 : List Ch), a = fr 47 (updL ρ [(5, (.map (some b11))), (6, (Sl (some ⟨b17, 0, none⟩) s29.1 c18)), (21, (I (xs15.length : Int))), (22, (I s29.2))]) ∧ w = σ.w ∧ Hp S0 σ0 σ [Ch.mr b11 r8, Ch.big Kj1] ∧ Dp n0 (Sl (some ⟨b17, 0, none⟩) s29.1 c18) s29.1 Kj1 ∧ s29.1.length = xs15.length) ⟨_, σ30, K24, fr_join ⟨rfl, rfl, rfl, rfl, trivial⟩, rfl, H.sel' [0, 1] rfl rfl, hK25, rfl⟩ ?_
   clear h H
   rintro s29 a w o ⟨ρ, σ32, K33, rfl, rfl, H, hK34, hn35⟩ h hres
   refine c_seq ?_
   refine rg ?_
   refine st (v := (B (decide (s29.2 < (xs15.length : Int))))) (rv_lss (a := s29.2) (b := (xs15.length : Int)) rfl rfl) ?_
   refine w_end ?_
   refine q_then ?_
   refine c_seq ?_
   refine cd_cond (decide (s29.2 < (xs15.length : Int))) rfl (fun hb36 => ?_) (fun hb36 => ?_)
   ·replace h := bif_t hb36 h
    refine c_skip ?_
    refine q_then ?_
    refine c_seq ?_
    refine c_blk ?_
    refine c_seq ?_
    refine rg ?_
    refine st (v := (I s29.2)) (rv_move rfl) ?_
    refine st (v := (I s29.2)) (rv_assign rfl) ?_
    refine w_end ?_
    refine q_then ?_
    refine c_seq ?_
    refine rg ?_
    refine st (v := (.map (some b11))) (rv_move rfl) ?_
    refine st (v := (I s29.2)) (rv_move rfl) ?_
    obtain ⟨v40, hL39, hR41⟩ := mrGet (H.mr 0 rfl) s29.2
    obtain ⟨a37, c38, rfl⟩ := hR41.isSl
    replace H := H.add (d := Ch.ro 0 (Sl a37 (mget r8 s29.2) c38) (mget r8 s29.2)) hR41 (fun _ h => h)
    clear hR41
    refine st (v := (Sl a37 (mget r8 s29.2) c38)) (rv_lookup Try.underlying51 Try.underlying3 ti29 rfl rfl hL39) ?_
    refine st (v := (I ((mget r8 s29.2).length : Int))) (rv_len Try.underlying29 rfl) ?_
    refine st (v := (I 0)) (rv_move rfl) ?_
    refine w_end ?_
    refine q_then ?_
    obtain ⟨o42, hj, h'⟩ := bind_some h
    clear h
    refine c_cut (fun e a w => e = .normal ∧ ∃ (ρ : Nat → Value) (σ : St) (Kj1 : List Ch), a = fr 47 (updL ρ [(5, (.map (some b11))), (6, (Sl (some ⟨b17, 0, none⟩) o42 c18)), (21, (I (xs15.length : Int))), (22, (I s29.2))]) ∧ w = σ.w ∧ Hp S0 σ0 σ [Ch.mr b11 r8, Ch.big Kj1] ∧ Dp n0 (Sl (some ⟨b17, 0, none⟩) o42 c18) o42 Kj1 ∧ o42.length = s29.1.length) ?_ ?_
    ·clear h'
     rename _ = some o42 => h
     refine c_blk ?_
     refine wp_loopM _ h (fun s43 a w => ∃ (ρ : Nat → Value) (σ : St) (Kj1 : List Ch), a = fr 47 (updL ρ [(5, (.map (some b11))), (6, (Sl (some ⟨b17, 0, none⟩) s43.1 c18)), (7, (I s29.2)), (21, (I (xs15.length : Int))), (22, (I s29.2)), (27, (Sl a37 (mget r8 s29.2) c38)), (28, (I ((mget r8 s29.2).length : Int))), (29, (I s43.2))]) ∧ w = σ.w ∧ Hp S0 σ0 σ [Ch.mr b11 r8, Ch.big Kj1, Ch.ro 0 (Sl a37 (mget r8 s29.2) c38) (mget r8 s29.2)] ∧ Dp n0 (Sl (some ⟨b17, 0, none⟩) s43.1 c18) s43.1 Kj1 ∧ s43.1.length = s29.1.length) ⟨_, σ32, K33, fr_join ⟨rfl, rfl, rfl, rfl, rfl, rfl, rfl, rfl, trivial⟩, rfl, H.sel' [1, 2, 0] rfl rfl, hK34, rfl⟩ ?_
     clear h H
     rintro s43 a w o ⟨ρ, σ44, K45, rfl, rfl, H, hK46, hn47⟩ h hres
     refine c_seq ?_
     refine rg ?_
     refine st (v := (B (decide (s43.2 < ((mget r8 s29.2).length : Int))))) (rv_lss (a := s43.2) (b := ((mget r8 s29.2).length : Int)) rfl rfl) ?_
     refine w_end ?_
     refine q_then ?_
     refine c_seq ?_
     refine cd_cond (decide (s43.2 < ((mget r8 s29.2).length : Int))) rfl (fun hb48 => ?_) (fun hb48 => ?_)
     ·replace h := bif_t hb48 h
      refine c_skip ?_
      refine q_then ?_
      refine c_seq ?_
      refine c_blk ?_
      refine c_seq ?_
      refine rg ?_
      obtain ⟨x49, hx50, h'⟩ := bind_some h
      clear h
      have h := h'; clear h'
      obtain ⟨b52, o53, hi51, -⟩ := (H.ro 2 rfl).ix hx50
      refine st (v := (pt b52 o53)) (rv_ix Try.underlying29 ti44 rfl rfl hi51) ?_
      obtain ⟨_, ⟨_, _, rfl, rfl, ⟨_, _, rfl, ⟨_, rfl, hR58⟩, rfl⟩⟩, hl54, hc55⟩ := ((H.ro 2 rfl).at hx50 hi51).cells
      obtain ⟨a56, c57, rfl⟩ := hR58.isSl
      replace H := H.add (d := Ch.ro 0 (Sl a56 x49.2.1 c57) x49.2.1) hR58 (fun _ h => h)
      clear hR58
      refine st (v := (.agg #[(I x49.1), (Sl a56 x49.2.1 c57), (I x49.2.2)])) (rv_load Try.underlying44 rfl ti44 rfl hl54 hc55) ?_
      refine st_ex (ex_alloc (cs := [(I 0), (.slice none 0 0), (I 0)]) H hn0 ti44 rfl) wn ?_
      rintro _ σ60 ⟨b59, rfl, H, -⟩
      refine st_exS (ex_store_box (k := 0) (cs := [(I 0), (.slice none 0 0), (I 0)]) (vs := [(I x49.1), (Sl a56 x49.2.1 c57), (I x49.2.2)]) (cs' := [(I x49.1), (Sl a56 x49.2.1 c57), (I x49.2.2)]) H (i := 0) rfl ti44 rfl rfl rfl rfl rfl (Nat.le_of_ble_eq_true rfl) (by simp [plain]) rfl) wn ?_
      rintro σ61 ⟨H, -⟩
      refine w_end ?_
      refine q_then ?_
      obtain ⟨x62, hx63, h'⟩ := bind_some h
      clear h
      have h := h'; clear h'
      obtain ⟨b65, o66, hi64⟩ := H.dpIx 3 rfl hK46 hx63
      obtain ⟨v67, K68, H, hK69⟩ := H.dpOut 3 rfl hK46 hx63
      obtain ⟨a70, c71, hc72⟩ := (H.own 0 rfl).isSl
      replace hc72 : v67 = (Sl a70 x62 c71) := hc72
      subst hc72
      replace H : Hp S0 σ0 _ (Ch.own n0 n0 (Sl a70 x62 c71) x62 :: _) := H
      have hc72 := (hK69.at H 1 rfl hi64).val
      have hc73 := H.cell (u := (I x49.1)) (o' := 0) 2 0 rfl rfl rfl
      obtain ⟨xs75, hx76, h'⟩ := bind_some h
      clear h
      have h := h'; clear h'
      have Hs := H
      refine rg2 (σ := σ61) (Nm := (Nat) × (Option Addr) × (Nat)) 10 [8, 9] [[false, false], [true, false], [true, true]] [[(0, 0), (1, 1), (2, 2)], [(0, 0), (1, 1), (2, 2)], [(0, 0), (1, 1)], [(0, 0), (1, 1)], [(0, 0), (1, 1)], [(0, 0), (1, 1)], [(0, 0)], [(0, 0)], [(0, 1)], [(1, 2)]] 2 [fun ((b74, a77, c78) : (Nat) × (Option Addr) × (Nat)) => fun σm => Hp S0 σ0 σm [Ch.own n0 n0 (Sl a70 x62 c71) x62, Ch.big K68, Ch.bx n0 b59 0 [(I x49.1), (Sl a56 x49.2.1 c57), (I x49.2.2)] [] [], Ch.ro 0 (Sl a56 x49.2.1 c57) x49.2.1, Ch.mr b11 r8, Ch.ro 0 (Sl a37 (mget r8 s29.2) c38) (mget r8 s29.2)] ∧ Md (cov []) σ61 σm, fun ((b74, a77, c78) : (Nat) × (Option Addr) × (Nat)) => fun σm => Hp S0 σ0 σm [Ch.own n0 n0 (Sl (some ⟨b74, 0, none⟩) ([x49.1] : List Int) 1) ([x49.1] : List Int), Ch.own n0 n0 (Sl a70 x62 c71) x62, Ch.big K68, Ch.bx n0 b59 0 [(I x49.1), (Sl a56 x49.2.1 c57), (I x49.2.2)] [] [], Ch.ro 0 (Sl a56 x49.2.1 c57) x49.2.1, Ch.mr b11 r8, Ch.ro 0 (Sl a37 (mget r8 s29.2) c38) (mget r8 s29.2)] ∧ Md (cov []) σ61 σm, fun ((b74, a77, c78) : (Nat) × (Option Addr) × (Nat)) => fun σm => Hp S0 σ0 σm [Ch.own n0 n0 (Sl a77 xs75 c78) xs75, Ch.own n0 n0 (Sl (some ⟨b74, 0, none⟩) ([x49.1] : List Int) 1) ([x49.1] : List Int), Ch.big K68, Ch.bx n0 b59 0 [(I x49.1), (Sl a56 x49.2.1 c57), (I x49.2.2)] [] [], Ch.ro 0 (Sl a56 x49.2.1 c57) x49.2.1, Ch.mr b11 r8, Ch.ro 0 (Sl a37 (mget r8 s29.2) c38) (mget r8 s29.2)] ∧ Md (fun i => (cov []) i ∨ (fun b => blk (Sl a70 x62 c71) = some b) i) σ61 σm] [fun ((b74, a77, c78) : (Nat) × (Option Addr) × (Nat)) => (Sl (some ⟨b17, 0, none⟩) s43.1 c18), fun ((b74, a77, c78) : (Nat) × (Option Addr) × (Nat)) => (I s29.2), fun ((b74, a77, c78) : (Nat) × (Option Addr) × (Nat)) => (Sl (some ⟨b17, 0, none⟩) s43.1 c18), fun ((b74, a77, c78) : (Nat) × (Option Addr) × (Nat)) => (I s29.2), fun ((b74, a77, c78) : (Nat) × (Option Addr) × (Nat)) => (pt b65 o66), fun ((b74, a77, c78) : (Nat) × (Option Addr) × (Nat)) => (Sl a70 x62 c71), fun ((b74, a77, c78) : (Nat) × (Option Addr) × (Nat)) => (pt b59 0), fun ((b74, a77, c78) : (Nat) × (Option Addr) × (Nat)) => (I x49.1), fun ((b74, a77, c78) : (Nat) × (Option Addr) × (Nat)) => (Sl (some ⟨b74, 0, none⟩) ([x49.1] : List Int) 1), fun ((b74, a77, c78) : (Nat) × (Option Addr) × (Nat)) => (Sl a77 xs75 c78)] (0, none, 0) (by kernel_rfl) (by kernel_rfl) ?_ ?_ ?_
      ·intro σm m0
       exact ⟨H.grow (m0.mono fun _ h => h.elim), m0⟩
      ·refine ac rfl (by
         intro k; rintro ⟨b74, a77, c78⟩ ρ σm hJ hoff hdep
         have e6 := look_off (N := 47) (hoff 6 rfl) rfl
         exact dp_v (v := (Sl (some ⟨b17, 0, none⟩) s43.1 c18)) wn (rv_move e6) rfl hJ) ?_
       refine ac rfl (by
         intro k; rintro ⟨b74, a77, c78⟩ ρ σm hJ hoff hdep
         have e7 := look_off (N := 47) (hoff 7 rfl) rfl
         exact dp_v (v := (I s29.2)) wn (rv_move e7) rfl hJ) ?_
       refine ac rfl (by
         intro k; rintro ⟨b74, a77, c78⟩ ρ σm hJ hoff hdep
         have e6 := look_off (N := 47) (hoff 6 rfl) rfl
         exact dp_v (v := (Sl (some ⟨b17, 0, none⟩) s43.1 c18)) wn (rv_move e6) rfl hJ) ?_
       refine ac rfl (by
         intro k; rintro ⟨b74, a77, c78⟩ ρ σm hJ hoff hdep
         have e7 := look_off (N := 47) (hoff 7 rfl) rfl
         exact dp_v (v := (I s29.2)) wn (rv_move e7) rfl hJ) ?_
       refine ac rfl (by
         intro k; rintro ⟨b74, a77, c78⟩ ρ σm hJ hoff hdep
         have e35 := hdep 2 rfl rfl 35 rfl
         have e36 := hdep 3 rfl rfl 36 rfl
         exact dp_v (v := (pt b65 o66)) wn (rv_ix Try.underlying22 ti37 e35 e36 hi64) rfl hJ) ?_
       refine all_cons (by
         refine ⟨?_, ?_⟩
         ·rintro ⟨b74, a77, c78⟩ ρ σm hJ hoff hdep
          have e37 := hdep 4 rfl rfl 37 rfl
          obtain ⟨H, m⟩ := id hJ
          have hc72 := (hK69.at H 1 rfl hi64).val
          exact dp_v (v := (Sl a70 x62 c71)) wn (rv_load1 Try.underlying37 rfl e37 hc72) rfl hJ
         refine ⟨?_, ?_⟩
         ·rintro ⟨b74, a77, c78⟩ ρ σm hJ hoff hdep
          have e37 := hdep 4 rfl rfl 37 rfl
          obtain ⟨H, m⟩ := id hJ
          have hc72 := (hK69.at H 2 rfl hi64).val
          exact dp_v (v := (Sl a70 x62 c71)) wn (rv_load1 Try.underlying37 rfl e37 hc72) rfl hJ
         trivial) ?_
       refine ac rfl (by
         intro k; rintro ⟨b74, a77, c78⟩ ρ σm hJ hoff hdep
         have e9 := look_off (N := 47) (hoff 9 rfl) rfl
         exact dp_v (v := (pt b59 0)) wn (rv_fieldAddr (off := 0) (ft := 3) Try.underlying44 rfl ti3 rfl e9) rfl hJ) ?_
       refine all_cons (by
         refine ⟨?_, ?_⟩
         ·rintro ⟨b74, a77, c78⟩ ρ σm hJ hoff hdep
          have e39 := hdep 6 rfl rfl 39 rfl
          obtain ⟨H, m⟩ := id hJ
          have hc73 := H.cell (u := (I x49.1)) (o' := 0) 2 0 rfl rfl rfl
          exact dp_v (v := (I x49.1)) wn (rv_load1 Try.underlying3 rfl e39 hc73) rfl hJ
         trivial) ?_
       refine all_cons (by
         refine ⟨?_, ?_⟩
         ·rintro ⟨b74, a77, c78⟩ ρ σm hJ hoff hdep
          have e40 : look 47 ρ 40 = (I x49.1) := hdep 7 rfl rfl 40 rfl
          obtain ⟨H, m⟩ := id hJ
          refine dp_ex wn (ex_buildSlice (el := n0) (xs := ([x49.1] : List Int)) (ps := [(0, (I x49.1))]) (cs := [(I x49.1)]) H hn0 Try.underlying37 ti3 rfl (by show [(0, look 47 ρ 40)] = _; rw [e40]) (by kernel_rfl) (.cons (c := [(I x49.1)]) rfl (.nil)) rfl) ?_
          rintro _ σq ⟨b74x, rfl, H2, m2⟩
          exact ⟨_, (b74x, a77, c78), rfl, rfl, ⟨H2.sel' [0, 1, 2, 3, 4, 5, 6] rfl rfl, m.comp0 m2⟩, stab [0, 1, 2, 3, 4, 5, 6, 7] (by kernel_rfl) ⟨rfl, rfl, rfl, rfl, rfl, rfl, rfl, rfl, trivial⟩⟩
         trivial) ?_
       refine all_cons (by
         refine ⟨?_, ?_⟩
         ·rintro ⟨b74, a77, c78⟩ ρ σm hJ hoff hdep
          have e38 := hdep 5 rfl rfl 38 rfl
          have e41 := hdep 8 rfl rfl 41 rfl
          obtain ⟨H, m⟩ := id hJ
          refine dp_ex wn (ex_append H (i := 1) rfl Try.underlying37 Try.underlying37 ti3 rfl rfl (by decide) (H.own 0 rfl).rd hx76 hn0 e38 e41) ?_
          rintro _ σq ⟨a77x, c78x, rfl, H2, m2⟩
          exact ⟨_, (b74, a77x, c78x), rfl, rfl, ⟨H2.sel' [0, 1, 2, 3, 4, 5, 6] rfl rfl, m.comp m2⟩, stab [0, 1, 2, 3, 4, 5, 6, 7, 8] (by kernel_rfl) ⟨rfl, rfl, rfl, rfl, rfl, rfl, rfl, rfl, rfl, trivial⟩⟩
         trivial) ?_
       exact all_nil
      ·rintro ⟨b74, a77, c78⟩ ρ σ79 hJ hoff hrel
       have e5 := look_off (N := 47) (hoff 5 rfl) rfl
       have e6 := look_off (N := 47) (hoff 6 rfl) rfl
       have e7 := look_off (N := 47) (hoff 7 rfl) rfl
       have e21 := look_off (N := 47) (hoff 21 rfl) rfl
       have e22 := look_off (N := 47) (hoff 22 rfl) rfl
       have e27 := look_off (N := 47) (hoff 27 rfl) rfl
       have e28 := look_off (N := 47) (hoff 28 rfl) rfl
       have e29 := look_off (N := 47) (hoff 29 rfl) rfl
       have e33 := hrel 0 rfl 33 rfl
       have e34 := hrel 1 rfl 34 rfl
       have e42 := hrel 9 rfl 42 rfl
       obtain ⟨H, -⟩ := (show Hp S0 σ0 σ79 [Ch.own n0 n0 (Sl a77 xs75 c78) xs75, Ch.own n0 n0 (Sl (some ⟨b74, 0, none⟩) ([x49.1] : List Int) 1) ([x49.1] : List Int), Ch.big K68, Ch.bx n0 b59 0 [(I x49.1), (Sl a56 x49.2.1 c57), (I x49.2.2)] [] [], Ch.ro 0 (Sl a56 x49.2.1 c57) x49.2.1, Ch.mr b11 r8, Ch.ro 0 (Sl a37 (mget r8 s29.2) c38) (mget r8 s29.2)] ∧ Md (fun i => (cov []) i ∨ (fun b => blk (Sl a70 x62 c71) = some b) i) σ61 σ79 from hJ)
       clear hJ Hs
       rw [fr_lookL (L := [(5, (.map (some b11))), (6, (Sl (some ⟨b17, 0, none⟩) s43.1 c18)), (7, (I s29.2)), (21, (I (xs15.length : Int))), (22, (I s29.2)), (27, (Sl a37 (mget r8 s29.2) c38)), (28, (I ((mget r8 s29.2).length : Int))), (29, (I s43.2)), (33, (Sl (some ⟨b17, 0, none⟩) s43.1 c18)), (34, (I s29.2)), (42, (Sl a77 xs75 c78))]) ⟨e5, e6, e7, e21, e22, e27, e28, e29, e33, e34, e42, trivial⟩]
       clear hoff hrel e5 e6 e7 e21 e22 e27 e28 e29 e33 e34 e42
       obtain ⟨x80, hx81, h'⟩ := bind_some h
       clear h
       have h := h'; clear h'
       obtain ⟨b83, o84, hi82⟩ := H.dpIxH 2 rfl hK69 hx81
       refine st (v := (pt b83 o84)) (rv_ix Try.underlying22 ti37 rfl rfl hi82) ?_
       replace H := H.sel' [2, 0, 1, 3, 4, 5, 6] rfl rfl
       obtain ⟨K85, hK86, he87⟩ := hK69.put (xs75 : List Int) (Sl a77 xs75 c78)
       refine st_exS (he87 (ty := _) (k := 0) (vs := [(Sl a77 xs75 c78)]) H ti37 hi82 rfl rfl rfl rfl rfl (Nat.le_of_ble_eq_true rfl) (by simp [plain]) (by rintro _ _ ⟨rfl, _⟩; exact ⟨rfl, rfl⟩)) wn ?_
       rintro σ88 ⟨H, -⟩
       have hsl : (Sl (some ⟨b17, 0, none⟩) s43.1 c18) = (Sl (some ⟨b17, 0, none⟩) (s43.1.set s29.2.toNat xs75) c18) := sl_len List.length_set.symm
       rw [hsl]; rw [hsl] at hK86; clear hsl
       refine w_end ?_
       refine q_blk ?_
       refine q_then ?_
       refine rg ?_
       refine st (v := (I (w64 (s43.2 + 1)))) (rv_add (a := s43.2) (b := 1) rfl rfl) ?_
       refine st (v := (I (w64 (s43.2 + 1)))) (rv_move rfl) ?_
       refine w_end ?_
       refine q_then ?_
       obtain rfl := Option.some.inj h
       exact ⟨_, rfl, _, σ88, K85, fr_join ⟨rfl, rfl, rfl, rfl, rfl, rfl, rfl, rfl, trivial⟩, rfl, H.sel' [4, 0, 5] rfl rfl, hK86, ((List.length_set.trans (hn47.trans hn35)).trans hn35.symm)⟩
     ·replace h := bif_f hb48 h
      refine c_exit ?_
      refine q_then_x ?_
      refine q_then_x ?_
      refine q_blk_hit ?_
      obtain rfl := Option.some.inj h
      obtain rfl := hres _ rfl
      exact ⟨rfl, _, σ44, K45, fr_join ⟨rfl, rfl, rfl, rfl, trivial⟩, rfl, H.sel' [0, 1] rfl rfl, hK46, ((hn47.trans hn35).trans hn35.symm)⟩
    ·clear hj
     have h := h'
     clear h' H
     rintro e a w ⟨rfl, ρ, σ89, K90, rfl, rfl, H, hK91, hn92⟩
     refine q_blk ?_
     refine q_then ?_
     refine rg ?_
     refine st (v := (I (w64 (s29.2 + 1)))) (rv_add (a := s29.2) (b := 1) rfl rfl) ?_
     refine st (v := (I (w64 (s29.2 + 1)))) (rv_move rfl) ?_
     refine w_end ?_
     refine q_then ?_
     obtain rfl := Option.some.inj h
     exact ⟨_, rfl, _, σ89, K90, fr_join ⟨rfl, rfl, rfl, rfl, trivial⟩, rfl, H.sel' [0, 1] rfl rfl, hK91, (hn92.trans hn35)⟩
   ·replace h := bif_f hb36 h
    refine c_exit ?_
    refine q_then_x ?_
    refine q_then_x ?_
    refine q_blk_hit ?_
    obtain rfl := Option.some.inj h
    obtain rfl := hres _ rfl
    exact ⟨rfl, _, σ32, K33, fr_join ⟨rfl, trivial⟩, rfl, H.sel' [1] rfl rfl, hK34, hn35⟩
  ·clear hj
   have h := h'
   clear h' H
   rintro e a w ⟨rfl, ρ, σ93, K94, rfl, rfl, H, hK95, hn96⟩
   refine q_then ?_
   refine c_seq ?_
   refine rg ?_
   refine st (v := (Sl (some ⟨b17, 0, none⟩) o28 c18)) (rv_move rfl) ?_
   refine st (v := (Sl (some ⟨b17, 0, none⟩) o28 c18)) (rv_assign rfl) ?_
   refine w_end ?_
   refine q_then ?_
   refine c_ret ?_
   obtain ⟨K97, hK98, H⟩ := H.dpLow (lo' := 0) 0 rfl hK95 (Nat.zero_le _)
   obtain rfl := Option.some.inj h
   exact fin_ret (v := (Sl (some ⟨b17, 0, none⟩) o28 c18)) (results_ok Try.results17 (res_tmp (v := (Sl (some ⟨b17, 0, none⟩) o28 c18)) rfl res_nil) rfl) ⟨(some ⟨b17, 0, none⟩), c18, K97, rfl, rfl, hK98⟩ (H.sel' [0] rfl rfl)

theorem c_laws_FnExactListsOf {aCentres_0 : List (List Int)} {aList_1 : List (Int × (List Int) × Int)} {aaCentres_0 : Option Addr} {caCentres_0 : Nat} {aaList_1 : Option Addr} {caList_1 : Nat} {r : Bool} (h : M.laws_FnExactListsOf aCentres_0 aList_1 = some r) :
    Cal2 Try.prog 4 [(Sl aaCentres_0 aCentres_0 caCentres_0), (Sl aaList_1 aList_1 caList_1)] [Ch.ro 0 (Sl aaCentres_0 aCentres_0 caCentres_0) aCentres_0, Ch.ro 0 (Sl aaList_1 aList_1 caList_1) aList_1] (fun n0 v L => v = (B r) ∧ L = []) := by
 refine cal2 (n := 92) Try.func4 rfl rfl rfl rfl ?_
 intro S0 σ0 n0 hn0 H
 unfold M.laws_FnExactListsOf at h
 refine c_seq ?_
 refine rg ?_
 refine st (v := (B false)) (rv_assign rfl) ?_
 refine w_end ?_
 refine q_then ?_
 refine c_seq ?_
 refine rg ?_
 refine st (v := (I 1048576)) (rv_assign rfl) ?_
 refine w_end ?_
 refine q_then ?_
 refine c_seq ?_
 refine rg ?_
 refine st (v := (Sl aaCentres_0 aCentres_0 caCentres_0)) (rv_move rfl) ?_
 refine st (v := (I 1048576)) (rv_move rfl) ?_
 obtain ⟨r1, hx2, h'⟩ := bind_some h
 clear h
 have h := h'; clear h'
 have hc3 := c_laws_szIntSS (aa_0 := aaCentres_0) (ca_0 := caCentres_0) hx2
 refine st_call (cx_call hc3 (ent_f hc3.fn rfl) hn0 (show Hp S0 σ0 _ ([Ch.ro 0 (Sl aaCentres_0 aCentres_0 caCentres_0) aCentres_0] ++ [Ch.ro 0 (Sl aaCentres_0 aCentres_0 caCentres_0) aCentres_0, Ch.ro 0 (Sl aaList_1 aList_1 caList_1) aList_1]) from (H.sel' [0, 0, 1] rfl rfl))) wn ?_
 rintro _ σ4 ⟨_, ⟨rfl, rfl⟩, H, -⟩
 replace H : Hp S0 σ0 σ4 [Ch.ro 0 (Sl aaCentres_0 aCentres_0 caCentres_0) aCentres_0, Ch.ro 0 (Sl aaList_1 aList_1 caList_1) aList_1] := H
 refine st (v := (I r1)) (rv_assign rfl) ?_
 refine w_end ?_
 refine q_then ?_
 refine c_seq ?_
 refine c_seq ?_
 refine rg ?_
 refine st (v := (I r1)) (rv_move rfl) ?_
 refine st (v := (B (decide (r1 < 0)))) (rv_lss (a := r1) (b := 0) rfl rfl) ?_
 refine w_end ?_
 refine q_then ?_
 refine cd_cond (decide (r1 < 0)) rfl (fun hb5 => ?_) (fun hb5 => ?_)
 ·replace h := bif_t hb5 h
  refine c_seq ?_
  refine rg ?_
  refine st (v := (B true)) (rv_assign rfl) ?_
  refine w_end ?_
  refine q_then ?_
  refine c_ret ?_
  refine q_then_r ?_
  obtain rfl := Option.some.inj h
  exact fin_ret (v := (B true)) (results_ok Try.results4 (res_tmp (v := (B true)) rfl res_nil) rfl) ⟨rfl, rfl⟩ (H.sel' [] rfl rfl)
 ·replace h := bif_f hb5 h
  refine c_skip ?_
  refine q_then ?_
  refine c_seq ?_
  refine rg ?_
  refine st (v := (Sl aaList_1 aList_1 caList_1)) (rv_move rfl) ?_
  refine st (v := (I r1)) (rv_move rfl) ?_
  obtain ⟨r6, hx7, h'⟩ := bind_some h
  clear h
  have h := h'; clear h'
  have hc8 := c_laws_szItemS (aa_0 := aaList_1) (ca_0 := caList_1) hx7
  refine st_call (cx_call hc8 (ent_f hc8.fn rfl) hn0 (show Hp S0 σ0 _ ([Ch.ro 0 (Sl aaList_1 aList_1 caList_1) aList_1] ++ [Ch.ro 0 (Sl aaCentres_0 aCentres_0 caCentres_0) aCentres_0, Ch.ro 0 (Sl aaList_1 aList_1 caList_1) aList_1]) from (H.sel' [1, 0, 1] rfl rfl))) wn ?_
  rintro _ σ9 ⟨_, ⟨rfl, rfl⟩, H, -⟩
  replace H : Hp S0 σ0 σ9 [Ch.ro 0 (Sl aaCentres_0 aCentres_0 caCentres_0) aCentres_0, Ch.ro 0 (Sl aaList_1 aList_1 caList_1) aList_1] := H
  refine st (v := (I r6)) (rv_assign rfl) ?_
  refine w_end ?_
  refine q_then ?_
  refine c_seq ?_
  refine c_seq ?_
  refine rg ?_
  refine st (v := (I r6)) (rv_move rfl) ?_
  refine st (v := (B (decide (r6 < 0)))) (rv_lss (a := r6) (b := 0) rfl rfl) ?_
  refine w_end ?_
  refine q_then ?_
  refine cd_cond (decide (r6 < 0)) rfl (fun hb10 => ?_) (fun hb10 => ?_)
  ·replace h := bif_t hb10 h
   refine c_seq ?_
   refine rg ?_
   refine st (v := (B true)) (rv_assign rfl) ?_
   refine w_end ?_
   refine q_then ?_
   refine c_ret ?_
   refine q_then_r ?_
   obtain rfl := Option.some.inj h
   exact fin_ret (v := (B true)) (results_ok Try.results4 (res_tmp (v := (B true)) rfl res_nil) rfl) ⟨rfl, rfl⟩ (H.sel' [] rfl rfl)
  ·replace h := bif_f hb10 h
   refine c_skip ?_
   refine q_then ?_
   refine c_seq ?_
   refine rg ?_
   refine st (v := (Sl aaCentres_0 aCentres_0 caCentres_0)) (rv_move rfl) ?_
   obtain ⟨r11, hx12, h'⟩ := bind_some h
   clear h
   have h := h'; clear h'
   have hc13 := c_laws_toIntSS (aa_0 := aaCentres_0) (ca_0 := caCentres_0) hx12
   refine st_call (cx_call hc13 (ent_f hc13.fn rfl) hn0 (show Hp S0 σ0 _ ([Ch.ro 0 (Sl aaCentres_0 aCentres_0 caCentres_0) aCentres_0] ++ [Ch.ro 0 (Sl aaCentres_0 aCentres_0 caCentres_0) aCentres_0, Ch.ro 0 (Sl aaList_1 aList_1 caList_1) aList_1]) from (H.sel' [0, 0, 1] rfl rfl))) wn ?_
   rintro _ σ18 ⟨_, ⟨a14, c15, K16, rfl, rfl, hK17⟩, H, -⟩
   replace H : Hp S0 σ0 σ18 [Ch.big K16, Ch.ro 0 (Sl aaCentres_0 aCentres_0 caCentres_0) aCentres_0, Ch.ro 0 (Sl aaList_1 aList_1 caList_1) aList_1] := H
   refine st (v := (Sl aaList_1 aList_1 caList_1)) (rv_move rfl) ?_
   obtain ⟨r19, hx20, h'⟩ := bind_some h
   clear h
   have h := h'; clear h'
   have hc21 := c_laws_toItemS (aa_0 := aaList_1) (ca_0 := caList_1) hx20
   refine st_call (cx_call hc21 (ent_f hc21.fn rfl) hn0 (show Hp S0 σ0 _ ([Ch.ro 0 (Sl aaList_1 aList_1 caList_1) aList_1] ++ [Ch.big K16, Ch.ro 0 (Sl aaCentres_0 aCentres_0 caCentres_0) aCentres_0, Ch.ro 0 (Sl aaList_1 aList_1 caList_1) aList_1]) from (H.sel' [2, 0, 1, 2] rfl rfl))) wn ?_
   rintro _ σ26 ⟨_, ⟨a22, c23, K24, rfl, rfl, hK25⟩, H, -⟩
   replace H : Hp S0 σ0 σ26 [Ch.big K24, Ch.big K16, Ch.ro 0 (Sl aaCentres_0 aCentres_0 caCentres_0) aCentres_0, Ch.ro 0 (Sl aaList_1 aList_1 caList_1) aList_1] := H
   obtain ⟨r27, hx28, h'⟩ := bind_some h
   clear h
   have h := h'; clear h'
   have hc29 := c_spec_ListsOf (acentres_0 := a14) (ccentres_0 := c15) (alist_1 := a22) (clist_1 := c23) hx28
   have hle := Nat.le_trans hn0 H.size
   refine st_call (cx_lend (Loan.lendB hK17.lends (Loan.lendB hK25.lends Loan.nil)) hc29 (ent_f hc29.fn rfl) (show Hp S0 σ0 _ ([Ch.big K16, Ch.big K24] ++ ([] ++ [Ch.ro 0 (Sl aaCentres_0 aCentres_0 caCentres_0) aCentres_0, Ch.ro 0 (Sl aaList_1 aList_1 caList_1) aList_1])) from (H.sel' [1, 0, 2, 3] rfl rfl)) (by rintro _ _ _ ⟨_, _, rfl, rfl⟩; exact ⟨Ab.own (Nat.le_refl _), trivial⟩)) wn ?_
   rintro _ σ32 ⟨_, ⟨a30, c31, rfl, rfl⟩, H, -, -⟩
   replace H : Hp S0 σ0 σ32 [Ch.own σ26.size σ26.size (Sl a30 r27 c31) r27, Ch.big K16, Ch.big K24, Ch.ro 0 (Sl aaCentres_0 aCentres_0 caCentres_0) aCentres_0, Ch.ro 0 (Sl aaList_1 aList_1 caList_1) aList_1] := H
   replace H := H.ownLow 0 n0 n0 rfl hle hle
   clear hle
   replace H : Hp S0 σ0 σ32 [Ch.own n0 n0 (Sl a30 r27 c31) r27, Ch.big K16, Ch.big K24, Ch.ro 0 (Sl aaCentres_0 aCentres_0 caCentres_0) aCentres_0, Ch.ro 0 (Sl aaList_1 aList_1 caList_1) aList_1] := H
   refine st (v := (Sl a30 r27 c31)) (rv_assign rfl) ?_
   refine w_end ?_
   refine q_then ?_
   refine c_seq ?_
   refine rg ?_
   refine st (v := (Sl aaCentres_0 aCentres_0 caCentres_0)) (rv_move rfl) ?_
   obtain ⟨r33, hx34, h'⟩ := bind_some h
   clear h
   have h := h'; clear h'
   have hc35 := c_laws_toIntSS (aa_0 := aaCentres_0) (ca_0 := caCentres_0) hx34
   refine st_call (cx_call hc35 (ent_f hc35.fn rfl) hn0 (show Hp S0 σ0 _ ([Ch.ro 0 (Sl aaCentres_0 aCentres_0 caCentres_0) aCentres_0] ++ [Ch.own n0 n0 (Sl a30 r27 c31) r27, Ch.big K16, Ch.big K24, Ch.ro 0 (Sl aaCentres_0 aCentres_0 caCentres_0) aCentres_0, Ch.ro 0 (Sl aaList_1 aList_1 caList_1) aList_1]) from (H.sel' [3, 0, 1, 2, 3, 4] rfl rfl))) wn ?_
   rintro _ σ40 ⟨_, ⟨a36, c37, K38, rfl, rfl, hK39⟩, H, -⟩
   replace H : Hp S0 σ0 σ40 [Ch.big K38, Ch.own n0 n0 (Sl a30 r27 c31) r27, Ch.big K16, Ch.big K24, Ch.ro 0 (Sl aaCentres_0 aCentres_0 caCentres_0) aCentres_0, Ch.ro 0 (Sl aaList_1 aList_1 caList_1) aList_1] := H
   refine st (v := (Sl a36 r33 c37)) (rv_assign rfl) ?_
   refine w_end ?_
   refine q_then ?_
   refine c_seq ?_
   refine rg ?_
   refine st (v := (Sl aaList_1 aList_1 caList_1)) (rv_move rfl) ?_
   obtain ⟨r41, hx42, h'⟩ := bind_some h
   clear h
   have h := h'; clear h'
   have hc43 := c_laws_toItemS (aa_0 := aaList_1) (ca_0 := caList_1) hx42
   refine st_call (cx_call hc43 (ent_f hc43.fn rfl) hn0 (show Hp S0 σ0 _ ([Ch.ro 0 (Sl aaList_1 aList_1 caList_1) aList_1] ++ [Ch.big K38, Ch.own n0 n0 (Sl a30 r27 c31) r27, Ch.big K16, Ch.big K24, Ch.ro 0 (Sl aaCentres_0 aCentres_0 caCentres_0) aCentres_0, Ch.ro 0 (Sl aaList_1 aList_1 caList_1) aList_1]) from (H.sel' [5, 0, 1, 2, 3, 4, 5] rfl rfl))) wn ?_
   rintro _ σ48 ⟨_, ⟨a44, c45, K46, rfl, rfl, hK47⟩, H, -⟩
   replace H : Hp S0 σ0 σ48 [Ch.big K46, Ch.big K38, Ch.own n0 n0 (Sl a30 r27 c31) r27, Ch.big K16, Ch.big K24, Ch.ro 0 (Sl aaCentres_0 aCentres_0 caCentres_0) aCentres_0, Ch.ro 0 (Sl aaList_1 aList_1 caList_1) aList_1] := H
   refine st (v := (Sl a44 r41 c45)) (rv_assign rfl) ?_
   refine w_end ?_
   refine q_then ?_
   refine c_seq ?_
   refine rg ?_
   refine st (v := (Sl a36 r33 c37)) (rv_move rfl) ?_
   refine st (v := (Sl a44 r41 c45)) (rv_move rfl) ?_
   obtain ⟨r49, hx50, h'⟩ := bind_some h
   clear h
   have h := h'; clear h'
   have hc51 := c_impl_ListsOf (acentres_0 := a36) (ccentres_0 := c37) (alist_1 := a44) (clist_1 := c45) hx50
   have hle := Nat.le_trans hn0 H.size
   refine st_call (cx_lend (Loan.lendB hK39.lends (Loan.lendB hK47.lends Loan.nil)) hc51 (ent_f hc51.fn rfl) (show Hp S0 σ0 _ ([Ch.big K38, Ch.big K46] ++ ([] ++ [Ch.own n0 n0 (Sl a30 r27 c31) r27, Ch.big K16, Ch.big K24, Ch.ro 0 (Sl aaCentres_0 aCentres_0 caCentres_0) aCentres_0, Ch.ro 0 (Sl aaList_1 aList_1 caList_1) aList_1])) from (H.sel' [1, 0, 2, 3, 4, 5, 6] rfl rfl)) (by rintro _ _ _ ⟨_, _, _, rfl, rfl, hK55⟩; exact ⟨Dp.abSc hK55, trivial⟩)) wn ?_
   rintro _ σ56 ⟨_, ⟨a52, c53, K54, rfl, rfl, hK55⟩, H, -, -⟩
   replace H : Hp S0 σ0 σ56 [Ch.big K54, Ch.big K38, Ch.big K46, Ch.own n0 n0 (Sl a30 r27 c31) r27, Ch.big K16, Ch.big K24, Ch.ro 0 (Sl aaCentres_0 aCentres_0 caCentres_0) aCentres_0, Ch.ro 0 (Sl aaList_1 aList_1 caList_1) aList_1] := H
   clear hle
   replace H : Hp S0 σ0 σ56 [Ch.big K54, Ch.big K38, Ch.big K46, Ch.own n0 n0 (Sl a30 r27 c31) r27, Ch.big K16, Ch.big K24, Ch.ro 0 (Sl aaCentres_0 aCentres_0 caCentres_0) aCentres_0, Ch.ro 0 (Sl aaList_1 aList_1 caList_1) aList_1] := H
   replace H : Hp S0 σ0 σ56 [Ch.big K54, Ch.big K38, Ch.big K46, Ch.own n0 n0 (Sl a30 r27 c31) r27, Ch.ro 0 (Sl aaCentres_0 aCentres_0 caCentres_0) aCentres_0, Ch.ro 0 (Sl aaList_1 aList_1 caList_1) aList_1] := H.sel' [0, 1, 2, 3, 6, 7] rfl rfl
   refine st (v := (Sl a52 r49 c53)) (rv_assign rfl) ?_
   refine w_end ?_
   refine q_then ?_
   refine c_seq ?_
   refine c_seq ?_
   refine rg ?_
   refine st (v := (Sl a52 r49 c53)) (rv_move rfl) ?_
   refine st (v := (Sl a30 r27 c31)) (rv_move rfl) ?_
   obtain ⟨r57, hx58, h'⟩ := bind_some h
   clear h
   have h := h'; clear h'
   have hc59 := c_laws_eqIntSS (aa_0 := a52) (ca_0 := c53) (ab_1 := a30) (cb_1 := c31) hx58
   have hle := Nat.le_trans hn0 H.size
   refine st_call (cx_lend (Loan.lendB hK55.lends (Loan.lend Loan.nil)) hc59 (ent_f hc59.fn rfl) (show Hp S0 σ0 _ ([Ch.big K54, Ch.own n0 n0 (Sl a30 r27 c31) r27] ++ ([] ++ [Ch.big K38, Ch.big K46, Ch.ro 0 (Sl aaCentres_0 aCentres_0 caCentres_0) aCentres_0, Ch.ro 0 (Sl aaList_1 aList_1 caList_1) aList_1])) from (H.sel' [0, 3, 1, 2, 4, 5] rfl rfl)) (by rintro _ _ _ ⟨rfl, rfl⟩; exact trivial)) wn ?_
   rintro _ σ60 ⟨_, ⟨rfl, rfl⟩, H, -, -⟩
   replace H : Hp S0 σ0 σ60 [Ch.big K54, Ch.own n0 n0 (Sl a30 r27 c31) r27, Ch.big K38, Ch.big K46, Ch.ro 0 (Sl aaCentres_0 aCentres_0 caCentres_0) aCentres_0, Ch.ro 0 (Sl aaList_1 aList_1 caList_1) aList_1] := H
   clear hle
   replace H : Hp S0 σ0 σ60 [Ch.big K54, Ch.own n0 n0 (Sl a30 r27 c31) r27, Ch.big K38, Ch.big K46, Ch.ro 0 (Sl aaCentres_0 aCentres_0 caCentres_0) aCentres_0, Ch.ro 0 (Sl aaList_1 aList_1 caList_1) aList_1] := H
   refine st (v := (B (!r57))) (rv_not rfl) ?_
   refine w_end ?_
   refine q_then ?_
   refine cd_cond (!r57) rfl (fun hb61 => ?_) (fun hb61 => ?_)
   ·replace h := bif_t hb61 h
    refine c_seq ?_
    refine rg ?_
    refine st (v := (B false)) (rv_assign rfl) ?_
    refine w_end ?_
    refine q_then ?_
    refine c_ret ?_
    refine q_then_r ?_
    obtain rfl := Option.some.inj h
    exact fin_ret (v := (B false)) (results_ok Try.results4 (res_tmp (v := (B false)) rfl res_nil) rfl) ⟨rfl, rfl⟩ (H.sel' [] rfl rfl)
   ·replace h := bif_f hb61 h
    refine c_skip ?_
    refine q_then ?_
    refine c_seq ?_
    refine c_seq ?_
    refine rg ?_
    refine st (v := (Sl a36 r33 c37)) (rv_move rfl) ?_
    refine st (v := (Sl aaCentres_0 aCentres_0 caCentres_0)) (rv_move rfl) ?_
    obtain ⟨r62, hx63, h'⟩ := bind_some h
    clear h
    have h := h'; clear h'
    have hc64 := c_laws_toIntSS (aa_0 := aaCentres_0) (ca_0 := caCentres_0) hx63
    refine st_call (cx_call hc64 (ent_f hc64.fn rfl) hn0 (show Hp S0 σ0 _ ([Ch.ro 0 (Sl aaCentres_0 aCentres_0 caCentres_0) aCentres_0] ++ [Ch.big K54, Ch.own n0 n0 (Sl a30 r27 c31) r27, Ch.big K38, Ch.big K46, Ch.ro 0 (Sl aaCentres_0 aCentres_0 caCentres_0) aCentres_0, Ch.ro 0 (Sl aaList_1 aList_1 caList_1) aList_1]) from (H.sel' [4, 0, 1, 2, 3, 4, 5] rfl rfl))) wn ?_
    rintro _ σ69 ⟨_, ⟨a65, c66, K67, rfl, rfl, hK68⟩, H, -⟩
    replace H : Hp S0 σ0 σ69 [Ch.big K67, Ch.big K54, Ch.own n0 n0 (Sl a30 r27 c31) r27, Ch.big K38, Ch.big K46, Ch.ro 0 (Sl aaCentres_0 aCentres_0 caCentres_0) aCentres_0, Ch.ro 0 (Sl aaList_1 aList_1 caList_1) aList_1] := H
    obtain ⟨r70, hx71, h'⟩ := bind_some h
    clear h
    have h := h'; clear h'
    have hc72 := c_laws_eqIntSS (aa_0 := a36) (ca_0 := c37) (ab_1 := a65) (cb_1 := c66) hx71
    have hle := Nat.le_trans hn0 H.size
    refine st_call (cx_lend (Loan.lendB hK39.lends (Loan.lendB hK68.lends Loan.nil)) hc72 (ent_f hc72.fn rfl) (show Hp S0 σ0 _ ([Ch.big K38, Ch.big K67] ++ ([] ++ [Ch.big K54, Ch.own n0 n0 (Sl a30 r27 c31) r27, Ch.big K46, Ch.ro 0 (Sl aaCentres_0 aCentres_0 caCentres_0) aCentres_0, Ch.ro 0 (Sl aaList_1 aList_1 caList_1) aList_1])) from (H.sel' [3, 0, 1, 2, 4, 5, 6] rfl rfl)) (by rintro _ _ _ ⟨rfl, rfl⟩; exact trivial)) wn ?_
    rintro _ σ73 ⟨_, ⟨rfl, rfl⟩, H, -, -⟩
    replace H : Hp S0 σ0 σ73 [Ch.big K38, Ch.big K67, Ch.big K54, Ch.own n0 n0 (Sl a30 r27 c31) r27, Ch.big K46, Ch.ro 0 (Sl aaCentres_0 aCentres_0 caCentres_0) aCentres_0, Ch.ro 0 (Sl aaList_1 aList_1 caList_1) aList_1] := H
    clear hle
    replace H : Hp S0 σ0 σ73 [Ch.big K38, Ch.big K67, Ch.big K54, Ch.own n0 n0 (Sl a30 r27 c31) r27, Ch.big K46, Ch.ro 0 (Sl aaCentres_0 aCentres_0 caCentres_0) aCentres_0, Ch.ro 0 (Sl aaList_1 aList_1 caList_1) aList_1] := H
    refine st (v := (B (!r70))) (rv_not rfl) ?_
    refine w_end ?_
    refine q_then ?_
    refine cd_cond (!r70) rfl (fun hb74 => ?_) (fun hb74 => ?_)
    ·replace h := bif_t hb74 h
     refine c_seq ?_
     refine rg ?_
     refine st (v := (B false)) (rv_assign rfl) ?_
     refine w_end ?_
     refine q_then ?_
     refine c_ret ?_
     refine q_then_r ?_
     obtain rfl := Option.some.inj h
     exact fin_ret (v := (B false)) (results_ok Try.results4 (res_tmp (v := (B false)) rfl res_nil) rfl) ⟨rfl, rfl⟩ (H.sel' [] rfl rfl)
    ·replace h := bif_f hb74 h
     refine c_skip ?_
     refine q_then ?_
     refine c_seq ?_
     refine c_seq ?_
     refine rg ?_
     refine st (v := (Sl a44 r41 c45)) (rv_move rfl) ?_
     refine st (v := (Sl aaList_1 aList_1 caList_1)) (rv_move rfl) ?_
     obtain ⟨r75, hx76, h'⟩ := bind_some h
     clear h
     have h := h'; clear h'
     have hc77 := c_laws_toItemS (aa_0 := aaList_1) (ca_0 := caList_1) hx76
     refine st_call (cx_call hc77 (ent_f hc77.fn rfl) hn0 (show Hp S0 σ0 _ ([Ch.ro 0 (Sl aaList_1 aList_1 caList_1) aList_1] ++ [Ch.big K38, Ch.big K67, Ch.big K54, Ch.own n0 n0 (Sl a30 r27 c31) r27, Ch.big K46, Ch.ro 0 (Sl aaCentres_0 aCentres_0 caCentres_0) aCentres_0, Ch.ro 0 (Sl aaList_1 aList_1 caList_1) aList_1]) from (H.sel' [6, 0, 1, 2, 3, 4, 5, 6] rfl rfl))) wn ?_
     rintro _ σ82 ⟨_, ⟨a78, c79, K80, rfl, rfl, hK81⟩, H, -⟩
     replace H : Hp S0 σ0 σ82 [Ch.big K80, Ch.big K38, Ch.big K67, Ch.big K54, Ch.own n0 n0 (Sl a30 r27 c31) r27, Ch.big K46, Ch.ro 0 (Sl aaCentres_0 aCentres_0 caCentres_0) aCentres_0, Ch.ro 0 (Sl aaList_1 aList_1 caList_1) aList_1] := H
     replace H : Hp S0 σ0 σ82 [Ch.big K80, Ch.big K38, Ch.big K54, Ch.own n0 n0 (Sl a30 r27 c31) r27, Ch.big K46, Ch.ro 0 (Sl aaCentres_0 aCentres_0 caCentres_0) aCentres_0, Ch.ro 0 (Sl aaList_1 aList_1 caList_1) aList_1] := H.sel' [0, 1, 3, 4, 5, 6, 7] rfl rfl
     obtain ⟨r83, hx84, h'⟩ := bind_some h
     clear h
     have h := h'; clear h'
     have hc85 := c_laws_eqItemS (aa_0 := a44) (ca_0 := c45) (ab_1 := a78) (cb_1 := c79) hx84
     have hle := Nat.le_trans hn0 H.size
     refine st_call (cx_lend (Loan.lendB hK47.lends (Loan.lendB hK81.lends Loan.nil)) hc85 (ent_f hc85.fn rfl) (show Hp S0 σ0 _ ([Ch.big K46, Ch.big K80] ++ ([] ++ [Ch.big K38, Ch.big K54, Ch.own n0 n0 (Sl a30 r27 c31) r27, Ch.ro 0 (Sl aaCentres_0 aCentres_0 caCentres_0) aCentres_0, Ch.ro 0 (Sl aaList_1 aList_1 caList_1) aList_1])) from (H.sel' [4, 0, 1, 2, 3, 5, 6] rfl rfl)) (by rintro _ _ _ ⟨rfl, rfl⟩; exact trivial)) wn ?_
     rintro _ σ86 ⟨_, ⟨rfl, rfl⟩, H, -, -⟩
     replace H : Hp S0 σ0 σ86 [Ch.big K46, Ch.big K80, Ch.big K38, Ch.big K54, Ch.own n0 n0 (Sl a30 r27 c31) r27, Ch.ro 0 (Sl aaCentres_0 aCentres_0 caCentres_0) aCentres_0, Ch.ro 0 (Sl aaList_1 aList_1 caList_1) aList_1] := H
     clear hle
     replace H : Hp S0 σ0 σ86 [Ch.big K46, Ch.big K80, Ch.big K38, Ch.big K54, Ch.own n0 n0 (Sl a30 r27 c31) r27, Ch.ro 0 (Sl aaCentres_0 aCentres_0 caCentres_0) aCentres_0, Ch.ro 0 (Sl aaList_1 aList_1 caList_1) aList_1] := H
     refine st (v := (B (!r83))) (rv_not rfl) ?_
     refine w_end ?_
     refine q_then ?_
     refine cd_cond (!r83) rfl (fun hb87 => ?_) (fun hb87 => ?_)
     ·replace h := bif_t hb87 h
      refine c_seq ?_
      refine rg ?_
      refine st (v := (B false)) (rv_assign rfl) ?_
      refine w_end ?_
      refine q_then ?_
      refine c_ret ?_
      refine q_then_r ?_
      obtain rfl := Option.some.inj h
      exact fin_ret (v := (B false)) (results_ok Try.results4 (res_tmp (v := (B false)) rfl res_nil) rfl) ⟨rfl, rfl⟩ (H.sel' [] rfl rfl)
     ·replace h := bif_f hb87 h
      refine c_skip ?_
      refine q_then ?_
      refine c_seq ?_
      refine rg ?_
      refine st (v := (I 1)) (rv_assign rfl) ?_
      refine w_end ?_
      refine q_then ?_
      refine c_seq ?_
      refine rg ?_
      refine st (v := (Sl a36 r33 c37)) (rv_move rfl) ?_
      refine st (v := (I 1)) (rv_move rfl) ?_
      obtain ⟨r88, hx89, h'⟩ := bind_some h
      clear h
      have h := h'; clear h'
      have hc90 := c_laws_markIntSS (aa_0 := a36) (ca_0 := c37) (hK := hK39) hx89
      refine st_call (cx_call hc90 (ent_f hc90.fn rfl) hn0 (show Hp S0 σ0 _ ([Ch.big K38] ++ [Ch.big K46, Ch.big K80, Ch.big K54, Ch.own n0 n0 (Sl a30 r27 c31) r27, Ch.ro 0 (Sl aaCentres_0 aCentres_0 caCentres_0) aCentres_0, Ch.ro 0 (Sl aaList_1 aList_1 caList_1) aList_1]) from (H.sel' [2, 0, 1, 3, 4, 5, 6] rfl rfl))) wn ?_
      rintro _ σ92 ⟨_, ⟨rfl, rfl, hn91⟩, H, -⟩
      replace H : Hp S0 σ0 σ92 [Ch.ro 0 (Sl a36 r88.2 c37) r88.2, Ch.big K46, Ch.big K80, Ch.big K54, Ch.own n0 n0 (Sl a30 r27 c31) r27, Ch.ro 0 (Sl aaCentres_0 aCentres_0 caCentres_0) aCentres_0, Ch.ro 0 (Sl aaList_1 aList_1 caList_1) aList_1] := H
      have hsl : (Sl a36 r33 c37) = (Sl a36 r88.2 c37) := sl_len hn91.symm
      try rw [hsl]
      try rw [hsl] at H
      clear hsl
      refine st (v := (I r88.1)) (rv_assign rfl) ?_
      refine w_end ?_
      refine q_then ?_
      refine c_seq ?_
      refine rg ?_
      refine st (v := (Sl a44 r41 c45)) (rv_move rfl) ?_
      refine st (v := (I r88.1)) (rv_move rfl) ?_
      obtain ⟨r93, hx94, h'⟩ := bind_some h
      clear h
      have h := h'; clear h'
      have hc95 := c_laws_markItemS (aa_0 := a44) (ca_0 := c45) (hK := hK47) hx94
      refine st_call (cx_call hc95 (ent_f hc95.fn rfl) hn0 (show Hp S0 σ0 _ ([Ch.big K46] ++ [Ch.ro 0 (Sl a36 r88.2 c37) r88.2, Ch.big K80, Ch.big K54, Ch.own n0 n0 (Sl a30 r27 c31) r27, Ch.ro 0 (Sl aaCentres_0 aCentres_0 caCentres_0) aCentres_0, Ch.ro 0 (Sl aaList_1 aList_1 caList_1) aList_1]) from (H.sel' [1, 0, 2, 3, 4, 5, 6] rfl rfl))) wn ?_
      rintro _ σ96 ⟨_, ⟨rfl, rfl⟩, H, -⟩
      replace H : Hp S0 σ0 σ96 [Ch.ro 0 (Sl a36 r88.2 c37) r88.2, Ch.big K80, Ch.big K54, Ch.own n0 n0 (Sl a30 r27 c31) r27, Ch.ro 0 (Sl aaCentres_0 aCentres_0 caCentres_0) aCentres_0, Ch.ro 0 (Sl aaList_1 aList_1 caList_1) aList_1] := H
      refine st (v := (I r93)) (rv_assign rfl) ?_
      refine w_end ?_
      refine q_then ?_
      refine c_seq ?_
      refine c_seq ?_
      obtain ⟨o97, hj, h'⟩ := bind_some h
      clear h
      refine c_cut (fun e a w => e = .normal ∧ ∃ (ρ : Nat → Value) (σ : St), a = fr 92 (updL ρ [(0, (Sl aaCentres_0 aCentres_0 caCentres_0)), (1, (Sl aaList_1 aList_1 caList_1)), (6, (Sl a30 r27 c31)), (9, (Sl a52 r49 c53)), (63, (B o97))]) ∧ w = σ.w ∧ Hp S0 σ0 σ [Ch.ro 0 (Sl aaCentres_0 aCentres_0 caCentres_0) aCentres_0, Ch.ro 0 (Sl aaList_1 aList_1 caList_1) aList_1, Ch.own n0 n0 (Sl a30 r27 c31) r27, Ch.big K54]) ?_ ?_
      ·clear h'
       rename _ = some o97 => h
       refine rg ?_
       refine st (v := (I r93)) (rv_move rfl) ?_
       refine st (v := (B (decide (r93 < 0)))) (rv_lss (a := r93) (b := 0) rfl rfl) ?_
       refine st (v := (B (decide (r93 < 0)))) (rv_move rfl) ?_
       rcases Bool.eq_false_or_eq_true (decide (r93 < 0)) with hb98 | hb98
       ·replace h := bif_t hb98 h
        refine st_skip (congrArg some hb98) ?_
        refine st_skip (congrArg some hb98) ?_
        refine st_skip (congrArg some hb98) ?_
        refine st_skip (congrArg some hb98) ?_
        refine st (v := (B true)) (rv_pick_t (congrArg B hb98) rfl) ?_
        refine w_end ?_
        obtain rfl := Option.some.inj h
        exact ⟨rfl, _, σ96, fr_join ⟨rfl, rfl, rfl, rfl, rfl, trivial⟩, rfl, H.sel' [4, 5, 3, 2] rfl rfl⟩
       ·replace h := bif_f hb98 h
        refine st_g (v := (Sl a52 r49 c53)) (congrArg some hb98) (rv_move rfl) ?_
        refine st_g (v := (Sl a30 r27 c31)) (congrArg some hb98) (rv_move rfl) ?_
        obtain ⟨r99, hx100, h'⟩ := bind_some h
        clear h
        have h := h'; clear h'
        have hc101 := c_laws_eqIntSS (aa_0 := a52) (ca_0 := c53) (ab_1 := a30) (cb_1 := c31) hx100
        have hle := Nat.le_trans hn0 H.size
        refine st_call (cx_lend (Loan.lendB hK55.lends (Loan.lend Loan.nil)) hc101 (ent_f hc101.fn rfl) (show Hp S0 σ0 _ ([Ch.big K54, Ch.own n0 n0 (Sl a30 r27 c31) r27] ++ ([] ++ [Ch.ro 0 (Sl a36 r88.2 c37) r88.2, Ch.big K80, Ch.ro 0 (Sl aaCentres_0 aCentres_0 caCentres_0) aCentres_0, Ch.ro 0 (Sl aaList_1 aList_1 caList_1) aList_1])) from (H.sel' [2, 3, 0, 1, 4, 5] rfl rfl)) (by rintro _ _ _ ⟨rfl, rfl⟩; exact trivial)) (wanted_yes rfl (by exact (congrArg some hb98))) ?_
        rintro _ σ102 ⟨_, ⟨rfl, rfl⟩, H, -, -⟩
        replace H : Hp S0 σ0 σ102 [Ch.big K54, Ch.own n0 n0 (Sl a30 r27 c31) r27, Ch.ro 0 (Sl a36 r88.2 c37) r88.2, Ch.big K80, Ch.ro 0 (Sl aaCentres_0 aCentres_0 caCentres_0) aCentres_0, Ch.ro 0 (Sl aaList_1 aList_1 caList_1) aList_1] := H
        clear hle
        replace H : Hp S0 σ0 σ102 [Ch.big K54, Ch.own n0 n0 (Sl a30 r27 c31) r27, Ch.ro 0 (Sl a36 r88.2 c37) r88.2, Ch.big K80, Ch.ro 0 (Sl aaCentres_0 aCentres_0 caCentres_0) aCentres_0, Ch.ro 0 (Sl aaList_1 aList_1 caList_1) aList_1] := H
        refine st_g (v := (B (!r99))) (congrArg some hb98) (rv_not rfl) ?_
        refine st (v := (B (!r99))) (rv_pick_f (congrArg B hb98) rfl) ?_
        refine w_end ?_
        obtain rfl := Option.some.inj h
        exact ⟨rfl, _, σ102, fr_join ⟨rfl, rfl, rfl, rfl, rfl, trivial⟩, rfl, H.sel' [4, 5, 1, 0] rfl rfl⟩
      ·clear hj
       have h := h'
       clear h' H
       rintro e a w ⟨rfl, ρ, σ103, rfl, rfl, H⟩
       refine q_then ?_
       refine cd_cond o97 rfl (fun hb104 => ?_) (fun hb104 => ?_)
       ·replace h := bif_t hb104 h
        refine c_seq ?_
        refine rg ?_
        refine st (v := (B false)) (rv_assign rfl) ?_
        refine w_end ?_
        refine q_then ?_
        refine c_ret ?_
        refine q_then_r ?_
        obtain rfl := Option.some.inj h
        exact fin_ret (v := (B false)) (results_ok Try.results4 (res_tmp (v := (B false)) rfl res_nil) rfl) ⟨rfl, rfl⟩ (H.sel' [] rfl rfl)
       ·replace h := bif_f hb104 h
        refine c_skip ?_
        refine q_then ?_
        refine c_seq ?_
        refine rg ?_
        refine st (v := (I 1)) (rv_assign rfl) ?_
        refine w_end ?_
        refine q_then ?_
        refine c_seq ?_
        refine rg ?_
        refine st (v := (Sl a52 r49 c53)) (rv_move rfl) ?_
        refine st (v := (I 1)) (rv_move rfl) ?_
        obtain ⟨r105, hx106, h'⟩ := bind_some h
        clear h
        have h := h'; clear h'
        have hc107 := c_laws_markIntSS (aa_0 := a52) (ca_0 := c53) (hK := hK55) hx106
        refine st_call (cx_call hc107 (ent_f hc107.fn rfl) hn0 (show Hp S0 σ0 _ ([Ch.big K54] ++ [Ch.ro 0 (Sl aaCentres_0 aCentres_0 caCentres_0) aCentres_0, Ch.ro 0 (Sl aaList_1 aList_1 caList_1) aList_1, Ch.own n0 n0 (Sl a30 r27 c31) r27]) from (H.sel' [3, 0, 1, 2] rfl rfl))) wn ?_
        rintro _ σ109 ⟨_, ⟨rfl, rfl, hn108⟩, H, -⟩
        replace H : Hp S0 σ0 σ109 [Ch.ro 0 (Sl a52 r105.2 c53) r105.2, Ch.ro 0 (Sl aaCentres_0 aCentres_0 caCentres_0) aCentres_0, Ch.ro 0 (Sl aaList_1 aList_1 caList_1) aList_1, Ch.own n0 n0 (Sl a30 r27 c31) r27] := H
        have hsl : (Sl a52 r49 c53) = (Sl a52 r105.2 c53) := sl_len hn108.symm
        try rw [hsl]
        try rw [hsl] at H
        clear hsl
        refine st (v := (I r105.1)) (rv_assign rfl) ?_
        refine w_end ?_
        refine q_then ?_
        refine c_seq ?_
        refine rg ?_
        refine st (v := (I 1)) (rv_assign rfl) ?_
        refine w_end ?_
        refine q_then ?_
        refine c_seq ?_
        refine rg ?_
        refine st (v := (Sl a52 r105.2 c53)) (rv_move rfl) ?_
        refine st (v := (I 1)) (rv_move rfl) ?_
        obtain ⟨r110, hx111, h'⟩ := bind_some h
        clear h
        have h := h'; clear h'
        have hc112 := c_laws_heldIntSS (aa_0 := a52) (ca_0 := c53) hx111
        refine st_call (cx_call hc112 (ent_f hc112.fn rfl) hn0 (show Hp S0 σ0 _ ([Ch.ro 0 (Sl a52 r105.2 c53) r105.2] ++ [Ch.ro 0 (Sl a52 r105.2 c53) r105.2, Ch.ro 0 (Sl aaCentres_0 aCentres_0 caCentres_0) aCentres_0, Ch.ro 0 (Sl aaList_1 aList_1 caList_1) aList_1, Ch.own n0 n0 (Sl a30 r27 c31) r27]) from (H.sel' [0, 0, 1, 2, 3] rfl rfl))) wn ?_
        rintro _ σ113 ⟨_, ⟨rfl, rfl⟩, H, -⟩
        replace H : Hp S0 σ0 σ113 [Ch.ro 0 (Sl a52 r105.2 c53) r105.2, Ch.ro 0 (Sl aaCentres_0 aCentres_0 caCentres_0) aCentres_0, Ch.ro 0 (Sl aaList_1 aList_1 caList_1) aList_1, Ch.own n0 n0 (Sl a30 r27 c31) r27] := H
        refine st (v := (I r110)) (rv_assign rfl) ?_
        refine w_end ?_
        refine q_then ?_
        refine c_seq ?_
        refine c_seq ?_
        refine rg ?_
        refine st (v := (I r110)) (rv_move rfl) ?_
        refine st (v := (B (decide (r110 < 0)))) (rv_lss (a := r110) (b := 0) rfl rfl) ?_
        refine w_end ?_
        refine q_then ?_
        refine cd_cond (decide (r110 < 0)) rfl (fun hb114 => ?_) (fun hb114 => ?_)
        ·replace h := bif_t hb114 h
         refine c_seq ?_
         refine rg ?_
         refine st (v := (B false)) (rv_assign rfl) ?_
         refine w_end ?_
         refine q_then ?_
         refine c_ret ?_
         refine q_then_r ?_
         obtain rfl := Option.some.inj h
         exact fin_ret (v := (B false)) (results_ok Try.results4 (res_tmp (v := (B false)) rfl res_nil) rfl) ⟨rfl, rfl⟩ (H.sel' [] rfl rfl)
        ·replace h := bif_f hb114 h
         refine c_skip ?_
         refine q_then ?_
         refine c_seq ?_
         refine c_seq ?_
         refine rg ?_
         refine st (v := (I r110)) (rv_move rfl) ?_
         refine st (v := (I r105.1)) (rv_move rfl) ?_
         refine st (v := (B (r110 != r105.1))) (rv_neq (a := r110) (b := r105.1) rfl rfl) ?_
         refine w_end ?_
         refine q_then ?_
         refine cd_cond (r110 != r105.1) rfl (fun hb115 => ?_) (fun hb115 => ?_)
         ·replace h := bif_t hb115 h
          refine c_seq ?_
          refine rg ?_
          refine st (v := (B false)) (rv_assign rfl) ?_
          refine w_end ?_
          refine q_then ?_
          refine c_ret ?_
          refine q_then_r ?_
          obtain rfl := Option.some.inj h
          exact fin_ret (v := (B false)) (results_ok Try.results4 (res_tmp (v := (B false)) rfl res_nil) rfl) ⟨rfl, rfl⟩ (H.sel' [] rfl rfl)
         ·replace h := bif_f hb115 h
          refine c_skip ?_
          refine q_then ?_
          refine c_seq ?_
          refine rg ?_
          refine st (v := (Sl aaCentres_0 aCentres_0 caCentres_0)) (rv_move rfl) ?_
          obtain ⟨r116, hx117, h'⟩ := bind_some h
          clear h
          have h := h'; clear h'
          have hc118 := c_laws_toIntSS (aa_0 := aaCentres_0) (ca_0 := caCentres_0) hx117
          refine st_call (cx_call hc118 (ent_f hc118.fn rfl) hn0 (show Hp S0 σ0 _ ([Ch.ro 0 (Sl aaCentres_0 aCentres_0 caCentres_0) aCentres_0] ++ [Ch.ro 0 (Sl a52 r105.2 c53) r105.2, Ch.ro 0 (Sl aaCentres_0 aCentres_0 caCentres_0) aCentres_0, Ch.ro 0 (Sl aaList_1 aList_1 caList_1) aList_1, Ch.own n0 n0 (Sl a30 r27 c31) r27]) from (H.sel' [1, 0, 1, 2, 3] rfl rfl))) wn ?_
          rintro _ σ123 ⟨_, ⟨a119, c120, K121, rfl, rfl, hK122⟩, H, -⟩
          replace H : Hp S0 σ0 σ123 [Ch.big K121, Ch.ro 0 (Sl a52 r105.2 c53) r105.2, Ch.ro 0 (Sl aaCentres_0 aCentres_0 caCentres_0) aCentres_0, Ch.ro 0 (Sl aaList_1 aList_1 caList_1) aList_1, Ch.own n0 n0 (Sl a30 r27 c31) r27] := H
          refine st (v := (Sl aaList_1 aList_1 caList_1)) (rv_move rfl) ?_
          obtain ⟨r124, hx125, h'⟩ := bind_some h
          clear h
          have h := h'; clear h'
          have hc126 := c_laws_toItemS (aa_0 := aaList_1) (ca_0 := caList_1) hx125
          refine st_call (cx_call hc126 (ent_f hc126.fn rfl) hn0 (show Hp S0 σ0 _ ([Ch.ro 0 (Sl aaList_1 aList_1 caList_1) aList_1] ++ [Ch.big K121, Ch.ro 0 (Sl a52 r105.2 c53) r105.2, Ch.ro 0 (Sl aaCentres_0 aCentres_0 caCentres_0) aCentres_0, Ch.ro 0 (Sl aaList_1 aList_1 caList_1) aList_1, Ch.own n0 n0 (Sl a30 r27 c31) r27]) from (H.sel' [3, 0, 1, 2, 3, 4] rfl rfl))) wn ?_
          rintro _ σ131 ⟨_, ⟨a127, c128, K129, rfl, rfl, hK130⟩, H, -⟩
          replace H : Hp S0 σ0 σ131 [Ch.big K129, Ch.big K121, Ch.ro 0 (Sl a52 r105.2 c53) r105.2, Ch.ro 0 (Sl aaCentres_0 aCentres_0 caCentres_0) aCentres_0, Ch.ro 0 (Sl aaList_1 aList_1 caList_1) aList_1, Ch.own n0 n0 (Sl a30 r27 c31) r27] := H
          obtain ⟨r132, hx133, h'⟩ := bind_some h
          clear h
          have h := h'; clear h'
          have hc134 := c_impl_ListsOf (acentres_0 := a119) (ccentres_0 := c120) (alist_1 := a127) (clist_1 := c128) hx133
          have hle := Nat.le_trans hn0 H.size
          refine st_call (cx_lend (Loan.lendB hK122.lends (Loan.lendB hK130.lends Loan.nil)) hc134 (ent_f hc134.fn rfl) (show Hp S0 σ0 _ ([Ch.big K121, Ch.big K129] ++ ([] ++ [Ch.ro 0 (Sl a52 r105.2 c53) r105.2, Ch.ro 0 (Sl aaCentres_0 aCentres_0 caCentres_0) aCentres_0, Ch.ro 0 (Sl aaList_1 aList_1 caList_1) aList_1, Ch.own n0 n0 (Sl a30 r27 c31) r27])) from (H.sel' [1, 0, 2, 3, 4, 5] rfl rfl)) (by rintro _ _ _ ⟨_, _, _, rfl, rfl, hK138⟩; exact ⟨Dp.abSc hK138, trivial⟩)) wn ?_
          rintro _ σ139 ⟨_, ⟨a135, c136, K137, rfl, rfl, hK138⟩, H, -, -⟩
          replace H : Hp S0 σ0 σ139 [Ch.big K137, Ch.big K121, Ch.big K129, Ch.ro 0 (Sl a52 r105.2 c53) r105.2, Ch.ro 0 (Sl aaCentres_0 aCentres_0 caCentres_0) aCentres_0, Ch.ro 0 (Sl aaList_1 aList_1 caList_1) aList_1, Ch.own n0 n0 (Sl a30 r27 c31) r27] := H
          clear hle
          replace H : Hp S0 σ0 σ139 [Ch.big K137, Ch.big K121, Ch.big K129, Ch.ro 0 (Sl a52 r105.2 c53) r105.2, Ch.ro 0 (Sl aaCentres_0 aCentres_0 caCentres_0) aCentres_0, Ch.ro 0 (Sl aaList_1 aList_1 caList_1) aList_1, Ch.own n0 n0 (Sl a30 r27 c31) r27] := H
          refine st (v := (Sl a135 r132 c136)) (rv_assign rfl) ?_
          refine w_end ?_
          refine q_then ?_
          refine c_seq ?_
          refine c_seq ?_
          refine rg ?_
          refine st (v := (Sl a135 r132 c136)) (rv_move rfl) ?_
          refine st (v := (Sl a30 r27 c31)) (rv_move rfl) ?_
          obtain ⟨σ140, hw141, H, -⟩ := H.pub 6 rfl (Nat.le_refl _)
          rw [← hw141]; clear hw141
          replace H := H.roLow 0 0 rfl (Nat.zero_le _)
          obtain ⟨r142, hx143, h'⟩ := bind_some h
          clear h
          have h := h'; clear h'
          have hc144 := c_laws_eqIntSS (aa_0 := a135) (ca_0 := c136) (ab_1 := a30) (cb_1 := c31) hx143
          have hle := Nat.le_trans hn0 H.size
          refine st_call (cx_lend (Loan.lendB hK138.lends (Loan.same Loan.nil)) hc144 (ent_f hc144.fn rfl) (show Hp S0 σ0 _ ([Ch.big K137] ++ ([Ch.ro 0 (Sl a30 r27 c31) r27] ++ [Ch.ro 0 (Sl a30 r27 c31) r27, Ch.ro n0 (Sl a30 r27 c31) r27, Ch.big K121, Ch.big K129, Ch.ro 0 (Sl a52 r105.2 c53) r105.2, Ch.ro 0 (Sl aaCentres_0 aCentres_0 caCentres_0) aCentres_0, Ch.ro 0 (Sl aaList_1 aList_1 caList_1) aList_1])) from (H.sel' [2, 0, 0, 1, 3, 4, 5, 6, 7] rfl rfl)) (by rintro _ _ _ ⟨rfl, rfl⟩; exact trivial)) wn ?_
          rintro _ σ145 ⟨_, ⟨rfl, rfl⟩, H, -, -⟩
          replace H : Hp S0 σ0 σ145 [Ch.big K137, Ch.ro 0 (Sl a30 r27 c31) r27, Ch.ro n0 (Sl a30 r27 c31) r27, Ch.big K121, Ch.big K129, Ch.ro 0 (Sl a52 r105.2 c53) r105.2, Ch.ro 0 (Sl aaCentres_0 aCentres_0 caCentres_0) aCentres_0, Ch.ro 0 (Sl aaList_1 aList_1 caList_1) aList_1] := H
          clear hle
          replace H : Hp S0 σ0 σ145 [Ch.big K137, Ch.ro 0 (Sl a30 r27 c31) r27, Ch.ro n0 (Sl a30 r27 c31) r27, Ch.big K121, Ch.big K129, Ch.ro 0 (Sl a52 r105.2 c53) r105.2, Ch.ro 0 (Sl aaCentres_0 aCentres_0 caCentres_0) aCentres_0, Ch.ro 0 (Sl aaList_1 aList_1 caList_1) aList_1] := H
          replace H : Hp S0 σ0 σ145 [Ch.ro 0 (Sl a52 r105.2 c53) r105.2] := H.sel' [5] rfl rfl
          refine st (v := (B (!r142))) (rv_not rfl) ?_
          refine w_end ?_
          refine q_then ?_
          refine cd_cond (!r142) rfl (fun hb146 => ?_) (fun hb146 => ?_)
          ·replace h := bif_t hb146 h
           refine c_seq ?_
           refine rg ?_
           refine st (v := (B false)) (rv_assign rfl) ?_
           refine w_end ?_
           refine q_then ?_
           refine c_ret ?_
           refine q_then_r ?_
           obtain rfl := Option.some.inj h
           exact fin_ret (v := (B false)) (results_ok Try.results4 (res_tmp (v := (B false)) rfl res_nil) rfl) ⟨rfl, rfl⟩ (H.sel' [] rfl rfl)
          ·replace h := bif_f hb146 h
           refine c_skip ?_
           refine q_then ?_
           refine c_seq ?_
           refine rg ?_
           refine st (v := (I 1)) (rv_assign rfl) ?_
           refine w_end ?_
           refine q_then ?_
           refine c_seq ?_
           refine rg ?_
           refine st (v := (Sl a52 r105.2 c53)) (rv_move rfl) ?_
           refine st (v := (I 1)) (rv_move rfl) ?_
           obtain ⟨r147, hx148, h'⟩ := bind_some h
           clear h
           have h := h'; clear h'
           have hc149 := c_laws_heldIntSS (aa_0 := a52) (ca_0 := c53) hx148
           refine st_call (cx_call hc149 (ent_f hc149.fn rfl) hn0 (show Hp S0 σ0 _ ([Ch.ro 0 (Sl a52 r105.2 c53) r105.2] ++ [Ch.ro 0 (Sl a52 r105.2 c53) r105.2]) from (H.sel' [0, 0] rfl rfl))) wn ?_
           rintro _ σ150 ⟨_, ⟨rfl, rfl⟩, H, -⟩
           replace H : Hp S0 σ0 σ150 [Ch.ro 0 (Sl a52 r105.2 c53) r105.2] := H
           refine st (v := (I r147)) (rv_assign rfl) ?_
           refine w_end ?_
           refine q_then ?_
           refine c_seq ?_
           refine c_seq ?_
           refine rg ?_
           refine st (v := (I r147)) (rv_move rfl) ?_
           refine st (v := (B (decide (r147 < 0)))) (rv_lss (a := r147) (b := 0) rfl rfl) ?_
           refine w_end ?_
           refine q_then ?_
           refine cd_cond (decide (r147 < 0)) rfl (fun hb151 => ?_) (fun hb151 => ?_)
           ·replace h := bif_t hb151 h
            refine c_seq ?_
            refine rg ?_
            refine st (v := (B false)) (rv_assign rfl) ?_
            refine w_end ?_
            refine q_then ?_
            refine c_ret ?_
            refine q_then_r ?_
            obtain rfl := Option.some.inj h
            exact fin_ret (v := (B false)) (results_ok Try.results4 (res_tmp (v := (B false)) rfl res_nil) rfl) ⟨rfl, rfl⟩ (H.sel' [] rfl rfl)
           ·replace h := bif_f hb151 h
            refine c_skip ?_
            refine q_then ?_
            refine c_seq ?_
            refine c_seq ?_
            refine rg ?_
            refine st (v := (I r147)) (rv_move rfl) ?_
            refine st (v := (I r105.1)) (rv_move rfl) ?_
            refine st (v := (B (r147 != r105.1))) (rv_neq (a := r147) (b := r105.1) rfl rfl) ?_
            refine w_end ?_
            refine q_then ?_
            refine cd_cond (r147 != r105.1) rfl (fun hb152 => ?_) (fun hb152 => ?_)
            ·replace h := bif_t hb152 h
             refine c_seq ?_
             refine rg ?_
             refine st (v := (B false)) (rv_assign rfl) ?_
             refine w_end ?_
             refine q_then ?_
             refine c_ret ?_
             refine q_then_r ?_
             obtain rfl := Option.some.inj h
             exact fin_ret (v := (B false)) (results_ok Try.results4 (res_tmp (v := (B false)) rfl res_nil) rfl) ⟨rfl, rfl⟩ (H.sel' [] rfl rfl)
            ·replace h := bif_f hb152 h
             refine c_skip ?_
             refine q_then ?_
             refine c_seq ?_
             refine rg ?_
             refine st (v := (B true)) (rv_assign rfl) ?_
             refine w_end ?_
             refine q_then ?_
             refine c_ret ?_
             obtain rfl := Option.some.inj h
             exact fin_ret (v := (B true)) (results_ok Try.results4 (res_tmp (v := (B true)) rfl res_nil) rfl) ⟨rfl, rfl⟩ (H.sel' [] rfl rfl)

end Go.Vs

/- The functions compute what their models say. -/
import Derived.Test.YtanbdmdbfjonhaaKExactFilterStoreC1
set_option linter.unusedVariables false
set_option linter.unusedSimpArgs false
set_option maxRecDepth 20000
namespace Go.Vs
open Go Go.Proofs
attribute [local irreducible] Code.wp Code.wpIn wpList wpListIn wpQuiet Calls CallsIn

theorem c_spec_FilterStore {list_0 : List (Int × (List Int) × Int)} {f_1 : Int × Int × Int} {alist_0 : Option Addr} {clist_0 : Nat} {r : (List (Int × (List Int) × Int))} (h : M.spec_FilterStore list_0 f_1 = some r) :
    Cal2 Try.prog 23 [(Sl alist_0 list_0 clist_0), (.agg #[(I f_1.1), (I f_1.2.1), (I f_1.2.2)])] [Ch.ro 0 (Sl alist_0 list_0 clist_0) list_0] (fun n0 v L => ∃ (az1 : Option Addr), ∃ (cz2 : Nat), v = (Sl az1 r cz2) ∧ L = [Ch.own n0 n0 (Sl az1 r cz2) r]) := by
 refine cal2 (n := 38) Try.func23 rfl rfl rfl rfl ?_
 intro S0 σ0 n0 hn0 H
 unfold M.spec_FilterStore at h
 refine c_seq ?_
 refine rg ?_
 refine st_ex (ex_box (cs := [(I f_1.1), (I f_1.2.1), (I f_1.2.2)]) H hn0 rfl rfl) wn ?_
 rintro _ σ2 ⟨b1, rfl, H, -⟩
 refine st (v := (.slice none 0 0)) (rv_assign rfl) ?_
 refine w_end ?_
 refine q_then ?_
 refine c_seq ?_
 refine rg ?_
 refine st_ex (ex_buildSlice (el := n0) (xs := ([] : List (Int × (List Int) × Int))) (ps := []) (cs := []) H hn0 Try.underlying23 ti32 rfl rfl (by kernel_rfl) (.nil) rfl) wn ?_
 rintro _ σ4 ⟨b3, rfl, H, -⟩
 refine st (v := (Sl (some ⟨b3, 0, none⟩) ([] : List (Int × (List Int) × Int)) 0)) (rv_assign rfl) ?_
 refine w_end ?_
 refine q_then ?_
 refine c_seq ?_
 refine c_seq ?_
 obtain ⟨o5, hj, h'⟩ := bind_some h
 clear h
 refine c_cut (fun e a w => e = .normal ∧ ∃ (ρ : Nat → Value) (σ : St), a = fr 38 (updL ρ [(0, (Sl alist_0 list_0 clist_0)), (3, (pt b1 0)), (5, (Sl (some ⟨b3, 0, none⟩) ([] : List (Int × (List Int) × Int)) 0)), (15, (B o5))]) ∧ w = σ.w ∧ Hp S0 σ0 σ [Ch.ro 0 (Sl alist_0 list_0 clist_0) list_0, Ch.bx n0 b1 0 [(I f_1.1), (I f_1.2.1), (I f_1.2.2)] [] [], Ch.own n0 n0 (Sl (some ⟨b3, 0, none⟩) ([] : List (Int × (List Int) × Int)) 0) ([] : List (Int × (List Int) × Int))]) ?_ ?_
 ·clear h'
  rename _ = some o5 => h
  refine rg ?_
  refine st (v := (Sl alist_0 list_0 clist_0)) (rv_move rfl) ?_
  obtain ⟨r6, hx7, h'⟩ := bind_some h
  clear h
  have h := h'; clear h'
  have hc8 := c_spec_validStore (alist_0 := alist_0) (clist_0 := clist_0) hx7
  refine st_call (cx_call hc8 (ent_f hc8.fn rfl) hn0 (show Hp S0 σ0 _ ([Ch.ro 0 (Sl alist_0 list_0 clist_0) list_0] ++ [Ch.own n0 n0 (Sl (some ⟨b3, 0, none⟩) ([] : List (Int × (List Int) × Int)) 0) ([] : List (Int × (List Int) × Int)), Ch.bx n0 b1 0 [(I f_1.1), (I f_1.2.1), (I f_1.2.2)] [] [], Ch.ro 0 (Sl alist_0 list_0 clist_0) list_0]) from (H.sel' [2, 0, 1, 2] rfl rfl))) wn ?_
  rintro _ σ9 ⟨_, ⟨rfl, rfl⟩, H, -⟩
  replace H : Hp S0 σ0 σ9 [Ch.own n0 n0 (Sl (some ⟨b3, 0, none⟩) ([] : List (Int × (List Int) × Int)) 0) ([] : List (Int × (List Int) × Int)), Ch.bx n0 b1 0 [(I f_1.1), (I f_1.2.1), (I f_1.2.2)] [] [], Ch.ro 0 (Sl alist_0 list_0 clist_0) list_0] := H
  refine st (v := (B (!r6))) (rv_not rfl) ?_
  refine st (v := (B (!r6))) (rv_move rfl) ?_
  rcases Bool.eq_false_or_eq_true (!r6) with hb10 | hb10
  ·replace h := bif_t hb10 h
   refine st_skip (congrArg some hb10) ?_
   refine st_skip (congrArg some hb10) ?_
   refine st_skip (congrArg some hb10) ?_
   refine st (v := (B true)) (rv_pick_t (congrArg B hb10) rfl) ?_
   refine w_end ?_
   obtain rfl := Option.some.inj h
   exact ⟨rfl, _, σ9, fr_join ⟨rfl, rfl, rfl, rfl, trivial⟩, rfl, H.sel' [2, 1, 0] rfl rfl⟩
  ·replace h := bif_f hb10 h
   have hc11 := H.cells 1 rfl
   refine st_g (v := (.agg #[(I f_1.1), (I f_1.2.1), (I f_1.2.2)])) (congrArg some hb10) (rv_load (cs := [(I f_1.1), (I f_1.2.1), (I f_1.2.2)]) Try.underlying38 rfl ti38 rfl rfl hc11) ?_
   obtain ⟨r12, hx13, h'⟩ := bind_some h
   clear h
   have h := h'; clear h'
   have hc14 := c_spec_validFilter hx13
   refine st_call (cx_call hc14 (ent_f hc14.fn rfl) hn0 (show Hp S0 σ0 _ ([] ++ [Ch.own n0 n0 (Sl (some ⟨b3, 0, none⟩) ([] : List (Int × (List Int) × Int)) 0) ([] : List (Int × (List Int) × Int)), Ch.bx n0 b1 0 [(I f_1.1), (I f_1.2.1), (I f_1.2.2)] [] [], Ch.ro 0 (Sl alist_0 list_0 clist_0) list_0]) from (H.sel' [0, 1, 2] rfl rfl))) (wanted_yes rfl (by exact (congrArg some hb10))) ?_
   rintro _ σ15 ⟨_, ⟨rfl, rfl⟩, H, -⟩
   replace H : Hp S0 σ0 σ15 [Ch.own n0 n0 (Sl (some ⟨b3, 0, none⟩) ([] : List (Int × (List Int) × Int)) 0) ([] : List (Int × (List Int) × Int)), Ch.bx n0 b1 0 [(I f_1.1), (I f_1.2.1), (I f_1.2.2)] [] [], Ch.ro 0 (Sl alist_0 list_0 clist_0) list_0] := H
   refine st_g (v := (B (!r12))) (congrArg some hb10) (rv_not rfl) ?_
   refine st (v := (B (!r12))) (rv_pick_f (congrArg B hb10) rfl) ?_
   refine w_end ?_
   obtain rfl := Option.some.inj h
   exact ⟨rfl, _, σ15, fr_join ⟨rfl, rfl, rfl, rfl, trivial⟩, rfl, H.sel' [2, 1, 0] rfl rfl⟩
 ·clear hj
  have h := h'
  clear h' H
  rintro e a w ⟨rfl, ρ, σ16, rfl, rfl, H⟩
  refine q_then ?_
  refine cd_cond o5 rfl (fun hb17 => ?_) (fun hb17 => ?_)
  ·replace h := bif_t hb17 h
   refine c_seq ?_
   refine rg ?_
   refine st (v := (.slice none 0 0)) (rv_assign rfl) ?_
   refine w_end ?_
   refine q_then ?_
   refine c_ret ?_
   refine q_then_r ?_
   replace H := H.nilOwn (Int × (List Int) × Int) n0 n0
   obtain rfl := Option.some.inj h
   exact fin_ret (v := (.slice none 0 0)) (results_ok Try.results23 (res_tmp (v := (.slice none 0 0)) rfl res_nil) rfl) ⟨none, 0, rfl, rfl⟩ (H.sel' [0] rfl rfl)
  ·replace h := bif_f hb17 h
   refine c_skip ?_
   refine q_then ?_
   refine c_seq ?_
   refine c_seq ?_
   refine rg ?_
   refine st (v := (I 0)) (rv_assign rfl) ?_
   refine w_end ?_
   refine q_then ?_
   obtain ⟨o18, hj, h'⟩ := bind_some h
   clear h
   refine c_cut (fun e a w => e = .normal ∧ ∃ (ρ : Nat → Value) (σ : St) (aj1 : Option Addr) (cj2 : Nat), a = fr 38 (updL ρ [(5, (Sl aj1 o18 cj2))]) ∧ w = σ.w ∧ Hp S0 σ0 σ [Ch.own n0 n0 (Sl aj1 o18 cj2) o18]) ?_ ?_
   ·clear h'
    rename _ = some o18 => h
    refine c_blk ?_
    refine wp_loopM _ h (fun s19 a w => ∃ (ρ : Nat → Value) (σ : St) (aj1 : Option Addr) (cj2 : Nat), a = fr 38 (updL ρ [(0, (Sl alist_0 list_0 clist_0)), (3, (pt b1 0)), (5, (Sl aj1 s19.1 cj2)), (6, (I s19.2))]) ∧ w = σ.w ∧ Hp S0 σ0 σ [Ch.ro 0 (Sl alist_0 list_0 clist_0) list_0, Ch.bx n0 b1 0 [(I f_1.1), (I f_1.2.1), (I f_1.2.2)] [] [], Ch.own n0 n0 (Sl aj1 s19.1 cj2) s19.1]) ⟨_, σ16, (some ⟨b3, 0, none⟩), 0, fr_join ⟨rfl, rfl, rfl, rfl, trivial⟩, rfl, H.sel' [0, 1, 2] rfl rfl⟩ ?_
    clear h H
    rintro s19 a w o ⟨ρ, σ20, a21, c22, rfl, rfl, H⟩ h hres
    refine c_seq ?_
    refine c_seq ?_
    refine rg ?_
    refine st (v := (I s19.2)) (rv_move rfl) ?_
    refine st (v := (Sl alist_0 list_0 clist_0)) (rv_move rfl) ?_
    refine st (v := (I (list_0.length : Int))) (rv_len Try.underlying23 rfl) ?_
    refine st (v := (B (decide (s19.2 < (list_0.length : Int))))) (rv_lss (a := s19.2) (b := (list_0.length : Int)) rfl rfl) ?_
    refine w_end ?_
    refine q_then ?_
    refine cd_cond (decide (s19.2 < (list_0.length : Int))) rfl (fun hb23 => ?_) (fun hb23 => ?_)
    ·replace h := bif_t hb23 h
     refine c_skip ?_
     refine q_then ?_
     refine c_seq ?_
     obtain ⟨o24, hj, h'⟩ := bind_some h
     clear h
     refine c_cut (fun e a w => e = .normal ∧ ∃ (ρ : Nat → Value) (σ : St) (aj1 : Option Addr) (cj2 : Nat), a = fr 38 (updL ρ [(0, (Sl alist_0 list_0 clist_0)), (3, (pt b1 0)), (5, (Sl aj1 o24 cj2)), (6, (I s19.2))]) ∧ w = σ.w ∧ Hp S0 σ0 σ [Ch.ro 0 (Sl alist_0 list_0 clist_0) list_0, Ch.bx n0 b1 0 [(I f_1.1), (I f_1.2.1), (I f_1.2.2)] [] [], Ch.own n0 n0 (Sl aj1 o24 cj2) o24]) ?_ ?_
     ·clear h'
      rename _ = some o24 => h
      refine c_blk ?_
      refine c_seq ?_
      refine rgP (σ := σ20) 6 (by kernel_rfl) (by kernel_rfl) (by kernel_rfl) ?_
      have hc25 := H.cells 1 rfl
      refine sq (v := (.agg #[(I f_1.1), (I f_1.2.1), (I f_1.2.2)])) (rv_load (cs := [(I f_1.1), (I f_1.2.1), (I f_1.2.2)]) Try.underlying38 rfl ti38 rfl rfl hc25) ?_
      refine sq (v := (Sl alist_0 list_0 clist_0)) (rv_move rfl) ?_
      refine sq (v := (I s19.2)) (rv_move rfl) ?_
      obtain ⟨x26, hx27, h'⟩ := bind_some h
      clear h
      have h := h'; clear h'
      obtain ⟨b29, o30, hi28, -⟩ := (H.ro 0 rfl).ix hx27
      refine sq (v := (pt b29 o30)) (rv_ix Try.underlying23 ti32 rfl rfl hi28) ?_
      refine sq (v := (pt b29 (o30 + 2))) (rv_fieldAddr (off := 2) (ft := 3) Try.underlying32 rfl ti3 rfl rfl) ?_
      have hc31 := ((H.ro 0 rfl).at hx27 hi28).snd.snd.int
      refine sq (v := (I x26.2.2)) (rv_load1 Try.underlying3 rfl rfl hc31) ?_
      refine sq_end ?_
      intro σ32 hm33
      replace H := H.grow (hm33.mono fun _ h => h); clear hm33
      obtain ⟨r34, hx35, h'⟩ := bind_some h
      clear h
      have h := h'; clear h'
      have hc36 := c_spec_passes hx35
      refine st_call (cx_call hc36 (ent_f hc36.fn rfl) hn0 (show Hp S0 σ0 _ ([] ++ [Ch.ro 0 (Sl alist_0 list_0 clist_0) list_0, Ch.bx n0 b1 0 [(I f_1.1), (I f_1.2.1), (I f_1.2.2)] [] [], Ch.own n0 n0 (Sl a21 s19.1 c22) s19.1]) from (H.sel' [0, 1, 2] rfl rfl))) wn ?_
      rintro _ σ37 ⟨_, ⟨rfl, rfl⟩, H, -⟩
      replace H : Hp S0 σ0 σ37 [Ch.ro 0 (Sl alist_0 list_0 clist_0) list_0, Ch.bx n0 b1 0 [(I f_1.1), (I f_1.2.1), (I f_1.2.2)] [] [], Ch.own n0 n0 (Sl a21 s19.1 c22) s19.1] := H
      refine w_end ?_
      refine q_then ?_
      refine cd_cond r34 rfl (fun hb38 => ?_) (fun hb38 => ?_)
      ·replace h := bif_t hb38 h
       refine rg ?_
       refine st (v := (Sl a21 s19.1 c22)) (rv_move rfl) ?_
       refine st (v := (Sl alist_0 list_0 clist_0)) (rv_move rfl) ?_
       refine st (v := (I s19.2)) (rv_move rfl) ?_
       obtain ⟨x39, hx40, h'⟩ := bind_some h
       clear h
       have h := h'; clear h'
       obtain ⟨b42, o43, hi41, -⟩ := (H.ro 0 rfl).ix hx40
       refine st (v := (pt b42 o43)) (rv_ix Try.underlying23 ti32 rfl rfl hi41) ?_
       obtain ⟨_, ⟨_, _, rfl, rfl, ⟨_, _, rfl, ⟨_, rfl, hR48⟩, rfl⟩⟩, hl44, hc45⟩ := ((H.ro 0 rfl).at hx40 hi41).cells
       obtain ⟨a46, c47, rfl⟩ := hR48.isSl
       replace H := H.add (d := Ch.ro 0 (Sl a46 x39.2.1 c47) x39.2.1) hR48 (fun _ h => h)
       clear hR48
       refine st (v := (.agg #[(I x39.1), (Sl a46 x39.2.1 c47), (I x39.2.2)])) (rv_load Try.underlying32 rfl ti32 rfl hl44 hc45) ?_
       obtain ⟨r49, hx50, h'⟩ := bind_some h
       clear h
       have h := h'; clear h'
       have hc51 := c_spec_copyItem (ax_0_1 := a46) (cx_0_1 := c47) hx50
       refine st_call (cx_call hc51 (ent_f hc51.fn rfl) hn0 (show Hp S0 σ0 _ ([Ch.ro 0 (Sl a46 x39.2.1 c47) x39.2.1] ++ [Ch.ro 0 (Sl a46 x39.2.1 c47) x39.2.1, Ch.ro 0 (Sl alist_0 list_0 clist_0) list_0, Ch.bx n0 b1 0 [(I f_1.1), (I f_1.2.1), (I f_1.2.2)] [] [], Ch.own n0 n0 (Sl a21 s19.1 c22) s19.1]) from (H.sel' [0, 0, 1, 2, 3] rfl rfl))) wn ?_
       rintro _ σ54 ⟨_, ⟨a52, c53, rfl, rfl⟩, H, -⟩
       replace H : Hp S0 σ0 σ54 [Ch.own n0 n0 (Sl a52 r49.2.1 c53) r49.2.1, Ch.ro 0 (Sl a46 x39.2.1 c47) x39.2.1, Ch.ro 0 (Sl alist_0 list_0 clist_0) list_0, Ch.bx n0 b1 0 [(I f_1.1), (I f_1.2.1), (I f_1.2.2)] [] [], Ch.own n0 n0 (Sl a21 s19.1 c22) s19.1] := H
       obtain ⟨σ55, hw56, H, -⟩ := H.pub 0 rfl (Nat.le_refl _)
       rw [← hw56]; clear hw56
       refine st_ex (ex_buildSlice (el := n0) (xs := ([(r49.1, r49.2.1, r49.2.2)] : List (Int × (List Int) × Int))) (ps := [(0, (.agg #[(I r49.1), (Sl a52 r49.2.1 c53), (I r49.2.2)]))]) (cs := [(I r49.1), (Sl a52 r49.2.1 c53), (I r49.2.2)]) H hn0 Try.underlying23 ti32 rfl rfl (by kernel_rfl) (.cons (c := [(I r49.1), (Sl a52 r49.2.1 c53), (I r49.2.2)]) ⟨[(I r49.1)], [(Sl a52 r49.2.1 c53), (I r49.2.2)], rfl, rfl, ⟨[(Sl a52 r49.2.1 c53)], [(I r49.2.2)], rfl, ⟨_, rfl, (H.ro 0 rfl)⟩, rfl⟩⟩ (.nil)) rfl) wn ?_
       rintro _ σ58 ⟨b57, rfl, H, -⟩
       obtain ⟨xs59, hx60, h'⟩ := bind_some h
       clear h
       have h := h'; clear h'
       refine st_ex (ex_append H (i := 5) rfl Try.underlying23 Try.underlying23 ti32 rfl rfl (by decide) (H.own 0 rfl).rd hx60 hn0 rfl rfl) wn ?_
       rintro _ σ63 ⟨a61, c62, rfl, H, -⟩
       refine st (v := (Sl a61 xs59 c62)) (rv_assign rfl) ?_
       refine w_end ?_
       refine q_blk ?_
       obtain rfl := Option.some.inj h
       exact ⟨rfl, _, σ63, a61, c62, fr_join ⟨rfl, rfl, rfl, rfl, trivial⟩, rfl, H.sel' [4, 5, 0] rfl rfl⟩
      ·replace h := bif_f hb38 h
       refine c_skip ?_
       refine q_blk ?_
       obtain rfl := Option.some.inj h
       exact ⟨rfl, _, σ37, a21, c22, fr_join ⟨rfl, rfl, rfl, rfl, trivial⟩, rfl, H.sel' [0, 1, 2] rfl rfl⟩
     ·clear hj
      have h := h'
      clear h' H
      rintro e a w ⟨rfl, ρ, σ64, a65, c66, rfl, rfl, H⟩
      refine q_then ?_
      refine rg ?_
      refine st (v := (I s19.2)) (rv_move rfl) ?_
      refine st (v := (I (w64 (s19.2 + 1)))) (rv_add (a := s19.2) (b := 1) rfl rfl) ?_
      refine st (v := (I (w64 (s19.2 + 1)))) (rv_assign rfl) ?_
      refine w_end ?_
      refine q_then ?_
      obtain rfl := Option.some.inj h
      exact ⟨_, rfl, _, σ64, a65, c66, fr_join ⟨rfl, rfl, rfl, rfl, trivial⟩, rfl, H.sel' [0, 1, 2] rfl rfl⟩
    ·replace h := bif_f hb23 h
     refine c_exit ?_
     refine q_then_x ?_
     refine q_then_x ?_
     refine q_blk_hit ?_
     obtain rfl := Option.some.inj h
     obtain rfl := hres _ rfl
     exact ⟨rfl, _, σ20, a21, c22, fr_join ⟨rfl, trivial⟩, rfl, H.sel' [2] rfl rfl⟩
   ·clear hj
    have h := h'
    clear h' H
    rintro e a w ⟨rfl, ρ, σ67, a68, c69, rfl, rfl, H⟩
    refine q_then ?_
    refine c_seq ?_
    refine rg ?_
    refine st (v := (Sl a68 o18 c69)) (rv_move rfl) ?_
    refine st (v := (Sl a68 o18 c69)) (rv_assign rfl) ?_
    refine w_end ?_
    refine q_then ?_
    refine c_ret ?_
    obtain rfl := Option.some.inj h
    exact fin_ret (v := (Sl a68 o18 c69)) (results_ok Try.results23 (res_tmp (v := (Sl a68 o18 c69)) rfl res_nil) rfl) ⟨a68, c69, rfl, rfl⟩ (H.sel' [0] rfl rfl)

theorem c_laws_szIntS {a_0 : List Int} {left_1 : Int} {aa_0 : Option Addr} {ca_0 : Nat} {r : Int} (h : M.laws_szIntS a_0 left_1 = some r) :
    Cal2 Try.prog 102 [(Sl aa_0 a_0 ca_0), (I left_1)] [Ch.ro 0 (Sl aa_0 a_0 ca_0) a_0] (fun n0 v L => v = (I r) ∧ L = []) := by
 refine cal2 (n := 12) Try.func102 rfl rfl rfl rfl ?_
 intro S0 σ0 n0 hn0 H
 unfold M.laws_szIntS at h
 refine c_seq ?_
 refine rg ?_
 refine st (v := (I 0)) (rv_assign rfl) ?_
 refine w_end ?_
 refine q_then ?_
 refine c_seq ?_
 refine rg ?_
 refine st (v := (I left_1)) (rv_move rfl) ?_
 refine st (v := (Sl aa_0 a_0 ca_0)) (rv_move rfl) ?_
 refine st (v := (I (a_0.length : Int))) (rv_len Try.underlying30 rfl) ?_
 refine st (v := (I (w64 (left_1 - (a_0.length : Int))))) (rv_sub (a := left_1) (b := (a_0.length : Int)) rfl rfl) ?_
 refine st (v := (I (w64 (left_1 - (a_0.length : Int))))) (rv_assign rfl) ?_
 refine w_end ?_
 refine q_then ?_
 refine c_seq ?_
 refine c_seq ?_
 refine rg ?_
 refine st (v := (I (w64 (left_1 - (a_0.length : Int))))) (rv_move rfl) ?_
 refine st (v := (B (decide ((w64 (left_1 - (a_0.length : Int))) < 0)))) (rv_lss (a := (w64 (left_1 - (a_0.length : Int)))) (b := 0) rfl rfl) ?_
 refine w_end ?_
 refine q_then ?_
 refine cd_cond (decide ((w64 (left_1 - (a_0.length : Int))) < 0)) rfl (fun hb1 => ?_) (fun hb1 => ?_)
 ·replace h := bif_t hb1 h
  refine c_seq ?_
  refine rg ?_
  refine st (v := (I (-1))) (rv_assign rfl) ?_
  refine w_end ?_
  refine q_then ?_
  refine c_ret ?_
  refine q_then_r ?_
  obtain rfl := Option.some.inj h
  exact fin_ret (v := (I (-1))) (results_ok Try.results102 (res_tmp (v := (I (-1))) rfl res_nil) rfl) ⟨rfl, rfl⟩ (H.sel' [] rfl rfl)
 ·replace h := bif_f hb1 h
  refine c_skip ?_
  refine q_then ?_
  refine c_seq ?_
  refine rg ?_
  refine st (v := (I (w64 (left_1 - (a_0.length : Int))))) (rv_move rfl) ?_
  refine st (v := (I (w64 (left_1 - (a_0.length : Int))))) (rv_assign rfl) ?_
  refine w_end ?_
  refine q_then ?_
  refine c_ret ?_
  obtain rfl := Option.some.inj h
  exact fin_ret (v := (I (w64 (left_1 - (a_0.length : Int))))) (results_ok Try.results102 (res_tmp (v := (I (w64 (left_1 - (a_0.length : Int))))) rfl res_nil) rfl) ⟨rfl, rfl⟩ (H.sel' [] rfl rfl)

theorem c_laws_szItem {a_0 : Int × (List Int) × Int} {left_1 : Int} {aa_0_1 : Option Addr} {ca_0_1 : Nat} {r : Int} (h : M.laws_szItem a_0 left_1 = some r) :
    Cal2 Try.prog 69 [(.agg #[(I a_0.1), (Sl aa_0_1 a_0.2.1 ca_0_1), (I a_0.2.2)]), (I left_1)] [Ch.ro 0 (Sl aa_0_1 a_0.2.1 ca_0_1) a_0.2.1] (fun n0 v L => v = (I r) ∧ L = []) := by
 refine cal2 (n := 12) Try.func69 rfl rfl rfl rfl ?_
 intro S0 σ0 n0 hn0 H
 unfold M.laws_szItem at h
 refine c_seq ?_
 refine rg ?_
 refine st_ex (ex_box (cs := [(I a_0.1), (Sl aa_0_1 a_0.2.1 ca_0_1), (I a_0.2.2)]) H hn0 rfl rfl) wn ?_
 rintro _ σ2 ⟨b1, rfl, H, -⟩
 refine st (v := (I 0)) (rv_assign rfl) ?_
 refine w_end ?_
 refine q_then ?_
 refine c_seq ?_
 refine rg ?_
 refine st (v := (pt b1 1)) (rv_fieldAddr (off := 1) (ft := 30) Try.underlying84 rfl ti30 rfl rfl) ?_
 have hc3 := H.cell (u := (Sl aa_0_1 a_0.2.1 ca_0_1)) (o' := 1) 0 1 rfl rfl rfl
 refine st (v := (Sl aa_0_1 a_0.2.1 ca_0_1)) (rv_load1 Try.underlying30 rfl rfl hc3) ?_
 refine st (v := (I left_1)) (rv_move rfl) ?_
 obtain ⟨r4, hx5, h'⟩ := bind_some h
 clear h
 have h := h'; clear h'
 have hc6 := c_laws_szIntS (aa_0 := aa_0_1) (ca_0 := ca_0_1) hx5
 refine st_call (cx_call hc6 (ent_f hc6.fn rfl) hn0 (show Hp S0 σ0 _ ([Ch.ro 0 (Sl aa_0_1 a_0.2.1 ca_0_1) a_0.2.1] ++ [Ch.bx n0 b1 0 [(I a_0.1), (Sl aa_0_1 a_0.2.1 ca_0_1), (I a_0.2.2)] [] [], Ch.ro 0 (Sl aa_0_1 a_0.2.1 ca_0_1) a_0.2.1]) from (H.sel' [1, 0, 1] rfl rfl))) wn ?_
 rintro _ σ7 ⟨_, ⟨rfl, rfl⟩, H, -⟩
 replace H : Hp S0 σ0 σ7 [Ch.bx n0 b1 0 [(I a_0.1), (Sl aa_0_1 a_0.2.1 ca_0_1), (I a_0.2.2)] [] [], Ch.ro 0 (Sl aa_0_1 a_0.2.1 ca_0_1) a_0.2.1] := H
 refine st (v := (I r4)) (rv_assign rfl) ?_
 refine w_end ?_
 refine q_then ?_
 refine c_seq ?_
 refine c_seq ?_
 refine rg ?_
 refine st (v := (I r4)) (rv_move rfl) ?_
 refine st (v := (B (decide (r4 < 0)))) (rv_lss (a := r4) (b := 0) rfl rfl) ?_
 refine w_end ?_
 refine q_then ?_
 refine cd_cond (decide (r4 < 0)) rfl (fun hb8 => ?_) (fun hb8 => ?_)
 ·replace h := bif_t hb8 h
  refine c_seq ?_
  refine rg ?_
  refine st (v := (I (-1))) (rv_assign rfl) ?_
  refine w_end ?_
  refine q_then ?_
  refine c_ret ?_
  refine q_then_r ?_
  obtain rfl := Option.some.inj h
  exact fin_ret (v := (I (-1))) (results_ok Try.results69 (res_tmp (v := (I (-1))) rfl res_nil) rfl) ⟨rfl, rfl⟩ (H.sel' [] rfl rfl)
 ·replace h := bif_f hb8 h
  refine c_skip ?_
  refine q_then ?_
  refine c_seq ?_
  refine rg ?_
  refine st (v := (I r4)) (rv_move rfl) ?_
  refine st (v := (I r4)) (rv_assign rfl) ?_
  refine w_end ?_
  refine q_then ?_
  refine c_ret ?_
  obtain rfl := Option.some.inj h
  exact fin_ret (v := (I r4)) (results_ok Try.results69 (res_tmp (v := (I r4)) rfl res_nil) rfl) ⟨rfl, rfl⟩ (H.sel' [] rfl rfl)

theorem c_laws_szItemS {a_0 : List (Int × (List Int) × Int)} {left_1 : Int} {aa_0 : Option Addr} {ca_0 : Nat} {r : Int} (h : M.laws_szItemS a_0 left_1 = some r) :
    Cal2 Try.prog 29 [(Sl aa_0 a_0 ca_0), (I left_1)] [Ch.ro 0 (Sl aa_0 a_0 ca_0) a_0] (fun n0 v L => v = (I r) ∧ L = []) := by
 refine cal2 (n := 27) Try.func29 rfl rfl rfl rfl ?_
 intro S0 σ0 n0 hn0 H
 unfold M.laws_szItemS at h
 refine c_seq ?_
 refine rg ?_
 refine st (v := (I 0)) (rv_assign rfl) ?_
 refine w_end ?_
 refine q_then ?_
 refine c_seq ?_
 refine rg ?_
 refine st (v := (I left_1)) (rv_move rfl) ?_
 refine st (v := (Sl aa_0 a_0 ca_0)) (rv_move rfl) ?_
 refine st (v := (I (a_0.length : Int))) (rv_len Try.underlying49 rfl) ?_
 refine st (v := (I (w64 (left_1 - (a_0.length : Int))))) (rv_sub (a := left_1) (b := (a_0.length : Int)) rfl rfl) ?_
 refine st (v := (I (w64 (left_1 - (a_0.length : Int))))) (rv_assign rfl) ?_
 refine w_end ?_
 refine q_then ?_
 refine c_seq ?_
 refine c_seq ?_
 refine rg ?_
 refine st (v := (I (w64 (left_1 - (a_0.length : Int))))) (rv_move rfl) ?_
 refine st (v := (B (decide ((w64 (left_1 - (a_0.length : Int))) < 0)))) (rv_lss (a := (w64 (left_1 - (a_0.length : Int)))) (b := 0) rfl rfl) ?_
 refine w_end ?_
 refine q_then ?_
 refine cd_cond (decide ((w64 (left_1 - (a_0.length : Int))) < 0)) rfl (fun hb1 => ?_) (fun hb1 => ?_)
 ·replace h := bif_t hb1 h
  refine c_seq ?_
  refine rg ?_
  refine st (v := (I (-1))) (rv_assign rfl) ?_
  refine w_end ?_
  refine q_then ?_
  refine c_ret ?_
  refine q_then_r ?_
  obtain rfl := Option.some.inj h
  exact fin_ret (v := (I (-1))) (results_ok Try.results29 (res_tmp (v := (I (-1))) rfl res_nil) rfl) ⟨rfl, rfl⟩ (H.sel' [] rfl rfl)
 ·replace h := bif_f hb1 h
  refine c_skip ?_
  refine q_then ?_
  refine c_seq ?_
  refine c_seq ?_
  refine rg ?_
  refine st (v := (I 0)) (rv_assign rfl) ?_
  refine w_end ?_
  refine q_then ?_
  obtain ⟨o2, hj, h'⟩ := bind_some h
  clear h
  refine c_cut (fun e a w => (∃ t, o2 = (.inl t) ∧ e = .normal ∧ ∃ (ρ : Nat → Value) (σ : St), a = fr 27 (updL ρ [(1, (I t))]) ∧ w = σ.w ∧ Hp S0 σ0 σ []) ∨ (∃ t, o2 = (.inr t) ∧ e = .ret ∧ ∃ (ρ : Nat → Value) (σ : St), a = fr 27 (updL ρ [(4, (I t))]) ∧ w = σ.w ∧ Hp S0 σ0 σ [])) ?_ ?_
  ·clear h'
   rename _ = some o2 => h
   refine c_blk ?_
   refine wp_loopM _ h (fun s3 a w => ∃ (ρ : Nat → Value) (σ : St), a = fr 27 (updL ρ [(0, (Sl aa_0 a_0 ca_0)), (1, (I s3.1)), (5, (I s3.2))]) ∧ w = σ.w ∧ Hp S0 σ0 σ [Ch.ro 0 (Sl aa_0 a_0 ca_0) a_0]) ⟨_, σ0, fr_join ⟨rfl, rfl, rfl, trivial⟩, rfl, H.sel' [0] rfl rfl⟩ ?_
   clear h H
   rintro s3 a w o ⟨ρ, σ4, rfl, rfl, H⟩ h hres
   refine c_seq ?_
   refine c_seq ?_
   refine rg ?_
   refine st (v := (I s3.2)) (rv_move rfl) ?_
   refine st (v := (Sl aa_0 a_0 ca_0)) (rv_move rfl) ?_
   refine st (v := (I (a_0.length : Int))) (rv_len Try.underlying49 rfl) ?_
   refine st (v := (B (decide (s3.2 < (a_0.length : Int))))) (rv_lss (a := s3.2) (b := (a_0.length : Int)) rfl rfl) ?_
   refine w_end ?_
   refine q_then ?_
   refine cd_cond (decide (s3.2 < (a_0.length : Int))) rfl (fun hb5 => ?_) (fun hb5 => ?_)
   ·replace h := bif_t hb5 h
    refine c_skip ?_
    refine q_then ?_
    refine c_seq ?_
    refine c_blk ?_
    refine c_seq ?_
    refine rg ?_
    refine st (v := (Sl aa_0 a_0 ca_0)) (rv_move rfl) ?_
    refine st (v := (I s3.2)) (rv_move rfl) ?_
    obtain ⟨x6, hx7, h'⟩ := bind_some h
    clear h
    have h := h'; clear h'
    obtain ⟨b9, o10, hi8, -⟩ := (H.ro 0 rfl).ix hx7
    refine st (v := (pt b9 o10)) (rv_ix Try.underlying49 ti84 rfl rfl hi8) ?_
    obtain ⟨_, ⟨_, _, rfl, rfl, ⟨_, _, rfl, ⟨_, rfl, hR15⟩, rfl⟩⟩, hl11, hc12⟩ := ((H.ro 0 rfl).at hx7 hi8).cells
    obtain ⟨a13, c14, rfl⟩ := hR15.isSl
    replace H := H.add (d := Ch.ro 0 (Sl a13 x6.2.1 c14) x6.2.1) hR15 (fun _ h => h)
    clear hR15
    refine st (v := (.agg #[(I x6.1), (Sl a13 x6.2.1 c14), (I x6.2.2)])) (rv_load Try.underlying84 rfl ti84 rfl hl11 hc12) ?_
    refine st (v := (I s3.1)) (rv_move rfl) ?_
    obtain ⟨r16, hx17, h'⟩ := bind_some h
    clear h
    have h := h'; clear h'
    have hc18 := c_laws_szItem (aa_0_1 := a13) (ca_0_1 := c14) hx17
    refine st_call (cx_call hc18 (ent_f hc18.fn rfl) hn0 (show Hp S0 σ0 _ ([Ch.ro 0 (Sl a13 x6.2.1 c14) x6.2.1] ++ [Ch.ro 0 (Sl a13 x6.2.1 c14) x6.2.1, Ch.ro 0 (Sl aa_0 a_0 ca_0) a_0]) from (H.sel' [0, 0, 1] rfl rfl))) wn ?_
    rintro _ σ19 ⟨_, ⟨rfl, rfl⟩, H, -⟩
    replace H : Hp S0 σ0 σ19 [Ch.ro 0 (Sl a13 x6.2.1 c14) x6.2.1, Ch.ro 0 (Sl aa_0 a_0 ca_0) a_0] := H
    refine st (v := (I r16)) (rv_assign rfl) ?_
    refine w_end ?_
    refine q_then ?_
    refine c_seq ?_
    refine rg ?_
    refine st (v := (I r16)) (rv_move rfl) ?_
    refine st (v := (B (decide (r16 < 0)))) (rv_lss (a := r16) (b := 0) rfl rfl) ?_
    refine w_end ?_
    refine q_then ?_
    refine cd_cond (decide (r16 < 0)) rfl (fun hb20 => ?_) (fun hb20 => ?_)
    ·replace h := bif_t hb20 h
     refine c_seq ?_
     refine rg ?_
     refine st (v := (I (-1))) (rv_assign rfl) ?_
     refine w_end ?_
     refine q_then ?_
     refine c_ret ?_
     refine q_blk_r ?_
     refine q_then_r ?_
     refine q_then_r ?_
     refine q_blk_r ?_
     obtain rfl := Option.some.inj h
     obtain rfl := hres _ rfl
     exact .inr (⟨_, rfl, rfl, _, σ19, fr_join ⟨rfl, trivial⟩, rfl, H.sel' [] rfl rfl⟩)
    ·replace h := bif_f hb20 h
     refine c_skip ?_
     refine q_blk ?_
     refine q_then ?_
     refine rg ?_
     refine st (v := (I s3.2)) (rv_move rfl) ?_
     refine st (v := (I (w64 (s3.2 + 1)))) (rv_add (a := s3.2) (b := 1) rfl rfl) ?_
     refine st (v := (I (w64 (s3.2 + 1)))) (rv_assign rfl) ?_
     refine w_end ?_
     refine q_then ?_
     obtain rfl := Option.some.inj h
     exact ⟨_, rfl, _, σ19, fr_join ⟨rfl, rfl, rfl, trivial⟩, rfl, H.sel' [1] rfl rfl⟩
   ·replace h := bif_f hb5 h
    refine c_exit ?_
    refine q_then_x ?_
    refine q_then_x ?_
    refine q_blk_hit ?_
    obtain rfl := Option.some.inj h
    obtain rfl := hres _ rfl
    exact .inl ⟨_, rfl, rfl, _, σ4, fr_join ⟨rfl, trivial⟩, rfl, H.sel' [] rfl rfl⟩
  ·clear hj
   have h := h'
   clear h' H
   rintro e a w (⟨t21, rfl, rfl, ρ, σ22, rfl, rfl, H⟩ | ⟨t23, rfl, rfl, ρ, σ24, rfl, rfl, H⟩)
   ·replace h := selim_l h
    refine q_then ?_
    refine c_seq ?_
    refine rg ?_
    refine st (v := (I t21)) (rv_move rfl) ?_
    refine st (v := (I t21)) (rv_assign rfl) ?_
    refine w_end ?_
    refine q_then ?_
    refine c_ret ?_
    obtain rfl := Option.some.inj h
    exact fin_ret (v := (I t21)) (results_ok Try.results29 (res_tmp (v := (I t21)) rfl res_nil) rfl) ⟨rfl, rfl⟩ (H.sel' [] rfl rfl)
   ·replace h := selim_r h
    refine q_then_r ?_
    obtain rfl := Option.some.inj h
    exact fin_ret (v := (I t23)) (results_ok Try.results29 (res_tmp (v := (I t23)) rfl res_nil) rfl) ⟨rfl, rfl⟩ (H.sel' [] rfl rfl)

theorem c_laws_toIntS {a_0 : List Int} {aa_0 : Option Addr} {ca_0 : Nat} {r : (List Int)} (h : M.laws_toIntS a_0 = some r) :
    Cal2 Try.prog 36 [(Sl aa_0 a_0 ca_0)] [Ch.ro 0 (Sl aa_0 a_0 ca_0) a_0] (fun n0 v L => ∃ (az1 : Option Addr), ∃ (cz2 : Nat), v = (Sl az1 r cz2) ∧ L = [Ch.own n0 n0 (Sl az1 r cz2) r] ∧ cz2 = r.length) := by
 refine cal2 (n := 22) Try.func36 rfl rfl rfl rfl ?_
 intro S0 σ0 n0 hn0 H
 unfold M.laws_toIntS at h
 refine c_seq ?_
 refine rg ?_
 refine st (v := (.slice none 0 0)) (rv_assign rfl) ?_
 refine w_end ?_
 refine q_then ?_
 refine c_seq ?_
 refine rg ?_
 refine st (v := (Sl aa_0 a_0 ca_0)) (rv_move rfl) ?_
 refine st (v := (I (a_0.length : Int))) (rv_len Try.underlying30 rfl) ?_
 obtain ⟨xs1, hx2, h'⟩ := bind_some h
 clear h
 have h := h'; clear h'
 refine st_ex (ex_make (el := n0) (z0 := (0 : Int)) (zs := [(I 0)]) H hn0 Try.underlying30 ti3 rfl rfl rfl (by decide) hx2 rfl rfl) wn ?_
 rintro _ σ6 ⟨b3, c4, rfl, ht5, H, -⟩
 replace ht5 := ht5.trans (gmake_len hx2).symm
 refine st (v := (Sl (some ⟨b3, 0, none⟩) xs1 c4)) (rv_assign rfl) ?_
 refine w_end ?_
 refine q_then ?_
 refine c_seq ?_
 refine c_seq ?_
 refine rg ?_
 refine st (v := (I 0)) (rv_assign rfl) ?_
 refine w_end ?_
 refine q_then ?_
 obtain ⟨o7, hj, h'⟩ := bind_some h
 clear h
 refine c_cut (fun e a w => e = .normal ∧ ∃ (ρ : Nat → Value) (σ : St), a = fr 22 (updL ρ [(3, (Sl (some ⟨b3, 0, none⟩) o7 c4))]) ∧ w = σ.w ∧ Hp S0 σ0 σ [Ch.own n0 n0 (Sl (some ⟨b3, 0, none⟩) o7 c4) o7] ∧ c4 = o7.length ∧ o7.length = xs1.length) ?_ ?_
 ·clear h'
  rename _ = some o7 => h
  refine c_blk ?_
  refine wp_loopM _ h (fun s8 a w => ∃ (ρ : Nat → Value) (σ : St), a = fr 22 (updL ρ [(0, (Sl aa_0 a_0 ca_0)), (3, (Sl (some ⟨b3, 0, none⟩) s8.1 c4)), (4, (I s8.2))]) ∧ w = σ.w ∧ Hp S0 σ0 σ [Ch.ro 0 (Sl aa_0 a_0 ca_0) a_0, Ch.own n0 n0 (Sl (some ⟨b3, 0, none⟩) s8.1 c4) s8.1] ∧ c4 = s8.1.length ∧ s8.1.length = xs1.length) ⟨_, σ6, fr_join ⟨rfl, rfl, rfl, trivial⟩, rfl, H.sel' [1, 0] rfl rfl, ht5, rfl⟩ ?_
  clear h H
  rintro s8 a w o ⟨ρ, σ9, rfl, rfl, H, ht10, hn11⟩ h hres
  refine c_seq ?_
  refine c_seq ?_
  refine rg ?_
  refine st (v := (I s8.2)) (rv_move rfl) ?_
  refine st (v := (Sl aa_0 a_0 ca_0)) (rv_move rfl) ?_
  refine st (v := (I (a_0.length : Int))) (rv_len Try.underlying30 rfl) ?_
  refine st (v := (B (decide (s8.2 < (a_0.length : Int))))) (rv_lss (a := s8.2) (b := (a_0.length : Int)) rfl rfl) ?_
  refine w_end ?_
  refine q_then ?_
  refine cd_cond (decide (s8.2 < (a_0.length : Int))) rfl (fun hb12 => ?_) (fun hb12 => ?_)
  ·replace h := bif_t hb12 h
   refine c_skip ?_
   refine q_then ?_
   refine c_seq ?_
   refine c_blk ?_
   refine rg ?_
   refine st (v := (Sl (some ⟨b3, 0, none⟩) s8.1 c4)) (rv_move rfl) ?_
   refine st (v := (I s8.2)) (rv_move rfl) ?_
   refine st (v := (Sl aa_0 a_0 ca_0)) (rv_move rfl) ?_
   refine st (v := (I s8.2)) (rv_move rfl) ?_
   obtain ⟨x13, hx14, h'⟩ := bind_some h
   clear h
   have h := h'; clear h'
   obtain ⟨b16, o17, hi15, -⟩ := (H.ro 0 rfl).ix hx14
   refine st (v := (pt b16 o17)) (rv_ix Try.underlying30 ti3 rfl rfl hi15) ?_
   have hc18 := ((H.ro 0 rfl).at hx14 hi15).int
   refine st (v := (I x13)) (rv_load1 Try.underlying3 rfl rfl hc18) ?_
   obtain ⟨x19, hx20, h'⟩ := bind_some h
   clear h
   have h := h'; clear h'
   obtain ⟨b22, o23, hi21, -⟩ := (H.own 1 rfl).ix hx20
   refine st (v := (pt b22 o23)) (rv_ix Try.underlying30 ti3 rfl rfl hi21) ?_
   refine st_exS (ex_store_own (e' := x13) (vs := [(I x13)]) (k := 0) H (i := 1) rfl ti3 hx20 hi21 rfl rfl rfl rfl rfl (Nat.le_of_ble_eq_true rfl) (by simp [plain]) (by rintro _ rfl; exact rfl)) wn ?_
   rintro σ24 ⟨H, -⟩
   have hsl : (Sl (some ⟨b3, 0, none⟩) s8.1 c4) = (Sl (some ⟨b3, 0, none⟩) (s8.1.set s8.2.toNat x13) c4) := sl_len List.length_set.symm
   rw [hsl]; rw [hsl] at H; clear hsl
   refine w_end ?_
   refine q_blk ?_
   refine q_then ?_
   refine rg ?_
   refine st (v := (I s8.2)) (rv_move rfl) ?_
   refine st (v := (I (w64 (s8.2 + 1)))) (rv_add (a := s8.2) (b := 1) rfl rfl) ?_
   refine st (v := (I (w64 (s8.2 + 1)))) (rv_assign rfl) ?_
   refine w_end ?_
   refine q_then ?_
   obtain rfl := Option.some.inj h
   exact ⟨_, rfl, _, σ24, fr_join ⟨rfl, rfl, rfl, trivial⟩, rfl, H.sel' [1, 0] rfl rfl, (ht10.trans List.length_set.symm), (List.length_set.trans hn11)⟩
  ·replace h := bif_f hb12 h
   refine c_exit ?_
   refine q_then_x ?_
   refine q_then_x ?_
   refine q_blk_hit ?_
   obtain rfl := Option.some.inj h
   obtain rfl := hres _ rfl
   exact ⟨rfl, _, σ9, fr_join ⟨rfl, trivial⟩, rfl, H.sel' [1] rfl rfl, ht10, hn11⟩
 ·clear hj
  have h := h'
  clear h' H
  rintro e a w ⟨rfl, ρ, σ25, rfl, rfl, H, ht26, hn27⟩
  refine q_then ?_
  refine c_seq ?_
  refine rg ?_
  refine st (v := (Sl (some ⟨b3, 0, none⟩) o7 c4)) (rv_move rfl) ?_
  refine st (v := (Sl (some ⟨b3, 0, none⟩) o7 c4)) (rv_assign rfl) ?_
  refine w_end ?_
  refine q_then ?_
  refine c_ret ?_
  obtain rfl := Option.some.inj h
  exact fin_ret (v := (Sl (some ⟨b3, 0, none⟩) o7 c4)) (results_ok Try.results36 (res_tmp (v := (Sl (some ⟨b3, 0, none⟩) o7 c4)) rfl res_nil) rfl) ⟨(some ⟨b3, 0, none⟩), c4, rfl, rfl, ht26⟩ (H.sel' [0] rfl rfl)

theorem c_laws_toItem {a_0 : Int × (List Int) × Int} {aa_0_1 : Option Addr} {ca_0_1 : Nat} {r : (Int × (List Int) × Int)} (h : M.laws_toItem a_0 = some r) :
    Cal2 Try.prog 70 [(.agg #[(I a_0.1), (Sl aa_0_1 a_0.2.1 ca_0_1), (I a_0.2.2)])] [Ch.ro 0 (Sl aa_0_1 a_0.2.1 ca_0_1) a_0.2.1] (fun n0 v L => ∃ (az1 : Option Addr), ∃ (cz2 : Nat), v = (.agg #[(I r.1), (Sl az1 r.2.1 cz2), (I r.2.2)]) ∧ L = [Ch.own n0 n0 (Sl az1 r.2.1 cz2) r.2.1] ∧ cz2 = r.2.1.length) := by
 refine cal2 (n := 15) Try.func70 rfl rfl rfl rfl ?_
 intro S0 σ0 n0 hn0 H
 unfold M.laws_toItem at h
 refine c_seq ?_
 refine rg ?_
 refine st_ex (ex_box (cs := [(I a_0.1), (Sl aa_0_1 a_0.2.1 ca_0_1), (I a_0.2.2)]) H hn0 rfl rfl) wn ?_
 rintro _ σ2 ⟨b1, rfl, H, -⟩
 refine st_ex (ex_alloc (cs := [(I 0), (.slice none 0 0), (I 0)]) H hn0 ti32 rfl) wn ?_
 rintro _ σ4 ⟨b3, rfl, H, -⟩
 refine w_end ?_
 refine q_then ?_
 refine c_seq ?_
 refine rg ?_
 refine st_ex (ex_alloc (cs := [(I 0), (.slice none 0 0), (I 0)]) H hn0 ti32 rfl) wn ?_
 rintro _ σ6 ⟨b5, rfl, H, -⟩
 refine w_end ?_
 refine q_then ?_
 refine c_seq ?_
 refine rg ?_
 refine st (v := (pt b1 0)) (rv_fieldAddr (off := 0) (ft := 3) Try.underlying84 rfl ti3 rfl rfl) ?_
 have hc7 := H.cell (u := (I a_0.1)) (o' := 0) 2 0 rfl rfl rfl
 refine st (v := (I a_0.1)) (rv_load1 Try.underlying3 rfl rfl hc7) ?_
 refine st (v := (pt b5 0)) (rv_fieldAddr (off := 0) (ft := 3) Try.underlying32 rfl ti3 rfl rfl) ?_
 refine st_exS (ex_store_box (k := 0) (cs := [(I 0), (.slice none 0 0), (I 0)]) (vs := [(I a_0.1)]) (cs' := [(I a_0.1), (.slice none 0 0), (I 0)]) H (i := 0) rfl ti3 rfl rfl rfl rfl rfl (Nat.le_of_ble_eq_true rfl) (by simp [plain]) rfl) wn ?_
 rintro σ8 ⟨H, -⟩
 refine w_end ?_
 refine q_then ?_
 refine c_seq ?_
 refine rg ?_
 refine st (v := (pt b1 1)) (rv_fieldAddr (off := 1) (ft := 30) Try.underlying84 rfl ti30 rfl rfl) ?_
 have hc9 := H.cell (u := (Sl aa_0_1 a_0.2.1 ca_0_1)) (o' := 1) 2 1 rfl rfl rfl
 refine st (v := (Sl aa_0_1 a_0.2.1 ca_0_1)) (rv_load1 Try.underlying30 rfl rfl hc9) ?_
 obtain ⟨r10, hx11, h'⟩ := bind_some h
 clear h
 have h := h'; clear h'
 have hc12 := c_laws_toIntS (aa_0 := aa_0_1) (ca_0 := ca_0_1) hx11
 refine st_call (cx_call hc12 (ent_f hc12.fn rfl) hn0 (show Hp S0 σ0 _ ([Ch.ro 0 (Sl aa_0_1 a_0.2.1 ca_0_1) a_0.2.1] ++ [Ch.bx n0 b5 0 [(I a_0.1), (.slice none 0 0), (I 0)] [] [], Ch.bx n0 b3 0 [(I 0), (.slice none 0 0), (I 0)] [] [], Ch.bx n0 b1 0 [(I a_0.1), (Sl aa_0_1 a_0.2.1 ca_0_1), (I a_0.2.2)] [] [], Ch.ro 0 (Sl aa_0_1 a_0.2.1 ca_0_1) a_0.2.1]) from (H.sel' [3, 0, 1, 2, 3] rfl rfl))) wn ?_
 rintro _ σ16 ⟨_, ⟨a13, c14, rfl, rfl, ht15⟩, H, -⟩
 replace H : Hp S0 σ0 σ16 [Ch.own n0 n0 (Sl a13 r10 c14) r10, Ch.bx n0 b5 0 [(I a_0.1), (.slice none 0 0), (I 0)] [] [], Ch.bx n0 b3 0 [(I 0), (.slice none 0 0), (I 0)] [] [], Ch.bx n0 b1 0 [(I a_0.1), (Sl aa_0_1 a_0.2.1 ca_0_1), (I a_0.2.2)] [] [], Ch.ro 0 (Sl aa_0_1 a_0.2.1 ca_0_1) a_0.2.1] := H
 refine st (v := (pt b5 1)) (rv_fieldAddr (off := 1) (ft := 30) Try.underlying32 rfl ti30 rfl rfl) ?_
 refine st_exS (ex_store_box (k := 1) (cs := [(I a_0.1), (.slice none 0 0), (I 0)]) (vs := [(Sl a13 r10 c14)]) (cs' := [(I a_0.1), (Sl a13 r10 c14), (I 0)]) H (i := 1) rfl ti30 rfl rfl rfl rfl rfl (Nat.le_of_ble_eq_true rfl) (by simp [plain]) rfl) wn ?_
 rintro σ17 ⟨H, -⟩
 refine w_end ?_
 refine q_then ?_
 refine c_seq ?_
 refine rg ?_
 refine st (v := (pt b1 2)) (rv_fieldAddr (off := 2) (ft := 3) Try.underlying84 rfl ti3 rfl rfl) ?_
 have hc18 := H.cell (u := (I a_0.2.2)) (o' := 2) 3 2 rfl rfl rfl
 refine st (v := (I a_0.2.2)) (rv_load1 Try.underlying3 rfl rfl hc18) ?_
 refine st (v := (pt b5 2)) (rv_fieldAddr (off := 2) (ft := 3) Try.underlying32 rfl ti3 rfl rfl) ?_
 refine st_exS (ex_store_box (k := 2) (cs := [(I a_0.1), (Sl a13 r10 c14), (I 0)]) (vs := [(I a_0.2.2)]) (cs' := [(I a_0.1), (Sl a13 r10 c14), (I a_0.2.2)]) H (i := 0) rfl ti3 rfl rfl rfl rfl rfl (Nat.le_of_ble_eq_true rfl) (by simp [plain]) rfl) wn ?_
 rintro σ19 ⟨H, -⟩
 refine w_end ?_
 refine q_then ?_
 refine c_seq ?_
 refine rg ?_
 have hc20 := H.cells 0 rfl
 refine st (v := (.agg #[(I a_0.1), (Sl a13 r10 c14), (I a_0.2.2)])) (rv_load (cs := [(I a_0.1), (Sl a13 r10 c14), (I a_0.2.2)]) Try.underlying32 rfl ti32 rfl rfl hc20) ?_
 refine st_exS (ex_store_box (k := 0) (cs := [(I 0), (.slice none 0 0), (I 0)]) (vs := [(I a_0.1), (Sl a13 r10 c14), (I a_0.2.2)]) (cs' := [(I a_0.1), (Sl a13 r10 c14), (I a_0.2.2)]) H (i := 2) rfl ti32 rfl rfl rfl rfl rfl (Nat.le_of_ble_eq_true rfl) (by simp [plain]) rfl) wn ?_
 rintro σ21 ⟨H, -⟩
 refine w_end ?_
 refine q_then ?_
 refine c_ret ?_
 obtain rfl := Option.some.inj h
 exact fin_ret (v := (.agg #[(I a_0.1), (Sl a13 r10 c14), (I a_0.2.2)])) (results_ok Try.results70 (res_cell rfl (run_cellRes (cs := [(I a_0.1), (Sl a13 r10 c14), (I a_0.2.2)]) Try.underlying32 rfl ti32 rfl (H.cells 0 rfl)) res_nil) rfl) ⟨a13, c14, rfl, rfl, ht15⟩ (H.sel' [2] rfl rfl)

theorem c_laws_toItemS {a_0 : List (Int × (List Int) × Int)} {aa_0 : Option Addr} {ca_0 : Nat} {r : (List (Int × (List Int) × Int))} (h : M.dItemS a_0 = some r) :
    Cal2 Try.prog 30 [(Sl aa_0 a_0 ca_0)] [Ch.ro 0 (Sl aa_0 a_0 ca_0) a_0] (fun n0 v L => ∃ (az1 : Option Addr), ∃ (cz2 : Nat), ∃ (K : List Ch), v = (Sl az1 r cz2) ∧ L = [Ch.big K] ∧ Dp n0 (Sl az1 r cz2) r K) := by
 obtain ⟨hn, hx, rfl⟩ := dItemS_some h
 clear h
 refine cal2 (n := 23) Try.func30 rfl rfl rfl rfl ?_
 intro S0 σ0 n0 hn0 H
 refine c_seq ?_
 refine rg ?_
 refine st (v := (.slice none 0 0)) (rv_assign rfl) ?_
 refine w_end ?_
 refine q_then ?_
 refine c_seq ?_
 refine rg ?_
 refine st (v := (Sl aa_0 r ca_0)) (rv_move rfl) ?_
 refine st (v := (I (r.length : Int))) (rv_len Try.underlying49 rfl) ?_
 refine st_ex (ex_make (el := n0) (z0 := ((0, (.slice none 0 0), 0) : Int × Value × Int)) (zs := [(I 0), (.slice none 0 0), (I 0)]) H hn0 Try.underlying23 ti32 rfl rfl (⟨[(I 0)], [(.slice none 0 0), (I 0)], rfl, rfl, ⟨[(.slice none 0 0)], [(I 0)], rfl, ⟨rfl, rfl⟩, rfl⟩⟩) (by decide) (gmake_nat _ _ hn) rfl rfl) (wanted_none _ rfl _) ?_
 rintro _ σ6 ⟨b3, c4, rfl, ht5, H, -⟩
 rw [show (Sl (some ⟨b3, 0, none⟩) (List.replicate r.length ((0, (.slice none 0 0), 0) : Int × Value × Int)) c4) = (Sl (some ⟨b3, 0, none⟩) r c4) from sl_len (by simp)] at H ⊢
 refine st (v := (Sl (some ⟨b3, 0, none⟩) r c4)) (rv_assign rfl) ?_
 refine w_end ?_
 refine q_then ?_
 refine c_seq ?_
 refine c_seq ?_
 refine rg ?_
 refine st (v := (I 0)) (rv_assign rfl) ?_
 refine w_end ?_
 refine q_then ?_
 refine c_cut (fun e a w => e = .normal ∧ ∃ (ρ : Nat → Value) (σ : St) (ps : List ((Int × (List Int) × Int) × Value)), a = fr 23 (updL ρ [(3, (Sl (some ⟨b3, 0, none⟩) r c4))]) ∧ w = σ.w ∧ ps.map (·.1) = r ∧ Hp S0 σ0 σ [Ch.own n0 n0 (Sl (some ⟨b3, 0, none⟩) r c4) (ps.map dsh), Ch.big (ps.map (dow n0))]) ?_ ?_
 ·refine c_blk ?_
  refine wp_loop_ghost (fun k a w => ∃ (i : Nat) (ρ : Nat → Value) (σ : St) (ps : List ((Int × (List Int) × Int) × Value)), i + k = r.length ∧ ps.length = i ∧ ps.map (·.1) = r.take i ∧ a = fr 23 (updL ρ [(0, (Sl aa_0 r ca_0)), (3, (Sl (some ⟨b3, 0, none⟩) r c4)), (4, (I (i : Int)))]) ∧ w = σ.w ∧ Hp S0 σ0 σ [Ch.own n0 n0 (Sl (some ⟨b3, 0, none⟩) r c4) (ps.map dsh ++ List.replicate k ((0, (.slice none 0 0), 0) : Int × Value × Int)), Ch.ro 0 (Sl aa_0 r ca_0) r, Ch.big (ps.map (dow n0))]) r.length ⟨0, _, σ6, [], by omega, rfl, rfl, fr_join ⟨rfl, rfl, rfl, trivial⟩, rfl, H.bigNil.sel' [1, 2, 0] rfl rfl⟩ ?_
  clear H
  rintro k _ _ ⟨i, ρ, σ9, ps, hik, hps, hpr, rfl, rfl, H⟩
  refine c_seq ?_
  refine c_seq ?_
  refine rg ?_
  refine st (v := (I (i : Int))) (rv_move rfl) ?_
  refine st (v := (Sl aa_0 r ca_0)) (rv_move rfl) ?_
  refine st (v := (I (r.length : Int))) (rv_len Try.underlying49 rfl) ?_
  refine st (v := (B (decide ((i : Int) < (r.length : Int))))) (rv_lss (a := (i : Int)) (b := (r.length : Int)) rfl rfl) ?_
  refine w_end ?_
  refine q_then ?_
  refine cd_cond (decide ((i : Int) < (r.length : Int))) rfl (fun hb => ?_) (fun hb => ?_)
  ·have hlt : i < r.length := by have := of_decide_eq_true hb; omega
   obtain ⟨m, rfl⟩ : ∃ m, k = m + 1 := ⟨k - 1, by omega⟩
   refine c_skip ?_
   refine q_then ?_
   refine c_seq ?_
   refine c_blk ?_
   refine rg ?_
   refine st (v := (Sl (some ⟨b3, 0, none⟩) r c4)) (rv_move rfl) ?_
   refine st (v := (I (i : Int))) (rv_move rfl) ?_
   refine st (v := (Sl aa_0 r ca_0)) (rv_move rfl) ?_
   refine st (v := (I (i : Int))) (rv_move rfl) ?_
   have hx14 : gidx r (i : Int) = some r[i] := gidx_at hlt
   have hx24 := hx _ (List.getElem_mem hlt)
   have hpt : (ps.map (·.1)) ++ [r[i]] = r.take (i + 1) := by rw [hpr, List.take_succ_eq_append_getElem hlt]
   generalize r[i] = x13 at hx14 hx24 hpt
   obtain ⟨b16, o17, hi15, -⟩ := (H.ro 1 rfl).ix hx14
   refine st (v := (pt b16 o17)) (rv_ix Try.underlying49 ti84 rfl rfl hi15) ?_
   obtain ⟨_, ⟨_, _, rfl, rfl, ⟨_, _, rfl, ⟨_, rfl, hR22⟩, rfl⟩⟩, hl18, hc19⟩ := ((H.ro 1 rfl).at hx14 hi15).cells
   obtain ⟨a20, c21, rfl⟩ := hR22.isSl
   replace H := H.add (d := Ch.ro 0 (Sl a20 x13.2.1 c21) x13.2.1) hR22 (fun _ h => h)
   clear hR22
   refine st (v := (.agg #[(I x13.1), (Sl a20 x13.2.1 c21), (I x13.2.2)])) (rv_load Try.underlying84 rfl ti84 rfl hl18 hc19) ?_
   have hc25 := c_laws_toItem (aa_0_1 := a20) (ca_0_1 := c21) hx24
   refine st_call (cx_call hc25 (ent_f hc25.fn rfl) hn0 (H.sel' [0, 1, 2, 3] rfl rfl : Hp S0 σ0 _ ([_] ++ _))) (wanted_none _ rfl _) ?_
   rintro _ σ29 ⟨_, ⟨a26, c27, rfl, rfl, ht28⟩, H, -⟩
   replace H : Hp S0 σ0 σ29 [Ch.own n0 n0 (Sl a26 x13.2.1 c27) x13.2.1, Ch.own n0 n0 (Sl (some ⟨b3, 0, none⟩) r c4) (ps.map dsh ++ List.replicate (m + 1) ((0, (.slice none 0 0), 0) : Int × Value × Int)), Ch.ro 0 (Sl aa_0 r ca_0) r, Ch.big (ps.map (dow n0))] := H
   have hx31 := gidx_step (ps.map dsh) ((0, (.slice none 0 0), 0) : Int × Value × Int) m (i : Int) (by simp [hps])
   obtain ⟨b33, o34, hi32, -⟩ := (H.own 1 rfl).ix hx31
   refine st (v := (pt b33 o34)) (rv_ix Try.underlying23 ti32 rfl rfl hi32) ?_
   refine st_exS (ex_store_own (e' := ((x13.1, (Sl a26 x13.2.1 c27), x13.2.2) : Int × Value × Int)) (vs := [(I x13.1), (Sl a26 x13.2.1 c27), (I x13.2.2)]) (k := 0) H (i := 1) rfl ti32 hx31 hi32 rfl rfl rfl rfl rfl (Nat.le_of_ble_eq_true rfl) (by simp [plain]) (by rintro _ ⟨_, _, rfl, rfl, ⟨_, _, rfl, ⟨rfl, -⟩, rfl⟩⟩; exact ⟨[(I x13.1)], [(Sl a26 x13.2.1 c27), (I x13.2.2)], rfl, rfl, ⟨[(Sl a26 x13.2.1 c27)], [(I x13.2.2)], rfl, ⟨rfl, rfl⟩, rfl⟩⟩)) (wanted_none _ rfl _) ?_
   rintro σ40 ⟨H, -⟩
   refine w_end ?_
   refine q_blk ?_
   refine q_then ?_
   refine rg ?_
   refine st (v := (I (i : Int))) (rv_move rfl) ?_
   refine st (v := (I (w64 ((i : Int) + 1)))) (rv_add (a := (i : Int)) (b := 1) rfl rfl) ?_
   refine st (v := (I (w64 ((i : Int) + 1)))) (rv_assign rfl) ?_
   refine w_end ?_
   have e1 : w64 ((i : Int) + 1) = ((i + 1 : Nat) : Int) := w64_id (by omega) (by omega)
   rw [e1]
   refine q_then ?_
   have hset := set_step (ps.map dsh) ((0, (.slice none 0 0), 0) : Int × Value × Int) (x13.1, (Sl a26 x13.2.1 c27), x13.2.2) m
   rw [List.length_map, hps] at hset
   refine ⟨m, by omega, i + 1, _, σ40, ps ++ [(x13, (Sl a26 x13.2.1 c27))], by omega, by simp [hps], by simpa using hpt, fr_join ⟨rfl, rfl, rfl, trivial⟩, rfl, ?_⟩
   replace H := Hp.bigSnoc (H.sel' [1, 3, 0, 2] rfl rfl)
   replace H := H.sel' [1, 2, 0] rfl rfl
   simp only [Int.toNat_natCast, hset] at H
   rw [List.map_append, List.map_append]
   exact H
  ·have hlt : ¬ i < r.length := by have := of_decide_eq_false hb; omega
   obtain rfl : k = 0 := by omega
   obtain rfl : i = r.length := by omega
   refine c_exit ?_
   refine q_then_x ?_
   refine q_then_x ?_
   refine q_blk_hit ?_
   rw [List.take_length] at hpr
   simp only [List.replicate_zero, List.append_nil] at H
   exact ⟨rfl, _, σ9, ps, fr_join ⟨rfl, trivial⟩, rfl, hpr, H.sel' [0, 2] rfl rfl⟩
 ·clear H
  rintro e a w ⟨rfl, ρ, σ41, ps, rfl, rfl, hps, H⟩
  refine q_then ?_
  refine c_seq ?_
  refine rg ?_
  refine st (v := (Sl (some ⟨b3, 0, none⟩) r c4)) (rv_move rfl) ?_
  refine st (v := (Sl (some ⟨b3, 0, none⟩) r c4)) (rv_assign rfl) ?_
  refine w_end ?_
  refine q_then ?_
  refine c_ret ?_
  exact fin_ret (v := (Sl (some ⟨b3, 0, none⟩) r c4)) (results_ok Try.results30 (res_tmp (v := (Sl (some ⟨b3, 0, none⟩) r c4)) rfl res_nil) rfl) ⟨(some ⟨b3, 0, none⟩), c4, _, rfl, rfl, ⟨ps, hps.symm, rfl⟩⟩ H.bigCons


theorem c_laws_toFilter {a_0 : Int × Int × Int}  {r : (Int × Int × Int)} (h : M.laws_toFilter a_0 = some r) :
    Cal2 Try.prog 31 [(.agg #[(I a_0.1), (I a_0.2.1), (I a_0.2.2)])] [] (fun n0 v L => v = (.agg #[(I r.1), (I r.2.1), (I r.2.2)]) ∧ L = []) := by
 refine cal2 (n := 14) Try.func31 rfl rfl rfl rfl ?_
 intro S0 σ0 n0 hn0 H
 unfold M.laws_toFilter at h
 refine c_seq ?_
 refine rg ?_
 refine st_ex (ex_box (cs := [(I a_0.1), (I a_0.2.1), (I a_0.2.2)]) H hn0 rfl rfl) wn ?_
 rintro _ σ2 ⟨b1, rfl, H, -⟩
 refine st_ex (ex_alloc (cs := [(I 0), (I 0), (I 0)]) H hn0 ti38 rfl) wn ?_
 rintro _ σ4 ⟨b3, rfl, H, -⟩
 refine w_end ?_
 refine q_then ?_
 refine c_seq ?_
 refine rg ?_
 refine st_ex (ex_alloc (cs := [(I 0), (I 0), (I 0)]) H hn0 ti38 rfl) wn ?_
 rintro _ σ6 ⟨b5, rfl, H, -⟩
 refine w_end ?_
 refine q_then ?_
 refine c_seq ?_
 refine rg ?_
 refine st (v := (pt b1 0)) (rv_fieldAddr (off := 0) (ft := 3) Try.underlying50 rfl ti3 rfl rfl) ?_
 have hc7 := H.cell (u := (I a_0.1)) (o' := 0) 2 0 rfl rfl rfl
 refine st (v := (I a_0.1)) (rv_load1 Try.underlying3 rfl rfl hc7) ?_
 refine st (v := (pt b5 0)) (rv_fieldAddr (off := 0) (ft := 3) Try.underlying38 rfl ti3 rfl rfl) ?_
 refine st_exS (ex_store_box (k := 0) (cs := [(I 0), (I 0), (I 0)]) (vs := [(I a_0.1)]) (cs' := [(I a_0.1), (I 0), (I 0)]) H (i := 0) rfl ti3 rfl rfl rfl rfl rfl (Nat.le_of_ble_eq_true rfl) (by simp [plain]) rfl) wn ?_
 rintro σ8 ⟨H, -⟩
 refine w_end ?_
 refine q_then ?_
 refine c_seq ?_
 refine rg ?_
 refine st (v := (pt b1 1)) (rv_fieldAddr (off := 1) (ft := 3) Try.underlying50 rfl ti3 rfl rfl) ?_
 have hc9 := H.cell (u := (I a_0.2.1)) (o' := 1) 2 1 rfl rfl rfl
 refine st (v := (I a_0.2.1)) (rv_load1 Try.underlying3 rfl rfl hc9) ?_
 refine st (v := (pt b5 1)) (rv_fieldAddr (off := 1) (ft := 3) Try.underlying38 rfl ti3 rfl rfl) ?_
 refine st_exS (ex_store_box (k := 1) (cs := [(I a_0.1), (I 0), (I 0)]) (vs := [(I a_0.2.1)]) (cs' := [(I a_0.1), (I a_0.2.1), (I 0)]) H (i := 0) rfl ti3 rfl rfl rfl rfl rfl (Nat.le_of_ble_eq_true rfl) (by simp [plain]) rfl) wn ?_
 rintro σ10 ⟨H, -⟩
 refine w_end ?_
 refine q_then ?_
 refine c_seq ?_
 refine rg ?_
 refine st (v := (pt b1 2)) (rv_fieldAddr (off := 2) (ft := 3) Try.underlying50 rfl ti3 rfl rfl) ?_
 have hc11 := H.cell (u := (I a_0.2.2)) (o' := 2) 2 2 rfl rfl rfl
 refine st (v := (I a_0.2.2)) (rv_load1 Try.underlying3 rfl rfl hc11) ?_
 refine st (v := (pt b5 2)) (rv_fieldAddr (off := 2) (ft := 3) Try.underlying38 rfl ti3 rfl rfl) ?_
 refine st_exS (ex_store_box (k := 2) (cs := [(I a_0.1), (I a_0.2.1), (I 0)]) (vs := [(I a_0.2.2)]) (cs' := [(I a_0.1), (I a_0.2.1), (I a_0.2.2)]) H (i := 0) rfl ti3 rfl rfl rfl rfl rfl (Nat.le_of_ble_eq_true rfl) (by simp [plain]) rfl) wn ?_
 rintro σ12 ⟨H, -⟩
 refine w_end ?_
 refine q_then ?_
 refine c_seq ?_
 refine rg ?_
 have hc13 := H.cells 0 rfl
 refine st (v := (.agg #[(I a_0.1), (I a_0.2.1), (I a_0.2.2)])) (rv_load (cs := [(I a_0.1), (I a_0.2.1), (I a_0.2.2)]) Try.underlying38 rfl ti38 rfl rfl hc13) ?_
 refine st_exS (ex_store_box (k := 0) (cs := [(I 0), (I 0), (I 0)]) (vs := [(I a_0.1), (I a_0.2.1), (I a_0.2.2)]) (cs' := [(I a_0.1), (I a_0.2.1), (I a_0.2.2)]) H (i := 1) rfl ti38 rfl rfl rfl rfl rfl (Nat.le_of_ble_eq_true rfl) (by simp [plain]) rfl) wn ?_
 rintro σ14 ⟨H, -⟩
 refine w_end ?_
 refine q_then ?_
 refine c_ret ?_
 obtain rfl := Option.some.inj h
 exact fin_ret (v := (.agg #[(I a_0.1), (I a_0.2.1), (I a_0.2.2)])) (results_ok Try.results31 (res_cell rfl (run_cellRes (cs := [(I a_0.1), (I a_0.2.1), (I a_0.2.2)]) Try.underlying38 rfl ti38 rfl (H.cells 0 rfl)) res_nil) rfl) ⟨rfl, rfl⟩ (H.sel' [] rfl rfl)

theorem c_laws_eqIntS {a_0 : List Int} {b_1 : List Int} {aa_0 : Option Addr} {ca_0 : Nat} {ab_1 : Option Addr} {cb_1 : Nat} {r : Bool} (h : M.laws_eqIntS a_0 b_1 = some r) :
    Cal2 Try.prog 39 [(Sl aa_0 a_0 ca_0), (Sl ab_1 b_1 cb_1)] [Ch.ro 0 (Sl aa_0 a_0 ca_0) a_0, Ch.ro 0 (Sl ab_1 b_1 cb_1) b_1] (fun n0 v L => v = (B r) ∧ L = []) := by
 refine cal2 (n := 26) Try.func39 rfl rfl rfl rfl ?_
 intro S0 σ0 n0 hn0 H
 unfold M.laws_eqIntS at h
 refine c_seq ?_
 refine rg ?_
 refine st (v := (B false)) (rv_assign rfl) ?_
 refine w_end ?_
 refine q_then ?_
 refine c_seq ?_
 refine c_seq ?_
 refine rg ?_
 refine st (v := (Sl aa_0 a_0 ca_0)) (rv_move rfl) ?_
 refine st (v := (I (a_0.length : Int))) (rv_len Try.underlying30 rfl) ?_
 refine st (v := (Sl ab_1 b_1 cb_1)) (rv_move rfl) ?_
 refine st (v := (I (b_1.length : Int))) (rv_len Try.underlying30 rfl) ?_
 refine st (v := (B ((a_0.length : Int) != (b_1.length : Int)))) (rv_neq (a := (a_0.length : Int)) (b := (b_1.length : Int)) rfl rfl) ?_
 refine w_end ?_
 refine q_then ?_
 refine cd_cond ((a_0.length : Int) != (b_1.length : Int)) rfl (fun hb1 => ?_) (fun hb1 => ?_)
 ·replace h := bif_t hb1 h
  refine c_seq ?_
  refine rg ?_
  refine st (v := (B false)) (rv_assign rfl) ?_
  refine w_end ?_
  refine q_then ?_
  refine c_ret ?_
  refine q_then_r ?_
  obtain rfl := Option.some.inj h
  exact fin_ret (v := (B false)) (results_ok Try.results39 (res_tmp (v := (B false)) rfl res_nil) rfl) ⟨rfl, rfl⟩ (H.sel' [] rfl rfl)
 ·replace h := bif_f hb1 h
  refine c_skip ?_
  refine q_then ?_
  refine c_seq ?_
  refine c_seq ?_
  refine rg ?_
  refine st (v := (I 0)) (rv_assign rfl) ?_
  refine w_end ?_
  refine q_then ?_
  obtain ⟨o2, hj, h'⟩ := bind_some h
  clear h
  refine c_cut (fun e a w => (∃ t, o2 = (.inl t) ∧ e = .normal ∧ ∃ (ρ : Nat → Value) (σ : St), a = fr 26 (updL ρ []) ∧ w = σ.w ∧ Hp S0 σ0 σ []) ∨ (∃ t, o2 = (.inr t) ∧ e = .ret ∧ ∃ (ρ : Nat → Value) (σ : St), a = fr 26 (updL ρ [(4, (B t))]) ∧ w = σ.w ∧ Hp S0 σ0 σ [])) ?_ ?_
  ·clear h'
   rename _ = some o2 => h
   refine c_blk ?_
   refine wp_loopM _ h (fun s3 a w => ∃ (ρ : Nat → Value) (σ : St), a = fr 26 (updL ρ [(0, (Sl aa_0 a_0 ca_0)), (1, (Sl ab_1 b_1 cb_1)), (5, (I s3))]) ∧ w = σ.w ∧ Hp S0 σ0 σ [Ch.ro 0 (Sl aa_0 a_0 ca_0) a_0, Ch.ro 0 (Sl ab_1 b_1 cb_1) b_1]) ⟨_, σ0, fr_join ⟨rfl, rfl, rfl, trivial⟩, rfl, H.sel' [0, 1] rfl rfl⟩ ?_
   clear h H
   rintro s3 a w o ⟨ρ, σ4, rfl, rfl, H⟩ h hres
   refine c_seq ?_
   refine c_seq ?_
   refine rg ?_
   refine st (v := (I s3)) (rv_move rfl) ?_
   refine st (v := (Sl aa_0 a_0 ca_0)) (rv_move rfl) ?_
   refine st (v := (I (a_0.length : Int))) (rv_len Try.underlying30 rfl) ?_
   refine st (v := (B (decide (s3 < (a_0.length : Int))))) (rv_lss (a := s3) (b := (a_0.length : Int)) rfl rfl) ?_
   refine w_end ?_
   refine q_then ?_
   refine cd_cond (decide (s3 < (a_0.length : Int))) rfl (fun hb5 => ?_) (fun hb5 => ?_)
   ·replace h := bif_t hb5 h
    refine c_skip ?_
    refine q_then ?_
    refine c_seq ?_
    refine c_blk ?_
    refine c_seq ?_
    refine rgP (σ := σ4) 8 (by kernel_rfl) (by kernel_rfl) (by kernel_rfl) ?_
    refine sq (v := (Sl aa_0 a_0 ca_0)) (rv_move rfl) ?_
    refine sq (v := (I s3)) (rv_move rfl) ?_
    obtain ⟨x6, hx7, h'⟩ := bind_some h
    clear h
    have h := h'; clear h'
    obtain ⟨b9, o10, hi8, -⟩ := (H.ro 0 rfl).ix hx7
    refine sq (v := (pt b9 o10)) (rv_ix Try.underlying30 ti3 rfl rfl hi8) ?_
    have hc11 := ((H.ro 0 rfl).at hx7 hi8).int
    refine sq (v := (I x6)) (rv_load1 Try.underlying3 rfl rfl hc11) ?_
    refine sq (v := (Sl ab_1 b_1 cb_1)) (rv_move rfl) ?_
    refine sq (v := (I s3)) (rv_move rfl) ?_
    obtain ⟨x12, hx13, h'⟩ := bind_some h
    clear h
    have h := h'; clear h'
    obtain ⟨b15, o16, hi14, -⟩ := (H.ro 1 rfl).ix hx13
    refine sq (v := (pt b15 o16)) (rv_ix Try.underlying30 ti3 rfl rfl hi14) ?_
    have hc17 := ((H.ro 1 rfl).at hx13 hi14).int
    refine sq (v := (I x12)) (rv_load1 Try.underlying3 rfl rfl hc17) ?_
    refine sq_end ?_
    intro σ18 hm19
    replace H := H.grow (hm19.mono fun _ h => h); clear hm19
    refine st (v := (B (x6 != x12))) (rv_neq (a := x6) (b := x12) rfl rfl) ?_
    refine w_end ?_
    refine q_then ?_
    refine cd_cond (x6 != x12) rfl (fun hb20 => ?_) (fun hb20 => ?_)
    ·replace h := bif_t hb20 h
     refine c_seq ?_
     refine rg ?_
     refine st (v := (B false)) (rv_assign rfl) ?_
     refine w_end ?_
     refine q_then ?_
     refine c_ret ?_
     refine q_blk_r ?_
     refine q_then_r ?_
     refine q_then_r ?_
     refine q_blk_r ?_
     obtain rfl := Option.some.inj h
     obtain rfl := hres _ rfl
     exact .inr (⟨_, rfl, rfl, _, σ18, fr_join ⟨rfl, trivial⟩, rfl, H.sel' [] rfl rfl⟩)
    ·replace h := bif_f hb20 h
     refine c_skip ?_
     refine q_blk ?_
     refine q_then ?_
     refine rg ?_
     refine st (v := (I s3)) (rv_move rfl) ?_
     refine st (v := (I (w64 (s3 + 1)))) (rv_add (a := s3) (b := 1) rfl rfl) ?_
     refine st (v := (I (w64 (s3 + 1)))) (rv_assign rfl) ?_
     refine w_end ?_
     refine q_then ?_
     obtain rfl := Option.some.inj h
     exact ⟨_, rfl, _, σ18, fr_join ⟨rfl, rfl, rfl, trivial⟩, rfl, H.sel' [0, 1] rfl rfl⟩
   ·replace h := bif_f hb5 h
    refine c_exit ?_
    refine q_then_x ?_
    refine q_then_x ?_
    refine q_blk_hit ?_
    obtain rfl := Option.some.inj h
    obtain rfl := hres _ rfl
    exact .inl ⟨_, rfl, rfl, _, σ4, fr_join trivial, rfl, H.sel' [] rfl rfl⟩
  ·clear hj
   have h := h'
   clear h' H
   rintro e a w (⟨t21, rfl, rfl, ρ, σ22, rfl, rfl, H⟩ | ⟨t23, rfl, rfl, ρ, σ24, rfl, rfl, H⟩)
   ·replace h := selim_l h
    refine q_then ?_
    refine c_seq ?_
    refine rg ?_
    refine st (v := (B true)) (rv_assign rfl) ?_
    refine w_end ?_
    refine q_then ?_
    refine c_ret ?_
    obtain rfl := Option.some.inj h
    exact fin_ret (v := (B true)) (results_ok Try.results39 (res_tmp (v := (B true)) rfl res_nil) rfl) ⟨rfl, rfl⟩ (H.sel' [] rfl rfl)
   ·replace h := selim_r h
    refine q_then_r ?_
    obtain rfl := Option.some.inj h
    exact fin_ret (v := (B t23)) (results_ok Try.results39 (res_tmp (v := (B t23)) rfl res_nil) rfl) ⟨rfl, rfl⟩ (H.sel' [] rfl rfl)

theorem c_laws_eqItem {a_0 : Int × (List Int) × Int} {b_1 : Int × (List Int) × Int} {aa_0_1 : Option Addr} {ca_0_1 : Nat} {ab_1_1 : Option Addr} {cb_1_1 : Nat} {r : Bool} (h : M.laws_eqItem a_0 b_1 = some r) :
    Cal2 Try.prog 71 [(.agg #[(I a_0.1), (Sl aa_0_1 a_0.2.1 ca_0_1), (I a_0.2.2)]), (.agg #[(I b_1.1), (Sl ab_1_1 b_1.2.1 cb_1_1), (I b_1.2.2)])] [Ch.ro 0 (Sl aa_0_1 a_0.2.1 ca_0_1) a_0.2.1, Ch.ro 0 (Sl ab_1_1 b_1.2.1 cb_1_1) b_1.2.1] (fun n0 v L => v = (B r) ∧ L = []) := by
 refine cal2 (n := 21) Try.func71 rfl rfl rfl rfl ?_
 intro S0 σ0 n0 hn0 H
 unfold M.laws_eqItem at h
 refine c_seq ?_
 refine rg ?_
 refine st_ex (ex_box (cs := [(I a_0.1), (Sl aa_0_1 a_0.2.1 ca_0_1), (I a_0.2.2)]) H hn0 rfl rfl) wn ?_
 rintro _ σ2 ⟨b1, rfl, H, -⟩
 refine st_ex (ex_box (cs := [(I b_1.1), (Sl ab_1_1 b_1.2.1 cb_1_1), (I b_1.2.2)]) H hn0 rfl rfl) wn ?_
 rintro _ σ4 ⟨b3, rfl, H, -⟩
 refine st (v := (B false)) (rv_assign rfl) ?_
 refine w_end ?_
 refine q_then ?_
 refine c_seq ?_
 refine c_seq ?_
 refine rg ?_
 refine st (v := (pt b1 0)) (rv_fieldAddr (off := 0) (ft := 3) Try.underlying32 rfl ti3 rfl rfl) ?_
 have hc5 := H.cell (u := (I a_0.1)) (o' := 0) 1 0 rfl rfl rfl
 refine st (v := (I a_0.1)) (rv_load1 Try.underlying3 rfl rfl hc5) ?_
 refine st (v := (pt b3 0)) (rv_fieldAddr (off := 0) (ft := 3) Try.underlying32 rfl ti3 rfl rfl) ?_
 have hc6 := H.cell (u := (I b_1.1)) (o' := 0) 0 0 rfl rfl rfl
 refine st (v := (I b_1.1)) (rv_load1 Try.underlying3 rfl rfl hc6) ?_
 refine st (v := (B (a_0.1 != b_1.1))) (rv_neq (a := a_0.1) (b := b_1.1) rfl rfl) ?_
 refine w_end ?_
 refine q_then ?_
 refine cd_cond (a_0.1 != b_1.1) rfl (fun hb7 => ?_) (fun hb7 => ?_)
 ·replace h := bif_t hb7 h
  refine c_seq ?_
  refine rg ?_
  refine st (v := (B false)) (rv_assign rfl) ?_
  refine w_end ?_
  refine q_then ?_
  refine c_ret ?_
  refine q_then_r ?_
  obtain rfl := Option.some.inj h
  exact fin_ret (v := (B false)) (results_ok Try.results71 (res_tmp (v := (B false)) rfl res_nil) rfl) ⟨rfl, rfl⟩ (H.sel' [] rfl rfl)
 ·replace h := bif_f hb7 h
  refine c_skip ?_
  refine q_then ?_
  refine c_seq ?_
  refine c_seq ?_
  refine rg ?_
  refine st (v := (pt b1 1)) (rv_fieldAddr (off := 1) (ft := 30) Try.underlying32 rfl ti30 rfl rfl) ?_
  have hc8 := H.cell (u := (Sl aa_0_1 a_0.2.1 ca_0_1)) (o' := 1) 1 1 rfl rfl rfl
  refine st (v := (Sl aa_0_1 a_0.2.1 ca_0_1)) (rv_load1 Try.underlying30 rfl rfl hc8) ?_
  refine st (v := (pt b3 1)) (rv_fieldAddr (off := 1) (ft := 30) Try.underlying32 rfl ti30 rfl rfl) ?_
  have hc9 := H.cell (u := (Sl ab_1_1 b_1.2.1 cb_1_1)) (o' := 1) 0 1 rfl rfl rfl
  refine st (v := (Sl ab_1_1 b_1.2.1 cb_1_1)) (rv_load1 Try.underlying30 rfl rfl hc9) ?_
  obtain ⟨r10, hx11, h'⟩ := bind_some h
  clear h
  have h := h'; clear h'
  have hc12 := c_laws_eqIntS (aa_0 := aa_0_1) (ca_0 := ca_0_1) (ab_1 := ab_1_1) (cb_1 := cb_1_1) hx11
  refine st_call (cx_call hc12 (ent_f hc12.fn rfl) hn0 (show Hp S0 σ0 _ ([Ch.ro 0 (Sl aa_0_1 a_0.2.1 ca_0_1) a_0.2.1, Ch.ro 0 (Sl ab_1_1 b_1.2.1 cb_1_1) b_1.2.1] ++ [Ch.bx n0 b3 0 [(I b_1.1), (Sl ab_1_1 b_1.2.1 cb_1_1), (I b_1.2.2)] [] [], Ch.bx n0 b1 0 [(I a_0.1), (Sl aa_0_1 a_0.2.1 ca_0_1), (I a_0.2.2)] [] [], Ch.ro 0 (Sl aa_0_1 a_0.2.1 ca_0_1) a_0.2.1, Ch.ro 0 (Sl ab_1_1 b_1.2.1 cb_1_1) b_1.2.1]) from (H.sel' [2, 3, 0, 1, 2, 3] rfl rfl))) wn ?_
  rintro _ σ13 ⟨_, ⟨rfl, rfl⟩, H, -⟩
  replace H : Hp S0 σ0 σ13 [Ch.bx n0 b3 0 [(I b_1.1), (Sl ab_1_1 b_1.2.1 cb_1_1), (I b_1.2.2)] [] [], Ch.bx n0 b1 0 [(I a_0.1), (Sl aa_0_1 a_0.2.1 ca_0_1), (I a_0.2.2)] [] [], Ch.ro 0 (Sl aa_0_1 a_0.2.1 ca_0_1) a_0.2.1, Ch.ro 0 (Sl ab_1_1 b_1.2.1 cb_1_1) b_1.2.1] := H
  refine st (v := (B (!r10))) (rv_not rfl) ?_
  refine w_end ?_
  refine q_then ?_
  refine cd_cond (!r10) rfl (fun hb14 => ?_) (fun hb14 => ?_)
  ·replace h := bif_t hb14 h
   refine c_seq ?_
   refine rg ?_
   refine st (v := (B false)) (rv_assign rfl) ?_
   refine w_end ?_
   refine q_then ?_
   refine c_ret ?_
   refine q_then_r ?_
   obtain rfl := Option.some.inj h
   exact fin_ret (v := (B false)) (results_ok Try.results71 (res_tmp (v := (B false)) rfl res_nil) rfl) ⟨rfl, rfl⟩ (H.sel' [] rfl rfl)
  ·replace h := bif_f hb14 h
   refine c_skip ?_
   refine q_then ?_
   refine c_seq ?_
   refine c_seq ?_
   refine rg ?_
   refine st (v := (pt b1 2)) (rv_fieldAddr (off := 2) (ft := 3) Try.underlying32 rfl ti3 rfl rfl) ?_
   have hc15 := H.cell (u := (I a_0.2.2)) (o' := 2) 1 2 rfl rfl rfl
   refine st (v := (I a_0.2.2)) (rv_load1 Try.underlying3 rfl rfl hc15) ?_
   refine st (v := (pt b3 2)) (rv_fieldAddr (off := 2) (ft := 3) Try.underlying32 rfl ti3 rfl rfl) ?_
   have hc16 := H.cell (u := (I b_1.2.2)) (o' := 2) 0 2 rfl rfl rfl
   refine st (v := (I b_1.2.2)) (rv_load1 Try.underlying3 rfl rfl hc16) ?_
   refine st (v := (B (a_0.2.2 != b_1.2.2))) (rv_neq (a := a_0.2.2) (b := b_1.2.2) rfl rfl) ?_
   refine w_end ?_
   refine q_then ?_
   refine cd_cond (a_0.2.2 != b_1.2.2) rfl (fun hb17 => ?_) (fun hb17 => ?_)
   ·replace h := bif_t hb17 h
    refine c_seq ?_
    refine rg ?_
    refine st (v := (B false)) (rv_assign rfl) ?_
    refine w_end ?_
    refine q_then ?_
    refine c_ret ?_
    refine q_then_r ?_
    obtain rfl := Option.some.inj h
    exact fin_ret (v := (B false)) (results_ok Try.results71 (res_tmp (v := (B false)) rfl res_nil) rfl) ⟨rfl, rfl⟩ (H.sel' [] rfl rfl)
   ·replace h := bif_f hb17 h
    refine c_skip ?_
    refine q_then ?_
    refine c_seq ?_
    refine rg ?_
    refine st (v := (B true)) (rv_assign rfl) ?_
    refine w_end ?_
    refine q_then ?_
    refine c_ret ?_
    obtain rfl := Option.some.inj h
    exact fin_ret (v := (B true)) (results_ok Try.results71 (res_tmp (v := (B true)) rfl res_nil) rfl) ⟨rfl, rfl⟩ (H.sel' [] rfl rfl)

theorem c_laws_eqItemS {a_0 : List (Int × (List Int) × Int)} {b_1 : List (Int × (List Int) × Int)} {aa_0 : Option Addr} {ca_0 : Nat} {ab_1 : Option Addr} {cb_1 : Nat} {r : Bool} (h : M.laws_eqItemS a_0 b_1 = some r) :
    Cal2 Try.prog 32 [(Sl aa_0 a_0 ca_0), (Sl ab_1 b_1 cb_1)] [Ch.ro 0 (Sl aa_0 a_0 ca_0) a_0, Ch.ro 0 (Sl ab_1 b_1 cb_1) b_1] (fun n0 v L => v = (B r) ∧ L = []) := by
 refine cal2 (n := 27) Try.func32 rfl rfl rfl rfl ?_
 intro S0 σ0 n0 hn0 H
 unfold M.laws_eqItemS at h
 refine c_seq ?_
 refine rg ?_
 refine st (v := (B false)) (rv_assign rfl) ?_
 refine w_end ?_
 refine q_then ?_
 refine c_seq ?_
 refine c_seq ?_
 refine rg ?_
 refine st (v := (Sl aa_0 a_0 ca_0)) (rv_move rfl) ?_
 refine st (v := (I (a_0.length : Int))) (rv_len Try.underlying23 rfl) ?_
 refine st (v := (Sl ab_1 b_1 cb_1)) (rv_move rfl) ?_
 refine st (v := (I (b_1.length : Int))) (rv_len Try.underlying23 rfl) ?_
 refine st (v := (B ((a_0.length : Int) != (b_1.length : Int)))) (rv_neq (a := (a_0.length : Int)) (b := (b_1.length : Int)) rfl rfl) ?_
 refine w_end ?_
 refine q_then ?_
 refine cd_cond ((a_0.length : Int) != (b_1.length : Int)) rfl (fun hb1 => ?_) (fun hb1 => ?_)
 ·replace h := bif_t hb1 h
  refine c_seq ?_
  refine rg ?_
  refine st (v := (B false)) (rv_assign rfl) ?_
  refine w_end ?_
  refine q_then ?_
  refine c_ret ?_
  refine q_then_r ?_
  obtain rfl := Option.some.inj h
  exact fin_ret (v := (B false)) (results_ok Try.results32 (res_tmp (v := (B false)) rfl res_nil) rfl) ⟨rfl, rfl⟩ (H.sel' [] rfl rfl)
 ·replace h := bif_f hb1 h
  refine c_skip ?_
  refine q_then ?_
  refine c_seq ?_
  refine c_seq ?_
  refine rg ?_
  refine st (v := (I 0)) (rv_assign rfl) ?_
  refine w_end ?_
  refine q_then ?_
  obtain ⟨o2, hj, h'⟩ := bind_some h
  clear h
  refine c_cut (fun e a w => (∃ t, o2 = (.inl t) ∧ e = .normal ∧ ∃ (ρ : Nat → Value) (σ : St), a = fr 27 (updL ρ []) ∧ w = σ.w ∧ Hp S0 σ0 σ []) ∨ (∃ t, o2 = (.inr t) ∧ e = .ret ∧ ∃ (ρ : Nat → Value) (σ : St), a = fr 27 (updL ρ [(4, (B t))]) ∧ w = σ.w ∧ Hp S0 σ0 σ [])) ?_ ?_
  ·clear h'
   rename _ = some o2 => h
   refine c_blk ?_
   refine wp_loopM _ h (fun s3 a w => ∃ (ρ : Nat → Value) (σ : St), a = fr 27 (updL ρ [(0, (Sl aa_0 a_0 ca_0)), (1, (Sl ab_1 b_1 cb_1)), (5, (I s3))]) ∧ w = σ.w ∧ Hp S0 σ0 σ [Ch.ro 0 (Sl aa_0 a_0 ca_0) a_0, Ch.ro 0 (Sl ab_1 b_1 cb_1) b_1]) ⟨_, σ0, fr_join ⟨rfl, rfl, rfl, trivial⟩, rfl, H.sel' [0, 1] rfl rfl⟩ ?_
   clear h H
   rintro s3 a w o ⟨ρ, σ4, rfl, rfl, H⟩ h hres
   refine c_seq ?_
   refine c_seq ?_
   refine rg ?_
   refine st (v := (I s3)) (rv_move rfl) ?_
   refine st (v := (Sl aa_0 a_0 ca_0)) (rv_move rfl) ?_
   refine st (v := (I (a_0.length : Int))) (rv_len Try.underlying23 rfl) ?_
   refine st (v := (B (decide (s3 < (a_0.length : Int))))) (rv_lss (a := s3) (b := (a_0.length : Int)) rfl rfl) ?_
   refine w_end ?_
   refine q_then ?_
   refine cd_cond (decide (s3 < (a_0.length : Int))) rfl (fun hb5 => ?_) (fun hb5 => ?_)
   ·replace h := bif_t hb5 h
    refine c_skip ?_
    refine q_then ?_
    refine c_seq ?_
    refine c_blk ?_
    refine c_seq ?_
    refine rgP (σ := σ4) 8 (by kernel_rfl) (by kernel_rfl) (by kernel_rfl) ?_
    refine sq (v := (Sl aa_0 a_0 ca_0)) (rv_move rfl) ?_
    refine sq (v := (I s3)) (rv_move rfl) ?_
    obtain ⟨x6, hx7, h'⟩ := bind_some h
    clear h
    have h := h'; clear h'
    obtain ⟨b9, o10, hi8, -⟩ := (H.ro 0 rfl).ix hx7
    refine sq (v := (pt b9 o10)) (rv_ix Try.underlying23 ti32 rfl rfl hi8) ?_
    obtain ⟨_, ⟨_, _, rfl, rfl, ⟨_, _, rfl, ⟨_, rfl, hR15⟩, rfl⟩⟩, hl11, hc12⟩ := ((H.ro 0 rfl).at hx7 hi8).cells
    obtain ⟨a13, c14, rfl⟩ := hR15.isSl
    replace H := H.add (d := Ch.ro 0 (Sl a13 x6.2.1 c14) x6.2.1) hR15 (fun _ h => h)
    clear hR15
    refine sq (v := (.agg #[(I x6.1), (Sl a13 x6.2.1 c14), (I x6.2.2)])) (rv_load Try.underlying32 rfl ti32 rfl hl11 hc12) ?_
    refine sq (v := (Sl ab_1 b_1 cb_1)) (rv_move rfl) ?_
    refine sq (v := (I s3)) (rv_move rfl) ?_
    obtain ⟨x16, hx17, h'⟩ := bind_some h
    clear h
    have h := h'; clear h'
    obtain ⟨b19, o20, hi18, -⟩ := (H.ro 2 rfl).ix hx17
    refine sq (v := (pt b19 o20)) (rv_ix Try.underlying23 ti32 rfl rfl hi18) ?_
    obtain ⟨_, ⟨_, _, rfl, rfl, ⟨_, _, rfl, ⟨_, rfl, hR25⟩, rfl⟩⟩, hl21, hc22⟩ := ((H.ro 2 rfl).at hx17 hi18).cells
    obtain ⟨a23, c24, rfl⟩ := hR25.isSl
    replace H := H.add (d := Ch.ro 0 (Sl a23 x16.2.1 c24) x16.2.1) hR25 (fun _ h => h)
    clear hR25
    refine sq (v := (.agg #[(I x16.1), (Sl a23 x16.2.1 c24), (I x16.2.2)])) (rv_load Try.underlying32 rfl ti32 rfl hl21 hc22) ?_
    refine sq_end ?_
    intro σ26 hm27
    replace H := H.grow (hm27.mono fun _ h => h); clear hm27
    obtain ⟨r28, hx29, h'⟩ := bind_some h
    clear h
    have h := h'; clear h'
    have hc30 := c_laws_eqItem (aa_0_1 := a13) (ca_0_1 := c14) (ab_1_1 := a23) (cb_1_1 := c24) hx29
    refine st_call (cx_call hc30 (ent_f hc30.fn rfl) hn0 (show Hp S0 σ0 _ ([Ch.ro 0 (Sl a13 x6.2.1 c14) x6.2.1, Ch.ro 0 (Sl a23 x16.2.1 c24) x16.2.1] ++ [Ch.ro 0 (Sl a23 x16.2.1 c24) x16.2.1, Ch.ro 0 (Sl a13 x6.2.1 c14) x6.2.1, Ch.ro 0 (Sl aa_0 a_0 ca_0) a_0, Ch.ro 0 (Sl ab_1 b_1 cb_1) b_1]) from (H.sel' [1, 0, 0, 1, 2, 3] rfl rfl))) wn ?_
    rintro _ σ31 ⟨_, ⟨rfl, rfl⟩, H, -⟩
    replace H : Hp S0 σ0 σ31 [Ch.ro 0 (Sl a23 x16.2.1 c24) x16.2.1, Ch.ro 0 (Sl a13 x6.2.1 c14) x6.2.1, Ch.ro 0 (Sl aa_0 a_0 ca_0) a_0, Ch.ro 0 (Sl ab_1 b_1 cb_1) b_1] := H
    refine st (v := (B (!r28))) (rv_not rfl) ?_
    refine w_end ?_
    refine q_then ?_
    refine cd_cond (!r28) rfl (fun hb32 => ?_) (fun hb32 => ?_)
    ·replace h := bif_t hb32 h
     refine c_seq ?_
     refine rg ?_
     refine st (v := (B false)) (rv_assign rfl) ?_
     refine w_end ?_
     refine q_then ?_
     refine c_ret ?_
     refine q_blk_r ?_
     refine q_then_r ?_
     refine q_then_r ?_
     refine q_blk_r ?_
     obtain rfl := Option.some.inj h
     obtain rfl := hres _ rfl
     exact .inr (⟨_, rfl, rfl, _, σ31, fr_join ⟨rfl, trivial⟩, rfl, H.sel' [] rfl rfl⟩)
    ·replace h := bif_f hb32 h
     refine c_skip ?_
     refine q_blk ?_
     refine q_then ?_
     refine rg ?_
     refine st (v := (I s3)) (rv_move rfl) ?_
     refine st (v := (I (w64 (s3 + 1)))) (rv_add (a := s3) (b := 1) rfl rfl) ?_
     refine st (v := (I (w64 (s3 + 1)))) (rv_assign rfl) ?_
     refine w_end ?_
     refine q_then ?_
     obtain rfl := Option.some.inj h
     exact ⟨_, rfl, _, σ31, fr_join ⟨rfl, rfl, rfl, trivial⟩, rfl, H.sel' [2, 3] rfl rfl⟩
   ·replace h := bif_f hb5 h
    refine c_exit ?_
    refine q_then_x ?_
    refine q_then_x ?_
    refine q_blk_hit ?_
    obtain rfl := Option.some.inj h
    obtain rfl := hres _ rfl
    exact .inl ⟨_, rfl, rfl, _, σ4, fr_join trivial, rfl, H.sel' [] rfl rfl⟩
  ·clear hj
   have h := h'
   clear h' H
   rintro e a w (⟨t33, rfl, rfl, ρ, σ34, rfl, rfl, H⟩ | ⟨t35, rfl, rfl, ρ, σ36, rfl, rfl, H⟩)
   ·replace h := selim_l h
    refine q_then ?_
    refine c_seq ?_
    refine rg ?_
    refine st (v := (B true)) (rv_assign rfl) ?_
    refine w_end ?_
    refine q_then ?_
    refine c_ret ?_
    obtain rfl := Option.some.inj h
    exact fin_ret (v := (B true)) (results_ok Try.results32 (res_tmp (v := (B true)) rfl res_nil) rfl) ⟨rfl, rfl⟩ (H.sel' [] rfl rfl)
   ·replace h := selim_r h
    refine q_then_r ?_
    obtain rfl := Option.some.inj h
    exact fin_ret (v := (B t35)) (results_ok Try.results32 (res_tmp (v := (B t35)) rfl res_nil) rfl) ⟨rfl, rfl⟩ (H.sel' [] rfl rfl)

theorem c_laws_markIntS {a_0 : List Int} {k_1 : Int} {aa_0 : Option Addr} {ca_0 : Nat} {r : Int × (List Int)} (h : M.laws_markIntS a_0 k_1 = some r) :
    Cal2 Try.prog 40 [(Sl aa_0 a_0 ca_0), (I k_1)] [Ch.own 0 0 (Sl aa_0 a_0 ca_0) a_0] (fun n0 v L => v = (I r.1) ∧ L = [Ch.own 0 0 (Sl aa_0 r.2 ca_0) r.2] ∧ r.2.length = a_0.length) := by
 refine cal2 (n := 19) Try.func40 rfl rfl rfl rfl ?_
 intro S0 σ0 n0 hn0 H
 unfold M.laws_markIntS at h
 refine c_seq ?_
 refine rg ?_
 refine st (v := (I 0)) (rv_assign rfl) ?_
 refine w_end ?_
 refine q_then ?_
 refine c_seq ?_
 refine c_seq ?_
 refine rg ?_
 refine st (v := (I 0)) (rv_assign rfl) ?_
 refine w_end ?_
 refine q_then ?_
 obtain ⟨o1, hj, h'⟩ := bind_some h
 clear h
 refine c_cut (fun e a w => e = .normal ∧ ∃ (ρ : Nat → Value) (σ : St), a = fr 19 (updL ρ [(0, (Sl aa_0 o1.1 ca_0)), (1, (I o1.2))]) ∧ w = σ.w ∧ Hp S0 σ0 σ [Ch.own 0 0 (Sl aa_0 o1.1 ca_0) o1.1] ∧ o1.1.length = a_0.length) ?_ ?_
 ·clear h'
  rename _ = some o1 => h
  refine c_blk ?_
  refine wp_loopM _ h (fun s2 a w => ∃ (ρ : Nat → Value) (σ : St), a = fr 19 (updL ρ [(0, (Sl aa_0 s2.1 ca_0)), (1, (I s2.2.1)), (5, (I s2.2.2))]) ∧ w = σ.w ∧ Hp S0 σ0 σ [Ch.own 0 0 (Sl aa_0 s2.1 ca_0) s2.1] ∧ s2.1.length = a_0.length) ⟨_, σ0, fr_join ⟨rfl, rfl, rfl, trivial⟩, rfl, H.sel' [0] rfl rfl, rfl⟩ ?_
  clear h H
  rintro s2 a w o ⟨ρ, σ3, rfl, rfl, H, hn4⟩ h hres
  refine c_seq ?_
  refine c_seq ?_
  refine rg ?_
  refine st (v := (I s2.2.2)) (rv_move rfl) ?_
  refine st (v := (Sl aa_0 s2.1 ca_0)) (rv_move rfl) ?_
  refine st (v := (I (s2.1.length : Int))) (rv_len Try.underlying30 rfl) ?_
  refine st (v := (B (decide (s2.2.2 < (s2.1.length : Int))))) (rv_lss (a := s2.2.2) (b := (s2.1.length : Int)) rfl rfl) ?_
  refine w_end ?_
  refine q_then ?_
  refine cd_cond (decide (s2.2.2 < (s2.1.length : Int))) rfl (fun hb5 => ?_) (fun hb5 => ?_)
  ·replace h := bif_t hb5 h
   refine c_skip ?_
   refine q_then ?_
   refine c_seq ?_
   refine c_blk ?_
   refine c_seq ?_
   refine rg ?_
   refine st (v := (Sl aa_0 s2.1 ca_0)) (rv_move rfl) ?_
   refine st (v := (I s2.2.2)) (rv_move rfl) ?_
   refine st (v := (I s2.2.1)) (rv_move rfl) ?_
   obtain ⟨x6, hx7, h'⟩ := bind_some h
   clear h
   have h := h'; clear h'
   obtain ⟨b9, o10, hi8, -⟩ := (H.own 0 rfl).ix hx7
   refine st (v := (pt b9 o10)) (rv_ix Try.underlying30 ti3 rfl rfl hi8) ?_
   refine st_exS (ex_store_own (e' := s2.2.1) (vs := [(I s2.2.1)]) (k := 0) H (i := 0) rfl ti3 hx7 hi8 rfl rfl rfl rfl rfl (Nat.le_of_ble_eq_true rfl) (by simp [plain]) (by rintro _ rfl; exact rfl)) wn ?_
   rintro σ11 ⟨H, -⟩
   have hsl : (Sl aa_0 s2.1 ca_0) = (Sl aa_0 (s2.1.set s2.2.2.toNat s2.2.1) ca_0) := sl_len List.length_set.symm
   rw [hsl]; rw [hsl] at H; clear hsl
   refine w_end ?_
   refine q_then ?_
   refine rg ?_
   refine st (v := (I s2.2.1)) (rv_move rfl) ?_
   refine st (v := (I (w64 (s2.2.1 + 1)))) (rv_add (a := s2.2.1) (b := 1) rfl rfl) ?_
   refine st (v := (I (w64 (s2.2.1 + 1)))) (rv_assign rfl) ?_
   refine w_end ?_
   refine q_blk ?_
   refine q_then ?_
   refine rg ?_
   refine st (v := (I s2.2.2)) (rv_move rfl) ?_
   refine st (v := (I (w64 (s2.2.2 + 1)))) (rv_add (a := s2.2.2) (b := 1) rfl rfl) ?_
   refine st (v := (I (w64 (s2.2.2 + 1)))) (rv_assign rfl) ?_
   refine w_end ?_
   refine q_then ?_
   obtain rfl := Option.some.inj h
   exact ⟨_, rfl, _, σ11, fr_join ⟨rfl, rfl, rfl, trivial⟩, rfl, H.sel' [0] rfl rfl, (List.length_set.trans hn4)⟩
  ·replace h := bif_f hb5 h
   refine c_exit ?_
   refine q_then_x ?_
   refine q_then_x ?_
   refine q_blk_hit ?_
   obtain rfl := Option.some.inj h
   obtain rfl := hres _ rfl
   exact ⟨rfl, _, σ3, fr_join ⟨rfl, rfl, trivial⟩, rfl, H.sel' [0] rfl rfl, hn4⟩
 ·clear hj
  have h := h'
  clear h' H
  rintro e a w ⟨rfl, ρ, σ12, rfl, rfl, H, hn13⟩
  refine q_then ?_
  refine c_seq ?_
  refine rg ?_
  refine st (v := (I o1.2)) (rv_move rfl) ?_
  refine st (v := (I o1.2)) (rv_assign rfl) ?_
  refine w_end ?_
  refine q_then ?_
  refine c_ret ?_
  obtain rfl := Option.some.inj h
  exact fin_ret (v := (I o1.2)) (results_ok Try.results40 (res_tmp (v := (I o1.2)) rfl res_nil) rfl) ⟨rfl, rfl, hn13⟩ (H.sel' [0] rfl rfl)

theorem c_laws_markItemS {a_0 : List (Int × (List Int) × Int)} {k_1 : Int} {aa_0 : Option Addr} {ca_0 : Nat} {lo : Nat} {K : List Ch} (hK : Dp lo (Sl aa_0 a_0 ca_0) a_0 K) {r : Int × List (Int × (List Int) × Int)} (h : M.markItemB a_0 k_1 = some r) :
    Cal2 Try.prog 33 [(Sl aa_0 a_0 ca_0), (I k_1)] [Ch.big K] (fun n0 v L => v = (I r.1) ∧ L = [Ch.ro 0 (Sl aa_0 r.2 ca_0) r.2] ∧ r.2.length = a_0.length) := by
 obtain ⟨hn, h⟩ := markItemB_some h
 obtain ⟨ps, hps, rfl⟩ := hK.ex
 refine cal2 (n := 34) Try.func33 rfl rfl rfl rfl ?_
 intro S0 σ0 n0 hn0 H
 refine c_seq ?_
 refine rg ?_
 refine st (v := (I 0)) (rv_assign rfl) ?_
 refine w_end ?_
 refine q_then ?_
 refine c_seq ?_
 refine c_seq ?_
 refine rg ?_
 refine st (v := (I 0)) (rv_assign rfl) ?_
 refine w_end ?_
 refine q_then ?_
 refine c_cut (fun e a w => e = .normal ∧ ∃ (ρ : Nat → Value) (σ : St) (ds : List ((Int × (List Int) × Int) × Value)), a = fr 34 (updL ρ [(1, (I r.1))]) ∧ w = σ.w ∧ ds.length = a_0.length ∧ ds.map (·.1) = r.2 ∧ Hp S0 σ0 σ [Ch.own lo lo (Sl aa_0 a_0 ca_0) (ds.map dsh), Ch.big (ds.map (dow 0))]) ?_ ?_
 ·refine c_blk ?_
  have hlen : ps.length = a_0.length := by rw [hps]; simp
  refine wp_loop_ghost (fun m a w => ∃ (i : Nat) (ρ : Nat → Value) (σ : St) (ds qs : List ((Int × (List Int) × Int) × Value)) (k : Int), i + m = a_0.length ∧ qs.length = m ∧ ds.length = i ∧ (∃ q, M.dmarkItemSB (qs.map (·.1)) k = some q ∧ r = (q.1, ds.map (·.1) ++ q.2)) ∧ a = fr 34 (updL ρ [(0, (Sl aa_0 a_0 ca_0)), (1, (I k)), (5, (I (i : Int)))]) ∧ w = σ.w ∧ Hp S0 σ0 σ [Ch.own lo lo (Sl aa_0 a_0 ca_0) (ds.map dsh ++ qs.map dsh), Ch.big (qs.map (dow lo)), Ch.big (ds.map (dow 0))]) a_0.length ⟨0, _, σ0, [], ps, k_1, by omega, hlen, rfl, ⟨r, hps ▸ h, rfl⟩, fr_join ⟨rfl, rfl, rfl, trivial⟩, rfl, H.unbig.bigNil.sel' [1, 2, 0] rfl rfl⟩ ?_
  clear H
  rintro m _ _ ⟨i, ρ, σ3, ds, qs, k, him, hqs, hds, ⟨q0, hk, hr⟩, rfl, rfl, H⟩
  have hdl : (ds.map (dsh : (Int × (List Int) × Int) × Value → Int × Value × Int)).length = i := by rw [List.length_map]; exact hds
  refine c_seq ?_
  refine c_seq ?_
  refine rg ?_
  refine st (v := (I (i : Int))) (rv_move rfl) ?_
  refine st (v := (Sl aa_0 a_0 ca_0)) (rv_move rfl) ?_
  refine st (v := (I (a_0.length : Int))) (rv_len Try.underlying23 rfl) ?_
  refine st (v := (B (decide ((i : Int) < (a_0.length : Int))))) (rv_lss (a := (i : Int)) (b := (a_0.length : Int)) rfl rfl) ?_
  refine w_end ?_
  refine q_then ?_
  refine cd_cond (decide ((i : Int) < (a_0.length : Int))) rfl (fun hb => ?_) (fun hb => ?_)
  ·have hlt : i < a_0.length := by have := of_decide_eq_true hb; omega
   obtain ⟨m, rfl⟩ : ∃ m', m = m' + 1 := ⟨m - 1, by omega⟩
   obtain ⟨p, qs, rfl⟩ : ∃ p qs', qs = p :: qs' := by cases qs with
    | nil => cases hqs
    | cons p qs => exact ⟨p, qs, rfl⟩
   obtain ⟨q, hq, h1⟩ := bind_some (show (M.laws_markIntS p.1.2.1 (w64 (k + 1))).bind (fun q => (M.dmarkItemSB (qs.map (·.1)) (w64 (q.1 + 1))).bind fun t => some (t.1, (k, q.2, q.1) :: t.2)) = some q0 from hk)
   obtain ⟨t, ht, h2⟩ := bind_some h1
   obtain rfl := Option.some.inj h2
   replace H : Hp S0 σ0 σ3 [Ch.own lo lo (Sl aa_0 a_0 ca_0) (ds.map dsh ++ dsh p :: qs.map dsh), Ch.big (dow lo p :: qs.map (dow lo)), Ch.big (ds.map (dow 0))] := H
   refine c_skip ?_
   refine q_then ?_
   refine c_seq ?_
   refine c_blk ?_
   refine c_seq ?_
   refine rg ?_
   refine st (v := (Sl aa_0 a_0 ca_0)) (rv_move rfl) ?_
   refine st (v := (I (i : Int))) (rv_move rfl) ?_
   refine st (v := (I k)) (rv_move rfl) ?_
   have hx7 : gidx (ds.map dsh ++ dsh p :: qs.map dsh) (i : Int) = some (dsh p : Int × Value × Int) := gidx_mid hdl
   obtain ⟨b9, o10, hi8, -⟩ := (H.own 0 rfl).ix hx7
   refine st (v := (pt b9 o10)) (rv_ix Try.underlying23 ti32 rfl rfl hi8) ?_
   refine st (v := (pt b9 (o10 + 0))) (rv_fieldAddr (off := 0) (ft := 3) Try.underlying32 rfl ti3 rfl rfl) ?_
   refine st_exS (ex_store_own (e' := ((k, p.2, p.1.2.2) : Int × Value × Int)) (vs := [(I k)]) (k := 0) H (i := 0) rfl ti3 hx7 hi8 rfl rfl rfl rfl rfl (Nat.le_of_ble_eq_true rfl) (by simp [plain]) (by rintro _ ⟨_, _, rfl, rfl, ⟨_, _, rfl, ⟨rfl, hpl⟩, rfl⟩⟩; exact ⟨[(I k)], [p.2, (I p.1.2.2)], rfl, rfl, ⟨[p.2], [(I p.1.2.2)], rfl, ⟨rfl, hpl⟩, rfl⟩⟩)) (wanted_none _ rfl _) ?_
   rintro σ11 ⟨H, -⟩
   refine w_end ?_
   refine q_then ?_
   refine c_seq ?_
   refine rg ?_
   refine st (v := (I k)) (rv_move rfl) ?_
   refine st (v := (I (w64 (k + 1)))) (rv_add (a := k) (b := 1) rfl rfl) ?_
   refine st (v := (I (w64 (k + 1)))) (rv_assign rfl) ?_
   refine w_end ?_
   refine q_then ?_
   refine c_seq ?_
   refine rg ?_
   rw [Int.toNat_natCast, set_mid hdl] at H
   have hx7 : gidx (ds.map dsh ++ ((k, p.2, p.1.2.2) : Int × Value × Int) :: qs.map dsh) (i : Int) = some ((k, p.2, p.1.2.2) : Int × Value × Int) := gidx_mid hdl
   refine st (v := (Sl aa_0 a_0 ca_0)) (rv_move rfl) ?_
   refine st (v := (I (i : Int))) (rv_move rfl) ?_
   obtain ⟨b9, o10, hi8, -⟩ := (H.own 0 rfl).ix hx7
   refine st (v := (pt b9 o10)) (rv_ix Try.underlying23 ti32 rfl rfl hi8) ?_
   refine st (v := (pt b9 (o10 + 1))) (rv_fieldAddr (off := 1) (ft := 30) Try.underlying32 rfl ti30 rfl rfl) ?_
   obtain ⟨_, ⟨_, _, rfl, rfl, ⟨_, _, rfl, ⟨rfl, hpl⟩, rfl⟩⟩, hl18, hc19⟩ := ((H.own 0 rfl).at hx7 hi8).cells
   replace H := Hp.unbig (H.sel' [1, 0, 2] rfl rfl)
   obtain ⟨a20, c21, h22⟩ : IsSl p.2 p.1.2.1.length := (show Ow σ11 lo lo p.2 p.1.2.1 from H.head).isSl
   obtain ⟨px, hd⟩ := p
   dsimp only at h22 hq hx7 hc19
   subst h22
   have hc20 := hc19 1 (by simp)
   refine st (v := (Sl a20 px.2.1 c21)) (rv_load1 Try.underlying30 rfl rfl hc20) ?_
   refine st (v := (I (w64 (k + 1)))) (rv_move rfl) ?_
   replace H : Hp S0 σ0 σ11 [Ch.own lo lo (Sl a20 px.2.1 c21) px.2.1, Ch.big (qs.map (dow lo)), Ch.own lo lo (Sl aa_0 a_0 ca_0) (ds.map dsh ++ ((k, (Sl a20 px.2.1 c21), px.2.2) : Int × Value × Int) :: qs.map dsh), Ch.big (ds.map (dow 0))] := H
   replace H := H.ownSc 0 0 0 rfl (Nat.zero_le _)
   have hc25 := c_laws_markIntS (aa_0 := a20) (ca_0 := c21) hq
   refine st_call (cx_call hc25 (ent_f hc25.fn rfl) hn0 (H.sel' [0, 1, 2, 3] rfl rfl : Hp S0 σ0 _ ([_] ++ _))) (wanted_none _ rfl _) ?_
   rintro _ σ29 ⟨_, ⟨rfl, rfl, hn⟩, H, -⟩
   replace H : Hp S0 σ0 σ29 [Ch.own 0 0 (Sl a20 q.2 c21) q.2, Ch.big (qs.map (dow lo)), Ch.own lo lo (Sl aa_0 a_0 ca_0) (ds.map dsh ++ ((k, (Sl a20 px.2.1 c21), px.2.2) : Int × Value × Int) :: qs.map dsh), Ch.big (ds.map (dow 0))] := H
   replace H := H.sel' [2, 1, 0, 3] rfl rfl
   refine st (v := (I q.1)) (rv_assign rfl) ?_
   refine w_end ?_
   refine q_then ?_
   refine c_seq ?_
   refine rg ?_
   refine st (v := (Sl aa_0 a_0 ca_0)) (rv_move rfl) ?_
   refine st (v := (I (i : Int))) (rv_move rfl) ?_
   refine st (v := (I q.1)) (rv_move rfl) ?_
   obtain ⟨b9, o10, hi8, -⟩ := (H.own 0 rfl).ix hx7
   refine st (v := (pt b9 o10)) (rv_ix Try.underlying23 ti32 rfl rfl hi8) ?_
   refine st (v := (pt b9 (o10 + 2))) (rv_fieldAddr (off := 2) (ft := 3) Try.underlying32 rfl ti3 rfl rfl) ?_
   refine st_exS (ex_store_own (e' := ((k, (Sl a20 px.2.1 c21), q.1) : Int × Value × Int)) (vs := [(I q.1)]) (k := 2) H (i := 0) rfl ti3 hx7 hi8 rfl rfl rfl rfl rfl (Nat.le_of_ble_eq_true rfl) (by simp [plain]) (by rintro _ ⟨_, _, rfl, rfl, ⟨_, _, rfl, ⟨rfl, hpl⟩, rfl⟩⟩; exact ⟨[(I k)], [(Sl a20 px.2.1 c21), (I q.1)], rfl, rfl, ⟨[(Sl a20 px.2.1 c21)], [(I q.1)], rfl, ⟨rfl, hpl⟩, rfl⟩⟩)) (wanted_none _ rfl _) ?_
   rintro σ30 ⟨H, -⟩
   refine w_end ?_
   refine q_then ?_
   refine rg ?_
   refine st (v := (I q.1)) (rv_move rfl) ?_
   refine st (v := (I (w64 (q.1 + 1)))) (rv_add (a := q.1) (b := 1) rfl rfl) ?_
   refine st (v := (I (w64 (q.1 + 1)))) (rv_assign rfl) ?_
   refine w_end ?_
   refine q_blk ?_
   refine q_then ?_
   refine rg ?_
   refine st (v := (I (i : Int))) (rv_move rfl) ?_
   refine st (v := (I (w64 ((i : Int) + 1)))) (rv_add (a := (i : Int)) (b := 1) rfl rfl) ?_
   refine st (v := (I (w64 ((i : Int) + 1)))) (rv_assign rfl) ?_
   refine w_end ?_
   have e1 : w64 ((i : Int) + 1) = ((i + 1 : Nat) : Int) := w64_id (by omega) (by omega)
   rw [e1]
   refine q_then ?_
   have hsl : ((k, (Sl a20 px.2.1 c21), q.1) : Int × Value × Int) = dsh (((k, q.2, q.1) : Int × (List Int) × Int), (Sl a20 q.2 c21)) := congrArg (fun z => ((k, z, q.1) : Int × Value × Int)) (sl_len hn.symm)
   rw [Int.toNat_natCast, set_mid hdl, hsl] at H
   replace H := Hp.bigSnoc (H.sel' [2, 3, 1, 0] rfl rfl)
   replace H := H.sel' [2, 1, 0] rfl rfl
   refine ⟨m, by omega, i + 1, _, σ30, ds ++ [(((k, q.2, q.1) : Int × (List Int) × Int), (Sl a20 q.2 c21))], qs, _, by omega, by simpa using hqs, by simp [hds], ⟨t, ht, by rw [hr]; simp⟩, fr_join ⟨rfl, rfl, rfl, trivial⟩, rfl, ?_⟩
   rw [List.map_append, List.map_append, List.append_assoc]
   exact H
  ·have hlt : ¬ i < a_0.length := by have := of_decide_eq_false hb; omega
   obtain rfl : m = 0 := by omega
   obtain rfl : qs = [] := List.eq_nil_of_length_eq_zero hqs
   obtain rfl : (k, []) = q0 := Option.some.inj hk
   obtain rfl : k = r.1 := by rw [hr]
   have hr2 : ds.map (·.1) = r.2 := by rw [hr]; simp
   refine c_exit ?_
   refine q_then_x ?_
   refine q_then_x ?_
   refine q_blk_hit ?_
   rw [List.map_nil, List.append_nil] at H
   exact ⟨rfl, _, σ3, ds, fr_join ⟨rfl, trivial⟩, rfl, by omega, hr2, H.sel' [0, 2] rfl rfl⟩
 ·clear H
  rintro e a w ⟨rfl, ρ, σ41, ds, rfl, rfl, hdl, hds, H⟩
  have hlen : r.2.length = a_0.length := by rw [← hds, List.length_map]; exact hdl
  refine q_then ?_
  refine c_seq ?_
  refine rg ?_
  refine st (v := (I r.1)) (rv_move rfl) ?_
  refine st (v := (I r.1)) (rv_assign rfl) ?_
  refine w_end ?_
  refine q_then ?_
  refine c_ret ?_
  replace H := (H.ownLow 0 0 0 rfl (Nat.zero_le _) (Nat.zero_le _)).bigCons
  rw [show (Sl aa_0 a_0 ca_0) = (Sl aa_0 r.2 ca_0) from sl_len hlen.symm] at H
  obtain ⟨σ42, hw, H, -⟩ := H.dpPub 0 rfl (⟨⟨ds, hds.symm, rfl⟩⟩ : Dp 0 (Sl aa_0 r.2 ca_0) r.2 _)
  rw [← hw]
  exact fin_ret (v := (I r.1)) (results_ok Try.results33 (res_tmp (v := (I r.1)) rfl res_nil) rfl) ⟨rfl, rfl, hlen⟩ H


theorem c_laws_heldIntS {a_0 : List Int} {k_1 : Int} {aa_0 : Option Addr} {ca_0 : Nat} {r : Int} (h : M.laws_heldIntS a_0 k_1 = some r) :
    Cal2 Try.prog 72 [(Sl aa_0 a_0 ca_0), (I k_1)] [Ch.ro 0 (Sl aa_0 a_0 ca_0) a_0] (fun n0 v L => v = (I r) ∧ L = []) := by
 refine cal2 (n := 21) Try.func72 rfl rfl rfl rfl ?_
 intro S0 σ0 n0 hn0 H
 unfold M.laws_heldIntS at h
 refine c_seq ?_
 refine rg ?_
 refine st (v := (I 0)) (rv_assign rfl) ?_
 refine w_end ?_
 refine q_then ?_
 refine c_seq ?_
 refine c_seq ?_
 refine rg ?_
 refine st (v := (I 0)) (rv_assign rfl) ?_
 refine w_end ?_
 refine q_then ?_
 obtain ⟨o1, hj, h'⟩ := bind_some h
 clear h
 refine c_cut (fun e a w => (∃ t, o1 = (.inl t) ∧ e = .normal ∧ ∃ (ρ : Nat → Value) (σ : St), a = fr 21 (updL ρ [(1, (I t))]) ∧ w = σ.w ∧ Hp S0 σ0 σ []) ∨ (∃ t, o1 = (.inr t) ∧ e = .ret ∧ ∃ (ρ : Nat → Value) (σ : St), a = fr 21 (updL ρ [(4, (I t))]) ∧ w = σ.w ∧ Hp S0 σ0 σ [])) ?_ ?_
 ·clear h'
  rename _ = some o1 => h
  refine c_blk ?_
  refine wp_loopM _ h (fun s2 a w => ∃ (ρ : Nat → Value) (σ : St), a = fr 21 (updL ρ [(0, (Sl aa_0 a_0 ca_0)), (1, (I s2.1)), (5, (I s2.2))]) ∧ w = σ.w ∧ Hp S0 σ0 σ [Ch.ro 0 (Sl aa_0 a_0 ca_0) a_0]) ⟨_, σ0, fr_join ⟨rfl, rfl, rfl, trivial⟩, rfl, H.sel' [0] rfl rfl⟩ ?_
  clear h H
  rintro s2 a w o ⟨ρ, σ3, rfl, rfl, H⟩ h hres
  refine c_seq ?_
  refine c_seq ?_
  refine rg ?_
  refine st (v := (I s2.2)) (rv_move rfl) ?_
  refine st (v := (Sl aa_0 a_0 ca_0)) (rv_move rfl) ?_
  refine st (v := (I (a_0.length : Int))) (rv_len Try.underlying30 rfl) ?_
  refine st (v := (B (decide (s2.2 < (a_0.length : Int))))) (rv_lss (a := s2.2) (b := (a_0.length : Int)) rfl rfl) ?_
  refine w_end ?_
  refine q_then ?_
  refine cd_cond (decide (s2.2 < (a_0.length : Int))) rfl (fun hb4 => ?_) (fun hb4 => ?_)
  ·replace h := bif_t hb4 h
   refine c_skip ?_
   refine q_then ?_
   refine c_seq ?_
   refine c_blk ?_
   refine c_seq ?_
   refine c_seq ?_
   refine rg ?_
   refine st (v := (Sl aa_0 a_0 ca_0)) (rv_move rfl) ?_
   refine st (v := (I s2.2)) (rv_move rfl) ?_
   obtain ⟨x5, hx6, h'⟩ := bind_some h
   clear h
   have h := h'; clear h'
   obtain ⟨b8, o9, hi7, -⟩ := (H.ro 0 rfl).ix hx6
   refine st (v := (pt b8 o9)) (rv_ix Try.underlying30 ti3 rfl rfl hi7) ?_
   have hc10 := ((H.ro 0 rfl).at hx6 hi7).int
   refine st (v := (I x5)) (rv_load1 Try.underlying3 rfl rfl hc10) ?_
   refine st (v := (I s2.1)) (rv_move rfl) ?_
   refine st (v := (B (x5 != s2.1))) (rv_neq (a := x5) (b := s2.1) rfl rfl) ?_
   refine w_end ?_
   refine q_then ?_
   refine cd_cond (x5 != s2.1) rfl (fun hb11 => ?_) (fun hb11 => ?_)
   ·replace h := bif_t hb11 h
    refine c_seq ?_
    refine rg ?_
    refine st (v := (I (-1))) (rv_assign rfl) ?_
    refine w_end ?_
    refine q_then ?_
    refine c_ret ?_
    refine q_then_r ?_
    refine q_blk_r ?_
    refine q_then_r ?_
    refine q_then_r ?_
    refine q_blk_r ?_
    obtain rfl := Option.some.inj h
    obtain rfl := hres _ rfl
    exact .inr (⟨_, rfl, rfl, _, σ3, fr_join ⟨rfl, trivial⟩, rfl, H.sel' [] rfl rfl⟩)
   ·replace h := bif_f hb11 h
    refine c_skip ?_
    refine q_then ?_
    refine rg ?_
    refine st (v := (I s2.1)) (rv_move rfl) ?_
    refine st (v := (I (w64 (s2.1 + 1)))) (rv_add (a := s2.1) (b := 1) rfl rfl) ?_
    refine st (v := (I (w64 (s2.1 + 1)))) (rv_assign rfl) ?_
    refine w_end ?_
    refine q_blk ?_
    refine q_then ?_
    refine rg ?_
    refine st (v := (I s2.2)) (rv_move rfl) ?_
    refine st (v := (I (w64 (s2.2 + 1)))) (rv_add (a := s2.2) (b := 1) rfl rfl) ?_
    refine st (v := (I (w64 (s2.2 + 1)))) (rv_assign rfl) ?_
    refine w_end ?_
    refine q_then ?_
    obtain rfl := Option.some.inj h
    exact ⟨_, rfl, _, σ3, fr_join ⟨rfl, rfl, rfl, trivial⟩, rfl, H.sel' [0] rfl rfl⟩
  ·replace h := bif_f hb4 h
   refine c_exit ?_
   refine q_then_x ?_
   refine q_then_x ?_
   refine q_blk_hit ?_
   obtain rfl := Option.some.inj h
   obtain rfl := hres _ rfl
   exact .inl ⟨_, rfl, rfl, _, σ3, fr_join ⟨rfl, trivial⟩, rfl, H.sel' [] rfl rfl⟩
 ·clear hj
  have h := h'
  clear h' H
  rintro e a w (⟨t12, rfl, rfl, ρ, σ13, rfl, rfl, H⟩ | ⟨t14, rfl, rfl, ρ, σ15, rfl, rfl, H⟩)
  ·replace h := selim_l h
   refine q_then ?_
   refine c_seq ?_
   refine rg ?_
   refine st (v := (I t12)) (rv_move rfl) ?_
   refine st (v := (I t12)) (rv_assign rfl) ?_
   refine w_end ?_
   refine q_then ?_
   refine c_ret ?_
   obtain rfl := Option.some.inj h
   exact fin_ret (v := (I t12)) (results_ok Try.results72 (res_tmp (v := (I t12)) rfl res_nil) rfl) ⟨rfl, rfl⟩ (H.sel' [] rfl rfl)
  ·replace h := selim_r h
   refine q_then_r ?_
   obtain rfl := Option.some.inj h
   exact fin_ret (v := (I t14)) (results_ok Try.results72 (res_tmp (v := (I t14)) rfl res_nil) rfl) ⟨rfl, rfl⟩ (H.sel' [] rfl rfl)

theorem c_laws_heldItemS {a_0 : List (Int × (List Int) × Int)} {k_1 : Int} {aa_0 : Option Addr} {ca_0 : Nat} {r : Int} (h : M.laws_heldItemS a_0 k_1 = some r) :
    Cal2 Try.prog 34 [(Sl aa_0 a_0 ca_0), (I k_1)] [Ch.ro 0 (Sl aa_0 a_0 ca_0) a_0] (fun n0 v L => v = (I r) ∧ L = []) := by
 refine cal2 (n := 40) Try.func34 rfl rfl rfl rfl ?_
 intro S0 σ0 n0 hn0 H
 unfold M.laws_heldItemS at h
 refine c_seq ?_
 refine rg ?_
 refine st (v := (I 0)) (rv_assign rfl) ?_
 refine w_end ?_
 refine q_then ?_
 refine c_seq ?_
 refine c_seq ?_
 refine rg ?_
 refine st (v := (I 0)) (rv_assign rfl) ?_
 refine w_end ?_
 refine q_then ?_
 obtain ⟨o1, hj, h'⟩ := bind_some h
 clear h
 refine c_cut (fun e a w => (∃ t, o1 = (.inl t) ∧ e = .normal ∧ ∃ (ρ : Nat → Value) (σ : St), a = fr 40 (updL ρ [(1, (I t))]) ∧ w = σ.w ∧ Hp S0 σ0 σ []) ∨ (∃ t, o1 = (.inr t) ∧ e = .ret ∧ ∃ (ρ : Nat → Value) (σ : St), a = fr 40 (updL ρ [(4, (I t))]) ∧ w = σ.w ∧ Hp S0 σ0 σ [])) ?_ ?_
 ·clear h'
  rename _ = some o1 => h
  refine c_blk ?_
  refine wp_loopM _ h (fun s2 a w => ∃ (ρ : Nat → Value) (σ : St), a = fr 40 (updL ρ [(0, (Sl aa_0 a_0 ca_0)), (1, (I s2.1)), (5, (I s2.2))]) ∧ w = σ.w ∧ Hp S0 σ0 σ [Ch.ro 0 (Sl aa_0 a_0 ca_0) a_0]) ⟨_, σ0, fr_join ⟨rfl, rfl, rfl, trivial⟩, rfl, H.sel' [0] rfl rfl⟩ ?_
  clear h H
  rintro s2 a w o ⟨ρ, σ3, rfl, rfl, H⟩ h hres
  refine c_seq ?_
  refine c_seq ?_
  refine rg ?_
  refine st (v := (I s2.2)) (rv_move rfl) ?_
  refine st (v := (Sl aa_0 a_0 ca_0)) (rv_move rfl) ?_
  refine st (v := (I (a_0.length : Int))) (rv_len Try.underlying23 rfl) ?_
  refine st (v := (B (decide (s2.2 < (a_0.length : Int))))) (rv_lss (a := s2.2) (b := (a_0.length : Int)) rfl rfl) ?_
  refine w_end ?_
  refine q_then ?_
  refine cd_cond (decide (s2.2 < (a_0.length : Int))) rfl (fun hb4 => ?_) (fun hb4 => ?_)
  ·replace h := bif_t hb4 h
   refine c_skip ?_
   refine q_then ?_
   refine c_seq ?_
   refine c_blk ?_
   refine c_seq ?_
   refine c_seq ?_
   refine rg ?_
   refine st (v := (Sl aa_0 a_0 ca_0)) (rv_move rfl) ?_
   refine st (v := (I s2.2)) (rv_move rfl) ?_
   obtain ⟨x5, hx6, h'⟩ := bind_some h
   clear h
   have h := h'; clear h'
   obtain ⟨b8, o9, hi7, -⟩ := (H.ro 0 rfl).ix hx6
   refine st (v := (pt b8 o9)) (rv_ix Try.underlying23 ti32 rfl rfl hi7) ?_
   refine st (v := (pt b8 (o9 + 0))) (rv_fieldAddr (off := 0) (ft := 3) Try.underlying32 rfl ti3 rfl rfl) ?_
   have hc10 := ((H.ro 0 rfl).at hx6 hi7).fst.int
   refine st (v := (I x5.1)) (rv_load1 Try.underlying3 rfl rfl hc10) ?_
   refine st (v := (I s2.1)) (rv_move rfl) ?_
   refine st (v := (B (x5.1 != s2.1))) (rv_neq (a := x5.1) (b := s2.1) rfl rfl) ?_
   refine w_end ?_
   refine q_then ?_
   refine cd_cond (x5.1 != s2.1) rfl (fun hb11 => ?_) (fun hb11 => ?_)
   ·replace h := bif_t hb11 h
    refine c_seq ?_
    refine rg ?_
    refine st (v := (I (-1))) (rv_assign rfl) ?_
    refine w_end ?_
    refine q_then ?_
    refine c_ret ?_
    refine q_then_r ?_
    refine q_blk_r ?_
    refine q_then_r ?_
    refine q_then_r ?_
    refine q_blk_r ?_
    obtain rfl := Option.some.inj h
    obtain rfl := hres _ rfl
    exact .inr (⟨_, rfl, rfl, _, σ3, fr_join ⟨rfl, trivial⟩, rfl, H.sel' [] rfl rfl⟩)
   ·replace h := bif_f hb11 h
    refine c_skip ?_
    refine q_then ?_
    refine c_seq ?_
    refine rg ?_
    refine st (v := (I s2.1)) (rv_move rfl) ?_
    refine st (v := (I (w64 (s2.1 + 1)))) (rv_add (a := s2.1) (b := 1) rfl rfl) ?_
    refine st (v := (I (w64 (s2.1 + 1)))) (rv_assign rfl) ?_
    refine w_end ?_
    refine q_then ?_
    refine c_seq ?_
    refine rg ?_
    refine st (v := (Sl aa_0 a_0 ca_0)) (rv_move rfl) ?_
    refine st (v := (I s2.2)) (rv_move rfl) ?_
    obtain ⟨x12, hx13, h'⟩ := bind_some h
    clear h
    have h := h'; clear h'
    obtain ⟨b15, o16, hi14, -⟩ := (H.ro 0 rfl).ix hx13
    refine st (v := (pt b15 o16)) (rv_ix Try.underlying23 ti32 rfl rfl hi14) ?_
    refine st (v := (pt b15 (o16 + 1))) (rv_fieldAddr (off := 1) (ft := 30) Try.underlying32 rfl ti30 rfl rfl) ?_
    obtain ⟨v20, hc21, hR19⟩ := ((H.ro 0 rfl).at hx13 hi14).snd.fst.slice
    obtain ⟨a17, c18, rfl⟩ := hR19.isSl
    replace H := H.add (d := Ch.ro 0 (Sl a17 x12.2.1 c18) x12.2.1) hR19 (fun _ h => h)
    clear hR19
    refine st (v := (Sl a17 x12.2.1 c18)) (rv_load1 Try.underlying30 rfl rfl hc21) ?_
    refine st (v := (I (w64 (s2.1 + 1)))) (rv_move rfl) ?_
    obtain ⟨r22, hx23, h'⟩ := bind_some h
    clear h
    have h := h'; clear h'
    have hc24 := c_laws_heldIntS (aa_0 := a17) (ca_0 := c18) hx23
    refine st_call (cx_call hc24 (ent_f hc24.fn rfl) hn0 (show Hp S0 σ0 _ ([Ch.ro 0 (Sl a17 x12.2.1 c18) x12.2.1] ++ [Ch.ro 0 (Sl a17 x12.2.1 c18) x12.2.1, Ch.ro 0 (Sl aa_0 a_0 ca_0) a_0]) from (H.sel' [0, 0, 1] rfl rfl))) wn ?_
    rintro _ σ25 ⟨_, ⟨rfl, rfl⟩, H, -⟩
    replace H : Hp S0 σ0 σ25 [Ch.ro 0 (Sl a17 x12.2.1 c18) x12.2.1, Ch.ro 0 (Sl aa_0 a_0 ca_0) a_0] := H
    refine st (v := (I r22)) (rv_assign rfl) ?_
    refine w_end ?_
    refine q_then ?_
    refine c_seq ?_
    refine c_seq ?_
    refine rg ?_
    refine st (v := (I r22)) (rv_move rfl) ?_
    refine st (v := (B (decide (r22 < 0)))) (rv_lss (a := r22) (b := 0) rfl rfl) ?_
    refine w_end ?_
    refine q_then ?_
    refine cd_cond (decide (r22 < 0)) rfl (fun hb26 => ?_) (fun hb26 => ?_)
    ·replace h := bif_t hb26 h
     refine c_seq ?_
     refine rg ?_
     refine st (v := (I (-1))) (rv_assign rfl) ?_
     refine w_end ?_
     refine q_then ?_
     refine c_ret ?_
     refine q_then_r ?_
     refine q_blk_r ?_
     refine q_then_r ?_
     refine q_then_r ?_
     refine q_blk_r ?_
     obtain rfl := Option.some.inj h
     obtain rfl := hres _ rfl
     exact .inr (⟨_, rfl, rfl, _, σ25, fr_join ⟨rfl, trivial⟩, rfl, H.sel' [] rfl rfl⟩)
    ·replace h := bif_f hb26 h
     refine c_skip ?_
     refine q_then ?_
     refine c_seq ?_
     refine c_seq ?_
     refine rg ?_
     refine st (v := (Sl aa_0 a_0 ca_0)) (rv_move rfl) ?_
     refine st (v := (I s2.2)) (rv_move rfl) ?_
     obtain ⟨x27, hx28, h'⟩ := bind_some h
     clear h
     have h := h'; clear h'
     obtain ⟨b30, o31, hi29, -⟩ := (H.ro 1 rfl).ix hx28
     refine st (v := (pt b30 o31)) (rv_ix Try.underlying23 ti32 rfl rfl hi29) ?_
     refine st (v := (pt b30 (o31 + 2))) (rv_fieldAddr (off := 2) (ft := 3) Try.underlying32 rfl ti3 rfl rfl) ?_
     have hc32 := ((H.ro 1 rfl).at hx28 hi29).snd.snd.int
     refine st (v := (I x27.2.2)) (rv_load1 Try.underlying3 rfl rfl hc32) ?_
     refine st (v := (I r22)) (rv_move rfl) ?_
     refine st (v := (B (x27.2.2 != r22))) (rv_neq (a := x27.2.2) (b := r22) rfl rfl) ?_
     refine w_end ?_
     refine q_then ?_
     refine cd_cond (x27.2.2 != r22) rfl (fun hb33 => ?_) (fun hb33 => ?_)
     ·replace h := bif_t hb33 h
      refine c_seq ?_
      refine rg ?_
      refine st (v := (I (-1))) (rv_assign rfl) ?_
      refine w_end ?_
      refine q_then ?_
      refine c_ret ?_
      refine q_then_r ?_
      refine q_blk_r ?_
      refine q_then_r ?_
      refine q_then_r ?_
      refine q_blk_r ?_
      obtain rfl := Option.some.inj h
      obtain rfl := hres _ rfl
      exact .inr (⟨_, rfl, rfl, _, σ25, fr_join ⟨rfl, trivial⟩, rfl, H.sel' [] rfl rfl⟩)
     ·replace h := bif_f hb33 h
      refine c_skip ?_
      refine q_then ?_
      refine rg ?_
      refine st (v := (I r22)) (rv_move rfl) ?_
      refine st (v := (I (w64 (r22 + 1)))) (rv_add (a := r22) (b := 1) rfl rfl) ?_
      refine st (v := (I (w64 (r22 + 1)))) (rv_assign rfl) ?_
      refine w_end ?_
      refine q_blk ?_
      refine q_then ?_
      refine rg ?_
      refine st (v := (I s2.2)) (rv_move rfl) ?_
      refine st (v := (I (w64 (s2.2 + 1)))) (rv_add (a := s2.2) (b := 1) rfl rfl) ?_
      refine st (v := (I (w64 (s2.2 + 1)))) (rv_assign rfl) ?_
      refine w_end ?_
      refine q_then ?_
      obtain rfl := Option.some.inj h
      exact ⟨_, rfl, _, σ25, fr_join ⟨rfl, rfl, rfl, trivial⟩, rfl, H.sel' [1] rfl rfl⟩
  ·replace h := bif_f hb4 h
   refine c_exit ?_
   refine q_then_x ?_
   refine q_then_x ?_
   refine q_blk_hit ?_
   obtain rfl := Option.some.inj h
   obtain rfl := hres _ rfl
   exact .inl ⟨_, rfl, rfl, _, σ3, fr_join ⟨rfl, trivial⟩, rfl, H.sel' [] rfl rfl⟩
 ·clear hj
  have h := h'
  clear h' H
  rintro e a w (⟨t34, rfl, rfl, ρ, σ35, rfl, rfl, H⟩ | ⟨t36, rfl, rfl, ρ, σ37, rfl, rfl, H⟩)
  ·replace h := selim_l h
   refine q_then ?_
   refine c_seq ?_
   refine rg ?_
   refine st (v := (I t34)) (rv_move rfl) ?_
   refine st (v := (I t34)) (rv_assign rfl) ?_
   refine w_end ?_
   refine q_then ?_
   refine c_ret ?_
   obtain rfl := Option.some.inj h
   exact fin_ret (v := (I t34)) (results_ok Try.results34 (res_tmp (v := (I t34)) rfl res_nil) rfl) ⟨rfl, rfl⟩ (H.sel' [] rfl rfl)
  ·replace h := selim_r h
   refine q_then_r ?_
   obtain rfl := Option.some.inj h
   exact fin_ret (v := (I t36)) (results_ok Try.results34 (res_tmp (v := (I t36)) rfl res_nil) rfl) ⟨rfl, rfl⟩ (H.sel' [] rfl rfl)

theorem c_laws_FnExactFilterStore {aList_0 : List (Int × (List Int) × Int)} {aF_1 : Int × Int × Int} {aaList_0 : Option Addr} {caList_0 : Nat} {r : Bool} (h : M.laws_FnExactFilterStore aList_0 aF_1 = some r) :
    Cal2 Try.prog 9 [(Sl aaList_0 aList_0 caList_0), (.agg #[(I aF_1.1), (I aF_1.2.1), (I aF_1.2.2)])] [Ch.ro 0 (Sl aaList_0 aList_0 caList_0) aList_0] (fun n0 v L => v = (B r) ∧ L = []) := by
 refine cal2 (n := 77) Try.func9 rfl rfl rfl rfl ?_
 intro S0 σ0 n0 hn0 H
 unfold M.laws_FnExactFilterStore at h
 refine c_seq ?_
 refine rg ?_
 refine st_ex (ex_box (cs := [(I aF_1.1), (I aF_1.2.1), (I aF_1.2.2)]) H hn0 rfl rfl) wn ?_
 rintro _ σ2 ⟨b1, rfl, H, -⟩
 refine st (v := (B false)) (rv_assign rfl) ?_
 refine w_end ?_
 refine q_then ?_
 refine c_seq ?_
 refine rg ?_
 refine st (v := (I 1048576)) (rv_assign rfl) ?_
 refine w_end ?_
 refine q_then ?_
 refine c_seq ?_
 refine rg ?_
 refine st (v := (Sl aaList_0 aList_0 caList_0)) (rv_move rfl) ?_
 refine st (v := (I 1048576)) (rv_move rfl) ?_
 obtain ⟨r3, hx4, h'⟩ := bind_some h
 clear h
 have h := h'; clear h'
 have hc5 := c_laws_szItemS (aa_0 := aaList_0) (ca_0 := caList_0) hx4
 refine st_call (cx_call hc5 (ent_f hc5.fn rfl) hn0 (show Hp S0 σ0 _ ([Ch.ro 0 (Sl aaList_0 aList_0 caList_0) aList_0] ++ [Ch.bx n0 b1 0 [(I aF_1.1), (I aF_1.2.1), (I aF_1.2.2)] [] [], Ch.ro 0 (Sl aaList_0 aList_0 caList_0) aList_0]) from (H.sel' [1, 0, 1] rfl rfl))) wn ?_
 rintro _ σ6 ⟨_, ⟨rfl, rfl⟩, H, -⟩
 replace H : Hp S0 σ0 σ6 [Ch.bx n0 b1 0 [(I aF_1.1), (I aF_1.2.1), (I aF_1.2.2)] [] [], Ch.ro 0 (Sl aaList_0 aList_0 caList_0) aList_0] := H
 refine st (v := (I r3)) (rv_assign rfl) ?_
 refine w_end ?_
 refine q_then ?_
 refine c_seq ?_
 refine c_seq ?_
 refine rg ?_
 refine st (v := (I r3)) (rv_move rfl) ?_
 refine st (v := (B (decide (r3 < 0)))) (rv_lss (a := r3) (b := 0) rfl rfl) ?_
 refine w_end ?_
 refine q_then ?_
 refine cd_cond (decide (r3 < 0)) rfl (fun hb7 => ?_) (fun hb7 => ?_)
 ·replace h := bif_t hb7 h
  refine c_seq ?_
  refine rg ?_
  refine st (v := (B true)) (rv_assign rfl) ?_
  refine w_end ?_
  refine q_then ?_
  refine c_ret ?_
  refine q_then_r ?_
  obtain rfl := Option.some.inj h
  exact fin_ret (v := (B true)) (results_ok Try.results9 (res_tmp (v := (B true)) rfl res_nil) rfl) ⟨rfl, rfl⟩ (H.sel' [] rfl rfl)
 ·replace h := bif_f hb7 h
  refine c_skip ?_
  refine q_then ?_
  refine c_seq ?_
  obtain ⟨r8, hx9, h'⟩ := bind_some h
  clear h
  have h := h'; clear h'
  have hc10 := c_laws_toItemS (aa_0 := aaList_0) (ca_0 := caList_0) hx9
  have hc15 := H.cells 0 rfl
  have Hs := H
  refine rg2 (σ := σ6) (Nm := (Option Addr) × (Nat) × (List Ch)) 3 [1] [[false], [true]] [[(0, 0)], [(0, 1)], [(0, 0), (1, 1)]] 1 [fun ((a11, c12, K13) : (Option Addr) × (Nat) × (List Ch)) => fun σm => Hp S0 σ0 σm [Ch.bx n0 b1 0 [(I aF_1.1), (I aF_1.2.1), (I aF_1.2.2)] [] [], Ch.ro 0 (Sl aaList_0 aList_0 caList_0) aList_0] ∧ Md (cov []) σ6 σm, fun ((a11, c12, K13) : (Option Addr) × (Nat) × (List Ch)) => fun σm => Hp S0 σ0 σm [Ch.big K13, Ch.bx n0 b1 0 [(I aF_1.1), (I aF_1.2.1), (I aF_1.2.2)] [] [], Ch.ro 0 (Sl aaList_0 aList_0 caList_0) aList_0] ∧ Md (cov []) σ6 σm ∧ Dp n0 (Sl a11 r8 c12) r8 K13] [fun ((a11, c12, K13) : (Option Addr) × (Nat) × (List Ch)) => (Sl aaList_0 aList_0 caList_0), fun ((a11, c12, K13) : (Option Addr) × (Nat) × (List Ch)) => (Sl a11 r8 c12), fun ((a11, c12, K13) : (Option Addr) × (Nat) × (List Ch)) => (.agg #[(I aF_1.1), (I aF_1.2.1), (I aF_1.2.2)])] (none, 0, []) (by kernel_rfl) (by kernel_rfl) ?_ ?_ ?_
  ·intro σm m0
   exact ⟨H.grow (m0.mono fun _ h => h.elim), m0⟩
  ·refine ac rfl (by
     intro k; rintro ⟨a11, c12, K13⟩ ρ σm hJ hoff hdep
     have e0 := look_off (N := 77) (hoff 0 rfl) rfl
     exact dp_v (v := (Sl aaList_0 aList_0 caList_0)) wn (rv_move e0) rfl hJ) ?_
   refine all_cons (by
     refine ⟨?_, ?_⟩
     ·rintro ⟨a11, c12, K13⟩ ρ σm hJ hoff hdep
      have e18 : look 77 ρ 18 = (Sl aaList_0 aList_0 caList_0) := hdep 0 rfl rfl 18 rfl
      obtain ⟨H, m⟩ := id hJ
      refine dp_cx wn (cx_call hc10 (ent_f hc10.fn (by show [look 77 ρ 18] = _; rw [e18])) hn0 (show Hp S0 σ0 _ ([Ch.ro 0 (Sl aaList_0 aList_0 caList_0) aList_0] ++ [Ch.bx n0 b1 0 [(I aF_1.1), (I aF_1.2.1), (I aF_1.2.2)] [] [], Ch.ro 0 (Sl aaList_0 aList_0 caList_0) aList_0]) from (H.sel' [1, 0, 1] rfl rfl))) ?_
      rintro _ σq ⟨_, ⟨a11x, c12x, K13x, rfl, rfl, hK14⟩, H2, m2⟩
      exact ⟨_, (a11x, c12x, K13x), rfl, rfl, ⟨H2.sel' [0, 1, 2] rfl rfl, m.comp0 (m2.mono (fun i h => by simp [cov, Ch.ro] at h)), hK14⟩, stab [0, 2] (by kernel_rfl) ⟨rfl, rfl, trivial⟩⟩
     trivial) ?_
   refine all_cons (by
     refine ⟨?_, ?_⟩
     ·rintro ⟨a11, c12, K13⟩ ρ σm hJ hoff hdep
      have e3 := look_off (N := 77) (hoff 3 rfl) rfl
      obtain ⟨H, m⟩ := id hJ
      have hc15 := H.cells 0 rfl
      exact dp_v (v := (.agg #[(I aF_1.1), (I aF_1.2.1), (I aF_1.2.2)])) wn (rv_load (cs := [(I aF_1.1), (I aF_1.2.1), (I aF_1.2.2)]) Try.underlying50 rfl ti50 e3 rfl hc15) rfl hJ
     refine ⟨?_, ?_⟩
     ·rintro ⟨a11, c12, K13⟩ ρ σm hJ hoff hdep
      have e3 := look_off (N := 77) (hoff 3 rfl) rfl
      obtain ⟨H, m, hK14⟩ := id hJ
      have hc15 := H.cells 1 rfl
      exact dp_v (v := (.agg #[(I aF_1.1), (I aF_1.2.1), (I aF_1.2.2)])) wn (rv_load (cs := [(I aF_1.1), (I aF_1.2.1), (I aF_1.2.2)]) Try.underlying50 rfl ti50 e3 rfl hc15) rfl hJ
     trivial) ?_
   exact all_nil
  ·rintro ⟨a11, c12, K13⟩ ρ σ16 hJ hoff hrel
   have e0 := look_off (N := 77) (hoff 0 rfl) rfl
   have e3 := look_off (N := 77) (hoff 3 rfl) rfl
   have e19 := hrel 1 rfl 19 rfl
   have e20 := hrel 2 rfl 20 rfl
   obtain ⟨H, -, hK14⟩ := (show Hp S0 σ0 σ16 [Ch.big K13, Ch.bx n0 b1 0 [(I aF_1.1), (I aF_1.2.1), (I aF_1.2.2)] [] [], Ch.ro 0 (Sl aaList_0 aList_0 caList_0) aList_0] ∧ Md (cov []) σ6 σ16 ∧ Dp n0 (Sl a11 r8 c12) r8 K13 from hJ)
   clear hJ Hs
   rw [fr_lookL (L := [(0, (Sl aaList_0 aList_0 caList_0)), (3, (pt b1 0)), (19, (Sl a11 r8 c12)), (20, (.agg #[(I aF_1.1), (I aF_1.2.1), (I aF_1.2.2)]))]) ⟨e0, e3, e19, e20, trivial⟩]
   clear hoff hrel e0 e3 e19 e20
   obtain ⟨r17, hx18, h'⟩ := bind_some h
   clear h
   have h := h'; clear h'
   have hc19 := c_laws_toFilter hx18
   refine st_call (cx_call hc19 (ent_f hc19.fn rfl) hn0 (show Hp S0 σ0 _ ([] ++ [Ch.big K13, Ch.bx n0 b1 0 [(I aF_1.1), (I aF_1.2.1), (I aF_1.2.2)] [] [], Ch.ro 0 (Sl aaList_0 aList_0 caList_0) aList_0]) from (H.sel' [0, 1, 2] rfl rfl))) wn ?_
   rintro _ σ20 ⟨_, ⟨rfl, rfl⟩, H, -⟩
   replace H : Hp S0 σ0 σ20 [Ch.big K13, Ch.bx n0 b1 0 [(I aF_1.1), (I aF_1.2.1), (I aF_1.2.2)] [] [], Ch.ro 0 (Sl aaList_0 aList_0 caList_0) aList_0] := H
   obtain ⟨r21, hx22, h'⟩ := bind_some h
   clear h
   have h := h'; clear h'
   have hc23 := c_spec_FilterStore (alist_0 := a11) (clist_0 := c12) hx22
   have hle := Nat.le_trans hn0 H.size
   refine st_call (cx_lend (Loan.lendB hK14.lends Loan.nil) hc23 (ent_f hc23.fn rfl) (show Hp S0 σ0 _ ([Ch.big K13] ++ ([] ++ [Ch.bx n0 b1 0 [(I aF_1.1), (I aF_1.2.1), (I aF_1.2.2)] [] [], Ch.ro 0 (Sl aaList_0 aList_0 caList_0) aList_0])) from (H.sel' [0, 1, 2] rfl rfl)) (by rintro _ _ _ ⟨_, _, rfl, rfl⟩; exact ⟨Ab.own (Nat.le_refl _), trivial⟩)) wn ?_
   rintro _ σ26 ⟨_, ⟨a24, c25, rfl, rfl⟩, H, -, -⟩
   replace H : Hp S0 σ0 σ26 [Ch.own σ20.size σ20.size (Sl a24 r21 c25) r21, Ch.big K13, Ch.bx n0 b1 0 [(I aF_1.1), (I aF_1.2.1), (I aF_1.2.2)] [] [], Ch.ro 0 (Sl aaList_0 aList_0 caList_0) aList_0] := H
   replace H := H.ownLow 0 n0 n0 rfl hle hle
   clear hle
   replace H : Hp S0 σ0 σ26 [Ch.own n0 n0 (Sl a24 r21 c25) r21, Ch.big K13, Ch.bx n0 b1 0 [(I aF_1.1), (I aF_1.2.1), (I aF_1.2.2)] [] [], Ch.ro 0 (Sl aaList_0 aList_0 caList_0) aList_0] := H
   refine st (v := (Sl a24 r21 c25)) (rv_assign rfl) ?_
   refine w_end ?_
   refine q_then ?_
   refine c_seq ?_
   refine rg ?_
   refine st (v := (Sl aaList_0 aList_0 caList_0)) (rv_move rfl) ?_
   obtain ⟨r27, hx28, h'⟩ := bind_some h
   clear h
   have h := h'; clear h'
   have hc29 := c_laws_toItemS (aa_0 := aaList_0) (ca_0 := caList_0) hx28
   refine st_call (cx_call hc29 (ent_f hc29.fn rfl) hn0 (show Hp S0 σ0 _ ([Ch.ro 0 (Sl aaList_0 aList_0 caList_0) aList_0] ++ [Ch.own n0 n0 (Sl a24 r21 c25) r21, Ch.big K13, Ch.bx n0 b1 0 [(I aF_1.1), (I aF_1.2.1), (I aF_1.2.2)] [] [], Ch.ro 0 (Sl aaList_0 aList_0 caList_0) aList_0]) from (H.sel' [3, 0, 1, 2, 3] rfl rfl))) wn ?_
   rintro _ σ34 ⟨_, ⟨a30, c31, K32, rfl, rfl, hK33⟩, H, -⟩
   replace H : Hp S0 σ0 σ34 [Ch.big K32, Ch.own n0 n0 (Sl a24 r21 c25) r21, Ch.big K13, Ch.bx n0 b1 0 [(I aF_1.1), (I aF_1.2.1), (I aF_1.2.2)] [] [], Ch.ro 0 (Sl aaList_0 aList_0 caList_0) aList_0] := H
   refine st (v := (Sl a30 r27 c31)) (rv_assign rfl) ?_
   refine w_end ?_
   refine q_then ?_
   refine c_seq ?_
   refine rg ?_
   refine st (v := (Sl a30 r27 c31)) (rv_move rfl) ?_
   have hc35 := H.cells 3 rfl
   refine st (v := (.agg #[(I aF_1.1), (I aF_1.2.1), (I aF_1.2.2)])) (rv_load (cs := [(I aF_1.1), (I aF_1.2.1), (I aF_1.2.2)]) Try.underlying50 rfl ti50 rfl rfl hc35) ?_
   obtain ⟨r36, hx37, h'⟩ := bind_some h
   clear h
   have h := h'; clear h'
   have hc38 := c_laws_toFilter hx37
   refine st_call (cx_call hc38 (ent_f hc38.fn rfl) hn0 (show Hp S0 σ0 _ ([] ++ [Ch.big K32, Ch.own n0 n0 (Sl a24 r21 c25) r21, Ch.big K13, Ch.bx n0 b1 0 [(I aF_1.1), (I aF_1.2.1), (I aF_1.2.2)] [] [], Ch.ro 0 (Sl aaList_0 aList_0 caList_0) aList_0]) from (H.sel' [0, 1, 2, 3, 4] rfl rfl))) wn ?_
   rintro _ σ39 ⟨_, ⟨rfl, rfl⟩, H, -⟩
   replace H : Hp S0 σ0 σ39 [Ch.big K32, Ch.own n0 n0 (Sl a24 r21 c25) r21, Ch.big K13, Ch.bx n0 b1 0 [(I aF_1.1), (I aF_1.2.1), (I aF_1.2.2)] [] [], Ch.ro 0 (Sl aaList_0 aList_0 caList_0) aList_0] := H
   obtain ⟨r40, hx41, h'⟩ := bind_some h
   clear h
   have h := h'; clear h'
   have hc42 := c_impl_FilterStore (alist_0 := a30) (clist_0 := c31) hx41
   have hle := Nat.le_trans hn0 H.size
   refine st_call (cx_lend (Loan.lendB hK33.lends Loan.nil) hc42 (ent_f hc42.fn rfl) (show Hp S0 σ0 _ ([Ch.big K32] ++ ([] ++ [Ch.own n0 n0 (Sl a24 r21 c25) r21, Ch.big K13, Ch.bx n0 b1 0 [(I aF_1.1), (I aF_1.2.1), (I aF_1.2.2)] [] [], Ch.ro 0 (Sl aaList_0 aList_0 caList_0) aList_0])) from (H.sel' [0, 1, 2, 3, 4] rfl rfl)) (by rintro _ _ _ ⟨_, _, _, rfl, rfl, hK46, _⟩; exact ⟨Dp.abSc hK46, trivial⟩)) wn ?_
   rintro _ σ48 ⟨_, ⟨a43, c44, K45, rfl, rfl, hK46, ht47⟩, H, -, -⟩
   replace H : Hp S0 σ0 σ48 [Ch.big K45, Ch.big K32, Ch.own n0 n0 (Sl a24 r21 c25) r21, Ch.big K13, Ch.bx n0 b1 0 [(I aF_1.1), (I aF_1.2.1), (I aF_1.2.2)] [] [], Ch.ro 0 (Sl aaList_0 aList_0 caList_0) aList_0] := H
   clear hle
   replace H : Hp S0 σ0 σ48 [Ch.big K45, Ch.big K32, Ch.own n0 n0 (Sl a24 r21 c25) r21, Ch.big K13, Ch.bx n0 b1 0 [(I aF_1.1), (I aF_1.2.1), (I aF_1.2.2)] [] [], Ch.ro 0 (Sl aaList_0 aList_0 caList_0) aList_0] := H
   refine st (v := (Sl a43 r40 c44)) (rv_assign rfl) ?_
   refine w_end ?_
   refine q_then ?_
   refine c_seq ?_
   refine c_seq ?_
   refine rg ?_
   refine st (v := (Sl a43 r40 c44)) (rv_move rfl) ?_
   refine st (v := (Sl a24 r21 c25)) (rv_move rfl) ?_
   obtain ⟨r49, hx50, h'⟩ := bind_some h
   clear h
   have h := h'; clear h'
   have hc51 := c_laws_eqItemS (aa_0 := a43) (ca_0 := c44) (ab_1 := a24) (cb_1 := c25) hx50
   have hle := Nat.le_trans hn0 H.size
   refine st_call (cx_lend (Loan.lendB hK46.lends (Loan.lend Loan.nil)) hc51 (ent_f hc51.fn rfl) (show Hp S0 σ0 _ ([Ch.big K45, Ch.own n0 n0 (Sl a24 r21 c25) r21] ++ ([] ++ [Ch.big K32, Ch.big K13, Ch.bx n0 b1 0 [(I aF_1.1), (I aF_1.2.1), (I aF_1.2.2)] [] [], Ch.ro 0 (Sl aaList_0 aList_0 caList_0) aList_0])) from (H.sel' [0, 2, 1, 3, 4, 5] rfl rfl)) (by rintro _ _ _ ⟨rfl, rfl⟩; exact trivial)) wn ?_
   rintro _ σ52 ⟨_, ⟨rfl, rfl⟩, H, -, -⟩
   replace H : Hp S0 σ0 σ52 [Ch.big K45, Ch.own n0 n0 (Sl a24 r21 c25) r21, Ch.big K32, Ch.big K13, Ch.bx n0 b1 0 [(I aF_1.1), (I aF_1.2.1), (I aF_1.2.2)] [] [], Ch.ro 0 (Sl aaList_0 aList_0 caList_0) aList_0] := H
   clear hle
   replace H : Hp S0 σ0 σ52 [Ch.big K45, Ch.own n0 n0 (Sl a24 r21 c25) r21, Ch.big K32, Ch.big K13, Ch.bx n0 b1 0 [(I aF_1.1), (I aF_1.2.1), (I aF_1.2.2)] [] [], Ch.ro 0 (Sl aaList_0 aList_0 caList_0) aList_0] := H
   refine st (v := (B (!r49))) (rv_not rfl) ?_
   refine w_end ?_
   refine q_then ?_
   refine cd_cond (!r49) rfl (fun hb53 => ?_) (fun hb53 => ?_)
   ·replace h := bif_t hb53 h
    refine c_seq ?_
    refine rg ?_
    refine st (v := (B false)) (rv_assign rfl) ?_
    refine w_end ?_
    refine q_then ?_
    refine c_ret ?_
    refine q_then_r ?_
    obtain rfl := Option.some.inj h
    exact fin_ret (v := (B false)) (results_ok Try.results9 (res_tmp (v := (B false)) rfl res_nil) rfl) ⟨rfl, rfl⟩ (H.sel' [] rfl rfl)
   ·replace h := bif_f hb53 h
    refine c_skip ?_
    refine q_then ?_
    refine c_seq ?_
    refine c_seq ?_
    refine rg ?_
    refine st (v := (Sl a30 r27 c31)) (rv_move rfl) ?_
    refine st (v := (Sl aaList_0 aList_0 caList_0)) (rv_move rfl) ?_
    obtain ⟨r54, hx55, h'⟩ := bind_some h
    clear h
    have h := h'; clear h'
    have hc56 := c_laws_toItemS (aa_0 := aaList_0) (ca_0 := caList_0) hx55
    refine st_call (cx_call hc56 (ent_f hc56.fn rfl) hn0 (show Hp S0 σ0 _ ([Ch.ro 0 (Sl aaList_0 aList_0 caList_0) aList_0] ++ [Ch.big K45, Ch.own n0 n0 (Sl a24 r21 c25) r21, Ch.big K32, Ch.big K13, Ch.bx n0 b1 0 [(I aF_1.1), (I aF_1.2.1), (I aF_1.2.2)] [] [], Ch.ro 0 (Sl aaList_0 aList_0 caList_0) aList_0]) from (H.sel' [5, 0, 1, 2, 3, 4, 5] rfl rfl))) wn ?_
    rintro _ σ61 ⟨_, ⟨a57, c58, K59, rfl, rfl, hK60⟩, H, -⟩
    replace H : Hp S0 σ0 σ61 [Ch.big K59, Ch.big K45, Ch.own n0 n0 (Sl a24 r21 c25) r21, Ch.big K32, Ch.big K13, Ch.bx n0 b1 0 [(I aF_1.1), (I aF_1.2.1), (I aF_1.2.2)] [] [], Ch.ro 0 (Sl aaList_0 aList_0 caList_0) aList_0] := H
    obtain ⟨r62, hx63, h'⟩ := bind_some h
    clear h
    have h := h'; clear h'
    have hc64 := c_laws_eqItemS (aa_0 := a30) (ca_0 := c31) (ab_1 := a57) (cb_1 := c58) hx63
    have hle := Nat.le_trans hn0 H.size
    refine st_call (cx_lend (Loan.lendB hK33.lends (Loan.lendB hK60.lends Loan.nil)) hc64 (ent_f hc64.fn rfl) (show Hp S0 σ0 _ ([Ch.big K32, Ch.big K59] ++ ([] ++ [Ch.big K45, Ch.own n0 n0 (Sl a24 r21 c25) r21, Ch.big K13, Ch.bx n0 b1 0 [(I aF_1.1), (I aF_1.2.1), (I aF_1.2.2)] [] [], Ch.ro 0 (Sl aaList_0 aList_0 caList_0) aList_0])) from (H.sel' [3, 0, 1, 2, 4, 5, 6] rfl rfl)) (by rintro _ _ _ ⟨rfl, rfl⟩; exact trivial)) wn ?_
    rintro _ σ65 ⟨_, ⟨rfl, rfl⟩, H, -, -⟩
    replace H : Hp S0 σ0 σ65 [Ch.big K32, Ch.big K59, Ch.big K45, Ch.own n0 n0 (Sl a24 r21 c25) r21, Ch.big K13, Ch.bx n0 b1 0 [(I aF_1.1), (I aF_1.2.1), (I aF_1.2.2)] [] [], Ch.ro 0 (Sl aaList_0 aList_0 caList_0) aList_0] := H
    clear hle
    replace H : Hp S0 σ0 σ65 [Ch.big K32, Ch.big K59, Ch.big K45, Ch.own n0 n0 (Sl a24 r21 c25) r21, Ch.big K13, Ch.bx n0 b1 0 [(I aF_1.1), (I aF_1.2.1), (I aF_1.2.2)] [] [], Ch.ro 0 (Sl aaList_0 aList_0 caList_0) aList_0] := H
    refine st (v := (B (!r62))) (rv_not rfl) ?_
    refine w_end ?_
    refine q_then ?_
    refine cd_cond (!r62) rfl (fun hb66 => ?_) (fun hb66 => ?_)
    ·replace h := bif_t hb66 h
     refine c_seq ?_
     refine rg ?_
     refine st (v := (B false)) (rv_assign rfl) ?_
     refine w_end ?_
     refine q_then ?_
     refine c_ret ?_
     refine q_then_r ?_
     obtain rfl := Option.some.inj h
     exact fin_ret (v := (B false)) (results_ok Try.results9 (res_tmp (v := (B false)) rfl res_nil) rfl) ⟨rfl, rfl⟩ (H.sel' [] rfl rfl)
    ·replace h := bif_f hb66 h
     refine c_skip ?_
     refine q_then ?_
     refine c_seq ?_
     refine rg ?_
     refine st (v := (I 1)) (rv_assign rfl) ?_
     refine w_end ?_
     refine q_then ?_
     refine c_seq ?_
     refine rg ?_
     refine st (v := (Sl a30 r27 c31)) (rv_move rfl) ?_
     refine st (v := (I 1)) (rv_move rfl) ?_
     obtain ⟨r67, hx68, h'⟩ := bind_some h
     clear h
     have h := h'; clear h'
     have hc69 := c_laws_markItemS (aa_0 := a30) (ca_0 := c31) (hK := hK33) hx68
     refine st_call (cx_call hc69 (ent_f hc69.fn rfl) hn0 (show Hp S0 σ0 _ ([Ch.big K32] ++ [Ch.big K59, Ch.big K45, Ch.own n0 n0 (Sl a24 r21 c25) r21, Ch.big K13, Ch.bx n0 b1 0 [(I aF_1.1), (I aF_1.2.1), (I aF_1.2.2)] [] [], Ch.ro 0 (Sl aaList_0 aList_0 caList_0) aList_0]) from (H.sel' [0, 1, 2, 3, 4, 5, 6] rfl rfl))) wn ?_
     rintro _ σ71 ⟨_, ⟨rfl, rfl, hn70⟩, H, -⟩
     replace H : Hp S0 σ0 σ71 [Ch.ro 0 (Sl a30 r67.2 c31) r67.2, Ch.big K59, Ch.big K45, Ch.own n0 n0 (Sl a24 r21 c25) r21, Ch.big K13, Ch.bx n0 b1 0 [(I aF_1.1), (I aF_1.2.1), (I aF_1.2.2)] [] [], Ch.ro 0 (Sl aaList_0 aList_0 caList_0) aList_0] := H
     have hsl : (Sl a30 r27 c31) = (Sl a30 r67.2 c31) := sl_len hn70.symm
     try rw [hsl]
     try rw [hsl] at H
     clear hsl
     refine st (v := (I r67.1)) (rv_assign rfl) ?_
     refine w_end ?_
     refine q_then ?_
     refine c_seq ?_
     refine c_seq ?_
     obtain ⟨o72, hj, h'⟩ := bind_some h
     clear h
     refine c_cut (fun e a w => e = .normal ∧ ∃ (ρ : Nat → Value) (σ : St), a = fr 77 (updL ρ [(0, (Sl aaList_0 aList_0 caList_0)), (3, (pt b1 0)), (6, (Sl a24 r21 c25)), (8, (Sl a43 r40 c44)), (48, (B o72))]) ∧ w = σ.w ∧ Hp S0 σ0 σ [Ch.ro 0 (Sl aaList_0 aList_0 caList_0) aList_0, Ch.bx n0 b1 0 [(I aF_1.1), (I aF_1.2.1), (I aF_1.2.2)] [] [], Ch.own n0 n0 (Sl a24 r21 c25) r21, Ch.big K45]) ?_ ?_
     ·clear h'
      rename _ = some o72 => h
      refine rg ?_
      refine st (v := (I r67.1)) (rv_move rfl) ?_
      refine st (v := (B (decide (r67.1 < 0)))) (rv_lss (a := r67.1) (b := 0) rfl rfl) ?_
      refine st (v := (B (decide (r67.1 < 0)))) (rv_move rfl) ?_
      rcases Bool.eq_false_or_eq_true (decide (r67.1 < 0)) with hb73 | hb73
      ·replace h := bif_t hb73 h
       refine st_skip (congrArg some hb73) ?_
       refine st_skip (congrArg some hb73) ?_
       refine st_skip (congrArg some hb73) ?_
       refine st_skip (congrArg some hb73) ?_
       refine st (v := (B true)) (rv_pick_t (congrArg B hb73) rfl) ?_
       refine w_end ?_
       obtain rfl := Option.some.inj h
       exact ⟨rfl, _, σ71, fr_join ⟨rfl, rfl, rfl, rfl, rfl, trivial⟩, rfl, H.sel' [6, 5, 3, 2] rfl rfl⟩
      ·replace h := bif_f hb73 h
       refine st_g (v := (Sl a43 r40 c44)) (congrArg some hb73) (rv_move rfl) ?_
       refine st_g (v := (Sl a24 r21 c25)) (congrArg some hb73) (rv_move rfl) ?_
       obtain ⟨r74, hx75, h'⟩ := bind_some h
       clear h
       have h := h'; clear h'
       have hc76 := c_laws_eqItemS (aa_0 := a43) (ca_0 := c44) (ab_1 := a24) (cb_1 := c25) hx75
       have hle := Nat.le_trans hn0 H.size
       refine st_call (cx_lend (Loan.lendB hK46.lends (Loan.lend Loan.nil)) hc76 (ent_f hc76.fn rfl) (show Hp S0 σ0 _ ([Ch.big K45, Ch.own n0 n0 (Sl a24 r21 c25) r21] ++ ([] ++ [Ch.ro 0 (Sl a30 r67.2 c31) r67.2, Ch.big K59, Ch.big K13, Ch.bx n0 b1 0 [(I aF_1.1), (I aF_1.2.1), (I aF_1.2.2)] [] [], Ch.ro 0 (Sl aaList_0 aList_0 caList_0) aList_0])) from (H.sel' [2, 3, 0, 1, 4, 5, 6] rfl rfl)) (by rintro _ _ _ ⟨rfl, rfl⟩; exact trivial)) (wanted_yes rfl (by exact (congrArg some hb73))) ?_
       rintro _ σ77 ⟨_, ⟨rfl, rfl⟩, H, -, -⟩
       replace H : Hp S0 σ0 σ77 [Ch.big K45, Ch.own n0 n0 (Sl a24 r21 c25) r21, Ch.ro 0 (Sl a30 r67.2 c31) r67.2, Ch.big K59, Ch.big K13, Ch.bx n0 b1 0 [(I aF_1.1), (I aF_1.2.1), (I aF_1.2.2)] [] [], Ch.ro 0 (Sl aaList_0 aList_0 caList_0) aList_0] := H
       clear hle
       replace H : Hp S0 σ0 σ77 [Ch.big K45, Ch.own n0 n0 (Sl a24 r21 c25) r21, Ch.ro 0 (Sl a30 r67.2 c31) r67.2, Ch.big K59, Ch.big K13, Ch.bx n0 b1 0 [(I aF_1.1), (I aF_1.2.1), (I aF_1.2.2)] [] [], Ch.ro 0 (Sl aaList_0 aList_0 caList_0) aList_0] := H
       refine st_g (v := (B (!r74))) (congrArg some hb73) (rv_not rfl) ?_
       refine st (v := (B (!r74))) (rv_pick_f (congrArg B hb73) rfl) ?_
       refine w_end ?_
       obtain rfl := Option.some.inj h
       exact ⟨rfl, _, σ77, fr_join ⟨rfl, rfl, rfl, rfl, rfl, trivial⟩, rfl, H.sel' [6, 5, 1, 0] rfl rfl⟩
     ·clear hj
      have h := h'
      clear h' H
      rintro e a w ⟨rfl, ρ, σ78, rfl, rfl, H⟩
      refine q_then ?_
      refine cd_cond o72 rfl (fun hb79 => ?_) (fun hb79 => ?_)
      ·replace h := bif_t hb79 h
       refine c_seq ?_
       refine rg ?_
       refine st (v := (B false)) (rv_assign rfl) ?_
       refine w_end ?_
       refine q_then ?_
       refine c_ret ?_
       refine q_then_r ?_
       obtain rfl := Option.some.inj h
       exact fin_ret (v := (B false)) (results_ok Try.results9 (res_tmp (v := (B false)) rfl res_nil) rfl) ⟨rfl, rfl⟩ (H.sel' [] rfl rfl)
      ·replace h := bif_f hb79 h
       refine c_skip ?_
       refine q_then ?_
       refine c_seq ?_
       refine rg ?_
       refine st (v := (I 1)) (rv_assign rfl) ?_
       refine w_end ?_
       refine q_then ?_
       refine c_seq ?_
       refine rg ?_
       refine st (v := (Sl a43 r40 c44)) (rv_move rfl) ?_
       refine st (v := (I 1)) (rv_move rfl) ?_
       obtain ⟨r80, hx81, h'⟩ := bind_some h
       clear h
       have h := h'; clear h'
       have hc82 := c_laws_markItemS (aa_0 := a43) (ca_0 := c44) (hK := hK46) hx81
       refine st_call (cx_call hc82 (ent_f hc82.fn rfl) hn0 (show Hp S0 σ0 _ ([Ch.big K45] ++ [Ch.ro 0 (Sl aaList_0 aList_0 caList_0) aList_0, Ch.bx n0 b1 0 [(I aF_1.1), (I aF_1.2.1), (I aF_1.2.2)] [] [], Ch.own n0 n0 (Sl a24 r21 c25) r21]) from (H.sel' [3, 0, 1, 2] rfl rfl))) wn ?_
       rintro _ σ84 ⟨_, ⟨rfl, rfl, hn83⟩, H, -⟩
       replace H : Hp S0 σ0 σ84 [Ch.ro 0 (Sl a43 r80.2 c44) r80.2, Ch.ro 0 (Sl aaList_0 aList_0 caList_0) aList_0, Ch.bx n0 b1 0 [(I aF_1.1), (I aF_1.2.1), (I aF_1.2.2)] [] [], Ch.own n0 n0 (Sl a24 r21 c25) r21] := H
       have hsl : (Sl a43 r40 c44) = (Sl a43 r80.2 c44) := sl_len hn83.symm
       try rw [hsl]
       try rw [hsl] at H
       clear hsl
       refine st (v := (I r80.1)) (rv_assign rfl) ?_
       refine w_end ?_
       refine q_then ?_
       refine c_seq ?_
       refine rg ?_
       refine st (v := (I 1)) (rv_assign rfl) ?_
       refine w_end ?_
       refine q_then ?_
       refine c_seq ?_
       refine rg ?_
       refine st (v := (Sl a43 r80.2 c44)) (rv_move rfl) ?_
       refine st (v := (I 1)) (rv_move rfl) ?_
       obtain ⟨r85, hx86, h'⟩ := bind_some h
       clear h
       have h := h'; clear h'
       have hc87 := c_laws_heldItemS (aa_0 := a43) (ca_0 := c44) hx86
       refine st_call (cx_call hc87 (ent_f hc87.fn rfl) hn0 (show Hp S0 σ0 _ ([Ch.ro 0 (Sl a43 r80.2 c44) r80.2] ++ [Ch.ro 0 (Sl a43 r80.2 c44) r80.2, Ch.ro 0 (Sl aaList_0 aList_0 caList_0) aList_0, Ch.bx n0 b1 0 [(I aF_1.1), (I aF_1.2.1), (I aF_1.2.2)] [] [], Ch.own n0 n0 (Sl a24 r21 c25) r21]) from (H.sel' [0, 0, 1, 2, 3] rfl rfl))) wn ?_
       rintro _ σ88 ⟨_, ⟨rfl, rfl⟩, H, -⟩
       replace H : Hp S0 σ0 σ88 [Ch.ro 0 (Sl a43 r80.2 c44) r80.2, Ch.ro 0 (Sl aaList_0 aList_0 caList_0) aList_0, Ch.bx n0 b1 0 [(I aF_1.1), (I aF_1.2.1), (I aF_1.2.2)] [] [], Ch.own n0 n0 (Sl a24 r21 c25) r21] := H
       refine st (v := (I r85)) (rv_assign rfl) ?_
       refine w_end ?_
       refine q_then ?_
       refine c_seq ?_
       refine c_seq ?_
       refine rg ?_
       refine st (v := (I r85)) (rv_move rfl) ?_
       refine st (v := (B (decide (r85 < 0)))) (rv_lss (a := r85) (b := 0) rfl rfl) ?_
       refine w_end ?_
       refine q_then ?_
       refine cd_cond (decide (r85 < 0)) rfl (fun hb89 => ?_) (fun hb89 => ?_)
       ·replace h := bif_t hb89 h
        refine c_seq ?_
        refine rg ?_
        refine st (v := (B false)) (rv_assign rfl) ?_
        refine w_end ?_
        refine q_then ?_
        refine c_ret ?_
        refine q_then_r ?_
        obtain rfl := Option.some.inj h
        exact fin_ret (v := (B false)) (results_ok Try.results9 (res_tmp (v := (B false)) rfl res_nil) rfl) ⟨rfl, rfl⟩ (H.sel' [] rfl rfl)
       ·replace h := bif_f hb89 h
        refine c_skip ?_
        refine q_then ?_
        refine c_seq ?_
        refine c_seq ?_
        refine rg ?_
        refine st (v := (I r85)) (rv_move rfl) ?_
        refine st (v := (I r80.1)) (rv_move rfl) ?_
        refine st (v := (B (r85 != r80.1))) (rv_neq (a := r85) (b := r80.1) rfl rfl) ?_
        refine w_end ?_
        refine q_then ?_
        refine cd_cond (r85 != r80.1) rfl (fun hb90 => ?_) (fun hb90 => ?_)
        ·replace h := bif_t hb90 h
         refine c_seq ?_
         refine rg ?_
         refine st (v := (B false)) (rv_assign rfl) ?_
         refine w_end ?_
         refine q_then ?_
         refine c_ret ?_
         refine q_then_r ?_
         obtain rfl := Option.some.inj h
         exact fin_ret (v := (B false)) (results_ok Try.results9 (res_tmp (v := (B false)) rfl res_nil) rfl) ⟨rfl, rfl⟩ (H.sel' [] rfl rfl)
        ·replace h := bif_f hb90 h
         refine c_skip ?_
         refine q_then ?_
         refine c_seq ?_
         obtain ⟨r91, hx92, h'⟩ := bind_some h
         clear h
         have h := h'; clear h'
         have hc93 := c_laws_toItemS (aa_0 := aaList_0) (ca_0 := caList_0) hx92
         have hc98 := H.cells 2 rfl
         have Hs := H
         refine rg2 (σ := σ88) (Nm := (Option Addr) × (Nat) × (List Ch)) 3 [1] [[false], [true]] [[(0, 0)], [(0, 1)], [(0, 0), (1, 1)]] 1 [fun ((a94, c95, K96) : (Option Addr) × (Nat) × (List Ch)) => fun σm => Hp S0 σ0 σm [Ch.ro 0 (Sl a43 r80.2 c44) r80.2, Ch.ro 0 (Sl aaList_0 aList_0 caList_0) aList_0, Ch.bx n0 b1 0 [(I aF_1.1), (I aF_1.2.1), (I aF_1.2.2)] [] [], Ch.own n0 n0 (Sl a24 r21 c25) r21] ∧ Md (cov []) σ88 σm, fun ((a94, c95, K96) : (Option Addr) × (Nat) × (List Ch)) => fun σm => Hp S0 σ0 σm [Ch.big K96, Ch.ro 0 (Sl a43 r80.2 c44) r80.2, Ch.ro 0 (Sl aaList_0 aList_0 caList_0) aList_0, Ch.bx n0 b1 0 [(I aF_1.1), (I aF_1.2.1), (I aF_1.2.2)] [] [], Ch.own n0 n0 (Sl a24 r21 c25) r21] ∧ Md (cov []) σ88 σm ∧ Dp n0 (Sl a94 r91 c95) r91 K96] [fun ((a94, c95, K96) : (Option Addr) × (Nat) × (List Ch)) => (Sl aaList_0 aList_0 caList_0), fun ((a94, c95, K96) : (Option Addr) × (Nat) × (List Ch)) => (Sl a94 r91 c95), fun ((a94, c95, K96) : (Option Addr) × (Nat) × (List Ch)) => (.agg #[(I aF_1.1), (I aF_1.2.1), (I aF_1.2.2)])] (none, 0, []) (by kernel_rfl) (by kernel_rfl) ?_ ?_ ?_
         ·intro σm m0
          exact ⟨H.grow (m0.mono fun _ h => h.elim), m0⟩
         ·refine ac rfl (by
            intro k; rintro ⟨a94, c95, K96⟩ ρ σm hJ hoff hdep
            have e0 := look_off (N := 77) (hoff 0 rfl) rfl
            exact dp_v (v := (Sl aaList_0 aList_0 caList_0)) wn (rv_move e0) rfl hJ) ?_
          refine all_cons (by
            refine ⟨?_, ?_⟩
            ·rintro ⟨a94, c95, K96⟩ ρ σm hJ hoff hdep
             have e60 : look 77 ρ 60 = (Sl aaList_0 aList_0 caList_0) := hdep 0 rfl rfl 60 rfl
             obtain ⟨H, m⟩ := id hJ
             refine dp_cx wn (cx_call hc93 (ent_f hc93.fn (by show [look 77 ρ 60] = _; rw [e60])) hn0 (show Hp S0 σ0 _ ([Ch.ro 0 (Sl aaList_0 aList_0 caList_0) aList_0] ++ [Ch.ro 0 (Sl a43 r80.2 c44) r80.2, Ch.ro 0 (Sl aaList_0 aList_0 caList_0) aList_0, Ch.bx n0 b1 0 [(I aF_1.1), (I aF_1.2.1), (I aF_1.2.2)] [] [], Ch.own n0 n0 (Sl a24 r21 c25) r21]) from (H.sel' [1, 0, 1, 2, 3] rfl rfl))) ?_
             rintro _ σq ⟨_, ⟨a94x, c95x, K96x, rfl, rfl, hK97⟩, H2, m2⟩
             exact ⟨_, (a94x, c95x, K96x), rfl, rfl, ⟨H2.sel' [0, 1, 2, 3, 4] rfl rfl, m.comp0 (m2.mono (fun i h => by simp [cov, Ch.ro] at h)), hK97⟩, stab [0, 2] (by kernel_rfl) ⟨rfl, rfl, trivial⟩⟩
            trivial) ?_
          refine all_cons (by
            refine ⟨?_, ?_⟩
            ·rintro ⟨a94, c95, K96⟩ ρ σm hJ hoff hdep
             have e3 := look_off (N := 77) (hoff 3 rfl) rfl
             obtain ⟨H, m⟩ := id hJ
             have hc98 := H.cells 2 rfl
             exact dp_v (v := (.agg #[(I aF_1.1), (I aF_1.2.1), (I aF_1.2.2)])) wn (rv_load (cs := [(I aF_1.1), (I aF_1.2.1), (I aF_1.2.2)]) Try.underlying50 rfl ti50 e3 rfl hc98) rfl hJ
            refine ⟨?_, ?_⟩
            ·rintro ⟨a94, c95, K96⟩ ρ σm hJ hoff hdep
             have e3 := look_off (N := 77) (hoff 3 rfl) rfl
             obtain ⟨H, m, hK97⟩ := id hJ
             have hc98 := H.cells 3 rfl
             exact dp_v (v := (.agg #[(I aF_1.1), (I aF_1.2.1), (I aF_1.2.2)])) wn (rv_load (cs := [(I aF_1.1), (I aF_1.2.1), (I aF_1.2.2)]) Try.underlying50 rfl ti50 e3 rfl hc98) rfl hJ
            trivial) ?_
          exact all_nil
         ·rintro ⟨a94, c95, K96⟩ ρ σ99 hJ hoff hrel
          have e6 := look_off (N := 77) (hoff 6 rfl) rfl
          have e8 := look_off (N := 77) (hoff 8 rfl) rfl
          have e10 := look_off (N := 77) (hoff 10 rfl) rfl
          have e61 := hrel 1 rfl 61 rfl
          have e62 := hrel 2 rfl 62 rfl
          obtain ⟨H, -, hK97⟩ := (show Hp S0 σ0 σ99 [Ch.big K96, Ch.ro 0 (Sl a43 r80.2 c44) r80.2, Ch.ro 0 (Sl aaList_0 aList_0 caList_0) aList_0, Ch.bx n0 b1 0 [(I aF_1.1), (I aF_1.2.1), (I aF_1.2.2)] [] [], Ch.own n0 n0 (Sl a24 r21 c25) r21] ∧ Md (cov []) σ88 σ99 ∧ Dp n0 (Sl a94 r91 c95) r91 K96 from hJ)
          clear hJ Hs
          rw [fr_lookL (L := [(6, (Sl a24 r21 c25)), (8, (Sl a43 r80.2 c44)), (10, (I r80.1)), (61, (Sl a94 r91 c95)), (62, (.agg #[(I aF_1.1), (I aF_1.2.1), (I aF_1.2.2)]))]) ⟨e6, e8, e10, e61, e62, trivial⟩]
          clear hoff hrel e6 e8 e10 e61 e62
          obtain ⟨r100, hx101, h'⟩ := bind_some h
          clear h
          have h := h'; clear h'
          have hc102 := c_laws_toFilter hx101
          refine st_call (cx_call hc102 (ent_f hc102.fn rfl) hn0 (show Hp S0 σ0 _ ([] ++ [Ch.big K96, Ch.ro 0 (Sl a43 r80.2 c44) r80.2, Ch.ro 0 (Sl aaList_0 aList_0 caList_0) aList_0, Ch.bx n0 b1 0 [(I aF_1.1), (I aF_1.2.1), (I aF_1.2.2)] [] [], Ch.own n0 n0 (Sl a24 r21 c25) r21]) from (H.sel' [0, 1, 2, 3, 4] rfl rfl))) wn ?_
          rintro _ σ103 ⟨_, ⟨rfl, rfl⟩, H, -⟩
          replace H : Hp S0 σ0 σ103 [Ch.big K96, Ch.ro 0 (Sl a43 r80.2 c44) r80.2, Ch.ro 0 (Sl aaList_0 aList_0 caList_0) aList_0, Ch.bx n0 b1 0 [(I aF_1.1), (I aF_1.2.1), (I aF_1.2.2)] [] [], Ch.own n0 n0 (Sl a24 r21 c25) r21] := H
          obtain ⟨r104, hx105, h'⟩ := bind_some h
          clear h
          have h := h'; clear h'
          have hc106 := c_impl_FilterStore (alist_0 := a94) (clist_0 := c95) hx105
          have hle := Nat.le_trans hn0 H.size
          refine st_call (cx_lend (Loan.lendB hK97.lends Loan.nil) hc106 (ent_f hc106.fn rfl) (show Hp S0 σ0 _ ([Ch.big K96] ++ ([] ++ [Ch.ro 0 (Sl a43 r80.2 c44) r80.2, Ch.ro 0 (Sl aaList_0 aList_0 caList_0) aList_0, Ch.bx n0 b1 0 [(I aF_1.1), (I aF_1.2.1), (I aF_1.2.2)] [] [], Ch.own n0 n0 (Sl a24 r21 c25) r21])) from (H.sel' [0, 1, 2, 3, 4] rfl rfl)) (by rintro _ _ _ ⟨_, _, _, rfl, rfl, hK110, _⟩; exact ⟨Dp.abSc hK110, trivial⟩)) wn ?_
          rintro _ σ112 ⟨_, ⟨a107, c108, K109, rfl, rfl, hK110, ht111⟩, H, -, -⟩
          replace H : Hp S0 σ0 σ112 [Ch.big K109, Ch.big K96, Ch.ro 0 (Sl a43 r80.2 c44) r80.2, Ch.ro 0 (Sl aaList_0 aList_0 caList_0) aList_0, Ch.bx n0 b1 0 [(I aF_1.1), (I aF_1.2.1), (I aF_1.2.2)] [] [], Ch.own n0 n0 (Sl a24 r21 c25) r21] := H
          clear hle
          replace H : Hp S0 σ0 σ112 [Ch.big K109, Ch.big K96, Ch.ro 0 (Sl a43 r80.2 c44) r80.2, Ch.ro 0 (Sl aaList_0 aList_0 caList_0) aList_0, Ch.bx n0 b1 0 [(I aF_1.1), (I aF_1.2.1), (I aF_1.2.2)] [] [], Ch.own n0 n0 (Sl a24 r21 c25) r21] := H
          refine st (v := (Sl a107 r104 c108)) (rv_assign rfl) ?_
          refine w_end ?_
          refine q_then ?_
          refine c_seq ?_
          refine c_seq ?_
          refine rg ?_
          refine st (v := (Sl a107 r104 c108)) (rv_move rfl) ?_
          refine st (v := (Sl a24 r21 c25)) (rv_move rfl) ?_
          obtain ⟨σ113, hw114, H, -⟩ := H.pub 5 rfl (Nat.le_refl _)
          rw [← hw114]; clear hw114
          replace H := H.roLow 0 0 rfl (Nat.zero_le _)
          obtain ⟨r115, hx116, h'⟩ := bind_some h
          clear h
          have h := h'; clear h'
          have hc117 := c_laws_eqItemS (aa_0 := a107) (ca_0 := c108) (ab_1 := a24) (cb_1 := c25) hx116
          have hle := Nat.le_trans hn0 H.size
          refine st_call (cx_lend (Loan.lendB hK110.lends (Loan.same Loan.nil)) hc117 (ent_f hc117.fn rfl) (show Hp S0 σ0 _ ([Ch.big K109] ++ ([Ch.ro 0 (Sl a24 r21 c25) r21] ++ [Ch.ro 0 (Sl a24 r21 c25) r21, Ch.ro n0 (Sl a24 r21 c25) r21, Ch.big K96, Ch.ro 0 (Sl a43 r80.2 c44) r80.2, Ch.ro 0 (Sl aaList_0 aList_0 caList_0) aList_0, Ch.bx n0 b1 0 [(I aF_1.1), (I aF_1.2.1), (I aF_1.2.2)] [] []])) from (H.sel' [2, 0, 0, 1, 3, 4, 5, 6] rfl rfl)) (by rintro _ _ _ ⟨rfl, rfl⟩; exact trivial)) wn ?_
          rintro _ σ118 ⟨_, ⟨rfl, rfl⟩, H, -, -⟩
          replace H : Hp S0 σ0 σ118 [Ch.big K109, Ch.ro 0 (Sl a24 r21 c25) r21, Ch.ro n0 (Sl a24 r21 c25) r21, Ch.big K96, Ch.ro 0 (Sl a43 r80.2 c44) r80.2, Ch.ro 0 (Sl aaList_0 aList_0 caList_0) aList_0, Ch.bx n0 b1 0 [(I aF_1.1), (I aF_1.2.1), (I aF_1.2.2)] [] []] := H
          clear hle
          replace H : Hp S0 σ0 σ118 [Ch.big K109, Ch.ro 0 (Sl a24 r21 c25) r21, Ch.ro n0 (Sl a24 r21 c25) r21, Ch.big K96, Ch.ro 0 (Sl a43 r80.2 c44) r80.2, Ch.ro 0 (Sl aaList_0 aList_0 caList_0) aList_0, Ch.bx n0 b1 0 [(I aF_1.1), (I aF_1.2.1), (I aF_1.2.2)] [] []] := H
          refine st (v := (B (!r115))) (rv_not rfl) ?_
          refine w_end ?_
          refine q_then ?_
          refine cd_cond (!r115) rfl (fun hb119 => ?_) (fun hb119 => ?_)
          ·replace h := bif_t hb119 h
           refine c_seq ?_
           refine rg ?_
           refine st (v := (B false)) (rv_assign rfl) ?_
           refine w_end ?_
           refine q_then ?_
           refine c_ret ?_
           refine q_then_r ?_
           obtain rfl := Option.some.inj h
           exact fin_ret (v := (B false)) (results_ok Try.results9 (res_tmp (v := (B false)) rfl res_nil) rfl) ⟨rfl, rfl⟩ (H.sel' [] rfl rfl)
          ·replace h := bif_f hb119 h
           refine c_skip ?_
           refine q_then ?_
           refine c_seq ?_
           refine rg ?_
           refine st (v := (I 1)) (rv_assign rfl) ?_
           refine w_end ?_
           refine q_then ?_
           refine c_seq ?_
           refine rg ?_
           refine st (v := (Sl a43 r80.2 c44)) (rv_move rfl) ?_
           refine st (v := (I 1)) (rv_move rfl) ?_
           obtain ⟨r120, hx121, h'⟩ := bind_some h
           clear h
           have h := h'; clear h'
           have hc122 := c_laws_heldItemS (aa_0 := a43) (ca_0 := c44) hx121
           refine st_call (cx_call hc122 (ent_f hc122.fn rfl) hn0 (show Hp S0 σ0 _ ([Ch.ro 0 (Sl a43 r80.2 c44) r80.2] ++ [Ch.big K109, Ch.ro 0 (Sl a24 r21 c25) r21, Ch.ro n0 (Sl a24 r21 c25) r21, Ch.big K96, Ch.ro 0 (Sl a43 r80.2 c44) r80.2, Ch.ro 0 (Sl aaList_0 aList_0 caList_0) aList_0, Ch.bx n0 b1 0 [(I aF_1.1), (I aF_1.2.1), (I aF_1.2.2)] [] []]) from (H.sel' [4, 0, 1, 2, 3, 4, 5, 6] rfl rfl))) wn ?_
           rintro _ σ123 ⟨_, ⟨rfl, rfl⟩, H, -⟩
           replace H : Hp S0 σ0 σ123 [Ch.big K109, Ch.ro 0 (Sl a24 r21 c25) r21, Ch.ro n0 (Sl a24 r21 c25) r21, Ch.big K96, Ch.ro 0 (Sl a43 r80.2 c44) r80.2, Ch.ro 0 (Sl aaList_0 aList_0 caList_0) aList_0, Ch.bx n0 b1 0 [(I aF_1.1), (I aF_1.2.1), (I aF_1.2.2)] [] []] := H
           refine st (v := (I r120)) (rv_assign rfl) ?_
           refine w_end ?_
           refine q_then ?_
           refine c_seq ?_
           refine c_seq ?_
           refine rg ?_
           refine st (v := (I r120)) (rv_move rfl) ?_
           refine st (v := (B (decide (r120 < 0)))) (rv_lss (a := r120) (b := 0) rfl rfl) ?_
           refine w_end ?_
           refine q_then ?_
           refine cd_cond (decide (r120 < 0)) rfl (fun hb124 => ?_) (fun hb124 => ?_)
           ·replace h := bif_t hb124 h
            refine c_seq ?_
            refine rg ?_
            refine st (v := (B false)) (rv_assign rfl) ?_
            refine w_end ?_
            refine q_then ?_
            refine c_ret ?_
            refine q_then_r ?_
            obtain rfl := Option.some.inj h
            exact fin_ret (v := (B false)) (results_ok Try.results9 (res_tmp (v := (B false)) rfl res_nil) rfl) ⟨rfl, rfl⟩ (H.sel' [] rfl rfl)
           ·replace h := bif_f hb124 h
            refine c_skip ?_
            refine q_then ?_
            refine c_seq ?_
            refine c_seq ?_
            refine rg ?_
            refine st (v := (I r120)) (rv_move rfl) ?_
            refine st (v := (I r80.1)) (rv_move rfl) ?_
            refine st (v := (B (r120 != r80.1))) (rv_neq (a := r120) (b := r80.1) rfl rfl) ?_
            refine w_end ?_
            refine q_then ?_
            refine cd_cond (r120 != r80.1) rfl (fun hb125 => ?_) (fun hb125 => ?_)
            ·replace h := bif_t hb125 h
             refine c_seq ?_
             refine rg ?_
             refine st (v := (B false)) (rv_assign rfl) ?_
             refine w_end ?_
             refine q_then ?_
             refine c_ret ?_
             refine q_then_r ?_
             obtain rfl := Option.some.inj h
             exact fin_ret (v := (B false)) (results_ok Try.results9 (res_tmp (v := (B false)) rfl res_nil) rfl) ⟨rfl, rfl⟩ (H.sel' [] rfl rfl)
            ·replace h := bif_f hb125 h
             refine c_skip ?_
             refine q_then ?_
             refine c_seq ?_
             refine rg ?_
             refine st (v := (B true)) (rv_assign rfl) ?_
             refine w_end ?_
             refine q_then ?_
             refine c_ret ?_
             obtain rfl := Option.some.inj h
             exact fin_ret (v := (B true)) (results_ok Try.results9 (res_tmp (v := (B true)) rfl res_nil) rfl) ⟨rfl, rfl⟩ (H.sel' [] rfl rfl)

end Go.Vs

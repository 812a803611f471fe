/- The functions compute what their models say. -/
import Derived.Test.YtanbdmdbfjonhaaKMutualLinksC3
set_option linter.unusedVariables false
set_option linter.unusedSimpArgs false
set_option maxRecDepth 20000
namespace Go.Vs
open Go Go.Proofs
attribute [local irreducible] Code.wp Code.wpIn wpList wpListIn wpQuiet Calls CallsIn

theorem c_spec_links {list_0 : List (Int × (List Int) × Int)} {kind_1 : Int} {many_2 : Int} {alist_0 : Option Addr} {clist_0 : Nat} {r : (List (List Int))} (h : M.spec_links list_0 kind_1 many_2 = some r) :
    Cal2 Try.prog 53 [(Sl alist_0 list_0 clist_0), (I kind_1), (I many_2)] [Ch.ro 0 (Sl alist_0 list_0 clist_0) list_0] (fun n0 v L => ∃ (az1 : Option Addr), ∃ (cz2 : Nat), v = (Sl az1 r cz2) ∧ L = [Ch.own n0 n0 (Sl az1 r cz2) r]) := by
 refine cal2 (n := 64) Try.func53 rfl rfl rfl rfl ?_
 intro S0 σ0 n0 hn0 H
 unfold M.spec_links at h
 refine c_seq ?_
 refine rg ?_
 refine st (v := (.slice none 0 0)) (rv_assign rfl) ?_
 refine w_end ?_
 refine q_then ?_
 refine c_seq ?_
 refine rg ?_
 refine st_ex (ex_buildSlice (el := n0) (xs := ([] : List (List Int))) (ps := []) (cs := []) H hn0 Try.underlying26 ti30 rfl rfl (by kernel_rfl) (.nil) rfl) wn ?_
 rintro _ σ2 ⟨b1, rfl, H, -⟩
 refine st (v := (Sl (some ⟨b1, 0, none⟩) ([] : List (List Int)) 0)) (rv_assign rfl) ?_
 refine w_end ?_
 refine q_then ?_
 refine c_seq ?_
 refine c_seq ?_
 refine rg ?_
 refine st (v := (I 0)) (rv_assign rfl) ?_
 refine w_end ?_
 refine q_then ?_
 obtain ⟨o3, hj, h'⟩ := bind_some h
 clear h
 refine c_cut (fun e a w => e = .normal ∧ ∃ (ρ : Nat → Value) (σ : St) (aj1 : Option Addr) (cj2 : Nat), a = fr 64 (updL ρ [(7, (Sl aj1 o3 cj2))]) ∧ w = σ.w ∧ Hp S0 σ0 σ [Ch.own n0 n0 (Sl aj1 o3 cj2) o3]) ?_ ?_
 ·clear h'
  rename _ = some o3 => h
  refine c_blk ?_
  refine wp_loopM _ h (fun s4 a w => ∃ (ρ : Nat → Value) (σ : St) (aj1 : Option Addr) (cj2 : Nat), a = fr 64 (updL ρ [(0, (Sl alist_0 list_0 clist_0)), (1, (I kind_1)), (2, (I many_2)), (7, (Sl aj1 s4.1 cj2)), (8, (I s4.2))]) ∧ w = σ.w ∧ Hp S0 σ0 σ [Ch.ro 0 (Sl alist_0 list_0 clist_0) list_0, Ch.own n0 n0 (Sl aj1 s4.1 cj2) s4.1]) ⟨_, σ2, (some ⟨b1, 0, none⟩), 0, fr_join ⟨rfl, rfl, rfl, rfl, rfl, trivial⟩, rfl, H.sel' [1, 0] rfl rfl⟩ ?_
  clear h H
  rintro s4 a w o ⟨ρ, σ5, a6, c7, rfl, rfl, H⟩ h hres
  refine c_seq ?_
  refine c_seq ?_
  refine rg ?_
  refine st (v := (I s4.2)) (rv_move rfl) ?_
  refine st (v := (Sl alist_0 list_0 clist_0)) (rv_move rfl) ?_
  refine st (v := (I (list_0.length : Int))) (rv_len Try.underlying23 rfl) ?_
  refine st (v := (B (decide (s4.2 < (list_0.length : Int))))) (rv_lss (a := s4.2) (b := (list_0.length : Int)) rfl rfl) ?_
  refine w_end ?_
  refine q_then ?_
  refine cd_cond (decide (s4.2 < (list_0.length : Int))) rfl (fun hb8 => ?_) (fun hb8 => ?_)
  ·replace h := bif_t hb8 h
   refine c_skip ?_
   refine q_then ?_
   refine c_seq ?_
   refine c_blk ?_
   refine c_seq ?_
   refine rg ?_
   refine st_ex (ex_buildSlice (el := n0) (xs := ([] : List (Int × Int))) (ps := []) (cs := []) H hn0 Try.underlying56 ti91 rfl rfl (by kernel_rfl) (.nil) rfl) wn ?_
   rintro _ σ10 ⟨b9, rfl, H, -⟩
   refine st (v := (Sl (some ⟨b9, 0, none⟩) ([] : List (Int × Int)) 0)) (rv_assign rfl) ?_
   refine w_end ?_
   refine q_then ?_
   refine c_seq ?_
   refine c_seq ?_
   refine rg ?_
   refine st (v := (I 0)) (rv_assign rfl) ?_
   refine w_end ?_
   refine q_then ?_
   obtain ⟨o11, hj, h'⟩ := bind_some h
   clear h
   refine c_cut (fun e a w => e = .normal ∧ ∃ (ρ : Nat → Value) (σ : St) (aj1 : Option Addr) (cj2 : Nat), a = fr 64 (updL ρ [(0, (Sl alist_0 list_0 clist_0)), (1, (I kind_1)), (2, (I many_2)), (7, (Sl a6 s4.1 c7)), (8, (I s4.2)), (9, (Sl aj1 o11 cj2))]) ∧ w = σ.w ∧ Hp S0 σ0 σ [Ch.ro 0 (Sl alist_0 list_0 clist_0) list_0, Ch.own n0 n0 (Sl a6 s4.1 c7) s4.1, Ch.own n0 n0 (Sl aj1 o11 cj2) o11]) ?_ ?_
   ·clear h'
    rename _ = some o11 => h
    refine c_blk ?_
    refine wp_loopM _ h (fun s12 a w => ∃ (ρ : Nat → Value) (σ : St) (aj1 : Option Addr) (cj2 : Nat), a = fr 64 (updL ρ [(0, (Sl alist_0 list_0 clist_0)), (1, (I kind_1)), (2, (I many_2)), (7, (Sl a6 s4.1 c7)), (8, (I s4.2)), (9, (Sl aj1 s12.1 cj2)), (10, (I s12.2))]) ∧ w = σ.w ∧ Hp S0 σ0 σ [Ch.ro 0 (Sl alist_0 list_0 clist_0) list_0, Ch.own n0 n0 (Sl a6 s4.1 c7) s4.1, Ch.own n0 n0 (Sl aj1 s12.1 cj2) s12.1]) ⟨_, σ10, (some ⟨b9, 0, none⟩), 0, fr_join ⟨rfl, rfl, rfl, rfl, rfl, rfl, rfl, trivial⟩, rfl, H.sel' [1, 2, 0] rfl rfl⟩ ?_
    clear h H
    rintro s12 a w o ⟨ρ, σ13, a14, c15, rfl, rfl, H⟩ h hres
    refine c_seq ?_
    refine c_seq ?_
    refine rg ?_
    refine st (v := (I s12.2)) (rv_move rfl) ?_
    refine st (v := (Sl alist_0 list_0 clist_0)) (rv_move rfl) ?_
    refine st (v := (I (list_0.length : Int))) (rv_len Try.underlying23 rfl) ?_
    refine st (v := (B (decide (s12.2 < (list_0.length : Int))))) (rv_lss (a := s12.2) (b := (list_0.length : Int)) rfl rfl) ?_
    refine w_end ?_
    refine q_then ?_
    refine cd_cond (decide (s12.2 < (list_0.length : Int))) rfl (fun hb16 => ?_) (fun hb16 => ?_)
    ·replace h := bif_t hb16 h
     refine c_skip ?_
     refine q_then ?_
     refine c_seq ?_
     obtain ⟨o17, hj, h'⟩ := bind_some h
     clear h
     refine c_cut (fun e a w => e = .normal ∧ ∃ (ρ : Nat → Value) (σ : St) (aj1 : Option Addr) (cj2 : Nat), a = fr 64 (updL ρ [(0, (Sl alist_0 list_0 clist_0)), (1, (I kind_1)), (2, (I many_2)), (7, (Sl a6 s4.1 c7)), (8, (I s4.2)), (9, (Sl aj1 o17 cj2)), (10, (I s12.2))]) ∧ w = σ.w ∧ Hp S0 σ0 σ [Ch.ro 0 (Sl alist_0 list_0 clist_0) list_0, Ch.own n0 n0 (Sl a6 s4.1 c7) s4.1, Ch.own n0 n0 (Sl aj1 o17 cj2) o17]) ?_ ?_
     ·clear h'
      rename _ = some o17 => h
      refine c_blk ?_
      refine c_seq ?_
      refine rg ?_
      refine st (v := (I s12.2)) (rv_move rfl) ?_
      refine st (v := (I s4.2)) (rv_move rfl) ?_
      refine st (v := (B (s12.2 != s4.2))) (rv_neq (a := s12.2) (b := s4.2) rfl rfl) ?_
      refine w_end ?_
      refine q_then ?_
      refine cd_cond (s12.2 != s4.2) rfl (fun hb18 => ?_) (fun hb18 => ?_)
      ·replace h := bif_t hb18 h
       obtain ⟨x19, hx20, h'⟩ := bind_some h
       clear h
       have h := h'; clear h'
       obtain ⟨b22, o23, hi21, -⟩ := (H.ro 0 rfl).ix hx20
       obtain ⟨_, ⟨_, _, rfl, rfl, ⟨_, _, rfl, ⟨_, rfl, hR28⟩, rfl⟩⟩, hl24, hc25⟩ := ((H.ro 0 rfl).at hx20 hi21).cells
       obtain ⟨a26, c27, rfl⟩ := hR28.isSl
       replace H := H.add (d := Ch.ro 0 (Sl a26 x19.2.1 c27) x19.2.1) hR28 (fun _ h => h)
       clear hR28
       obtain ⟨x29, hx30, h'⟩ := bind_some h
       clear h
       have h := h'; clear h'
       obtain ⟨b32, o33, hi31, -⟩ := (H.ro 1 rfl).ix hx30
       obtain ⟨v37, hc38, hR36⟩ := ((H.ro 1 rfl).at hx30 hi31).snd.fst.slice
       obtain ⟨a34, c35, rfl⟩ := hR36.isSl
       replace H := H.add (d := Ch.ro 0 (Sl a34 x29.2.1 c35) x29.2.1) hR36 (fun _ h => h)
       clear hR36
       obtain ⟨r39, hx40, h'⟩ := bind_some h
       clear h
       have h := h'; clear h'
       have hc41 := c_spec_hit (ax_0_1 := a26) (cx_0_1 := c27) (aat_2 := a34) (cat_2 := c35) hx40
       have Hs := H
       refine rg2 (σ := σ13) (Nm := Unit) 13 [11] [[false], [true]] [[(0, 0), (1, 1)], [(0, 0)], [(0, 0)], [(0, 0)], [(0, 0)], [(0, 0)], [(0, 0)], [(0, 0)], [(0, 0)], [(0, 0)], [(0, 0)], [(0, 1)], [(0, 0), (1, 1)]] 1 [fun _ => fun σm => Hp S0 σ0 σm [Ch.ro 0 (Sl a34 x29.2.1 c35) x29.2.1, Ch.ro 0 (Sl a26 x19.2.1 c27) x19.2.1, Ch.ro 0 (Sl alist_0 list_0 clist_0) list_0, Ch.own n0 n0 (Sl a6 s4.1 c7) s4.1, Ch.own n0 n0 (Sl a14 s12.1 c15) s12.1] ∧ Md (cov []) σ13 σm, fun _ => fun σm => Hp S0 σ0 σm [Ch.ro 0 (Sl a34 x29.2.1 c35) x29.2.1, Ch.ro 0 (Sl a26 x19.2.1 c27) x19.2.1, Ch.ro 0 (Sl alist_0 list_0 clist_0) list_0, Ch.own n0 n0 (Sl a6 s4.1 c7) s4.1, Ch.own n0 n0 (Sl a14 s12.1 c15) s12.1] ∧ Md (cov []) σ13 σm] [fun _ => (Sl a14 s12.1 c15), fun _ => (Sl alist_0 list_0 clist_0), fun _ => (I s12.2), fun _ => (pt b22 o23), fun _ => (.agg #[(I x19.1), (Sl a26 x19.2.1 c27), (I x19.2.2)]), fun _ => (I kind_1), fun _ => (Sl alist_0 list_0 clist_0), fun _ => (I s4.2), fun _ => (pt b32 o33), fun _ => (pt b32 (o33 + 1)), fun _ => (Sl a34 x29.2.1 c35), fun _ => (.agg #[(I r39.1), (I r39.2)]), fun _ => (I many_2)] () (by kernel_rfl) (by kernel_rfl) ?_ ?_ ?_
       ·intro σm m0
        exact ⟨H.grow (m0.mono fun _ h => h.elim), m0⟩
       ·refine ac rfl (by
          intro k _nm ρ σm hJ hoff hdep
          have e9 := look_off (N := 64) (hoff 9 rfl) rfl
          exact dp_v (v := (Sl a14 s12.1 c15)) wn (rv_move e9) rfl hJ) ?_
        refine ac rfl (by
          intro k _nm ρ σm hJ hoff hdep
          have e0 := look_off (N := 64) (hoff 0 rfl) rfl
          exact dp_v (v := (Sl alist_0 list_0 clist_0)) wn (rv_move e0) rfl hJ) ?_
        refine ac rfl (by
          intro k _nm ρ σm hJ hoff hdep
          have e10 := look_off (N := 64) (hoff 10 rfl) rfl
          exact dp_v (v := (I s12.2)) wn (rv_move e10) rfl hJ) ?_
        refine ac rfl (by
          intro k _nm ρ σm hJ hoff hdep
          have e31 := hdep 1 rfl rfl 31 rfl
          have e32 := hdep 2 rfl rfl 32 rfl
          exact dp_v (v := (pt b22 o23)) wn (rv_ix Try.underlying23 ti32 e31 e32 hi21) rfl hJ) ?_
        refine all_cons (by
          refine ⟨?_, ?_⟩
          ·intro _nm ρ σm hJ hoff hdep
           have e33 := hdep 3 rfl rfl 33 rfl
           obtain ⟨H, m⟩ := id hJ
           replace hc25 := fun j hj => (Hs.ro 2 rfl).hmd hx20 hi21 (k := j) (Nat.lt_of_lt_of_eq hj hl24) (hc25 j hj) m
           exact dp_v (v := (.agg #[(I x19.1), (Sl a26 x19.2.1 c27), (I x19.2.2)])) wn (rv_load Try.underlying32 rfl ti32 e33 hl24 hc25) rfl hJ
          trivial) ?_
        refine ac rfl (by
          intro k _nm ρ σm hJ hoff hdep
          have e1 := look_off (N := 64) (hoff 1 rfl) rfl
          exact dp_v (v := (I kind_1)) wn (rv_move e1) rfl hJ) ?_
        refine ac rfl (by
          intro k _nm ρ σm hJ hoff hdep
          have e0 := look_off (N := 64) (hoff 0 rfl) rfl
          exact dp_v (v := (Sl alist_0 list_0 clist_0)) wn (rv_move e0) rfl hJ) ?_
        refine ac rfl (by
          intro k _nm ρ σm hJ hoff hdep
          have e8 := look_off (N := 64) (hoff 8 rfl) rfl
          exact dp_v (v := (I s4.2)) wn (rv_move e8) rfl hJ) ?_
        refine ac rfl (by
          intro k _nm ρ σm hJ hoff hdep
          have e36 := hdep 6 rfl rfl 36 rfl
          have e37 := hdep 7 rfl rfl 37 rfl
          exact dp_v (v := (pt b32 o33)) wn (rv_ix Try.underlying23 ti32 e36 e37 hi31) rfl hJ) ?_
        refine ac rfl (by
          intro k _nm ρ σm hJ hoff hdep
          have e38 := hdep 8 rfl rfl 38 rfl
          exact dp_v (v := (pt b32 (o33 + 1))) wn (rv_fieldAddr (off := 1) (ft := 30) Try.underlying32 rfl ti30 rfl e38) rfl hJ) ?_
        refine all_cons (by
          refine ⟨?_, ?_⟩
          ·intro _nm ρ σm hJ hoff hdep
           have e39 := hdep 9 rfl rfl 39 rfl
           obtain ⟨H, m⟩ := id hJ
           replace hc38 := (Hs.ro 2 rfl).hmd hx30 hi31 (k := 1) (by decide) hc38 m
           exact dp_v (v := (Sl a34 x29.2.1 c35)) wn (rv_load1 Try.underlying30 rfl e39 hc38) rfl hJ
          trivial) ?_
        refine all_cons (by
          refine ⟨?_, ?_⟩
          ·intro _nm ρ σm hJ hoff hdep
           have e34 : look 64 ρ 34 = (.agg #[(I x19.1), (Sl a26 x19.2.1 c27), (I x19.2.2)]) := hdep 4 rfl rfl 34 rfl
           have e35 : look 64 ρ 35 = (I kind_1) := hdep 5 rfl rfl 35 rfl
           have e40 : look 64 ρ 40 = (Sl a34 x29.2.1 c35) := hdep 10 rfl rfl 40 rfl
           obtain ⟨H, m⟩ := id hJ
           refine dp_cx wn (cx_call hc41 (ent_f hc41.fn (by show [look 64 ρ 34, look 64 ρ 35, look 64 ρ 40] = _; rw [e34, e35, e40])) hn0 (show Hp S0 σ0 _ ([Ch.ro 0 (Sl a26 x19.2.1 c27) x19.2.1, Ch.ro 0 (Sl a34 x29.2.1 c35) x29.2.1] ++ [Ch.ro 0 (Sl a34 x29.2.1 c35) x29.2.1, Ch.ro 0 (Sl a26 x19.2.1 c27) x19.2.1, Ch.ro 0 (Sl alist_0 list_0 clist_0) list_0, Ch.own n0 n0 (Sl a6 s4.1 c7) s4.1, Ch.own n0 n0 (Sl a14 s12.1 c15) s12.1]) from (H.sel' [1, 0, 0, 1, 2, 3, 4] rfl rfl))) ?_
           rintro _ σq ⟨_, ⟨rfl, rfl⟩, H2, m2⟩
           exact ⟨_, (), rfl, rfl, ⟨H2.sel' [0, 1, 2, 3, 4] rfl rfl, m.comp0 (m2.mono (fun i h => by simp [cov, Ch.ro] at h))⟩, stab [0, 1, 2, 3, 4, 5, 6, 7, 8, 9, 10, 12] (by kernel_rfl) ⟨rfl, rfl, rfl, rfl, rfl, rfl, rfl, rfl, rfl, rfl, rfl, rfl, trivial⟩⟩
          trivial) ?_
        refine ac rfl (by
          intro k _nm ρ σm hJ hoff hdep
          have e2 := look_off (N := 64) (hoff 2 rfl) rfl
          exact dp_v (v := (I many_2)) wn (rv_move e2) rfl hJ) ?_
        exact all_nil
       ·intro _nm ρ σ42 hJ hoff hrel
        have e0 := look_off (N := 64) (hoff 0 rfl) rfl
        have e1 := look_off (N := 64) (hoff 1 rfl) rfl
        have e2 := look_off (N := 64) (hoff 2 rfl) rfl
        have e7 := look_off (N := 64) (hoff 7 rfl) rfl
        have e8 := look_off (N := 64) (hoff 8 rfl) rfl
        have e10 := look_off (N := 64) (hoff 10 rfl) rfl
        have e30 := hrel 0 rfl 30 rfl
        have e41 := hrel 11 rfl 41 rfl
        have e42 := hrel 12 rfl 42 rfl
        obtain ⟨H, -⟩ := (show Hp S0 σ0 σ42 [Ch.ro 0 (Sl a34 x29.2.1 c35) x29.2.1, Ch.ro 0 (Sl a26 x19.2.1 c27) x19.2.1, Ch.ro 0 (Sl alist_0 list_0 clist_0) list_0, Ch.own n0 n0 (Sl a6 s4.1 c7) s4.1, Ch.own n0 n0 (Sl a14 s12.1 c15) s12.1] ∧ Md (cov []) σ13 σ42 from hJ)
        clear hJ Hs
        rw [fr_lookL (L := [(0, (Sl alist_0 list_0 clist_0)), (1, (I kind_1)), (2, (I many_2)), (7, (Sl a6 s4.1 c7)), (8, (I s4.2)), (10, (I s12.2)), (30, (Sl a14 s12.1 c15)), (41, (.agg #[(I r39.1), (I r39.2)])), (42, (I many_2))]) ⟨e0, e1, e2, e7, e8, e10, e30, e41, e42, trivial⟩]
        clear hoff hrel e0 e1 e2 e7 e8 e10 e30 e41 e42
        obtain ⟨σ43, hw44, H, -⟩ := H.pub 4 rfl (Nat.le_refl _)
        rw [← hw44]; clear hw44
        replace H := H.roLow 0 0 rfl (Nat.zero_le _)
        obtain ⟨r45, hx46, h'⟩ := bind_some h
        clear h
        have h := h'; clear h'
        have hc47 := c_spec_addHit (alist_0 := a14) (clist_0 := c15) hx46
        refine st_call (cx_call hc47 (ent_f hc47.fn rfl) hn0 (show Hp S0 σ0 _ ([Ch.ro 0 (Sl a14 s12.1 c15) s12.1] ++ [Ch.ro 0 (Sl a14 s12.1 c15) s12.1, Ch.ro n0 (Sl a14 s12.1 c15) s12.1, Ch.ro 0 (Sl a34 x29.2.1 c35) x29.2.1, Ch.ro 0 (Sl a26 x19.2.1 c27) x19.2.1, Ch.ro 0 (Sl alist_0 list_0 clist_0) list_0, Ch.own n0 n0 (Sl a6 s4.1 c7) s4.1]) from (H.sel' [0, 0, 1, 2, 3, 4, 5] rfl rfl))) wn ?_
        rintro _ σ50 ⟨_, ⟨a48, c49, rfl, rfl⟩, H, -⟩
        replace H : Hp S0 σ0 σ50 [Ch.own n0 n0 (Sl a48 r45 c49) r45, Ch.ro 0 (Sl a14 s12.1 c15) s12.1, Ch.ro n0 (Sl a14 s12.1 c15) s12.1, Ch.ro 0 (Sl a34 x29.2.1 c35) x29.2.1, Ch.ro 0 (Sl a26 x19.2.1 c27) x19.2.1, Ch.ro 0 (Sl alist_0 list_0 clist_0) list_0, Ch.own n0 n0 (Sl a6 s4.1 c7) s4.1] := H
        refine st (v := (Sl a48 r45 c49)) (rv_assign rfl) ?_
        refine w_end ?_
        refine q_blk ?_
        obtain rfl := Option.some.inj h
        exact ⟨rfl, _, σ50, a48, c49, fr_join ⟨rfl, rfl, rfl, rfl, rfl, rfl, rfl, trivial⟩, rfl, H.sel' [5, 6, 0] rfl rfl⟩
      ·replace h := bif_f hb18 h
       refine c_skip ?_
       refine q_blk ?_
       obtain rfl := Option.some.inj h
       exact ⟨rfl, _, σ13, a14, c15, fr_join ⟨rfl, rfl, rfl, rfl, rfl, rfl, rfl, trivial⟩, rfl, H.sel' [0, 1, 2] rfl rfl⟩
     ·clear hj
      have h := h'
      clear h' H
      rintro e a w ⟨rfl, ρ, σ51, a52, c53, rfl, rfl, H⟩
      refine q_then ?_
      refine rg ?_
      refine st (v := (I s12.2)) (rv_move rfl) ?_
      refine st (v := (I (w64 (s12.2 + 1)))) (rv_add (a := s12.2) (b := 1) rfl rfl) ?_
      refine st (v := (I (w64 (s12.2 + 1)))) (rv_assign rfl) ?_
      refine w_end ?_
      refine q_then ?_
      obtain rfl := Option.some.inj h
      exact ⟨_, rfl, _, σ51, a52, c53, fr_join ⟨rfl, rfl, rfl, rfl, rfl, rfl, rfl, trivial⟩, rfl, H.sel' [0, 1, 2] rfl rfl⟩
    ·replace h := bif_f hb16 h
     refine c_exit ?_
     refine q_then_x ?_
     refine q_then_x ?_
     refine q_blk_hit ?_
     obtain rfl := Option.some.inj h
     obtain rfl := hres _ rfl
     exact ⟨rfl, _, σ13, a14, c15, fr_join ⟨rfl, rfl, rfl, rfl, rfl, rfl, trivial⟩, rfl, H.sel' [0, 1, 2] rfl rfl⟩
   ·clear hj
    have h := h'
    clear h' H
    rintro e a w ⟨rfl, ρ, σ54, a55, c56, rfl, rfl, H⟩
    refine q_then ?_
    refine c_seq ?_
    refine rg ?_
    refine st_ex (ex_buildSlice (el := n0) (xs := ([] : List Int)) (ps := []) (cs := []) H hn0 Try.underlying30 ti3 rfl rfl (by kernel_rfl) (.nil) rfl) wn ?_
    rintro _ σ58 ⟨b57, rfl, H, -⟩
    refine st (v := (Sl (some ⟨b57, 0, none⟩) ([] : List Int) 0)) (rv_assign rfl) ?_
    refine w_end ?_
    refine q_then ?_
    refine c_seq ?_
    refine c_seq ?_
    refine rg ?_
    refine st (v := (I 0)) (rv_assign rfl) ?_
    refine w_end ?_
    refine q_then ?_
    obtain ⟨o59, hj, h'⟩ := bind_some h
    clear h
    refine c_cut (fun e a w => e = .normal ∧ ∃ (ρ : Nat → Value) (σ : St) (aj1 : Option Addr) (cj2 : Nat), a = fr 64 (updL ρ [(0, (Sl alist_0 list_0 clist_0)), (1, (I kind_1)), (2, (I many_2)), (7, (Sl a6 s4.1 c7)), (8, (I s4.2)), (11, (Sl aj1 o59 cj2))]) ∧ w = σ.w ∧ Hp S0 σ0 σ [Ch.ro 0 (Sl alist_0 list_0 clist_0) list_0, Ch.own n0 n0 (Sl a6 s4.1 c7) s4.1, Ch.own n0 n0 (Sl aj1 o59 cj2) o59]) ?_ ?_
    ·clear h'
     rename _ = some o59 => h
     refine c_blk ?_
     refine wp_loopM _ h (fun s60 a w => ∃ (ρ : Nat → Value) (σ : St) (aj1 : Option Addr) (cj2 : Nat), a = fr 64 (updL ρ [(0, (Sl alist_0 list_0 clist_0)), (1, (I kind_1)), (2, (I many_2)), (7, (Sl a6 s4.1 c7)), (8, (I s4.2)), (9, (Sl a55 o11 c56)), (11, (Sl aj1 s60.1 cj2)), (12, (I s60.2))]) ∧ w = σ.w ∧ Hp S0 σ0 σ [Ch.ro 0 (Sl alist_0 list_0 clist_0) list_0, Ch.own n0 n0 (Sl a6 s4.1 c7) s4.1, Ch.own n0 n0 (Sl a55 o11 c56) o11, Ch.own n0 n0 (Sl aj1 s60.1 cj2) s60.1]) ⟨_, σ58, (some ⟨b57, 0, none⟩), 0, fr_join ⟨rfl, rfl, rfl, rfl, rfl, rfl, rfl, rfl, trivial⟩, rfl, H.sel' [1, 2, 3, 0] rfl rfl⟩ ?_
     clear h H
     rintro s60 a w o ⟨ρ, σ61, a62, c63, rfl, rfl, H⟩ h hres
     refine c_seq ?_
     refine c_seq ?_
     refine rg ?_
     refine st (v := (I s60.2)) (rv_move rfl) ?_
     refine st (v := (Sl a55 o11 c56)) (rv_move rfl) ?_
     refine st (v := (I (o11.length : Int))) (rv_len Try.underlying56 rfl) ?_
     refine st (v := (B (decide (s60.2 < (o11.length : Int))))) (rv_lss (a := s60.2) (b := (o11.length : Int)) rfl rfl) ?_
     refine w_end ?_
     refine q_then ?_
     refine cd_cond (decide (s60.2 < (o11.length : Int))) rfl (fun hb64 => ?_) (fun hb64 => ?_)
     ·replace h := bif_t hb64 h
      refine c_skip ?_
      refine q_then ?_
      refine c_seq ?_
      refine c_blk ?_
      refine rg ?_
      refine st (v := (Sl a62 s60.1 c63)) (rv_move rfl) ?_
      refine st (v := (Sl a55 o11 c56)) (rv_move rfl) ?_
      refine st (v := (I s60.2)) (rv_move rfl) ?_
      obtain ⟨x65, hx66, h'⟩ := bind_some h
      clear h
      have h := h'; clear h'
      obtain ⟨b68, o69, hi67, -⟩ := (H.own 2 rfl).ix hx66
      refine st (v := (pt b68 o69)) (rv_ix Try.underlying56 ti91 rfl rfl hi67) ?_
      refine st (v := (pt b68 (o69 + 0))) (rv_fieldAddr (off := 0) (ft := 3) Try.underlying91 rfl ti3 rfl rfl) ?_
      have hc70 := ((H.own 2 rfl).at hx66 hi67).fst.int
      refine st (v := (I x65.1)) (rv_load1 Try.underlying3 rfl rfl hc70) ?_
      refine st_ex (ex_buildSlice (el := n0) (xs := ([x65.1] : List Int)) (ps := [(0, (I x65.1))]) (cs := [(I x65.1)]) H hn0 Try.underlying30 ti3 rfl rfl (by kernel_rfl) (.cons (c := [(I x65.1)]) rfl (.nil)) rfl) wn ?_
      rintro _ σ72 ⟨b71, rfl, H, -⟩
      obtain ⟨xs73, hx74, h'⟩ := bind_some h
      clear h
      have h := h'; clear h'
      refine st_ex (ex_append H (i := 4) rfl Try.underlying30 Try.underlying30 ti3 rfl rfl (by decide) (H.own 0 rfl).rd hx74 hn0 rfl rfl) wn ?_
      rintro _ σ77 ⟨a75, c76, rfl, H, -⟩
      refine st (v := (Sl a75 xs73 c76)) (rv_assign rfl) ?_
      refine w_end ?_
      refine q_blk ?_
      refine q_then ?_
      refine rg ?_
      refine st (v := (I s60.2)) (rv_move rfl) ?_
      refine st (v := (I (w64 (s60.2 + 1)))) (rv_add (a := s60.2) (b := 1) rfl rfl) ?_
      refine st (v := (I (w64 (s60.2 + 1)))) (rv_assign rfl) ?_
      refine w_end ?_
      refine q_then ?_
      obtain rfl := Option.some.inj h
      exact ⟨_, rfl, _, σ77, a75, c76, fr_join ⟨rfl, rfl, rfl, rfl, rfl, rfl, rfl, rfl, trivial⟩, rfl, H.sel' [2, 3, 4, 0] rfl rfl⟩
     ·replace h := bif_f hb64 h
      refine c_exit ?_
      refine q_then_x ?_
      refine q_then_x ?_
      refine q_blk_hit ?_
      obtain rfl := Option.some.inj h
      obtain rfl := hres _ rfl
      exact ⟨rfl, _, σ61, a62, c63, fr_join ⟨rfl, rfl, rfl, rfl, rfl, rfl, trivial⟩, rfl, H.sel' [0, 1, 3] rfl rfl⟩
    ·clear hj
     have h := h'
     clear h' H
     rintro e a w ⟨rfl, ρ, σ78, a79, c80, rfl, rfl, H⟩
     refine q_then ?_
     refine rg ?_
     refine st (v := (Sl a6 s4.1 c7)) (rv_move rfl) ?_
     refine st (v := (Sl a79 o59 c80)) (rv_move rfl) ?_
     obtain ⟨σ81, hw82, H, -⟩ := H.pub 2 rfl (Nat.le_refl _)
     rw [← hw82]; clear hw82
     refine st_ex (ex_buildSlice (el := n0) (xs := ([o59] : List (List Int))) (ps := [(0, (Sl a79 o59 c80))]) (cs := [(Sl a79 o59 c80)]) H hn0 Try.underlying26 ti30 rfl rfl (by kernel_rfl) (.cons (c := [(Sl a79 o59 c80)]) ⟨_, rfl, (H.ro 0 rfl)⟩ (.nil)) rfl) wn ?_
     rintro _ σ84 ⟨b83, rfl, H, -⟩
     obtain ⟨xs85, hx86, h'⟩ := bind_some h
     clear h
     have h := h'; clear h'
     refine st_ex (ex_append H (i := 3) rfl Try.underlying26 Try.underlying26 ti30 rfl rfl (by decide) (H.own 0 rfl).rd hx86 hn0 rfl rfl) wn ?_
     rintro _ σ89 ⟨a87, c88, rfl, H, -⟩
     refine st (v := (Sl a87 xs85 c88)) (rv_assign rfl) ?_
     refine w_end ?_
     refine q_blk ?_
     refine q_then ?_
     refine rg ?_
     refine st (v := (I s4.2)) (rv_move rfl) ?_
     refine st (v := (I (w64 (s4.2 + 1)))) (rv_add (a := s4.2) (b := 1) rfl rfl) ?_
     refine st (v := (I (w64 (s4.2 + 1)))) (rv_assign rfl) ?_
     refine w_end ?_
     refine q_then ?_
     obtain rfl := Option.some.inj h
     exact ⟨_, rfl, _, σ89, a87, c88, fr_join ⟨rfl, rfl, rfl, rfl, rfl, trivial⟩, rfl, H.sel' [3, 0] rfl rfl⟩
  ·replace h := bif_f hb8 h
   refine c_exit ?_
   refine q_then_x ?_
   refine q_then_x ?_
   refine q_blk_hit ?_
   obtain rfl := Option.some.inj h
   obtain rfl := hres _ rfl
   exact ⟨rfl, _, σ5, a6, c7, fr_join ⟨rfl, trivial⟩, rfl, H.sel' [1] rfl rfl⟩
 ·clear hj
  have h := h'
  clear h' H
  rintro e a w ⟨rfl, ρ, σ90, a91, c92, rfl, rfl, H⟩
  refine q_then ?_
  refine c_seq ?_
  refine rg ?_
  refine st (v := (Sl a91 o3 c92)) (rv_move rfl) ?_
  refine st (v := (Sl a91 o3 c92)) (rv_assign rfl) ?_
  refine w_end ?_
  refine q_then ?_
  refine c_ret ?_
  obtain rfl := Option.some.inj h
  exact fin_ret (v := (Sl a91 o3 c92)) (results_ok Try.results53 (res_tmp (v := (Sl a91 o3 c92)) rfl res_nil) rfl) ⟨a91, c92, rfl, rfl⟩ (H.sel' [0] rfl rfl)

theorem c_spec_isIn {list_0 : List Int} {n_1 : Int} {alist_0 : Option Addr} {clist_0 : Nat} {r : Bool} (h : M.spec_isIn list_0 n_1 = some r) :
    Cal2 Try.prog 54 [(Sl alist_0 list_0 clist_0), (I n_1)] [Ch.ro 0 (Sl alist_0 list_0 clist_0) list_0] (fun n0 v L => v = (B r) ∧ L = []) := by
 refine cal2 (n := 18) Try.func54 rfl rfl rfl rfl ?_
 intro S0 σ0 n0 hn0 H
 unfold M.spec_isIn at h
 refine c_seq ?_
 refine rg ?_
 refine st (v := (B false)) (rv_assign rfl) ?_
 refine w_end ?_
 refine q_then ?_
 refine c_seq ?_
 refine c_seq ?_
 refine rg ?_
 refine st (v := (I 0)) (rv_assign rfl) ?_
 refine w_end ?_
 refine q_then ?_
 obtain ⟨o1, hj, h'⟩ := bind_some h
 clear h
 refine c_cut (fun e a w => (∃ t, o1 = (.inl t) ∧ e = .normal ∧ ∃ (ρ : Nat → Value) (σ : St), a = fr 18 (updL ρ []) ∧ w = σ.w ∧ Hp S0 σ0 σ []) ∨ (∃ t, o1 = (.inr t) ∧ e = .ret ∧ ∃ (ρ : Nat → Value) (σ : St), a = fr 18 (updL ρ [(4, (B t))]) ∧ w = σ.w ∧ Hp S0 σ0 σ [])) ?_ ?_
 ·clear h'
  rename _ = some o1 => h
  refine c_blk ?_
  refine wp_loopM _ h (fun s2 a w => ∃ (ρ : Nat → Value) (σ : St), a = fr 18 (updL ρ [(0, (Sl alist_0 list_0 clist_0)), (1, (I n_1)), (5, (I s2))]) ∧ w = σ.w ∧ Hp S0 σ0 σ [Ch.ro 0 (Sl alist_0 list_0 clist_0) list_0]) ⟨_, σ0, fr_join ⟨rfl, rfl, rfl, trivial⟩, rfl, H.sel' [0] rfl rfl⟩ ?_
  clear h H
  rintro s2 a w o ⟨ρ, σ3, rfl, rfl, H⟩ h hres
  refine c_seq ?_
  refine c_seq ?_
  refine rg ?_
  refine st (v := (I s2)) (rv_move rfl) ?_
  refine st (v := (Sl alist_0 list_0 clist_0)) (rv_move rfl) ?_
  refine st (v := (I (list_0.length : Int))) (rv_len Try.underlying30 rfl) ?_
  refine st (v := (B (decide (s2 < (list_0.length : Int))))) (rv_lss (a := s2) (b := (list_0.length : Int)) rfl rfl) ?_
  refine w_end ?_
  refine q_then ?_
  refine cd_cond (decide (s2 < (list_0.length : Int))) rfl (fun hb4 => ?_) (fun hb4 => ?_)
  ·replace h := bif_t hb4 h
   refine c_skip ?_
   refine q_then ?_
   refine c_seq ?_
   refine c_blk ?_
   refine c_seq ?_
   refine rg ?_
   refine st (v := (Sl alist_0 list_0 clist_0)) (rv_move rfl) ?_
   refine st (v := (I s2)) (rv_move rfl) ?_
   obtain ⟨x5, hx6, h'⟩ := bind_some h
   clear h
   have h := h'; clear h'
   obtain ⟨b8, o9, hi7, -⟩ := (H.ro 0 rfl).ix hx6
   refine st (v := (pt b8 o9)) (rv_ix Try.underlying30 ti3 rfl rfl hi7) ?_
   have hc10 := ((H.ro 0 rfl).at hx6 hi7).int
   refine st (v := (I x5)) (rv_load1 Try.underlying3 rfl rfl hc10) ?_
   refine st (v := (I n_1)) (rv_move rfl) ?_
   refine st (v := (B (x5 == n_1))) (rv_eql (a := x5) (b := n_1) rfl rfl) ?_
   refine w_end ?_
   refine q_then ?_
   refine cd_cond (x5 == n_1) rfl (fun hb11 => ?_) (fun hb11 => ?_)
   ·replace h := bif_t hb11 h
    refine c_seq ?_
    refine rg ?_
    refine st (v := (B true)) (rv_assign rfl) ?_
    refine w_end ?_
    refine q_then ?_
    refine c_ret ?_
    refine q_blk_r ?_
    refine q_then_r ?_
    refine q_then_r ?_
    refine q_blk_r ?_
    obtain rfl := Option.some.inj h
    obtain rfl := hres _ rfl
    exact .inr (⟨_, rfl, rfl, _, σ3, fr_join ⟨rfl, trivial⟩, rfl, H.sel' [] rfl rfl⟩)
   ·replace h := bif_f hb11 h
    refine c_skip ?_
    refine q_blk ?_
    refine q_then ?_
    refine rg ?_
    refine st (v := (I s2)) (rv_move rfl) ?_
    refine st (v := (I (w64 (s2 + 1)))) (rv_add (a := s2) (b := 1) rfl rfl) ?_
    refine st (v := (I (w64 (s2 + 1)))) (rv_assign rfl) ?_
    refine w_end ?_
    refine q_then ?_
    obtain rfl := Option.some.inj h
    exact ⟨_, rfl, _, σ3, fr_join ⟨rfl, rfl, rfl, trivial⟩, rfl, H.sel' [0] rfl rfl⟩
  ·replace h := bif_f hb4 h
   refine c_exit ?_
   refine q_then_x ?_
   refine q_then_x ?_
   refine q_blk_hit ?_
   obtain rfl := Option.some.inj h
   obtain rfl := hres _ rfl
   exact .inl ⟨_, rfl, rfl, _, σ3, fr_join trivial, rfl, H.sel' [] rfl rfl⟩
 ·clear hj
  have h := h'
  clear h' H
  rintro e a w (⟨t12, rfl, rfl, ρ, σ13, rfl, rfl, H⟩ | ⟨t14, rfl, rfl, ρ, σ15, rfl, rfl, H⟩)
  ·replace h := selim_l h
   refine q_then ?_
   refine c_seq ?_
   refine rg ?_
   refine st (v := (B false)) (rv_assign rfl) ?_
   refine w_end ?_
   refine q_then ?_
   refine c_ret ?_
   obtain rfl := Option.some.inj h
   exact fin_ret (v := (B false)) (results_ok Try.results54 (res_tmp (v := (B false)) rfl res_nil) rfl) ⟨rfl, rfl⟩ (H.sel' [] rfl rfl)
  ·replace h := selim_r h
   refine q_then_r ?_
   obtain rfl := Option.some.inj h
   exact fin_ret (v := (B t14)) (results_ok Try.results54 (res_tmp (v := (B t14)) rfl res_nil) rfl) ⟨rfl, rfl⟩ (H.sel' [] rfl rfl)

theorem c_spec_MutualLinks {list_0 : List (Int × (List Int) × Int)} {kind_1 : Int} {many_2 : Int} {alist_0 : Option Addr} {clist_0 : Nat} {r : (List (List Int))} (h : M.spec_MutualLinks list_0 kind_1 many_2 = some r) :
    Cal2 Try.prog 15 [(Sl alist_0 list_0 clist_0), (I kind_1), (I many_2)] [Ch.ro 0 (Sl alist_0 list_0 clist_0) list_0] (fun n0 v L => ∃ (az1 : Option Addr), ∃ (cz2 : Nat), v = (Sl az1 r cz2) ∧ L = [Ch.own n0 n0 (Sl az1 r cz2) r]) := by
 refine cal2 (n := 80) Try.func15 rfl rfl rfl rfl ?_
 intro S0 σ0 n0 hn0 H
 unfold M.spec_MutualLinks at h
 refine c_seq ?_
 refine rg ?_
 refine st (v := (.slice none 0 0)) (rv_assign rfl) ?_
 refine w_end ?_
 refine q_then ?_
 refine c_seq ?_
 refine rg ?_
 refine st_ex (ex_buildSlice (el := n0) (xs := ([] : List (List Int))) (ps := []) (cs := []) H hn0 Try.underlying26 ti30 rfl rfl (by kernel_rfl) (.nil) rfl) wn ?_
 rintro _ σ2 ⟨b1, rfl, H, -⟩
 refine st (v := (Sl (some ⟨b1, 0, none⟩) ([] : List (List Int)) 0)) (rv_assign rfl) ?_
 refine w_end ?_
 refine q_then ?_
 refine c_seq ?_
 refine c_seq ?_
 obtain ⟨o3, hj, h'⟩ := bind_some h
 clear h
 refine c_cut (fun e a w => e = .normal ∧ ∃ (ρ : Nat → Value) (σ : St), a = fr 80 (updL ρ [(0, (Sl alist_0 list_0 clist_0)), (1, (I kind_1)), (2, (I many_2)), (7, (Sl (some ⟨b1, 0, none⟩) ([] : List (List Int)) 0)), (24, (B o3))]) ∧ w = σ.w ∧ Hp S0 σ0 σ [Ch.ro 0 (Sl alist_0 list_0 clist_0) list_0, Ch.own n0 n0 (Sl (some ⟨b1, 0, none⟩) ([] : List (List Int)) 0) ([] : List (List Int))]) ?_ ?_
 ·clear h'
  rename _ = some o3 => h
  refine rg ?_
  refine st (v := (Sl alist_0 list_0 clist_0)) (rv_move rfl) ?_
  obtain ⟨r4, hx5, h'⟩ := bind_some h
  clear h
  have h := h'; clear h'
  have hc6 := c_spec_validStore (alist_0 := alist_0) (clist_0 := clist_0) hx5
  refine st_call (cx_call hc6 (ent_f hc6.fn rfl) hn0 (show Hp S0 σ0 _ ([Ch.ro 0 (Sl alist_0 list_0 clist_0) list_0] ++ [Ch.own n0 n0 (Sl (some ⟨b1, 0, none⟩) ([] : List (List Int)) 0) ([] : List (List Int)), Ch.ro 0 (Sl alist_0 list_0 clist_0) list_0]) from (H.sel' [1, 0, 1] rfl rfl))) wn ?_
  rintro _ σ7 ⟨_, ⟨rfl, rfl⟩, H, -⟩
  replace H : Hp S0 σ0 σ7 [Ch.own n0 n0 (Sl (some ⟨b1, 0, none⟩) ([] : List (List Int)) 0) ([] : List (List Int)), Ch.ro 0 (Sl alist_0 list_0 clist_0) list_0] := H
  refine st (v := (B (!r4))) (rv_not rfl) ?_
  refine st (v := (B (!r4))) (rv_move rfl) ?_
  rcases Bool.eq_false_or_eq_true (!r4) with hb8 | hb8
  ·replace h := bif_t hb8 h
   refine st_skip (congrArg some hb8) ?_
   refine st_skip (congrArg some hb8) ?_
   refine st_skip (congrArg some hb8) ?_
   refine st (v := (B true)) (rv_pick_t (congrArg B hb8) rfl) ?_
   refine st (v := (B true)) (rv_move rfl) ?_
   refine st_skip rfl ?_
   refine st_skip rfl ?_
   refine st_skip rfl ?_
   refine st (v := (B true)) (rv_pick_t rfl rfl) ?_
   refine w_end ?_
   obtain rfl := Option.some.inj h
   exact ⟨rfl, _, σ7, fr_join ⟨rfl, rfl, rfl, rfl, rfl, trivial⟩, rfl, H.sel' [1, 0] rfl rfl⟩
  ·replace h := bif_f hb8 h
   refine st_g (v := (I kind_1)) (congrArg some hb8) (rv_move rfl) ?_
   obtain ⟨r9, hx10, h'⟩ := bind_some h
   clear h
   have h := h'; clear h'
   have hc11 := c_spec_validKind hx10
   refine st_call (cx_call hc11 (ent_f hc11.fn rfl) hn0 (show Hp S0 σ0 _ ([] ++ [Ch.own n0 n0 (Sl (some ⟨b1, 0, none⟩) ([] : List (List Int)) 0) ([] : List (List Int)), Ch.ro 0 (Sl alist_0 list_0 clist_0) list_0]) from (H.sel' [0, 1] rfl rfl))) (wanted_yes rfl (by exact (congrArg some hb8))) ?_
   rintro _ σ12 ⟨_, ⟨rfl, rfl⟩, H, -⟩
   replace H : Hp S0 σ0 σ12 [Ch.own n0 n0 (Sl (some ⟨b1, 0, none⟩) ([] : List (List Int)) 0) ([] : List (List Int)), Ch.ro 0 (Sl alist_0 list_0 clist_0) list_0] := H
   refine st_g (v := (B (!r9))) (congrArg some hb8) (rv_not rfl) ?_
   refine st (v := (B (!r9))) (rv_pick_f (congrArg B hb8) rfl) ?_
   refine st (v := (B (!r9))) (rv_move rfl) ?_
   rcases Bool.eq_false_or_eq_true (!r9) with hb13 | hb13
   ·replace h := bif_t hb13 h
    refine st_skip (congrArg some hb13) ?_
    refine st_skip (congrArg some hb13) ?_
    refine st_skip (congrArg some hb13) ?_
    refine st (v := (B true)) (rv_pick_t (congrArg B hb13) rfl) ?_
    refine w_end ?_
    obtain rfl := Option.some.inj h
    exact ⟨rfl, _, σ12, fr_join ⟨rfl, rfl, rfl, rfl, rfl, trivial⟩, rfl, H.sel' [1, 0] rfl rfl⟩
   ·replace h := bif_f hb13 h
    refine st_g (v := (I many_2)) (congrArg some hb13) (rv_move rfl) ?_
    obtain ⟨r14, hx15, h'⟩ := bind_some h
    clear h
    have h := h'; clear h'
    have hc16 := c_spec_inRange hx15
    refine st_call (cx_call hc16 (ent_f hc16.fn rfl) hn0 (show Hp S0 σ0 _ ([] ++ [Ch.own n0 n0 (Sl (some ⟨b1, 0, none⟩) ([] : List (List Int)) 0) ([] : List (List Int)), Ch.ro 0 (Sl alist_0 list_0 clist_0) list_0]) from (H.sel' [0, 1] rfl rfl))) (wanted_yes rfl (by exact (congrArg some hb13))) ?_
    rintro _ σ17 ⟨_, ⟨rfl, rfl⟩, H, -⟩
    replace H : Hp S0 σ0 σ17 [Ch.own n0 n0 (Sl (some ⟨b1, 0, none⟩) ([] : List (List Int)) 0) ([] : List (List Int)), Ch.ro 0 (Sl alist_0 list_0 clist_0) list_0] := H
    refine st_g (v := (B (!r14))) (congrArg some hb13) (rv_not rfl) ?_
    refine st (v := (B (!r14))) (rv_pick_f (congrArg B hb13) rfl) ?_
    refine w_end ?_
    obtain rfl := Option.some.inj h
    exact ⟨rfl, _, σ17, fr_join ⟨rfl, rfl, rfl, rfl, rfl, trivial⟩, rfl, H.sel' [1, 0] rfl rfl⟩
 ·clear hj
  have h := h'
  clear h' H
  rintro e a w ⟨rfl, ρ, σ18, rfl, rfl, H⟩
  refine q_then ?_
  refine cd_cond o3 rfl (fun hb19 => ?_) (fun hb19 => ?_)
  ·replace h := bif_t hb19 h
   refine c_seq ?_
   refine rg ?_
   refine st (v := (.slice none 0 0)) (rv_assign rfl) ?_
   refine w_end ?_
   refine q_then ?_
   refine c_ret ?_
   refine q_then_r ?_
   replace H := H.nilOwn (List Int) n0 n0
   obtain rfl := Option.some.inj h
   exact fin_ret (v := (.slice none 0 0)) (results_ok Try.results15 (res_tmp (v := (.slice none 0 0)) rfl res_nil) rfl) ⟨none, 0, rfl, rfl⟩ (H.sel' [0] rfl rfl)
  ·replace h := bif_f hb19 h
   refine c_skip ?_
   refine q_then ?_
   refine c_seq ?_
   refine rg ?_
   refine st (v := (Sl alist_0 list_0 clist_0)) (rv_move rfl) ?_
   refine st (v := (I kind_1)) (rv_move rfl) ?_
   refine st (v := (I many_2)) (rv_move rfl) ?_
   obtain ⟨r20, hx21, h'⟩ := bind_some h
   clear h
   have h := h'; clear h'
   have hc22 := c_spec_links (alist_0 := alist_0) (clist_0 := clist_0) hx21
   refine st_call (cx_call hc22 (ent_f hc22.fn rfl) hn0 (show Hp S0 σ0 _ ([Ch.ro 0 (Sl alist_0 list_0 clist_0) list_0] ++ [Ch.ro 0 (Sl alist_0 list_0 clist_0) list_0, Ch.own n0 n0 (Sl (some ⟨b1, 0, none⟩) ([] : List (List Int)) 0) ([] : List (List Int))]) from (H.sel' [0, 0, 1] rfl rfl))) wn ?_
   rintro _ σ25 ⟨_, ⟨a23, c24, rfl, rfl⟩, H, -⟩
   replace H : Hp S0 σ0 σ25 [Ch.own n0 n0 (Sl a23 r20 c24) r20, Ch.ro 0 (Sl alist_0 list_0 clist_0) list_0, Ch.own n0 n0 (Sl (some ⟨b1, 0, none⟩) ([] : List (List Int)) 0) ([] : List (List Int))] := H
   refine st (v := (Sl a23 r20 c24)) (rv_assign rfl) ?_
   refine w_end ?_
   refine q_then ?_
   refine c_seq ?_
   refine c_seq ?_
   refine rg ?_
   refine st (v := (I 0)) (rv_assign rfl) ?_
   refine w_end ?_
   refine q_then ?_
   obtain ⟨o26, hj, h'⟩ := bind_some h
   clear h
   refine c_cut (fun e a w => e = .normal ∧ ∃ (ρ : Nat → Value) (σ : St) (aj1 : Option Addr) (cj2 : Nat), a = fr 80 (updL ρ [(7, (Sl aj1 o26 cj2))]) ∧ w = σ.w ∧ Hp S0 σ0 σ [Ch.own n0 n0 (Sl aj1 o26 cj2) o26]) ?_ ?_
   ·clear h'
    rename _ = some o26 => h
    refine c_blk ?_
    refine wp_loopM _ h (fun s27 a w => ∃ (ρ : Nat → Value) (σ : St) (aj1 : Option Addr) (cj2 : Nat), a = fr 80 (updL ρ [(0, (Sl alist_0 list_0 clist_0)), (7, (Sl aj1 s27.1 cj2)), (8, (Sl a23 r20 c24)), (9, (I s27.2))]) ∧ w = σ.w ∧ Hp S0 σ0 σ [Ch.ro 0 (Sl alist_0 list_0 clist_0) list_0, Ch.own n0 n0 (Sl aj1 s27.1 cj2) s27.1, Ch.own n0 n0 (Sl a23 r20 c24) r20]) ⟨_, σ25, (some ⟨b1, 0, none⟩), 0, fr_join ⟨rfl, rfl, rfl, rfl, trivial⟩, rfl, H.sel' [1, 2, 0] rfl rfl⟩ ?_
    clear h H
    rintro s27 a w o ⟨ρ, σ28, a29, c30, rfl, rfl, H⟩ h hres
    refine c_seq ?_
    refine c_seq ?_
    refine rg ?_
    refine st (v := (I s27.2)) (rv_move rfl) ?_
    refine st (v := (Sl alist_0 list_0 clist_0)) (rv_move rfl) ?_
    refine st (v := (I (list_0.length : Int))) (rv_len Try.underlying23 rfl) ?_
    refine st (v := (B (decide (s27.2 < (list_0.length : Int))))) (rv_lss (a := s27.2) (b := (list_0.length : Int)) rfl rfl) ?_
    refine w_end ?_
    refine q_then ?_
    refine cd_cond (decide (s27.2 < (list_0.length : Int))) rfl (fun hb31 => ?_) (fun hb31 => ?_)
    ·replace h := bif_t hb31 h
     refine c_skip ?_
     refine q_then ?_
     refine c_seq ?_
     refine c_blk ?_
     refine c_seq ?_
     refine rg ?_
     refine st (v := (I s27.2)) (rv_move rfl) ?_
     refine st (v := (I (w64 (s27.2 + 1)))) (rv_add (a := s27.2) (b := 1) rfl rfl) ?_
     refine st (v := (I (w64 (s27.2 + 1)))) (rv_assign rfl) ?_
     refine w_end ?_
     refine q_then ?_
     obtain ⟨o32, hj, h'⟩ := bind_some h
     clear h
     refine c_cut (fun e a w => e = .normal ∧ ∃ (ρ : Nat → Value) (σ : St) (aj1 : Option Addr) (cj2 : Nat), a = fr 80 (updL ρ [(0, (Sl alist_0 list_0 clist_0)), (7, (Sl aj1 o32 cj2)), (8, (Sl a23 r20 c24)), (9, (I s27.2))]) ∧ w = σ.w ∧ Hp S0 σ0 σ [Ch.ro 0 (Sl alist_0 list_0 clist_0) list_0, Ch.own n0 n0 (Sl aj1 o32 cj2) o32, Ch.own n0 n0 (Sl a23 r20 c24) r20]) ?_ ?_
     ·clear h'
      rename _ = some o32 => h
      refine c_blk ?_
      refine wp_loopM _ h (fun s33 a w => ∃ (ρ : Nat → Value) (σ : St) (aj1 : Option Addr) (cj2 : Nat), a = fr 80 (updL ρ [(0, (Sl alist_0 list_0 clist_0)), (7, (Sl aj1 s33.1 cj2)), (8, (Sl a23 r20 c24)), (9, (I s27.2)), (10, (I s33.2))]) ∧ w = σ.w ∧ Hp S0 σ0 σ [Ch.ro 0 (Sl alist_0 list_0 clist_0) list_0, Ch.own n0 n0 (Sl aj1 s33.1 cj2) s33.1, Ch.own n0 n0 (Sl a23 r20 c24) r20]) ⟨_, σ28, a29, c30, fr_join ⟨rfl, rfl, rfl, rfl, rfl, trivial⟩, rfl, H.sel' [0, 1, 2] rfl rfl⟩ ?_
      clear h H
      rintro s33 a w o ⟨ρ, σ34, a35, c36, rfl, rfl, H⟩ h hres
      refine c_seq ?_
      refine c_seq ?_
      refine rg ?_
      refine st (v := (I s33.2)) (rv_move rfl) ?_
      refine st (v := (Sl alist_0 list_0 clist_0)) (rv_move rfl) ?_
      refine st (v := (I (list_0.length : Int))) (rv_len Try.underlying23 rfl) ?_
      refine st (v := (B (decide (s33.2 < (list_0.length : Int))))) (rv_lss (a := s33.2) (b := (list_0.length : Int)) rfl rfl) ?_
      refine w_end ?_
      refine q_then ?_
      refine cd_cond (decide (s33.2 < (list_0.length : Int))) rfl (fun hb37 => ?_) (fun hb37 => ?_)
      ·replace h := bif_t hb37 h
       refine c_skip ?_
       refine q_then ?_
       refine c_seq ?_
       obtain ⟨o38, hj, h'⟩ := bind_some h
       clear h
       refine c_cut (fun e a w => e = .normal ∧ ∃ (ρ : Nat → Value) (σ : St) (aj1 : Option Addr) (cj2 : Nat), a = fr 80 (updL ρ [(0, (Sl alist_0 list_0 clist_0)), (7, (Sl aj1 o38 cj2)), (8, (Sl a23 r20 c24)), (9, (I s27.2)), (10, (I s33.2))]) ∧ w = σ.w ∧ Hp S0 σ0 σ [Ch.ro 0 (Sl alist_0 list_0 clist_0) list_0, Ch.own n0 n0 (Sl aj1 o38 cj2) o38, Ch.own n0 n0 (Sl a23 r20 c24) r20]) ?_ ?_
       ·clear h'
        rename _ = some o38 => h
        refine c_blk ?_
        refine c_seq ?_
        obtain ⟨o39, hj, h'⟩ := bind_some h
        clear h
        refine c_cut (fun e a w => e = .normal ∧ ∃ (ρ : Nat → Value) (σ : St), a = fr 80 (updL ρ [(0, (Sl alist_0 list_0 clist_0)), (7, (Sl a35 s33.1 c36)), (8, (Sl a23 r20 c24)), (9, (I s27.2)), (10, (I s33.2)), (64, (B o39))]) ∧ w = σ.w ∧ Hp S0 σ0 σ [Ch.ro 0 (Sl alist_0 list_0 clist_0) list_0, Ch.own n0 n0 (Sl a35 s33.1 c36) s33.1, Ch.own n0 n0 (Sl a23 r20 c24) r20]) ?_ ?_
        ·clear h'
         rename _ = some o39 => h
         obtain ⟨x40, hx41, h'⟩ := bind_some h
         clear h
         have h := h'; clear h'
         obtain ⟨b43, o44, hi42, -⟩ := (H.own 2 rfl).ix hx41
         obtain ⟨v48, hc49, hR47⟩ := ((H.own 2 rfl).at hx41 hi42).slice
         obtain ⟨a45, c46, rfl⟩ := hR47.isSl
         replace H := H.add (d := Ch.ro n0 (Sl a45 x40 c46) x40) hR47 (fun _ h => h)
         clear hR47
         obtain ⟨x50, hx51, h'⟩ := bind_some h
         clear h
         have h := h'; clear h'
         obtain ⟨b53, o54, hi52, -⟩ := (H.ro 1 rfl).ix hx51
         have hc55 := ((H.ro 1 rfl).at hx51 hi52).fst.int
         replace H := H.roLow 0 0 rfl (Nat.zero_le _)
         obtain ⟨r56, hx57, h'⟩ := bind_some h
         clear h
         have h := h'; clear h'
         have hc58 := c_spec_isIn (alist_0 := a45) (clist_0 := c46) hx57
         rcases Bool.eq_false_or_eq_true r56 with hb59 | hb59
         ·replace h := bif_t hb59 h
          obtain ⟨x60, hx61, h'⟩ := bind_some h
          clear h
          have h := h'; clear h'
          obtain ⟨b63, o64, hi62, -⟩ := (H.own 4 rfl).ix hx61
          obtain ⟨v68, hc69, hR67⟩ := ((H.own 4 rfl).at hx61 hi62).slice
          obtain ⟨a65, c66, rfl⟩ := hR67.isSl
          replace H := H.add (d := Ch.ro n0 (Sl a65 x60 c66) x60) hR67 (fun _ h => h)
          clear hR67
          obtain ⟨x70, hx71, h'⟩ := bind_some h
          clear h
          have h := h'; clear h'
          obtain ⟨b73, o74, hi72, -⟩ := (H.ro 3 rfl).ix hx71
          have hc75 := ((H.ro 3 rfl).at hx71 hi72).fst.int
          have Hs := H
          refine rg2 (σ := σ34) (Nm := Unit) 20 [9] [[false], [true]] [[(0, 0)], [(0, 0)], [(0, 0)], [(0, 0)], [(0, 0)], [(0, 0)], [(0, 0)], [(0, 0)], [(0, 0)], [(0, 1)], [(1, 1)], [(1, 1)], [(1, 1)], [(1, 1)], [(1, 1)], [(1, 1)], [(1, 1)], [(1, 1)], [(1, 1)], [(1, 1)]] 1 [fun _ => fun σm => Hp S0 σ0 σm [Ch.ro n0 (Sl a65 x60 c66) x60, Ch.ro 0 (Sl a45 x40 c46) x40, Ch.ro n0 (Sl a45 x40 c46) x40, Ch.ro 0 (Sl alist_0 list_0 clist_0) list_0, Ch.own n0 n0 (Sl a35 s33.1 c36) s33.1, Ch.own n0 n0 (Sl a23 r20 c24) r20] ∧ Md (cov []) σ34 σm, fun _ => fun σm => Hp S0 σ0 σm [Ch.ro n0 (Sl a65 x60 c66) x60, Ch.ro 0 (Sl a45 x40 c46) x40, Ch.ro n0 (Sl a45 x40 c46) x40, Ch.ro 0 (Sl alist_0 list_0 clist_0) list_0, Ch.own n0 n0 (Sl a35 s33.1 c36) s33.1, Ch.own n0 n0 (Sl a23 r20 c24) r20] ∧ Md (cov []) σ34 σm] [fun _ => (Sl a23 r20 c24), fun _ => (I s27.2), fun _ => (pt b43 o44), fun _ => (Sl a45 x40 c46), fun _ => (Sl alist_0 list_0 clist_0), fun _ => (I s33.2), fun _ => (pt b53 o54), fun _ => (pt b53 (o54 + 0)), fun _ => (I x50.1), fun _ => (B r56), fun _ => (B r56), fun _ => (Sl a23 r20 c24), fun _ => (I s33.2), fun _ => (pt b63 o64), fun _ => (Sl a65 x60 c66), fun _ => (Sl alist_0 list_0 clist_0), fun _ => (I s27.2), fun _ => (pt b73 o74), fun _ => (pt b73 (o74 + 0)), fun _ => (I x70.1)] () (by kernel_rfl) (by kernel_rfl) ?_ ?_ ?_
          ·intro σm m0
           exact ⟨H.grow (m0.mono fun _ h => h.elim), m0⟩
          ·refine ac rfl (by
             intro k _nm ρ σm hJ hoff hdep
             have e8 := look_off (N := 80) (hoff 8 rfl) rfl
             exact dp_v (v := (Sl a23 r20 c24)) wn (rv_move e8) rfl hJ) ?_
           refine ac rfl (by
             intro k _nm ρ σm hJ hoff hdep
             have e9 := look_off (N := 80) (hoff 9 rfl) rfl
             exact dp_v (v := (I s27.2)) wn (rv_move e9) rfl hJ) ?_
           refine ac rfl (by
             intro k _nm ρ σm hJ hoff hdep
             have e43 := hdep 0 rfl rfl 43 rfl
             have e44 := hdep 1 rfl rfl 44 rfl
             exact dp_v (v := (pt b43 o44)) wn (rv_ix Try.underlying26 ti30 e43 e44 hi42) rfl hJ) ?_
           refine all_cons (by
             refine ⟨?_, ?_⟩
             ·intro _nm ρ σm hJ hoff hdep
              have e45 := hdep 2 rfl rfl 45 rfl
              obtain ⟨H, m⟩ := id hJ
              replace hc49 := m.hcell hc49 nocov
              exact dp_v (v := (Sl a45 x40 c46)) wn (rv_load1 Try.underlying30 rfl e45 hc49) rfl hJ
             trivial) ?_
           refine ac rfl (by
             intro k _nm ρ σm hJ hoff hdep
             have e0 := look_off (N := 80) (hoff 0 rfl) rfl
             exact dp_v (v := (Sl alist_0 list_0 clist_0)) wn (rv_move e0) rfl hJ) ?_
           refine ac rfl (by
             intro k _nm ρ σm hJ hoff hdep
             have e10 := look_off (N := 80) (hoff 10 rfl) rfl
             exact dp_v (v := (I s33.2)) wn (rv_move e10) rfl hJ) ?_
           refine ac rfl (by
             intro k _nm ρ σm hJ hoff hdep
             have e47 := hdep 4 rfl rfl 47 rfl
             have e48 := hdep 5 rfl rfl 48 rfl
             exact dp_v (v := (pt b53 o54)) wn (rv_ix Try.underlying23 ti32 e47 e48 hi52) rfl hJ) ?_
           refine ac rfl (by
             intro k _nm ρ σm hJ hoff hdep
             have e49 := hdep 6 rfl rfl 49 rfl
             exact dp_v (v := (pt b53 (o54 + 0))) wn (rv_fieldAddr (off := 0) (ft := 3) Try.underlying32 rfl ti3 rfl e49) rfl hJ) ?_
           refine all_cons (by
             refine ⟨?_, ?_⟩
             ·intro _nm ρ σm hJ hoff hdep
              have e50 := hdep 7 rfl rfl 50 rfl
              obtain ⟨H, m⟩ := id hJ
              replace hc55 := (Hs.ro 3 rfl).hmd hx51 hi52 (k := 0) (by decide) hc55 m
              exact dp_v (v := (I x50.1)) wn (rv_load1 Try.underlying3 rfl e50 hc55) rfl hJ
             trivial) ?_
           refine all_cons (by
             refine ⟨?_, ?_⟩
             ·intro _nm ρ σm hJ hoff hdep
              have e46 : look 80 ρ 46 = (Sl a45 x40 c46) := hdep 3 rfl rfl 46 rfl
              have e51 : look 80 ρ 51 = (I x50.1) := hdep 8 rfl rfl 51 rfl
              obtain ⟨H, m⟩ := id hJ
              refine dp_cx wn (cx_call hc58 (ent_f hc58.fn (by show [look 80 ρ 46, look 80 ρ 51] = _; rw [e46, e51])) hn0 (show Hp S0 σ0 _ ([Ch.ro 0 (Sl a45 x40 c46) x40] ++ [Ch.ro n0 (Sl a65 x60 c66) x60, Ch.ro 0 (Sl a45 x40 c46) x40, Ch.ro n0 (Sl a45 x40 c46) x40, Ch.ro 0 (Sl alist_0 list_0 clist_0) list_0, Ch.own n0 n0 (Sl a35 s33.1 c36) s33.1, Ch.own n0 n0 (Sl a23 r20 c24) r20]) from (H.sel' [1, 0, 1, 2, 3, 4, 5] rfl rfl))) ?_
              rintro _ σq ⟨_, ⟨rfl, rfl⟩, H2, m2⟩
              exact ⟨_, (), rfl, rfl, ⟨H2.sel' [0, 1, 2, 3, 4, 5] rfl rfl, m.comp0 (m2.mono (fun i h => by simp [cov, Ch.ro] at h))⟩, stab [0, 1, 2, 3, 4, 5, 6, 7, 8] (by kernel_rfl) ⟨rfl, rfl, rfl, rfl, rfl, rfl, rfl, rfl, rfl, trivial⟩⟩
             trivial) ?_
           refine ac rfl (by
             intro k _nm ρ σm hJ hoff hdep
             have e52 := hdep 9 rfl rfl 52 rfl
             exact dp_v (v := (B r56)) wn (rv_move e52) rfl hJ) ?_
           refine ac rfl (by
             intro k _nm ρ σm hJ hoff hdep
             have e8 := look_off (N := 80) (hoff 8 rfl) rfl
             have e53 := hdep 10 rfl rfl 53 rfl
             exact dp_v (v := (Sl a23 r20 c24)) (wanted_yes rfl (yv_of rfl (e53.trans (congrArg B hb59)))) (rv_move e8) rfl hJ) ?_
           refine ac rfl (by
             intro k _nm ρ σm hJ hoff hdep
             have e10 := look_off (N := 80) (hoff 10 rfl) rfl
             have e53 := hdep 10 rfl rfl 53 rfl
             exact dp_v (v := (I s33.2)) (wanted_yes rfl (yv_of rfl (e53.trans (congrArg B hb59)))) (rv_move e10) rfl hJ) ?_
           refine ac rfl (by
             intro k _nm ρ σm hJ hoff hdep
             have e54 := hdep 11 rfl rfl 54 rfl
             have e55 := hdep 12 rfl rfl 55 rfl
             have e53 := hdep 10 rfl rfl 53 rfl
             exact dp_v (v := (pt b63 o64)) (wanted_yes rfl (yv_of rfl (e53.trans (congrArg B hb59)))) (rv_ix Try.underlying26 ti30 e54 e55 hi62) rfl hJ) ?_
           refine all_cons (by
             refine ⟨?_, ?_⟩
             ·intro _nm ρ σm hJ hoff hdep
              have e56 := hdep 13 rfl rfl 56 rfl
              have e53 := hdep 10 rfl rfl 53 rfl
              obtain ⟨H, m⟩ := id hJ
              replace hc69 := m.hcell hc69 nocov
              exact dp_v (v := (Sl a65 x60 c66)) (wanted_yes rfl (yv_of rfl (e53.trans (congrArg B hb59)))) (rv_load1 Try.underlying30 rfl e56 hc69) rfl hJ
             trivial) ?_
           refine ac rfl (by
             intro k _nm ρ σm hJ hoff hdep
             have e0 := look_off (N := 80) (hoff 0 rfl) rfl
             have e53 := hdep 10 rfl rfl 53 rfl
             exact dp_v (v := (Sl alist_0 list_0 clist_0)) (wanted_yes rfl (yv_of rfl (e53.trans (congrArg B hb59)))) (rv_move e0) rfl hJ) ?_
           refine ac rfl (by
             intro k _nm ρ σm hJ hoff hdep
             have e9 := look_off (N := 80) (hoff 9 rfl) rfl
             have e53 := hdep 10 rfl rfl 53 rfl
             exact dp_v (v := (I s27.2)) (wanted_yes rfl (yv_of rfl (e53.trans (congrArg B hb59)))) (rv_move e9) rfl hJ) ?_
           refine ac rfl (by
             intro k _nm ρ σm hJ hoff hdep
             have e58 := hdep 15 rfl rfl 58 rfl
             have e59 := hdep 16 rfl rfl 59 rfl
             have e53 := hdep 10 rfl rfl 53 rfl
             exact dp_v (v := (pt b73 o74)) (wanted_yes rfl (yv_of rfl (e53.trans (congrArg B hb59)))) (rv_ix Try.underlying23 ti32 e58 e59 hi72) rfl hJ) ?_
           refine ac rfl (by
             intro k _nm ρ σm hJ hoff hdep
             have e60 := hdep 17 rfl rfl 60 rfl
             have e53 := hdep 10 rfl rfl 53 rfl
             exact dp_v (v := (pt b73 (o74 + 0))) (wanted_yes rfl (yv_of rfl (e53.trans (congrArg B hb59)))) (rv_fieldAddr (off := 0) (ft := 3) Try.underlying32 rfl ti3 rfl e60) rfl hJ) ?_
           refine all_cons (by
             refine ⟨?_, ?_⟩
             ·intro _nm ρ σm hJ hoff hdep
              have e61 := hdep 18 rfl rfl 61 rfl
              have e53 := hdep 10 rfl rfl 53 rfl
              obtain ⟨H, m⟩ := id hJ
              replace hc75 := (Hs.ro 3 rfl).hmd hx71 hi72 (k := 0) (by decide) hc75 m
              exact dp_v (v := (I x70.1)) (wanted_yes rfl (yv_of rfl (e53.trans (congrArg B hb59)))) (rv_load1 Try.underlying3 rfl e61 hc75) rfl hJ
             trivial) ?_
           exact all_nil
          ·intro _nm ρ σ76 hJ hoff hrel
           have e0 := look_off (N := 80) (hoff 0 rfl) rfl
           have e7 := look_off (N := 80) (hoff 7 rfl) rfl
           have e8 := look_off (N := 80) (hoff 8 rfl) rfl
           have e9 := look_off (N := 80) (hoff 9 rfl) rfl
           have e10 := look_off (N := 80) (hoff 10 rfl) rfl
           have e53 := hrel 10 rfl 53 rfl
           have e57 := hrel 14 rfl 57 rfl
           have e62 := hrel 19 rfl 62 rfl
           obtain ⟨H, -⟩ := (show Hp S0 σ0 σ76 [Ch.ro n0 (Sl a65 x60 c66) x60, Ch.ro 0 (Sl a45 x40 c46) x40, Ch.ro n0 (Sl a45 x40 c46) x40, Ch.ro 0 (Sl alist_0 list_0 clist_0) list_0, Ch.own n0 n0 (Sl a35 s33.1 c36) s33.1, Ch.own n0 n0 (Sl a23 r20 c24) r20] ∧ Md (cov []) σ34 σ76 from hJ)
           clear hJ Hs
           rw [fr_lookL (L := [(0, (Sl alist_0 list_0 clist_0)), (7, (Sl a35 s33.1 c36)), (8, (Sl a23 r20 c24)), (9, (I s27.2)), (10, (I s33.2)), (53, (B r56)), (57, (Sl a65 x60 c66)), (62, (I x70.1))]) ⟨e0, e7, e8, e9, e10, e53, e57, e62, trivial⟩]
           clear hoff hrel e0 e7 e8 e9 e10 e53 e57 e62
           replace H := H.roLow 0 0 rfl (Nat.zero_le _)
           obtain ⟨r77, hx78, h'⟩ := bind_some h
           clear h
           have h := h'; clear h'
           have hc79 := c_spec_isIn (alist_0 := a65) (clist_0 := c66) hx78
           refine st_call (cx_call hc79 (ent_f hc79.fn rfl) hn0 (show Hp S0 σ0 _ ([Ch.ro 0 (Sl a65 x60 c66) x60] ++ [Ch.ro 0 (Sl a65 x60 c66) x60, Ch.ro n0 (Sl a65 x60 c66) x60, Ch.ro 0 (Sl a45 x40 c46) x40, Ch.ro n0 (Sl a45 x40 c46) x40, Ch.ro 0 (Sl alist_0 list_0 clist_0) list_0, Ch.own n0 n0 (Sl a35 s33.1 c36) s33.1, Ch.own n0 n0 (Sl a23 r20 c24) r20]) from (H.sel' [0, 0, 1, 2, 3, 4, 5, 6] rfl rfl))) (wanted_yes rfl (by exact (congrArg some hb59))) ?_
           rintro _ σ80 ⟨_, ⟨rfl, rfl⟩, H, -⟩
           replace H : Hp S0 σ0 σ80 [Ch.ro 0 (Sl a65 x60 c66) x60, Ch.ro n0 (Sl a65 x60 c66) x60, Ch.ro 0 (Sl a45 x40 c46) x40, Ch.ro n0 (Sl a45 x40 c46) x40, Ch.ro 0 (Sl alist_0 list_0 clist_0) list_0, Ch.own n0 n0 (Sl a35 s33.1 c36) s33.1, Ch.own n0 n0 (Sl a23 r20 c24) r20] := H
           refine st (v := (B r77)) (rv_pick_t (congrArg B hb59) rfl) ?_
           refine w_end ?_
           obtain rfl := Option.some.inj h
           exact ⟨rfl, _, σ80, fr_join ⟨rfl, rfl, rfl, rfl, rfl, rfl, trivial⟩, rfl, H.sel' [4, 5, 6] rfl rfl⟩
         ·replace h := bif_f hb59 h
          have Hs := H
          refine rg2 (σ := σ34) (Nm := Unit) 20 [9] [[false], [true]] [[(0, 0)], [(0, 0)], [(0, 0)], [(0, 0)], [(0, 0)], [(0, 0)], [(0, 0)], [(0, 0)], [(0, 0)], [(0, 1)], [(1, 1)], [(1, 1)], [(1, 1)], [(1, 1)], [(1, 1)], [(1, 1)], [(1, 1)], [(1, 1)], [(1, 1)], [(1, 1)]] 1 [fun _ => fun σm => Hp S0 σ0 σm [Ch.ro 0 (Sl a45 x40 c46) x40, Ch.ro n0 (Sl a45 x40 c46) x40, Ch.ro 0 (Sl alist_0 list_0 clist_0) list_0, Ch.own n0 n0 (Sl a35 s33.1 c36) s33.1, Ch.own n0 n0 (Sl a23 r20 c24) r20] ∧ Md (cov []) σ34 σm, fun _ => fun σm => Hp S0 σ0 σm [Ch.ro 0 (Sl a45 x40 c46) x40, Ch.ro n0 (Sl a45 x40 c46) x40, Ch.ro 0 (Sl alist_0 list_0 clist_0) list_0, Ch.own n0 n0 (Sl a35 s33.1 c36) s33.1, Ch.own n0 n0 (Sl a23 r20 c24) r20] ∧ Md (cov []) σ34 σm] [fun _ => (Sl a23 r20 c24), fun _ => (I s27.2), fun _ => (pt b43 o44), fun _ => (Sl a45 x40 c46), fun _ => (Sl alist_0 list_0 clist_0), fun _ => (I s33.2), fun _ => (pt b53 o54), fun _ => (pt b53 (o54 + 0)), fun _ => (I x50.1), fun _ => (B r56), fun _ => (B r56), fun _ => undef, fun _ => undef, fun _ => undef, fun _ => undef, fun _ => undef, fun _ => undef, fun _ => undef, fun _ => undef, fun _ => undef] () (by kernel_rfl) (by kernel_rfl) ?_ ?_ ?_
          ·intro σm m0
           exact ⟨H.grow (m0.mono fun _ h => h.elim), m0⟩
          ·refine ac rfl (by
             intro k _nm ρ σm hJ hoff hdep
             have e8 := look_off (N := 80) (hoff 8 rfl) rfl
             exact dp_v (v := (Sl a23 r20 c24)) wn (rv_move e8) rfl hJ) ?_
           refine ac rfl (by
             intro k _nm ρ σm hJ hoff hdep
             have e9 := look_off (N := 80) (hoff 9 rfl) rfl
             exact dp_v (v := (I s27.2)) wn (rv_move e9) rfl hJ) ?_
           refine ac rfl (by
             intro k _nm ρ σm hJ hoff hdep
             have e43 := hdep 0 rfl rfl 43 rfl
             have e44 := hdep 1 rfl rfl 44 rfl
             exact dp_v (v := (pt b43 o44)) wn (rv_ix Try.underlying26 ti30 e43 e44 hi42) rfl hJ) ?_
           refine all_cons (by
             refine ⟨?_, ?_⟩
             ·intro _nm ρ σm hJ hoff hdep
              have e45 := hdep 2 rfl rfl 45 rfl
              obtain ⟨H, m⟩ := id hJ
              replace hc49 := m.hcell hc49 nocov
              exact dp_v (v := (Sl a45 x40 c46)) wn (rv_load1 Try.underlying30 rfl e45 hc49) rfl hJ
             trivial) ?_
           refine ac rfl (by
             intro k _nm ρ σm hJ hoff hdep
             have e0 := look_off (N := 80) (hoff 0 rfl) rfl
             exact dp_v (v := (Sl alist_0 list_0 clist_0)) wn (rv_move e0) rfl hJ) ?_
           refine ac rfl (by
             intro k _nm ρ σm hJ hoff hdep
             have e10 := look_off (N := 80) (hoff 10 rfl) rfl
             exact dp_v (v := (I s33.2)) wn (rv_move e10) rfl hJ) ?_
           refine ac rfl (by
             intro k _nm ρ σm hJ hoff hdep
             have e47 := hdep 4 rfl rfl 47 rfl
             have e48 := hdep 5 rfl rfl 48 rfl
             exact dp_v (v := (pt b53 o54)) wn (rv_ix Try.underlying23 ti32 e47 e48 hi52) rfl hJ) ?_
           refine ac rfl (by
             intro k _nm ρ σm hJ hoff hdep
             have e49 := hdep 6 rfl rfl 49 rfl
             exact dp_v (v := (pt b53 (o54 + 0))) wn (rv_fieldAddr (off := 0) (ft := 3) Try.underlying32 rfl ti3 rfl e49) rfl hJ) ?_
           refine all_cons (by
             refine ⟨?_, ?_⟩
             ·intro _nm ρ σm hJ hoff hdep
              have e50 := hdep 7 rfl rfl 50 rfl
              obtain ⟨H, m⟩ := id hJ
              replace hc55 := (Hs.ro 2 rfl).hmd hx51 hi52 (k := 0) (by decide) hc55 m
              exact dp_v (v := (I x50.1)) wn (rv_load1 Try.underlying3 rfl e50 hc55) rfl hJ
             trivial) ?_
           refine all_cons (by
             refine ⟨?_, ?_⟩
             ·intro _nm ρ σm hJ hoff hdep
              have e46 : look 80 ρ 46 = (Sl a45 x40 c46) := hdep 3 rfl rfl 46 rfl
              have e51 : look 80 ρ 51 = (I x50.1) := hdep 8 rfl rfl 51 rfl
              obtain ⟨H, m⟩ := id hJ
              refine dp_cx wn (cx_call hc58 (ent_f hc58.fn (by show [look 80 ρ 46, look 80 ρ 51] = _; rw [e46, e51])) hn0 (show Hp S0 σ0 _ ([Ch.ro 0 (Sl a45 x40 c46) x40] ++ [Ch.ro 0 (Sl a45 x40 c46) x40, Ch.ro n0 (Sl a45 x40 c46) x40, Ch.ro 0 (Sl alist_0 list_0 clist_0) list_0, Ch.own n0 n0 (Sl a35 s33.1 c36) s33.1, Ch.own n0 n0 (Sl a23 r20 c24) r20]) from (H.sel' [0, 0, 1, 2, 3, 4] rfl rfl))) ?_
              rintro _ σq ⟨_, ⟨rfl, rfl⟩, H2, m2⟩
              exact ⟨_, (), rfl, rfl, ⟨H2.sel' [0, 1, 2, 3, 4] rfl rfl, m.comp0 (m2.mono (fun i h => by simp [cov, Ch.ro] at h))⟩, stab [0, 1, 2, 3, 4, 5, 6, 7, 8] (by kernel_rfl) ⟨rfl, rfl, rfl, rfl, rfl, rfl, rfl, rfl, rfl, trivial⟩⟩
             trivial) ?_
           refine ac rfl (by
             intro k _nm ρ σm hJ hoff hdep
             have e52 := hdep 9 rfl rfl 52 rfl
             exact dp_v (v := (B r56)) wn (rv_move e52) rfl hJ) ?_
           refine ac rfl (by
             intro k _nm ρ σm hJ hoff hdep
             have e53 := hdep 10 rfl rfl 53 rfl
             exact dp_skip (wanted_no rfl (yv_of rfl (e53.trans (congrArg B hb59)))) rfl hJ) ?_
           refine ac rfl (by
             intro k _nm ρ σm hJ hoff hdep
             have e53 := hdep 10 rfl rfl 53 rfl
             exact dp_skip (wanted_no rfl (yv_of rfl (e53.trans (congrArg B hb59)))) rfl hJ) ?_
           refine ac rfl (by
             intro k _nm ρ σm hJ hoff hdep
             have e53 := hdep 10 rfl rfl 53 rfl
             exact dp_skip (wanted_no rfl (yv_of rfl (e53.trans (congrArg B hb59)))) rfl hJ) ?_
           refine ac rfl (by
             intro k _nm ρ σm hJ hoff hdep
             have e53 := hdep 10 rfl rfl 53 rfl
             exact dp_skip (wanted_no rfl (yv_of rfl (e53.trans (congrArg B hb59)))) rfl hJ) ?_
           refine ac rfl (by
             intro k _nm ρ σm hJ hoff hdep
             have e53 := hdep 10 rfl rfl 53 rfl
             exact dp_skip (wanted_no rfl (yv_of rfl (e53.trans (congrArg B hb59)))) rfl hJ) ?_
           refine ac rfl (by
             intro k _nm ρ σm hJ hoff hdep
             have e53 := hdep 10 rfl rfl 53 rfl
             exact dp_skip (wanted_no rfl (yv_of rfl (e53.trans (congrArg B hb59)))) rfl hJ) ?_
           refine ac rfl (by
             intro k _nm ρ σm hJ hoff hdep
             have e53 := hdep 10 rfl rfl 53 rfl
             exact dp_skip (wanted_no rfl (yv_of rfl (e53.trans (congrArg B hb59)))) rfl hJ) ?_
           refine ac rfl (by
             intro k _nm ρ σm hJ hoff hdep
             have e53 := hdep 10 rfl rfl 53 rfl
             exact dp_skip (wanted_no rfl (yv_of rfl (e53.trans (congrArg B hb59)))) rfl hJ) ?_
           refine ac rfl (by
             intro k _nm ρ σm hJ hoff hdep
             have e53 := hdep 10 rfl rfl 53 rfl
             exact dp_skip (wanted_no rfl (yv_of rfl (e53.trans (congrArg B hb59)))) rfl hJ) ?_
           exact all_nil
          ·intro _nm ρ σ81 hJ hoff hrel
           have e0 := look_off (N := 80) (hoff 0 rfl) rfl
           have e7 := look_off (N := 80) (hoff 7 rfl) rfl
           have e8 := look_off (N := 80) (hoff 8 rfl) rfl
           have e9 := look_off (N := 80) (hoff 9 rfl) rfl
           have e10 := look_off (N := 80) (hoff 10 rfl) rfl
           have e53 := hrel 10 rfl 53 rfl
           have e57 := hrel 14 rfl 57 rfl
           have e62 := hrel 19 rfl 62 rfl
           obtain ⟨H, -⟩ := (show Hp S0 σ0 σ81 [Ch.ro 0 (Sl a45 x40 c46) x40, Ch.ro n0 (Sl a45 x40 c46) x40, Ch.ro 0 (Sl alist_0 list_0 clist_0) list_0, Ch.own n0 n0 (Sl a35 s33.1 c36) s33.1, Ch.own n0 n0 (Sl a23 r20 c24) r20] ∧ Md (cov []) σ34 σ81 from hJ)
           clear hJ Hs
           rw [fr_lookL (L := [(0, (Sl alist_0 list_0 clist_0)), (7, (Sl a35 s33.1 c36)), (8, (Sl a23 r20 c24)), (9, (I s27.2)), (10, (I s33.2)), (53, (B r56)), (57, undef), (62, undef)]) ⟨e0, e7, e8, e9, e10, e53, e57, e62, trivial⟩]
           clear hoff hrel e0 e7 e8 e9 e10 e53 e57 e62
           refine st_skip (congrArg some hb59) ?_
           refine st (v := (B false)) (rv_pick_f (congrArg B hb59) rfl) ?_
           refine w_end ?_
           obtain rfl := Option.some.inj h
           exact ⟨rfl, _, σ81, fr_join ⟨rfl, rfl, rfl, rfl, rfl, rfl, trivial⟩, rfl, H.sel' [2, 3, 4] rfl rfl⟩
        ·clear hj
         have h := h'
         clear h' H
         rintro e a w ⟨rfl, ρ, σ82, rfl, rfl, H⟩
         refine q_then ?_
         refine cd_cond o39 rfl (fun hb83 => ?_) (fun hb83 => ?_)
         ·replace h := bif_t hb83 h
          obtain ⟨x84, hx85, h'⟩ := bind_some h
          clear h
          have h := h'; clear h'
          obtain ⟨b87, o88, hi86, -⟩ := (H.ro 0 rfl).ix hx85
          have hc89 := ((H.ro 0 rfl).at hx85 hi86).fst.int
          obtain ⟨x90, hx91, h'⟩ := bind_some h
          clear h
          have h := h'; clear h'
          obtain ⟨b93, o94, hi92, -⟩ := (H.ro 0 rfl).ix hx91
          have hc95 := ((H.ro 0 rfl).at hx91 hi92).fst.int
          have Hs := H
          refine rg2 (σ := σ82) (Nm := (Nat) × (Nat)) 13 [11, 12] [[false, false], [true, false], [true, true]] [[(0, 0), (1, 1), (2, 2)], [(0, 0)], [(0, 0)], [(0, 0)], [(0, 0)], [(0, 0)], [(0, 0)], [(0, 0)], [(0, 0)], [(0, 0)], [(0, 0)], [(0, 1)], [(1, 2)]] 2 [fun ((b96, b97) : (Nat) × (Nat)) => fun σm => Hp S0 σ0 σm [Ch.ro 0 (Sl alist_0 list_0 clist_0) list_0, Ch.own n0 n0 (Sl a35 s33.1 c36) s33.1, Ch.own n0 n0 (Sl a23 r20 c24) r20] ∧ Md (cov []) σ82 σm, fun ((b96, b97) : (Nat) × (Nat)) => fun σm => Hp S0 σ0 σm [Ch.ro n0 (Sl (some ⟨b96, 0, none⟩) ([x84.1, x90.1] : List Int) 2) ([x84.1, x90.1] : List Int), Ch.ro 0 (Sl alist_0 list_0 clist_0) list_0, Ch.own n0 n0 (Sl a35 s33.1 c36) s33.1, Ch.own n0 n0 (Sl a23 r20 c24) r20] ∧ Md (fun i => (cov []) i ∨ (fun i => (cov []) i ∨ (fun b => blk (Sl (some ⟨b96, 0, none⟩) ([x84.1, x90.1] : List Int) 2) = some b) i) i) σ82 σm, fun ((b96, b97) : (Nat) × (Nat)) => fun σm => Hp S0 σ0 σm [Ch.own n0 n0 (Sl (some ⟨b97, 0, none⟩) ([([x84.1, x90.1] : List Int)] : List (List Int)) 1) ([([x84.1, x90.1] : List Int)] : List (List Int)), Ch.ro n0 (Sl (some ⟨b96, 0, none⟩) ([x84.1, x90.1] : List Int) 2) ([x84.1, x90.1] : List Int), Ch.ro 0 (Sl alist_0 list_0 clist_0) list_0, Ch.own n0 n0 (Sl a35 s33.1 c36) s33.1, Ch.own n0 n0 (Sl a23 r20 c24) r20] ∧ Md (fun i => (cov []) i ∨ (fun i => (cov []) i ∨ (fun b => blk (Sl (some ⟨b96, 0, none⟩) ([x84.1, x90.1] : List Int) 2) = some b) i) i) σ82 σm] [fun ((b96, b97) : (Nat) × (Nat)) => (Sl a35 s33.1 c36), fun ((b96, b97) : (Nat) × (Nat)) => (Sl alist_0 list_0 clist_0), fun ((b96, b97) : (Nat) × (Nat)) => (I s27.2), fun ((b96, b97) : (Nat) × (Nat)) => (pt b87 o88), fun ((b96, b97) : (Nat) × (Nat)) => (pt b87 (o88 + 0)), fun ((b96, b97) : (Nat) × (Nat)) => (I x84.1), fun ((b96, b97) : (Nat) × (Nat)) => (Sl alist_0 list_0 clist_0), fun ((b96, b97) : (Nat) × (Nat)) => (I s33.2), fun ((b96, b97) : (Nat) × (Nat)) => (pt b93 o94), fun ((b96, b97) : (Nat) × (Nat)) => (pt b93 (o94 + 0)), fun ((b96, b97) : (Nat) × (Nat)) => (I x90.1), fun ((b96, b97) : (Nat) × (Nat)) => (Sl (some ⟨b96, 0, none⟩) ([x84.1, x90.1] : List Int) 2), fun ((b96, b97) : (Nat) × (Nat)) => (Sl (some ⟨b97, 0, none⟩) ([([x84.1, x90.1] : List Int)] : List (List Int)) 1)] (0, 0) (by kernel_rfl) (by kernel_rfl) ?_ ?_ ?_
          ·intro σm m0
           exact ⟨H.grow (m0.mono fun _ h => h.elim), m0⟩
          ·refine ac rfl (by
             intro k; rintro ⟨b96, b97⟩ ρ σm hJ hoff hdep
             have e7 := look_off (N := 80) (hoff 7 rfl) rfl
             exact dp_v (v := (Sl a35 s33.1 c36)) wn (rv_move e7) rfl hJ) ?_
           refine ac rfl (by
             intro k; rintro ⟨b96, b97⟩ ρ σm hJ hoff hdep
             have e0 := look_off (N := 80) (hoff 0 rfl) rfl
             exact dp_v (v := (Sl alist_0 list_0 clist_0)) wn (rv_move e0) rfl hJ) ?_
           refine ac rfl (by
             intro k; rintro ⟨b96, b97⟩ ρ σm hJ hoff hdep
             have e9 := look_off (N := 80) (hoff 9 rfl) rfl
             exact dp_v (v := (I s27.2)) wn (rv_move e9) rfl hJ) ?_
           refine ac rfl (by
             intro k; rintro ⟨b96, b97⟩ ρ σm hJ hoff hdep
             have e66 := hdep 1 rfl rfl 66 rfl
             have e67 := hdep 2 rfl rfl 67 rfl
             exact dp_v (v := (pt b87 o88)) wn (rv_ix Try.underlying23 ti32 e66 e67 hi86) rfl hJ) ?_
           refine ac rfl (by
             intro k; rintro ⟨b96, b97⟩ ρ σm hJ hoff hdep
             have e68 := hdep 3 rfl rfl 68 rfl
             exact dp_v (v := (pt b87 (o88 + 0))) wn (rv_fieldAddr (off := 0) (ft := 3) Try.underlying32 rfl ti3 rfl e68) rfl hJ) ?_
           refine all_cons (by
             refine ⟨?_, ?_⟩
             ·rintro ⟨b96, b97⟩ ρ σm hJ hoff hdep
              have e69 := hdep 4 rfl rfl 69 rfl
              obtain ⟨H, m⟩ := id hJ
              replace hc89 := (Hs.ro 0 rfl).hmd hx85 hi86 (k := 0) (by decide) hc89 m
              exact dp_v (v := (I x84.1)) wn (rv_load1 Try.underlying3 rfl e69 hc89) rfl hJ
             trivial) ?_
           refine ac rfl (by
             intro k; rintro ⟨b96, b97⟩ ρ σm hJ hoff hdep
             have e0 := look_off (N := 80) (hoff 0 rfl) rfl
             exact dp_v (v := (Sl alist_0 list_0 clist_0)) wn (rv_move e0) rfl hJ) ?_
           refine ac rfl (by
             intro k; rintro ⟨b96, b97⟩ ρ σm hJ hoff hdep
             have e10 := look_off (N := 80) (hoff 10 rfl) rfl
             exact dp_v (v := (I s33.2)) wn (rv_move e10) rfl hJ) ?_
           refine ac rfl (by
             intro k; rintro ⟨b96, b97⟩ ρ σm hJ hoff hdep
             have e71 := hdep 6 rfl rfl 71 rfl
             have e72 := hdep 7 rfl rfl 72 rfl
             exact dp_v (v := (pt b93 o94)) wn (rv_ix Try.underlying23 ti32 e71 e72 hi92) rfl hJ) ?_
           refine ac rfl (by
             intro k; rintro ⟨b96, b97⟩ ρ σm hJ hoff hdep
             have e73 := hdep 8 rfl rfl 73 rfl
             exact dp_v (v := (pt b93 (o94 + 0))) wn (rv_fieldAddr (off := 0) (ft := 3) Try.underlying32 rfl ti3 rfl e73) rfl hJ) ?_
           refine all_cons (by
             refine ⟨?_, ?_⟩
             ·rintro ⟨b96, b97⟩ ρ σm hJ hoff hdep
              have e74 := hdep 9 rfl rfl 74 rfl
              obtain ⟨H, m⟩ := id hJ
              replace hc95 := (Hs.ro 0 rfl).hmd hx91 hi92 (k := 0) (by decide) hc95 m
              exact dp_v (v := (I x90.1)) wn (rv_load1 Try.underlying3 rfl e74 hc95) rfl hJ
             trivial) ?_
           refine all_cons (by
             refine ⟨?_, ?_⟩
             ·rintro ⟨b96, b97⟩ ρ σm hJ hoff hdep
              have e70 : look 80 ρ 70 = (I x84.1) := hdep 5 rfl rfl 70 rfl
              have e75 : look 80 ρ 75 = (I x90.1) := hdep 10 rfl rfl 75 rfl
              obtain ⟨H, m⟩ := id hJ
              refine dp_ex wn (ex_buildSlice (el := n0) (xs := ([x84.1, x90.1] : List Int)) (ps := [(0, (I x84.1)), (1, (I x90.1))]) (cs := [(I x84.1), (I x90.1)]) H hn0 Try.underlying30 ti3 rfl (by show [(0, look 80 ρ 70), (1, look 80 ρ 75)] = _; rw [e70, e75]) (by kernel_rfl) (.cons (c := [(I x84.1)]) rfl (.cons (c := [(I x90.1)]) rfl (.nil))) rfl) ?_
              rintro _ σq ⟨b96x, rfl, H2, m2⟩
              obtain ⟨σr0, hwr0, H2, mr0⟩ := H2.pub 0 rfl (Nat.le_refl _)
              exact ⟨_, (b96x, b97), hwr0, rfl, ⟨H2.sel' [0, 1, 2, 3] rfl rfl, m.comp (m2.comp mr0)⟩, stab [0, 1, 2, 3, 4, 5, 6, 7, 8, 9, 10] (by kernel_rfl) ⟨rfl, rfl, rfl, rfl, rfl, rfl, rfl, rfl, rfl, rfl, rfl, trivial⟩⟩
             trivial) ?_
           refine all_cons (by
             refine ⟨?_, ?_⟩
             ·rintro ⟨b96, b97⟩ ρ σm hJ hoff hdep
              have e76 : look 80 ρ 76 = (Sl (some ⟨b96, 0, none⟩) ([x84.1, x90.1] : List Int) 2) := hdep 11 rfl rfl 76 rfl
              obtain ⟨H, m⟩ := id hJ
              refine dp_ex wn (ex_buildSlice (el := n0) (xs := ([([x84.1, x90.1] : List Int)] : List (List Int))) (ps := [(0, (Sl (some ⟨b96, 0, none⟩) ([x84.1, x90.1] : List Int) 2))]) (cs := [(Sl (some ⟨b96, 0, none⟩) ([x84.1, x90.1] : List Int) 2)]) H hn0 Try.underlying26 ti30 rfl (by show [(0, look 80 ρ 76)] = _; rw [e76]) (by kernel_rfl) (.cons (c := [(Sl (some ⟨b96, 0, none⟩) ([x84.1, x90.1] : List Int) 2)]) ⟨_, rfl, (H.ro 0 rfl)⟩ (.nil)) rfl) ?_
              rintro _ σq ⟨b97x, rfl, H2, m2⟩
              exact ⟨_, (b96, b97x), rfl, rfl, ⟨H2.sel' [0, 1, 2, 3, 4] rfl rfl, m.comp0 m2⟩, stab [0, 1, 2, 3, 4, 5, 6, 7, 8, 9, 10, 11] (by kernel_rfl) ⟨rfl, rfl, rfl, rfl, rfl, rfl, rfl, rfl, rfl, rfl, rfl, rfl, trivial⟩⟩
             trivial) ?_
           exact all_nil
          ·rintro ⟨b96, b97⟩ ρ σ98 hJ hoff hrel
           have e0 := look_off (N := 80) (hoff 0 rfl) rfl
           have e8 := look_off (N := 80) (hoff 8 rfl) rfl
           have e9 := look_off (N := 80) (hoff 9 rfl) rfl
           have e10 := look_off (N := 80) (hoff 10 rfl) rfl
           have e65 := hrel 0 rfl 65 rfl
           have e77 := hrel 12 rfl 77 rfl
           obtain ⟨H, -⟩ := (show Hp S0 σ0 σ98 [Ch.own n0 n0 (Sl (some ⟨b97, 0, none⟩) ([([x84.1, x90.1] : List Int)] : List (List Int)) 1) ([([x84.1, x90.1] : List Int)] : List (List Int)), Ch.ro n0 (Sl (some ⟨b96, 0, none⟩) ([x84.1, x90.1] : List Int) 2) ([x84.1, x90.1] : List Int), Ch.ro 0 (Sl alist_0 list_0 clist_0) list_0, Ch.own n0 n0 (Sl a35 s33.1 c36) s33.1, Ch.own n0 n0 (Sl a23 r20 c24) r20] ∧ Md (fun i => (cov []) i ∨ (fun i => (cov []) i ∨ (fun b => blk (Sl (some ⟨b96, 0, none⟩) ([x84.1, x90.1] : List Int) 2) = some b) i) i) σ82 σ98 from hJ)
           clear hJ Hs
           rw [fr_lookL (L := [(0, (Sl alist_0 list_0 clist_0)), (8, (Sl a23 r20 c24)), (9, (I s27.2)), (10, (I s33.2)), (65, (Sl a35 s33.1 c36)), (77, (Sl (some ⟨b97, 0, none⟩) ([([x84.1, x90.1] : List Int)] : List (List Int)) 1))]) ⟨e0, e8, e9, e10, e65, e77, trivial⟩]
           clear hoff hrel e0 e8 e9 e10 e65 e77
           obtain ⟨xs99, hx100, h'⟩ := bind_some h
           clear h
           have h := h'; clear h'
           refine st_ex (ex_append H (i := 3) rfl Try.underlying26 Try.underlying26 ti30 rfl rfl (by decide) (H.own 0 rfl).rd hx100 hn0 rfl rfl) wn ?_
           rintro _ σ103 ⟨a101, c102, rfl, H, -⟩
           refine st (v := (Sl a101 xs99 c102)) (rv_assign rfl) ?_
           refine w_end ?_
           refine q_blk ?_
           obtain rfl := Option.some.inj h
           exact ⟨rfl, _, σ103, a101, c102, fr_join ⟨rfl, rfl, rfl, rfl, rfl, trivial⟩, rfl, H.sel' [3, 0, 4] rfl rfl⟩
         ·replace h := bif_f hb83 h
          refine c_skip ?_
          refine q_blk ?_
          obtain rfl := Option.some.inj h
          exact ⟨rfl, _, σ82, a35, c36, fr_join ⟨rfl, rfl, rfl, rfl, rfl, trivial⟩, rfl, H.sel' [0, 1, 2] rfl rfl⟩
       ·clear hj
        have h := h'
        clear h' H
        rintro e a w ⟨rfl, ρ, σ104, a105, c106, rfl, rfl, H⟩
        refine q_then ?_
        refine rg ?_
        refine st (v := (I s33.2)) (rv_move rfl) ?_
        refine st (v := (I (w64 (s33.2 + 1)))) (rv_add (a := s33.2) (b := 1) rfl rfl) ?_
        refine st (v := (I (w64 (s33.2 + 1)))) (rv_assign rfl) ?_
        refine w_end ?_
        refine q_then ?_
        obtain rfl := Option.some.inj h
        exact ⟨_, rfl, _, σ104, a105, c106, fr_join ⟨rfl, rfl, rfl, rfl, rfl, trivial⟩, rfl, H.sel' [0, 1, 2] rfl rfl⟩
      ·replace h := bif_f hb37 h
       refine c_exit ?_
       refine q_then_x ?_
       refine q_then_x ?_
       refine q_blk_hit ?_
       obtain rfl := Option.some.inj h
       obtain rfl := hres _ rfl
       exact ⟨rfl, _, σ34, a35, c36, fr_join ⟨rfl, rfl, rfl, rfl, trivial⟩, rfl, H.sel' [0, 1, 2] rfl rfl⟩
     ·clear hj
      have h := h'
      clear h' H
      rintro e a w ⟨rfl, ρ, σ107, a108, c109, rfl, rfl, H⟩
      refine q_blk ?_
      refine q_then ?_
      refine rg ?_
      refine st (v := (I s27.2)) (rv_move rfl) ?_
      refine st (v := (I (w64 (s27.2 + 1)))) (rv_add (a := s27.2) (b := 1) rfl rfl) ?_
      refine st (v := (I (w64 (s27.2 + 1)))) (rv_assign rfl) ?_
      refine w_end ?_
      refine q_then ?_
      obtain rfl := Option.some.inj h
      exact ⟨_, rfl, _, σ107, a108, c109, fr_join ⟨rfl, rfl, rfl, rfl, trivial⟩, rfl, H.sel' [0, 1, 2] rfl rfl⟩
    ·replace h := bif_f hb31 h
     refine c_exit ?_
     refine q_then_x ?_
     refine q_then_x ?_
     refine q_blk_hit ?_
     obtain rfl := Option.some.inj h
     obtain rfl := hres _ rfl
     exact ⟨rfl, _, σ28, a29, c30, fr_join ⟨rfl, trivial⟩, rfl, H.sel' [1] rfl rfl⟩
   ·clear hj
    have h := h'
    clear h' H
    rintro e a w ⟨rfl, ρ, σ110, a111, c112, rfl, rfl, H⟩
    refine q_then ?_
    refine c_seq ?_
    refine rg ?_
    refine st (v := (Sl a111 o26 c112)) (rv_move rfl) ?_
    refine st (v := (Sl a111 o26 c112)) (rv_assign rfl) ?_
    refine w_end ?_
    refine q_then ?_
    refine c_ret ?_
    obtain rfl := Option.some.inj h
    exact fin_ret (v := (Sl a111 o26 c112)) (results_ok Try.results15 (res_tmp (v := (Sl a111 o26 c112)) rfl res_nil) rfl) ⟨a111, c112, rfl, rfl⟩ (H.sel' [0] rfl rfl)

theorem c_impl_keysOf {list_0 : List (Int × (List Int) × Int)} {alist_0 : Option Addr} {clist_0 : Nat} {r : (List Int)} (h : M.impl_keysOf list_0 = some r) :
    Cal2 Try.prog 55 [(Sl alist_0 list_0 clist_0)] [Ch.ro 0 (Sl alist_0 list_0 clist_0) list_0] (fun n0 v L => ∃ (az1 : Option Addr), ∃ (cz2 : Nat), v = (Sl az1 r cz2) ∧ L = [Ch.own n0 n0 (Sl az1 r cz2) r] ∧ cz2 = r.length) := by
 refine cal2 (n := 23) Try.func55 rfl rfl rfl rfl ?_
 intro S0 σ0 n0 hn0 H
 unfold M.impl_keysOf at h
 refine c_seq ?_
 refine rg ?_
 refine st (v := (.slice none 0 0)) (rv_assign rfl) ?_
 refine w_end ?_
 refine q_then ?_
 refine c_seq ?_
 refine rg ?_
 refine st (v := (Sl alist_0 list_0 clist_0)) (rv_move rfl) ?_
 refine st (v := (I (list_0.length : Int))) (rv_len Try.underlying23 rfl) ?_
 obtain ⟨xs1, hx2, h'⟩ := bind_some h
 clear h
 have h := h'; clear h'
 refine st_ex (ex_make (el := n0) (z0 := (0 : Int)) (zs := [(I 0)]) H hn0 Try.underlying30 ti3 rfl rfl rfl (by decide) hx2 rfl rfl) wn ?_
 rintro _ σ6 ⟨b3, c4, rfl, ht5, H, -⟩
 replace ht5 := ht5.trans (gmake_len hx2).symm
 refine st (v := (Sl (some ⟨b3, 0, none⟩) xs1 c4)) (rv_assign rfl) ?_
 refine w_end ?_
 refine q_then ?_
 refine c_seq ?_
 refine c_seq ?_
 refine rg ?_
 refine st (v := (Sl alist_0 list_0 clist_0)) (rv_move rfl) ?_
 refine st (v := (I (list_0.length : Int))) (rv_len Try.underlying23 rfl) ?_
 refine st (v := (I 0)) (rv_move rfl) ?_
 refine w_end ?_
 refine q_then ?_
 obtain ⟨o7, hj, h'⟩ := bind_some h
 clear h
 refine c_cut (fun e a w => e = .normal ∧ ∃ (ρ : Nat → Value) (σ : St), a = fr 23 (updL ρ [(3, (Sl (some ⟨b3, 0, none⟩) o7 c4))]) ∧ w = σ.w ∧ Hp S0 σ0 σ [Ch.own n0 n0 (Sl (some ⟨b3, 0, none⟩) o7 c4) o7] ∧ c4 = o7.length ∧ o7.length = xs1.length) ?_ ?_
 ·clear h'
  rename _ = some o7 => h
  refine c_blk ?_
  refine wp_loopM _ h (fun s8 a w => ∃ (ρ : Nat → Value) (σ : St), a = fr 23 (updL ρ [(3, (Sl (some ⟨b3, 0, none⟩) s8.1 c4)), (9, (Sl alist_0 list_0 clist_0)), (10, (I (list_0.length : Int))), (11, (I s8.2))]) ∧ w = σ.w ∧ Hp S0 σ0 σ [Ch.own n0 n0 (Sl (some ⟨b3, 0, none⟩) s8.1 c4) s8.1, Ch.ro 0 (Sl alist_0 list_0 clist_0) list_0] ∧ c4 = s8.1.length ∧ s8.1.length = xs1.length) ⟨_, σ6, fr_join ⟨rfl, rfl, rfl, rfl, trivial⟩, rfl, H.sel' [0, 1] rfl rfl, ht5, rfl⟩ ?_
  clear h H
  rintro s8 a w o ⟨ρ, σ9, rfl, rfl, H, ht10, hn11⟩ h hres
  refine c_seq ?_
  refine rg ?_
  refine st (v := (B (decide (s8.2 < (list_0.length : Int))))) (rv_lss (a := s8.2) (b := (list_0.length : Int)) rfl rfl) ?_
  refine w_end ?_
  refine q_then ?_
  refine c_seq ?_
  refine cd_cond (decide (s8.2 < (list_0.length : Int))) rfl (fun hb12 => ?_) (fun hb12 => ?_)
  ·replace h := bif_t hb12 h
   refine c_skip ?_
   refine q_then ?_
   refine c_seq ?_
   refine c_blk ?_
   refine c_seq ?_
   refine rg ?_
   refine st (v := (I s8.2)) (rv_move rfl) ?_
   obtain ⟨x13, hx14, h'⟩ := bind_some h
   clear h
   have h := h'; clear h'
   obtain ⟨b16, o17, hi15, -⟩ := (H.ro 1 rfl).ix hx14
   refine st (v := (pt b16 o17)) (rv_ix Try.underlying23 ti32 rfl rfl hi15) ?_
   obtain ⟨_, ⟨_, _, rfl, rfl, ⟨_, _, rfl, ⟨_, rfl, hR22⟩, rfl⟩⟩, hl18, hc19⟩ := ((H.ro 1 rfl).at hx14 hi15).cells
   obtain ⟨a20, c21, rfl⟩ := hR22.isSl
   replace H := H.add (d := Ch.ro 0 (Sl a20 x13.2.1 c21) x13.2.1) hR22 (fun _ h => h)
   clear hR22
   refine st (v := (.agg #[(I x13.1), (Sl a20 x13.2.1 c21), (I x13.2.2)])) (rv_load Try.underlying32 rfl ti32 rfl hl18 hc19) ?_
   refine st_ex (ex_alloc (cs := [(I 0), (.slice none 0 0), (I 0)]) H hn0 ti32 rfl) wn ?_
   rintro _ σ24 ⟨b23, rfl, H, -⟩
   refine st (v := (I s8.2)) (rv_assign rfl) ?_
   refine st_exS (ex_store_box (k := 0) (cs := [(I 0), (.slice none 0 0), (I 0)]) (vs := [(I x13.1), (Sl a20 x13.2.1 c21), (I x13.2.2)]) (cs' := [(I x13.1), (Sl a20 x13.2.1 c21), (I x13.2.2)]) H (i := 0) rfl ti32 rfl rfl rfl rfl rfl (Nat.le_of_ble_eq_true rfl) (by simp [plain]) rfl) wn ?_
   rintro σ25 ⟨H, -⟩
   refine w_end ?_
   refine q_then ?_
   refine rg ?_
   refine st (v := (Sl (some ⟨b3, 0, none⟩) s8.1 c4)) (rv_move rfl) ?_
   refine st (v := (I s8.2)) (rv_move rfl) ?_
   refine st (v := (pt b23 0)) (rv_fieldAddr (off := 0) (ft := 3) Try.underlying32 rfl ti3 rfl rfl) ?_
   have hc26 := H.cell (u := (I x13.1)) (o' := 0) 0 0 rfl rfl rfl
   refine st (v := (I x13.1)) (rv_load1 Try.underlying3 rfl rfl hc26) ?_
   obtain ⟨x27, hx28, h'⟩ := bind_some h
   clear h
   have h := h'; clear h'
   obtain ⟨b30, o31, hi29, -⟩ := (H.own 2 rfl).ix hx28
   refine st (v := (pt b30 o31)) (rv_ix Try.underlying30 ti3 rfl rfl hi29) ?_
   refine st_exS (ex_store_own (e' := x13.1) (vs := [(I x13.1)]) (k := 0) H (i := 2) rfl ti3 hx28 hi29 rfl rfl rfl rfl rfl (Nat.le_of_ble_eq_true rfl) (by simp [plain]) (by rintro _ rfl; exact rfl)) wn ?_
   rintro σ32 ⟨H, -⟩
   have hsl : (Sl (some ⟨b3, 0, none⟩) s8.1 c4) = (Sl (some ⟨b3, 0, none⟩) (s8.1.set s8.2.toNat x13.1) c4) := sl_len List.length_set.symm
   rw [hsl]; rw [hsl] at H; clear hsl
   refine w_end ?_
   refine q_blk ?_
   refine q_then ?_
   refine rg ?_
   refine st (v := (I (w64 (s8.2 + 1)))) (rv_add (a := s8.2) (b := 1) rfl rfl) ?_
   refine st (v := (I (w64 (s8.2 + 1)))) (rv_move rfl) ?_
   refine w_end ?_
   refine q_then ?_
   obtain rfl := Option.some.inj h
   exact ⟨_, rfl, _, σ32, fr_join ⟨rfl, rfl, rfl, rfl, trivial⟩, rfl, H.sel' [0, 3] rfl rfl, (ht10.trans List.length_set.symm), (List.length_set.trans hn11)⟩
  ·replace h := bif_f hb12 h
   refine c_exit ?_
   refine q_then_x ?_
   refine q_then_x ?_
   refine q_blk_hit ?_
   obtain rfl := Option.some.inj h
   obtain rfl := hres _ rfl
   exact ⟨rfl, _, σ9, fr_join ⟨rfl, trivial⟩, rfl, H.sel' [0] rfl rfl, ht10, hn11⟩
 ·clear hj
  have h := h'
  clear h' H
  rintro e a w ⟨rfl, ρ, σ33, rfl, rfl, H, ht34, hn35⟩
  refine q_then ?_
  refine c_seq ?_
  refine rg ?_
  refine st (v := (Sl (some ⟨b3, 0, none⟩) o7 c4)) (rv_move rfl) ?_
  refine st (v := (Sl (some ⟨b3, 0, none⟩) o7 c4)) (rv_assign rfl) ?_
  refine w_end ?_
  refine q_then ?_
  refine c_ret ?_
  obtain rfl := Option.some.inj h
  exact fin_ret (v := (Sl (some ⟨b3, 0, none⟩) o7 c4)) (results_ok Try.results55 (res_tmp (v := (Sl (some ⟨b3, 0, none⟩) o7 c4)) rfl res_nil) rfl) ⟨(some ⟨b3, 0, none⟩), c4, rfl, rfl, ht34⟩ (H.sel' [0] rfl rfl)

theorem c_impl_LinksOf {list_0 : List (Int × (List Int) × Int)} {kind_1 : Int} {many_2 : Int} {alist_0 : Option Addr} {clist_0 : Nat} {r : (List (List Int))} (h : M.impl_LinksOf list_0 kind_1 many_2 = some r) :
    Cal2 Try.prog 16 [(Sl alist_0 list_0 clist_0), (I kind_1), (I many_2)] [Ch.ro 0 (Sl alist_0 list_0 clist_0) list_0] (fun n0 v L => ∃ (az1 : Option Addr), ∃ (cz2 : Nat), v = (Sl az1 r cz2) ∧ L = [Ch.own n0 n0 (Sl az1 r cz2) r] ∧ cz2 = r.length) := by
 refine cal2 (n := 40) Try.func16 rfl rfl rfl rfl ?_
 intro S0 σ0 n0 hn0 H
 unfold M.impl_LinksOf at h
 refine c_seq ?_
 refine rg ?_
 refine st (v := (.slice none 0 0)) (rv_assign rfl) ?_
 refine w_end ?_
 refine q_then ?_
 refine c_seq ?_
 refine c_seq ?_
 refine rg ?_
 refine st (v := (Sl alist_0 list_0 clist_0)) (rv_move rfl) ?_
 refine st (v := (I kind_1)) (rv_move rfl) ?_
 refine st (v := (I many_2)) (rv_move rfl) ?_
 obtain ⟨r1, hx2, h'⟩ := bind_some h
 clear h
 have h := h'; clear h'
 have hc3 := c_impl_validLinks (alist_0 := alist_0) (clist_0 := clist_0) hx2
 refine st_call (cx_call hc3 (ent_f hc3.fn rfl) hn0 (show Hp S0 σ0 _ ([Ch.ro 0 (Sl alist_0 list_0 clist_0) list_0] ++ [Ch.ro 0 (Sl alist_0 list_0 clist_0) list_0]) from (H.sel' [0, 0] rfl rfl))) wn ?_
 rintro _ σ4 ⟨_, ⟨rfl, rfl⟩, H, -⟩
 replace H : Hp S0 σ0 σ4 [Ch.ro 0 (Sl alist_0 list_0 clist_0) list_0] := H
 refine st (v := (B (!r1))) (rv_not rfl) ?_
 refine w_end ?_
 refine q_then ?_
 refine cd_cond (!r1) rfl (fun hb5 => ?_) (fun hb5 => ?_)
 ·replace h := bif_t hb5 h
  refine c_seq ?_
  refine rg ?_
  refine st (v := (.slice none 0 0)) (rv_assign rfl) ?_
  refine w_end ?_
  refine q_then ?_
  refine c_ret ?_
  refine q_then_r ?_
  replace H := H.nilOwn (List Int) n0 n0
  obtain rfl := Option.some.inj h
  exact fin_ret (v := (.slice none 0 0)) (results_ok Try.results16 (res_tmp (v := (.slice none 0 0)) rfl res_nil) rfl) ⟨none, 0, rfl, rfl, rfl⟩ (H.sel' [0] rfl rfl)
 ·replace h := bif_f hb5 h
  refine c_skip ?_
  refine q_then ?_
  refine c_seq ?_
  refine rg ?_
  refine st (v := (Sl alist_0 list_0 clist_0)) (rv_move rfl) ?_
  refine st (v := (I kind_1)) (rv_move rfl) ?_
  refine st (v := (I many_2)) (rv_move rfl) ?_
  obtain ⟨r6, hx7, h'⟩ := bind_some h
  clear h
  have h := h'; clear h'
  have hc8 := c_impl_linkItems (alist_0 := alist_0) (clist_0 := clist_0) hx7
  refine st_call (cx_call hc8 (ent_f hc8.fn rfl) hn0 (show Hp S0 σ0 _ ([Ch.ro 0 (Sl alist_0 list_0 clist_0) list_0] ++ [Ch.ro 0 (Sl alist_0 list_0 clist_0) list_0]) from (H.sel' [0, 0] rfl rfl))) wn ?_
  rintro _ σ12 ⟨_, ⟨b9, K10, rfl, rfl, hK11⟩, H, -⟩
  replace H : Hp S0 σ0 σ12 [Ch.big K10, Ch.ro 0 (Sl alist_0 list_0 clist_0) list_0] := H
  refine st (v := (.map (some b9))) (rv_assign rfl) ?_
  refine w_end ?_
  refine q_then ?_
  refine c_seq ?_
  refine rg ?_
  refine st (v := (Sl alist_0 list_0 clist_0)) (rv_move rfl) ?_
  refine st (v := (I (list_0.length : Int))) (rv_len Try.underlying23 rfl) ?_
  obtain ⟨xs13, hx14, h'⟩ := bind_some h
  clear h
  have h := h'; clear h'
  refine st_ex (ex_make (el := n0) (z0 := ([] : List Int)) (zs := [(.slice none 0 0)]) H hn0 Try.underlying26 ti30 rfl rfl (⟨_, rfl, RS.nil⟩) (by decide) hx14 rfl rfl) wn ?_
  rintro _ σ18 ⟨b15, c16, rfl, ht17, H, -⟩
  replace ht17 := ht17.trans (gmake_len hx14).symm
  refine st (v := (Sl (some ⟨b15, 0, none⟩) xs13 c16)) (rv_assign rfl) ?_
  refine w_end ?_
  refine q_then ?_
  refine c_seq ?_
  refine c_seq ?_
  refine rg ?_
  refine st (v := (Sl alist_0 list_0 clist_0)) (rv_move rfl) ?_
  refine st (v := (I (list_0.length : Int))) (rv_len Try.underlying23 rfl) ?_
  refine st (v := (I 0)) (rv_move rfl) ?_
  refine w_end ?_
  refine q_then ?_
  obtain ⟨o19, hj, h'⟩ := bind_some h
  clear h
  refine c_cut (fun e a w => e = .normal ∧ ∃ (ρ : Nat → Value) (σ : St), a = fr 40 (updL ρ [(8, (Sl (some ⟨b15, 0, none⟩) o19 c16))]) ∧ w = σ.w ∧ Hp S0 σ0 σ [Ch.own n0 n0 (Sl (some ⟨b15, 0, none⟩) o19 c16) o19] ∧ c16 = o19.length ∧ o19.length = xs13.length) ?_ ?_
  ·clear h'
   rename _ = some o19 => h
   refine c_blk ?_
   obtain ⟨σ21, hw22, H, -⟩ := H.mpPub 1 rfl hK11
   rw [← hw22]; clear hw22
   refine wp_loopM _ h (fun s20 a w => ∃ (ρ : Nat → Value) (σ : St), a = fr 40 (updL ρ [(7, (.map (some b9))), (8, (Sl (some ⟨b15, 0, none⟩) s20.1 c16)), (23, (Sl alist_0 list_0 clist_0)), (24, (I (list_0.length : Int))), (25, (I s20.2))]) ∧ w = σ.w ∧ Hp S0 σ0 σ [Ch.mr b9 r6, Ch.own n0 n0 (Sl (some ⟨b15, 0, none⟩) s20.1 c16) s20.1, Ch.ro 0 (Sl alist_0 list_0 clist_0) list_0] ∧ c16 = s20.1.length ∧ s20.1.length = xs13.length) ⟨_, σ21, fr_join ⟨rfl, rfl, rfl, rfl, rfl, trivial⟩, rfl, H.sel' [0, 1, 2] rfl rfl, ht17, rfl⟩ ?_
   clear h H
   rintro s20 a w o ⟨ρ, σ23, rfl, rfl, H, ht24, hn25⟩ h hres
   refine c_seq ?_
   refine rg ?_
   refine st (v := (B (decide (s20.2 < (list_0.length : Int))))) (rv_lss (a := s20.2) (b := (list_0.length : Int)) rfl rfl) ?_
   refine w_end ?_
   refine q_then ?_
   refine c_seq ?_
   refine cd_cond (decide (s20.2 < (list_0.length : Int))) rfl (fun hb26 => ?_) (fun hb26 => ?_)
   ·replace h := bif_t hb26 h
    refine c_skip ?_
    refine q_then ?_
    refine c_seq ?_
    refine c_blk ?_
    refine c_seq ?_
    refine rg ?_
    refine st (v := (I s20.2)) (rv_move rfl) ?_
    obtain ⟨x27, hx28, h'⟩ := bind_some h
    clear h
    have h := h'; clear h'
    obtain ⟨b30, o31, hi29, -⟩ := (H.ro 2 rfl).ix hx28
    refine st (v := (pt b30 o31)) (rv_ix Try.underlying23 ti32 rfl rfl hi29) ?_
    obtain ⟨_, ⟨_, _, rfl, rfl, ⟨_, _, rfl, ⟨_, rfl, hR36⟩, rfl⟩⟩, hl32, hc33⟩ := ((H.ro 2 rfl).at hx28 hi29).cells
    obtain ⟨a34, c35, rfl⟩ := hR36.isSl
    replace H := H.add (d := Ch.ro 0 (Sl a34 x27.2.1 c35) x27.2.1) hR36 (fun _ h => h)
    clear hR36
    refine st (v := (.agg #[(I x27.1), (Sl a34 x27.2.1 c35), (I x27.2.2)])) (rv_load Try.underlying32 rfl ti32 rfl hl32 hc33) ?_
    refine st_ex (ex_alloc (cs := [(I 0), (.slice none 0 0), (I 0)]) H hn0 ti32 rfl) wn ?_
    rintro _ σ38 ⟨b37, rfl, H, -⟩
    refine st (v := (I s20.2)) (rv_assign rfl) ?_
    refine st_exS (ex_store_box (k := 0) (cs := [(I 0), (.slice none 0 0), (I 0)]) (vs := [(I x27.1), (Sl a34 x27.2.1 c35), (I x27.2.2)]) (cs' := [(I x27.1), (Sl a34 x27.2.1 c35), (I x27.2.2)]) H (i := 0) rfl ti32 rfl rfl rfl rfl rfl (Nat.le_of_ble_eq_true rfl) (by simp [plain]) rfl) wn ?_
    rintro σ39 ⟨H, -⟩
    refine w_end ?_
    refine q_then ?_
    refine rg ?_
    refine st (v := (Sl (some ⟨b15, 0, none⟩) s20.1 c16)) (rv_move rfl) ?_
    refine st (v := (I s20.2)) (rv_move rfl) ?_
    refine st (v := (.map (some b9))) (rv_move rfl) ?_
    refine st (v := (pt b37 0)) (rv_fieldAddr (off := 0) (ft := 3) Try.underlying32 rfl ti3 rfl rfl) ?_
    have hc40 := H.cell (u := (I x27.1)) (o' := 0) 0 0 rfl rfl rfl
    refine st (v := (I x27.1)) (rv_load1 Try.underlying3 rfl rfl hc40) ?_
    obtain ⟨v44, hL43, hR45⟩ := mrGet (H.mr 2 rfl) x27.1
    obtain ⟨a41, c42, rfl⟩ := hR45.isSl
    replace H := H.add (d := Ch.ro 0 (Sl a41 (mget r6 x27.1) c42) (mget r6 x27.1)) hR45 (fun _ h => h)
    clear hR45
    refine st (v := (Sl a41 (mget r6 x27.1) c42)) (rv_lookup Try.underlying67 Try.underlying3 ti23 rfl rfl hL43) ?_
    obtain ⟨r46, hx47, h'⟩ := bind_some h
    clear h
    have h := h'; clear h'
    have hc48 := c_impl_keysOf (alist_0 := a41) (clist_0 := c42) hx47
    refine st_call (cx_call hc48 (ent_f hc48.fn rfl) hn0 (show Hp S0 σ0 _ ([Ch.ro 0 (Sl a41 (mget r6 x27.1) c42) (mget r6 x27.1)] ++ [Ch.ro 0 (Sl a41 (mget r6 x27.1) c42) (mget r6 x27.1), Ch.bx n0 b37 0 [(I x27.1), (Sl a34 x27.2.1 c35), (I x27.2.2)] [] [], Ch.ro 0 (Sl a34 x27.2.1 c35) x27.2.1, Ch.mr b9 r6, Ch.own n0 n0 (Sl (some ⟨b15, 0, none⟩) s20.1 c16) s20.1, Ch.ro 0 (Sl alist_0 list_0 clist_0) list_0]) from (H.sel' [0, 0, 1, 2, 3, 4, 5] rfl rfl))) wn ?_
    rintro _ σ52 ⟨_, ⟨a49, c50, rfl, rfl, ht51⟩, H, -⟩
    replace H : Hp S0 σ0 σ52 [Ch.own n0 n0 (Sl a49 r46 c50) r46, Ch.ro 0 (Sl a41 (mget r6 x27.1) c42) (mget r6 x27.1), Ch.bx n0 b37 0 [(I x27.1), (Sl a34 x27.2.1 c35), (I x27.2.2)] [] [], Ch.ro 0 (Sl a34 x27.2.1 c35) x27.2.1, Ch.mr b9 r6, Ch.own n0 n0 (Sl (some ⟨b15, 0, none⟩) s20.1 c16) s20.1, Ch.ro 0 (Sl alist_0 list_0 clist_0) list_0] := H
    obtain ⟨x53, hx54, h'⟩ := bind_some h
    clear h
    have h := h'; clear h'
    obtain ⟨b56, o57, hi55, -⟩ := (H.own 5 rfl).ix hx54
    refine st (v := (pt b56 o57)) (rv_ix Try.underlying26 ti30 rfl rfl hi55) ?_
    obtain ⟨σ58, hw59, H, -⟩ := H.pub 0 rfl (Nat.le_refl _)
    rw [← hw59]; clear hw59
    refine st_exS (ex_store_own (e' := r46) (vs := [(Sl a49 r46 c50)]) (k := 0) H (i := 5) rfl ti30 hx54 hi55 rfl rfl rfl rfl rfl (Nat.le_of_ble_eq_true rfl) (by simp [plain]) (by rintro _ ⟨_, rfl, hR62⟩; exact ⟨_, rfl, (H.ro 0 rfl)⟩)) wn ?_
    rintro σ63 ⟨H, -⟩
    have hsl : (Sl (some ⟨b15, 0, none⟩) s20.1 c16) = (Sl (some ⟨b15, 0, none⟩) (s20.1.set s20.2.toNat r46) c16) := sl_len List.length_set.symm
    rw [hsl]; rw [hsl] at H; clear hsl
    refine w_end ?_
    refine q_blk ?_
    refine q_then ?_
    refine rg ?_
    refine st (v := (I (w64 (s20.2 + 1)))) (rv_add (a := s20.2) (b := 1) rfl rfl) ?_
    refine st (v := (I (w64 (s20.2 + 1)))) (rv_move rfl) ?_
    refine w_end ?_
    refine q_then ?_
    obtain rfl := Option.some.inj h
    exact ⟨_, rfl, _, σ63, fr_join ⟨rfl, rfl, rfl, rfl, rfl, trivial⟩, rfl, H.sel' [5, 0, 6] rfl rfl, (ht24.trans List.length_set.symm), (List.length_set.trans hn25)⟩
   ·replace h := bif_f hb26 h
    refine c_exit ?_
    refine q_then_x ?_
    refine q_then_x ?_
    refine q_blk_hit ?_
    obtain rfl := Option.some.inj h
    obtain rfl := hres _ rfl
    exact ⟨rfl, _, σ23, fr_join ⟨rfl, trivial⟩, rfl, H.sel' [1] rfl rfl, ht24, hn25⟩
  ·clear hj
   have h := h'
   clear h' H
   rintro e a w ⟨rfl, ρ, σ64, rfl, rfl, H, ht65, hn66⟩
   refine q_then ?_
   refine c_seq ?_
   refine rg ?_
   refine st (v := (Sl (some ⟨b15, 0, none⟩) o19 c16)) (rv_move rfl) ?_
   refine st (v := (Sl (some ⟨b15, 0, none⟩) o19 c16)) (rv_assign rfl) ?_
   refine w_end ?_
   refine q_then ?_
   refine c_ret ?_
   obtain rfl := Option.some.inj h
   exact fin_ret (v := (Sl (some ⟨b15, 0, none⟩) o19 c16)) (results_ok Try.results16 (res_tmp (v := (Sl (some ⟨b15, 0, none⟩) o19 c16)) rfl res_nil) rfl) ⟨(some ⟨b15, 0, none⟩), c16, rfl, rfl, ht65⟩ (H.sel' [0] rfl rfl)

theorem c_laws_isIn {list_0 : List Int} {n_1 : Int} {alist_0 : Option Addr} {clist_0 : Nat} {r : Bool} (h : M.laws_isIn list_0 n_1 = some r) :
    Cal2 Try.prog 17 [(Sl alist_0 list_0 clist_0), (I n_1)] [Ch.ro 0 (Sl alist_0 list_0 clist_0) list_0] (fun n0 v L => v = (B r) ∧ L = []) := by
 refine cal2 (n := 18) Try.func17 rfl rfl rfl rfl ?_
 intro S0 σ0 n0 hn0 H
 unfold M.laws_isIn at h
 refine c_seq ?_
 refine rg ?_
 refine st (v := (B false)) (rv_assign rfl) ?_
 refine w_end ?_
 refine q_then ?_
 refine c_seq ?_
 refine c_seq ?_
 refine rg ?_
 refine st (v := (I 0)) (rv_assign rfl) ?_
 refine w_end ?_
 refine q_then ?_
 obtain ⟨o1, hj, h'⟩ := bind_some h
 clear h
 refine c_cut (fun e a w => (∃ t, o1 = (.inl t) ∧ e = .normal ∧ ∃ (ρ : Nat → Value) (σ : St), a = fr 18 (updL ρ []) ∧ w = σ.w ∧ Hp S0 σ0 σ []) ∨ (∃ t, o1 = (.inr t) ∧ e = .ret ∧ ∃ (ρ : Nat → Value) (σ : St), a = fr 18 (updL ρ [(4, (B t))]) ∧ w = σ.w ∧ Hp S0 σ0 σ [])) ?_ ?_
 ·clear h'
  rename _ = some o1 => h
  refine c_blk ?_
  refine wp_loopM _ h (fun s2 a w => ∃ (ρ : Nat → Value) (σ : St), a = fr 18 (updL ρ [(0, (Sl alist_0 list_0 clist_0)), (1, (I n_1)), (5, (I s2))]) ∧ w = σ.w ∧ Hp S0 σ0 σ [Ch.ro 0 (Sl alist_0 list_0 clist_0) list_0]) ⟨_, σ0, fr_join ⟨rfl, rfl, rfl, trivial⟩, rfl, H.sel' [0] rfl rfl⟩ ?_
  clear h H
  rintro s2 a w o ⟨ρ, σ3, rfl, rfl, H⟩ h hres
  refine c_seq ?_
  refine c_seq ?_
  refine rg ?_
  refine st (v := (I s2)) (rv_move rfl) ?_
  refine st (v := (Sl alist_0 list_0 clist_0)) (rv_move rfl) ?_
  refine st (v := (I (list_0.length : Int))) (rv_len Try.underlying30 rfl) ?_
  refine st (v := (B (decide (s2 < (list_0.length : Int))))) (rv_lss (a := s2) (b := (list_0.length : Int)) rfl rfl) ?_
  refine w_end ?_
  refine q_then ?_
  refine cd_cond (decide (s2 < (list_0.length : Int))) rfl (fun hb4 => ?_) (fun hb4 => ?_)
  ·replace h := bif_t hb4 h
   refine c_skip ?_
   refine q_then ?_
   refine c_seq ?_
   refine c_blk ?_
   refine c_seq ?_
   refine rg ?_
   refine st (v := (Sl alist_0 list_0 clist_0)) (rv_move rfl) ?_
   refine st (v := (I s2)) (rv_move rfl) ?_
   obtain ⟨x5, hx6, h'⟩ := bind_some h
   clear h
   have h := h'; clear h'
   obtain ⟨b8, o9, hi7, -⟩ := (H.ro 0 rfl).ix hx6
   refine st (v := (pt b8 o9)) (rv_ix Try.underlying30 ti3 rfl rfl hi7) ?_
   have hc10 := ((H.ro 0 rfl).at hx6 hi7).int
   refine st (v := (I x5)) (rv_load1 Try.underlying3 rfl rfl hc10) ?_
   refine st (v := (I n_1)) (rv_move rfl) ?_
   refine st (v := (B (x5 == n_1))) (rv_eql (a := x5) (b := n_1) rfl rfl) ?_
   refine w_end ?_
   refine q_then ?_
   refine cd_cond (x5 == n_1) rfl (fun hb11 => ?_) (fun hb11 => ?_)
   ·replace h := bif_t hb11 h
    refine c_seq ?_
    refine rg ?_
    refine st (v := (B true)) (rv_assign rfl) ?_
    refine w_end ?_
    refine q_then ?_
    refine c_ret ?_
    refine q_blk_r ?_
    refine q_then_r ?_
    refine q_then_r ?_
    refine q_blk_r ?_
    obtain rfl := Option.some.inj h
    obtain rfl := hres _ rfl
    exact .inr (⟨_, rfl, rfl, _, σ3, fr_join ⟨rfl, trivial⟩, rfl, H.sel' [] rfl rfl⟩)
   ·replace h := bif_f hb11 h
    refine c_skip ?_
    refine q_blk ?_
    refine q_then ?_
    refine rg ?_
    refine st (v := (I s2)) (rv_move rfl) ?_
    refine st (v := (I (w64 (s2 + 1)))) (rv_add (a := s2) (b := 1) rfl rfl) ?_
    refine st (v := (I (w64 (s2 + 1)))) (rv_assign rfl) ?_
    refine w_end ?_
    refine q_then ?_
    obtain rfl := Option.some.inj h
    exact ⟨_, rfl, _, σ3, fr_join ⟨rfl, rfl, rfl, trivial⟩, rfl, H.sel' [0] rfl rfl⟩
  ·replace h := bif_f hb4 h
   refine c_exit ?_
   refine q_then_x ?_
   refine q_then_x ?_
   refine q_blk_hit ?_
   obtain rfl := Option.some.inj h
   obtain rfl := hres _ rfl
   exact .inl ⟨_, rfl, rfl, _, σ3, fr_join trivial, rfl, H.sel' [] rfl rfl⟩
 ·clear hj
  have h := h'
  clear h' H
  rintro e a w (⟨t12, rfl, rfl, ρ, σ13, rfl, rfl, H⟩ | ⟨t14, rfl, rfl, ρ, σ15, rfl, rfl, H⟩)
  ·replace h := selim_l h
   refine q_then ?_
   refine c_seq ?_
   refine rg ?_
   refine st (v := (B false)) (rv_assign rfl) ?_
   refine w_end ?_
   refine q_then ?_
   refine c_ret ?_
   obtain rfl := Option.some.inj h
   exact fin_ret (v := (B false)) (results_ok Try.results17 (res_tmp (v := (B false)) rfl res_nil) rfl) ⟨rfl, rfl⟩ (H.sel' [] rfl rfl)
  ·replace h := selim_r h
   refine q_then_r ?_
   obtain rfl := Option.some.inj h
   exact fin_ret (v := (B t14)) (results_ok Try.results17 (res_tmp (v := (B t14)) rfl res_nil) rfl) ⟨rfl, rfl⟩ (H.sel' [] rfl rfl)

end Go.Vs

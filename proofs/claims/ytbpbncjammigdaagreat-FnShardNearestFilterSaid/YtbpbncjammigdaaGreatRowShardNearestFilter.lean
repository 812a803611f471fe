/- For every string of bytes the law returns true. -/
import Derived.Test.YtbpbncjammigdaaGreatAl
import Derived.Test.YtbpbncjammigdaaGreatSD
import Derived.Test.YtbpbncjammigdaaGreatCx2
import Derived.Test.YtbpbncjammigdaaGreatPure1
import Derived.Conc.LeavingOf
import Derived.Test.YtbpbncjammigdaaGreatRows
set_option linter.unusedVariables false
set_option linter.unusedSimpArgs false
namespace Go.Proofs.YtbpbncjammigdaaGreat
open Go.Vs Go.ChangeShapes Go.WideShapes Go.ChangeAt Go.RowKit Go.Conc Go.Proofs
open Go.Cx (hU nf Fw vK yb KS QY ay Az EJ)
theorem Tryz.own:ownKnob Tryz.prog.godebug=none:=by kernel_rfl
theorem Tryz.laidOut:laidOutB Tryz.prog=true:=by kernel_rfl
theorem Tryz.abn:Tryz.prog.cellsOf 5=1:=by kernel_rfl
set_option maxHeartbeats 2000000 in
set_option maxRecDepth 100000 in
theorem pQ(hX: ∀W0 Φ,Go.Vc.XC W0 Φ)(os:Os)(started:os.Started)(H:Type)(enc:TypeId×Value->H):
  ReturnsInLeavingWide {} Tryz.checked os 4 .any (Rows.fnShardNearestFilterSpec.pre6 enc Tryz.prog Tryz.f4 Rows.fnShardNearestFilterRow.domain false) (Rows.fnShardNearestFilterSpec.post enc Tryz.prog Tryz.f4 false true false false):=by
 refine returnsInLeavingWide_of_change_sized (C:=Tryz.checked) Tryz.own started Tryz.func4
  (ChangeSpec.witness6 (enc:=enc) (C:=Tryz.checked) false ⟨#[], #[.slice none 0 0],[]⟩ 8 (by kernel_rfl) (by kernel_rfl) (by kernel_rfl) (by kernel_rfl)) ?_
 intro W base args ds gs before Zm hW _ _ _;have Me: ∀(j:Nat) t v,Tryz.f4.params[j]? =some t->args[j]? =some v->Value.okWide Tryz.prog W .any base t v:=Zm;have YJ:=hW;obtain ⟨p,q,hA0,hV,rfl,_,_⟩:=hW;have hA:DataW.TrodAll enc Tryz.prog W 0 (λ_=>true) true Tryz.f4.params.toList args.toList ds p:=hA0;rw [Tryz.params4] at hA Me;obtain ⟨v0,d0,rfl,rfl,h0⟩:=trodAll_one hA;obtain ⟨rfl,rfl⟩:=trodVars_none hV;have abo:=Me 0 22 v0 rfl rfl;obtain ⟨a0,len,cap,rfl⟩:=okWide_slice Tryz.underlying22 abo;have h0k:=h0;obtain ⟨fuel,hf⟩:=h0;clear hA0 Zm;simp only [List.append_nil] at YJ;have bG: ∀x∈p,x.block<W.heap.size:=λx hx=>by simpa using YJ.lt x hx
 have JS: ∀(W':World),Below W.heap.size W W'->DataW.Trod enc Tryz.prog W' 0 (λb=>decide (b<W.heap.size)) true 22 (.slice a0 len cap) d0 p:=
  λW' hn=>Below.trod Tryz.laidOut (by kernel_rfl) (of_decide_eq_true (by kernel_rfl)) h0k hn bG
 have afg: @ay Lz.fs hU (nf (Go.Vc.Ip W)) (.slice a0 len cap) (.slice a0 len cap):=by
  cases a0 with
  | none=>exact .kT _ _
  | some a=>exact .slice _ _ ⟨⟨rfl,(Go.Vc.MN Tryz.underlying22 abo).1⟩,rfl,rfl⟩
 have eN:=KS Lz.fs (Go.Vc.Ip W) (W:=W) Lz.cs λb h=>h;have fin: ∀(aq:St) (code:List UInt8),aq.w=Fw Lz.fs (Go.Vc.Ip W) W->len=code.length->RS 0 aq (Sl a0 code cap) code->
   ∃M last o w' t',runNT Tryz.checked.prog (M+1) (solo (G (Frame.enter Tryz.checked.prog 4 #[.slice a0 len cap] .normal) []) W) #[]=(.ended o w',t')/\
    runN Tryz.checked.prog M (solo (G (Frame.enter Tryz.checked.prog 4 #[.slice a0 len cap] .normal) []) W)= .next last/\step Tryz.checked.prog last= .ended o w'/\
    Conc.Good Tryz.checked.prog (λv W'=>Rows.fnShardNearestFilterSpec.post enc Tryz.checked.prog Tryz.f4 false true false false W #[.slice a0 len cap] v W') last o w' t':=by
  intro aq code hw hl hR;subst hl;have hR':RS 0 (Go.Vc.St.Q9 aq) (Sl a0 code cap) code:=hR.ext (Go.Vc.Ou aq);have bU:=Go.Vc.VW (K:=Lz.K W (Az Tryz.checked.prog λv W'=>Rows.fnShardNearestFilterSpec.post enc Tryz.checked.prog Tryz.f4 false true false false W #[.slice a0 code.length cap] v W')) (σ:=Go.Vc.St.Q9 aq) (f:=4)
   (Go.Vd.pP (hX _ _) (gL:=a0) (gM:=cap) (tT code)) rfl (show Go.Cx.oT 32 Lz.keep Tryz.prog.funcs.size 4=true by kernel_rfl) (show¬(4=32) by decide) (show Tryz.prog.inits.idxOf? 4=none by kernel_rfl) rfl
   (λfn h=>by have e:Tryz.f4=fn:=qai (Lz.N4.symm.trans h);subst e;exact ⟨_,Tryz.results4⟩) (λm v L h=>h.1)
   (λW' h1 h2 h3 h4=>by
    have FR:=Go.Vc.Q8 h1 h2 h3 h4;refine ⟨_,_,_,[],p,[],YJ, ?_, ?_,by rfl,FR.frame _,λh=>by cases h⟩
    ·exact trodAll_mk1 (shut_bool Tryz.underlying4 true)
    ·exact trodAll_mk1 (JS _ FR))
   ⟨trivial,by show aq.w.os=W.os;rw [hw];rfl,by show aq.w.output=W.output;rw [hw];rfl⟩ (Hp.begin (Gu hR' trivial) (yn trivial)) (l':=[.slice a0 code.length cap]) (β:=nf (Go.Vc.Ip W)) (Go.Cx.aL.one afg)
   (by show Go.Cx.cH _ aq.w W;rw [hw];exact eN.1) (by show Go.Cx.Dw aq.w;rw [hw];exact QY Lz.fs _) (λa b h=>by show Go.Cx.gU _ aq.w b;rw [hw];exact (eN.2 b).1 (h.1▸h.2))
  exact EJ bU
 rcases open_ints Tryz.underlying22 Tryz.underlying5 Tryz.abn hf with ⟨hcs,hx⟩ | ⟨a,akO,qj,zs,hcs,_,hl,hm,hz,hx,mQ,hwz⟩
 ·simp [Value.cells] at hcs;obtain ⟨rfl,rfl,rfl⟩:=hcs;obtain ⟨aq,Yw,hR⟩:=Sq (Fw Lz.fs (Go.Vc.Ip W) W) none 0;exact fin aq [] Yw rfl hR
 ·simp [Value.cells] at hcs;obtain ⟨rfl,rfl,rfl⟩:=hcs;simp only [Prod.mk.injEq] at hx;obtain ⟨rfl,rfl⟩:=hx;simp only [if_true] at hz;by_cases hl0:len=0
  ·subst hl0;obtain ⟨aq,Yw,hR⟩:=Sq (Fw Lz.fs (Go.Vc.Ip W) W) (some a) cap;exact fin aq [] Yw rfl hR
  ·have hT:=(Go.Vc.MN Tryz.underlying22 abo).1;obtain ⟨b,off,spot⟩:=a;have afh:spot=none:=by simpa [Addr.add] using World.cell?_spot (mQ 0 (by omega))
   subst afh;have hbW:b<W.heap.size:=bG (.cell b off) (MemPlace.mem_row.2 ⟨0,by omega,by simp⟩);obtain ⟨aq,Yw,hR⟩:=Sp (W:=Fw Lz.fs (Go.Vc.Ip W) W) (b:=b) (off:=off) (len:=len) (cap:=cap) (zs:=zs.take len) (by rw [vK];exact hbW) hl (by simp;omega)
    (λi hi=>by
     simp only [qan] at hi;have:=mQ i (by omega);rw [Go.Vs.add_plain] at this;have gA:i<len:=by omega
     refine yb Lz.fs (Go.Vc.Ip W) hT ?_ (.int _ _);rw [this];simp [List.getD,qc9,gA]) (λn hn=>hwz n (List.mem_of_mem_take hn))
   exact fin aq _ Yw (by simp [bytesOf];omega) hR
theorem qP(hX: ∀W0 Φ,Go.Vc.XC W0 Φ):Rows.FnShardNearestFilterSaid:=
 OpenClaim.holds_of_wide_leaving 4 Tryz.f4 rfl rfl rfl rfl rfl rfl rfl ⟨rfl,rfl,rfl,rfl,rfl⟩ rfl rfl rfl rfl rfl (by kernel_rfl) Tryz.func4 (by kernel_rfl)
  (of_decide_eq_true (by kernel_rfl)) (by unfold Func.isWrapper;first | (rw [if_pos (by decide+kernel)];kernel_rfl) | (rw [if_neg (by decide+kernel)];exact ⟨rfl,rfl⟩))
  (λos started H enc _=>pQ hX os started H enc)
end Go.Proofs.YtbpbncjammigdaaGreat

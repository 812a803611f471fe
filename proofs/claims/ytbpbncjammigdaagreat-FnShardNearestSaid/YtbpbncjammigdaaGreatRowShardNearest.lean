/- For every string of bytes the law returns true. -/
import Derived.Test.YtbpbncjammigdaaGreatAl
import Derived.Test.YtbpbncjammigdaaGreatSD
import Derived.Test.YtbpbncjammigdaaGreatCx2
import Derived.Test.YtbpbncjammigdaaGreatPure1
import Derived.Conc.LeavingOf
import Derived.Test.YtbpbncjammigdaaGreatRows
set_option linter.unusedVariables false
set_option linter.unusedSimpArgs false
namespace Go.Proofs.YtbpbncjammigdaaGreat
open Go.Vs Go.ChangeShapes Go.WideShapes Go.ChangeAt Go.RowKit Go.Conc Go.Proofs
open Go.Cx (hU kU Fw rY uG KS Rt aF wS CP)
theorem Tryz.own:ownKnob Tryz.prog.godebug=none:=by kernel_rfl
theorem Tryz.laidOut:laidOutB Tryz.prog=true:=by kernel_rfl
theorem Tryz.aaL:Tryz.prog.cellsOf 5=1:=by kernel_rfl
set_option maxHeartbeats 2000000 in
set_option maxRecDepth 100000 in
theorem qE(hX: ∀W0 Φ,Go.Vc.XC W0 Φ)(os:Os)(started:os.Started)(H:Type)(enc:TypeId×Value->H):
  ReturnsInLeavingWide {} Tryz.checked os 3 .any (Rows.fnShardNearestSpec.pre6 enc Tryz.prog Tryz.f3 Rows.fnShardNearestRow.domain false) (Rows.fnShardNearestSpec.post enc Tryz.prog Tryz.f3 false true false false):=by
 refine returnsInLeavingWide_of_change_sized (C:=Tryz.checked) Tryz.own started Tryz.func3
  (ChangeSpec.witness6 (enc:=enc) (C:=Tryz.checked) false ⟨#[], #[.slice none 0 0],[]⟩ 8 (by kernel_rfl) (by kernel_rfl) (by kernel_rfl) (by kernel_rfl)) ?_
 intro W base args ds gs before Yp hW _ _ _;have LQ: ∀(j:Nat) t v,Tryz.f3.params[j]? =some t->args[j]? =some v->Value.okWide Tryz.prog W .any base t v:=Yp;have XY:=hW;obtain ⟨p,q,hA0,hV,rfl,_,_⟩:=hW;have hA:DataW.TrodAll enc Tryz.prog W 0 (λ_=>true) true Tryz.f3.params.toList args.toList ds p:=hA0;rw [Tryz.params3] at hA LQ;obtain ⟨v0,d0,rfl,rfl,h0⟩:=trodAll_one hA;obtain ⟨rfl,rfl⟩:=trodVars_none hV;have aaM:=LQ 0 22 v0 rfl rfl;obtain ⟨a0,len,cap,rfl⟩:=okWide_slice Tryz.underlying22 aaM;have h0k:=h0;obtain ⟨fuel,hf⟩:=h0;clear hA0 Yp;simp only [List.append_nil] at XY;have bJ: ∀x∈p,x.block<W.heap.size:=λx hx=>by simpa using XY.lt x hx
 have Jd: ∀(W':World),Below W.heap.size W W'->DataW.Trod enc Tryz.prog W' 0 (λb=>decide (b<W.heap.size)) true 22 (.slice a0 len cap) d0 p:=
  λW' hn=>Below.trod Tryz.laidOut (by kernel_rfl) (of_decide_eq_true (by kernel_rfl)) h0k hn bJ
 have aeI: @aF Lz.fs hU (kU (Go.Vc.Ij W)) (.slice a0 len cap) (.slice a0 len cap):=by
  cases a0 with
  | none=>exact .jc _ _
  | some a=>exact .slice _ _ ⟨⟨rfl,(Go.Vc.MU Tryz.underlying22 aaM).1⟩,rfl,rfl⟩
 have bM:=KS Lz.fs (Go.Vc.Ij W) (W:=W) Lz.cs λb h=>h;have fin: ∀(ay:St) (code:List UInt8),ay.w=Fw Lz.fs (Go.Vc.Ij W) W->len=code.length->RS 0 ay (Sl a0 code cap) code->
   ∃M last o w' t',runNT Tryz.checked.prog (M+1) (solo (G (Frame.enter Tryz.checked.prog 3 #[.slice a0 len cap] .normal) []) W) #[]=(.ended o w',t')/\
    runN Tryz.checked.prog M (solo (G (Frame.enter Tryz.checked.prog 3 #[.slice a0 len cap] .normal) []) W)= .next last/\step Tryz.checked.prog last= .ended o w'/\
    Conc.Good Tryz.checked.prog (λv W'=>Rows.fnShardNearestSpec.post enc Tryz.checked.prog Tryz.f3 false true false false W #[.slice a0 len cap] v W') last o w' t':=by
  intro ay code hw hl hR;subst hl;have hR':RS 0 (Go.Vc.St.RH ay) (Sl a0 code cap) code:=hR.ext (Go.Vc.Ox ay);have bP:=Go.Vc.Vv (K:=Lz.K W (wS Tryz.checked.prog λv W'=>Rows.fnShardNearestSpec.post enc Tryz.checked.prog Tryz.f3 false true false false W #[.slice a0 code.length cap] v W')) (σ:=Go.Vc.St.RH ay) (f:=3)
   (Go.Vc.qD (hX _ _) (Ac:=a0) (Ad:=cap) (wD code)) rfl (show Go.Cx.mb 32 Lz.keep Tryz.prog.funcs.size 3=true by kernel_rfl) (show¬(3=32) by decide) (show Tryz.prog.inits.idxOf? 3=none by kernel_rfl) rfl
   (λfn h=>by have e:Tryz.f3=fn:=qaa (Lz.N3.symm.trans h);subst e;exact ⟨_,Tryz.results3⟩) (λm v L h=>h.1)
   (λW' h1 h2 h3 h4=>by
    have EW:=Go.Vc.RF h1 h2 h3 h4;refine ⟨_,_,_,[],p,[],XY, ?_, ?_,by rfl,EW.frame _,λh=>by cases h⟩
    ·exact trodAll_mk1 (shut_bool Tryz.underlying4 true)
    ·exact trodAll_mk1 (Jd _ EW))
   ⟨trivial,by show ay.w.os=W.os;rw [hw];rfl,by show ay.w.output=W.output;rw [hw];rfl⟩ (Hp.begin (EF hR' trivial) (uk trivial)) (l':=[.slice a0 code.length cap]) (β:=kU (Go.Vc.Ij W)) (Go.Cx.aQ.one aeI)
   (by show Go.Cx.cz _ ay.w W;rw [hw];exact bM.1) (by show Go.Cx.Dw ay.w;rw [hw];exact Rt Lz.fs _) (λa b h=>by show Go.Cx.fw _ ay.w b;rw [hw];exact (bM.2 b).1 (h.1▸h.2))
  exact CP bP
 rcases open_ints Tryz.underlying22 Tryz.underlying5 Tryz.aaL hf with ⟨YR,hx⟩ | ⟨a,ajN,mZ,zs,YR,_,hl,hm,hz,hx,kz,hwz⟩
 ·simp [Value.cells] at YR;obtain ⟨rfl,rfl,rfl⟩:=YR;obtain ⟨ay,XO,hR⟩:=QQ (Fw Lz.fs (Go.Vc.Ij W) W) none 0;exact fin ay [] XO rfl hR
 ·simp [Value.cells] at YR;obtain ⟨rfl,rfl,rfl⟩:=YR;simp only [Prod.mk.injEq] at hx;obtain ⟨rfl,rfl⟩:=hx;simp only [if_true] at hz;by_cases hl0:len=0
  ·subst hl0;obtain ⟨ay,XO,hR⟩:=QQ (Fw Lz.fs (Go.Vc.Ij W) W) (some a) cap;exact fin ay [] XO rfl hR
  ·have hT:=(Go.Vc.MU Tryz.underlying22 aaM).1;obtain ⟨b,off,spot⟩:=a;have aeJ:spot=none:=by simpa [Addr.add] using World.cell?_spot (kz 0 (by omega))
   subst aeJ;have hbW:b<W.heap.size:=bJ (.cell b off) (MemPlace.mem_row.2 ⟨0,by omega,by simp⟩);obtain ⟨ay,XO,hR⟩:=QP (W:=Fw Lz.fs (Go.Vc.Ij W) W) (b:=b) (off:=off) (len:=len) (cap:=cap) (zs:=zs.take len) (by rw [rY];exact hbW) hl (by simp;omega)
    (λi hi=>by
     simp only [qar] at hi;have:=kz i (by omega);rw [Go.Vs.add_plain] at this;have fa:i<len:=by omega
     refine uG Lz.fs (Go.Vc.Ij W) hT ?_ (.int _ _);rw [this];simp [List.getD,qc6,fa]) (λn hn=>hwz n (List.mem_of_mem_take hn))
   exact fin ay _ XO (by simp [bytesOf];omega) hR
theorem rL(hX: ∀W0 Φ,Go.Vc.XC W0 Φ):Rows.FnShardNearestSaid:=
 OpenClaim.holds_of_wide_leaving 3 Tryz.f3 rfl rfl rfl rfl rfl rfl rfl ⟨rfl,rfl,rfl,rfl,rfl⟩ rfl rfl rfl rfl rfl (by kernel_rfl) Tryz.func3 (by kernel_rfl)
  (of_decide_eq_true (by kernel_rfl)) (by unfold Func.isWrapper;first | (rw [if_pos (by decide+kernel)];kernel_rfl) | (rw [if_neg (by decide+kernel)];exact ⟨rfl,rfl⟩))
  (λos started H enc _=>qE hX os started H enc)
end Go.Proofs.YtbpbncjammigdaaGreat

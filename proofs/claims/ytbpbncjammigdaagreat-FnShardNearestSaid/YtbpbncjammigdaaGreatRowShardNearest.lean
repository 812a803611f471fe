/- For every string of bytes the law returns true. -/
import Derived.Test.YtbpbncjammigdaaGreatAl
import Derived.Test.YtbpbncjammigdaaGreatSD
import Derived.Test.YtbpbncjammigdaaGreatCx2
import Derived.Test.YtbpbncjammigdaaGreatPure1
import Derived.Conc.LeavingOf
import Derived.Test.YtbpbncjammigdaaGreatRows
set_option linter.unusedVariables false
set_option linter.unusedSimpArgs false
namespace Go.Proofs.YtbpbncjammigdaaGreat
open Go.Vs Go.ChangeShapes Go.WideShapes Go.ChangeAt Go.RowKit Go.Conc Go.Proofs
open Go.Cx (hU mG Fw uJ wU Ju Py ax zn Dp)
theorem Tryz.own:ownKnob Tryz.prog.godebug=none:=by kernel_rfl
theorem Tryz.laidOut:laidOutB Tryz.prog=true:=by kernel_rfl
theorem Tryz.ZT:Tryz.prog.cellsOf 5=1:=by kernel_rfl
set_option maxHeartbeats 2000000 in
set_option maxRecDepth 100000 in
theorem tI(hX: ∀W0 Φ,Go.Vc.XC W0 Φ)(os:Os)(started:os.Started)(H:Type)(enc:TypeId×Value->H):
  ReturnsInLeavingWide {} Tryz.checked os 3 .any (Rows.fnShardNearestSpec.pre6 enc Tryz.prog Tryz.f3 Rows.fnShardNearestRow.domain false) (Rows.fnShardNearestSpec.post enc Tryz.prog Tryz.f3 false true false false):=by
 refine returnsInLeavingWide_of_change_sized (C:=Tryz.checked) Tryz.own started Tryz.func3
  (ChangeSpec.witness6 (enc:=enc) (C:=Tryz.checked) false ⟨#[], #[.slice none 0 0],[]⟩ 8 (by kernel_rfl) (by kernel_rfl) (by kernel_rfl) (by kernel_rfl)) ?_
 intro W base args ds gs before Xt hW _ _ _;have KF: ∀(j:Nat) t v,Tryz.f3.params[j]? =some t->args[j]? =some v->Value.okWide Tryz.prog W .any base t v:=Xt;have WK:=hW;obtain ⟨p,q,hA0,hV,rfl,_,_⟩:=hW;have hA:DataW.TrodAll enc Tryz.prog W 0 (λ_=>true) true Tryz.f3.params.toList args.toList ds p:=hA0;rw [Tryz.params3] at hA KF;obtain ⟨v0,d0,rfl,rfl,h0⟩:=trodAll_one hA;obtain ⟨rfl,rfl⟩:=trodVars_none hV;have ZU:=KF 0 22 v0 rfl rfl;obtain ⟨a0,len,cap,rfl⟩:=okWide_slice Tryz.underlying22 ZU;have h0k:=h0;obtain ⟨fuel,hf⟩:=h0;clear hA0 Xt;simp only [List.append_nil] at WK;have bG: ∀x∈p,x.block<W.heap.size:=λx hx=>by simpa using WK.lt x hx
 have Io: ∀(W':World),Below W.heap.size W W'->DataW.Trod enc Tryz.prog W' 0 (λb=>decide (b<W.heap.size)) true 22 (.slice a0 len cap) d0 p:=
  λW' hn=>Below.trod Tryz.laidOut (by kernel_rfl) (of_decide_eq_true (by kernel_rfl)) h0k hn bG
 have adM: @ax Lz.fs hU (mG (Go.Vc.GX W)) (.slice a0 len cap) (.slice a0 len cap):=by
  cases a0 with
  | none=>exact .kg _ _
  | some a=>exact .slice _ _ ⟨⟨rfl,(Go.Vc.Lk Tryz.underlying22 ZU).1⟩,rfl,rfl⟩
 have fg:=Ju Lz.fs (Go.Vc.GX W) (W:=W) Lz.cs λb h=>h;have fin: ∀(ar:St) (code:List UInt8),ar.w=Fw Lz.fs (Go.Vc.GX W) W->len=code.length->RS 0 ar (Sl a0 code cap) code->
   ∃M last o w' t',runNT Tryz.checked.prog (M+1) (solo (G (Frame.enter Tryz.checked.prog 3 #[.slice a0 len cap] .normal) []) W) #[]=(.ended o w',t')/\
    runN Tryz.checked.prog M (solo (G (Frame.enter Tryz.checked.prog 3 #[.slice a0 len cap] .normal) []) W)= .next last/\step Tryz.checked.prog last= .ended o w'/\
    Conc.Good Tryz.checked.prog (λv W'=>Rows.fnShardNearestSpec.post enc Tryz.checked.prog Tryz.f3 false true false false W #[.slice a0 len cap] v W') last o w' t':=by
  intro ar code hw hl hR;subst hl;have hR':RS 0 (Go.Vc.St.PM ar) (Sl a0 code cap) code:=hR.ext (Go.Vc.MZ ar);have bM:=Go.Vc.TZ (K:=Lz.K W (zn Tryz.checked.prog λv W'=>Rows.fnShardNearestSpec.post enc Tryz.checked.prog Tryz.f3 false true false false W #[.slice a0 code.length cap] v W')) (σ:=Go.Vc.St.PM ar) (f:=3)
   (Go.Vc.tH (hX _ _) (gp:=a0) (gq:=cap) (zb code)) rfl (show Go.Cx.oc 32 Lz.keep Tryz.prog.funcs.size 3=true by kernel_rfl) (show¬(3=32) by decide) (show Tryz.prog.inits.idxOf? 3=none by kernel_rfl) rfl
   (λfn h=>by have e:Tryz.f3=fn:=qaf (Lz.N3.symm.trans h);subst e;exact ⟨_,Tryz.results3⟩) (λm v L h=>h.1)
   (λW' h1 h2 h3 h4=>by
    have Ey:=Go.Vc.PL h1 h2 h3 h4;refine ⟨_,_,_,[],p,[],WK, ?_, ?_,by rfl,Ey.frame _,λh=>by cases h⟩
    ·exact trodAll_mk1 (shut_bool Tryz.underlying4 true)
    ·exact trodAll_mk1 (Io _ Ey))
   ⟨trivial,by show ar.w.os=W.os;rw [hw];rfl,by show ar.w.output=W.output;rw [hw];rfl⟩ (Hp.begin (E4 hR' trivial) (xh trivial)) (l':=[.slice a0 code.length cap]) (β:=mG (Go.Vc.GX W)) (Go.Cx.aF.one adM)
   (by show Go.Cx.cn _ ar.w W;rw [hw];exact fg.1) (by show Go.Cx.Dw ar.w;rw [hw];exact Py Lz.fs _) (λa b h=>by show Go.Cx.gB _ ar.w b;rw [hw];exact (fg.2 b).1 (h.1▸h.2))
  exact Dp bM
 rcases open_ints Tryz.underlying22 Tryz.underlying5 Tryz.ZT hf with ⟨Yt,hx⟩ | ⟨a,ajd,px,zs,Yt,_,hl,hm,hz,hx,ml,hwz⟩
 ·simp [Value.cells] at Yt;obtain ⟨rfl,rfl,rfl⟩:=Yt;obtain ⟨ar,Wr,hR⟩:=QC (Fw Lz.fs (Go.Vc.GX W) W) none 0;exact fin ar [] Wr rfl hR
 ·simp [Value.cells] at Yt;obtain ⟨rfl,rfl,rfl⟩:=Yt;simp only [Prod.mk.injEq] at hx;obtain ⟨rfl,rfl⟩:=hx;simp only [if_true] at hz;by_cases hl0:len=0
  ·subst hl0;obtain ⟨ar,Wr,hR⟩:=QC (Fw Lz.fs (Go.Vc.GX W) W) (some a) cap;exact fin ar [] Wr rfl hR
  ·have hT:=(Go.Vc.Lk Tryz.underlying22 ZU).1;obtain ⟨b,off,spot⟩:=a;have adN:spot=none:=by simpa [Addr.add] using World.cell?_spot (ml 0 (by omega))
   subst adN;have hbW:b<W.heap.size:=bG (.cell b off) (MemPlace.mem_row.2 ⟨0,by omega,by simp⟩);obtain ⟨ar,Wr,hR⟩:=QB (W:=Fw Lz.fs (Go.Vc.GX W) W) (b:=b) (off:=off) (len:=len) (cap:=cap) (zs:=zs.take len) (by rw [uJ];exact hbW) hl (by simp;omega)
    (λi hi=>by
     simp only [qaq] at hi;have:=ml i (by omega);rw [Go.Vs.add_plain] at this;have fU:i<len:=by omega
     refine wU Lz.fs (Go.Vc.GX W) hT ?_ (.int _ _);rw [this];simp [List.getD,qc4,fU]) (λn hn=>hwz n (List.mem_of_mem_take hn))
   exact fin ar _ Wr (by simp [bytesOf];omega) hR
theorem uz(hX: ∀W0 Φ,Go.Vc.XC W0 Φ):Rows.FnShardNearestSaid:=
 OpenClaim.holds_of_wide_leaving 3 Tryz.f3 rfl rfl rfl rfl rfl rfl rfl ⟨rfl,rfl,rfl,rfl,rfl⟩ rfl rfl rfl rfl rfl (by kernel_rfl) Tryz.func3 (by kernel_rfl)
  (of_decide_eq_true (by kernel_rfl)) (by unfold Func.isWrapper;first | (rw [if_pos (by decide+kernel)];kernel_rfl) | (rw [if_neg (by decide+kernel)];exact ⟨rfl,rfl⟩))
  (λos started H enc _=>tI hX os started H enc)
end Go.Proofs.YtbpbncjammigdaaGreat

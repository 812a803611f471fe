/- For every input the exact law of the nearest ones among the shards returns true, and the input reads as it did. -/
import Derived.Test.YtbpbncjammigdaaGreatAl
import Derived.Test.YtbpbncjammigdaaGreatSD
import Derived.Test.YtbpbncjammigdaaGreatCx2
import Derived.Test.YtbpbncjammigdaaGreatPure1
import Derived.Test.YtbpbncjammigdaaGreatEng2
import Derived.Conc.LeavingOf
import Derived.Test.YtbpbncjammigdaaGreatRows
set_option linter.unusedVariables false
set_option linter.unusedSimpArgs false
namespace Go.Proofs.YtbpbncjammigdaaGreat
open Go.Vs Go.ChangeShapes Go.WideShapes Go.ChangeAt Go.RowKit Go.Conc Go.Proofs
open Go.Cx (hU lG Fw rJ um I6 OO ay aG yJ C8)
open Go.Vc (I9 xV tJ oH rN)
theorem Tryz.own:ownKnob Tryz.prog.godebug=none:=by kernel_rfl
theorem Tryz.laidOut:laidOutB Tryz.prog=true:=by kernel_rfl
theorem Tryz.FF:Tryz.prog.cellsOf 3=1:=by kernel_rfl
theorem Tryz.Uy:Tryz.prog.cellsOf 24=1:=by kernel_rfl
theorem Tryz.Li:Tryz.prog.cellsOf 68=3:=by kernel_rfl
set_option maxHeartbeats 2000000 in
set_option maxRecDepth 100000 in
theorem pq(hX: ∀W0 Φ,Go.Vc.XC W0 Φ)(os:Os)(started:os.Started)(H:Type)(enc:TypeId×Value->H):
  ReturnsInLeavingWide {} Tryz.checked os 5 .any (Rows.fnExactShardNearestSpec.pre6 enc Tryz.prog Tryz.f5 Rows.fnExactShardNearestRow.domain false) (Rows.fnExactShardNearestSpec.post enc Tryz.prog Tryz.f5 false true false false):=by
 refine returnsInLeavingWide_of_change_sized (C:=Tryz.checked) Tryz.own started Tryz.func5
  (ChangeSpec.witness6 (enc:=enc) (C:=Tryz.checked) false ⟨#[], #[.slice none 0 0, .int .i64 0, .int .i64 0, .slice none 0 0, .int .i64 0],[]⟩ 8 (by kernel_rfl) (by kernel_rfl) (by kernel_rfl) (by kernel_rfl)) ?_
 intro W base args ds gs before WJ hW _ _ _;have xW: ∀(j:Nat) t v,Tryz.f5.params[j]? =some t->args[j]? =some v->Value.okWide Tryz.prog W .any base t v:=WJ;have VO:=hW;obtain ⟨p,q,hA0,hV,rfl,_,_⟩:=hW;have hA:DataW.TrodAll enc Tryz.prog W 0 (λ_=>true) true Tryz.f5.params.toList args.toList ds p:=hA0;rw [Tryz.params5] at hA xW;obtain ⟨v0,v1,v2,v3,v4,d0,d1,d2,d3,d4,p0,p1,p2,p3,p4,rfl,rfl,rfl,h0,h1,h2,h3,h4⟩:=ET hA;obtain ⟨rfl,rfl⟩:=trodVars_none hV;simp only [qbw] at VO;have bs: ∀x∈p0++p1++p2++p3++p4,x.block<W.heap.size:=λx hx=>by simpa using VO.lt x (by simpa using hx)
 have l0: ∀x∈p0,x.block<W.heap.size:=λx hx=>bs x (by simp [hx]);have k0:=h0;have hv0:=xW 0 38 _ rfl rfl;obtain ⟨a0,xs0,c0,N0,ok0,rfl,s0,hR0⟩:=xV (F:=Lz.fs) Tryz.underlying38 Tryz.Li (tJ Tryz.underlying68 Tryz.Li rfl rfl rfl Tryz.FF Tryz.Uy Tryz.FF (oH Tryz.underlying3) (rN Tryz.underlying24 Tryz.FF (oH Tryz.underlying3)) (oH Tryz.underlying3)) hv0 h0 l0;have r0: ∀(W':World),Below W.heap.size W W'->DataW.Trod enc Tryz.prog W' 0 (λb=>decide (b<W.heap.size)) true 38 (Sl a0 xs0 c0) d0 p0:=
  λW' hn=>Below.trod Tryz.laidOut (by kernel_rfl) (of_decide_eq_true (by kernel_rfl)) k0 hn l0
 obtain ⟨n1,rfl,rfl,rfl,w1⟩:=open_int Tryz.underlying3 (xW 1 3 _ rfl rfl) h1;obtain ⟨n2,rfl,rfl,rfl,w2⟩:=open_int Tryz.underlying3 (xW 2 3 _ rfl rfl) h2;have l3: ∀x∈p3,x.block<W.heap.size:=λx hx=>bs x (by simp [hx]);have k3:=h3;have hv3:=xW 3 24 _ rfl rfl;obtain ⟨a3,G4,c3,N3,ok3,rfl,s3,hR3⟩:=xV (F:=Lz.fs) Tryz.underlying24 Tryz.FF (oH Tryz.underlying3) hv3 h3 l3;have r3: ∀(W':World),Below W.heap.size W W'->DataW.Trod enc Tryz.prog W' 0 (λb=>decide (b<W.heap.size)) true 24 (Sl a3 G4 c3) d3 p3:=
  λW' hn=>Below.trod Tryz.laidOut (by kernel_rfl) (of_decide_eq_true (by kernel_rfl)) k3 hn l3
 obtain ⟨n4,rfl,rfl,rfl,w4⟩:=open_int Tryz.underlying3 (xW 4 3 _ rfl rfl) h4;clear hA0 WJ;have eE:=I6 Lz.fs (Go.Vc.KH W) (W:=W) Lz.cs λb h=>h;have bH:=Go.Vc.Ta (K:=Lz.K W (yJ Tryz.checked.prog λv W'=>Rows.fnExactShardNearestSpec.post enc Tryz.checked.prog Tryz.f5 false true false false W #[Sl a0 xs0 c0, .int .i64 n1, .int .i64 n2,Sl a3 G4 c3, .int .i64 n4] v W')) (σ:=I9 Lz.fs W (N0+N3)) (f:=5)
  (Go.Vc.po (hX _ _) (db:=a0) (dc:=c0) (fT:=a3) (fU:=c3) ⟨ok0.1,λx hx=>(ok0.2 x hx).2.1.1⟩ (tc xs0 n1 n2 G4 n4 ok0)) rfl (show Go.Cx.nt 32 Lz.keep Tryz.prog.funcs.size 5=true by kernel_rfl) (show¬(5=32) by decide) (show Tryz.prog.inits.idxOf? 5=none by kernel_rfl) rfl
  (λfn h=>by have e:Tryz.f5=fn:=qaf (Lz.N5.symm.trans h);subst e;exact ⟨_,Tryz.results5⟩) (λm v L h=>h.1)
  (λW' h1 h2 h3 h4=>by
   have C6:=Go.Vc.OW h1 h2 h3 h4;refine ⟨_,_,_,[],p0++[]++[]++p3++[],[],VO, ?_, ?_,by rfl,C6.frame _,λh=>by cases h⟩
   ·exact trodAll_mk1 (shut_bool Tryz.underlying4 true)
   ·rw [List.append_assoc,List.append_assoc,List.append_assoc];exact G3 (r0 _ C6) (shut_int Tryz.underlying3 w1) (shut_int Tryz.underlying3 w2) (r3 _ C6) (shut_int Tryz.underlying3 w4))
  ⟨trivial,rfl,rfl⟩ (Hp.begin (AG (hR0 _ (by omega)) (AG (hR3 _ (by omega)) trivial)) (tT (tT trivial))) (l':=[Sl a0 xs0 c0, .int .i64 n1, .int .i64 n2,Sl a3 G4 c3, .int .i64 n4]) (β:=lG (Go.Vc.KH W))
  (by
   show aG _ ((((#[].push (Sl a0 xs0 c0)).push (I n1)).push (I n2)).push (Sl a3 G4 c3) |>.push (I n4)) ((((#[].push (Sl a0 xs0 c0)).push (I n1)).push (I n2)).push (Sl a3 G4 c3) |>.push (I n4));exact ((((aG.empty.push s0).push (.int _ _)).push (.int _ _)).push s3).push (.int _ _))
  eE.1 (OO Lz.fs _) (λa b h=>(eE.2 b).1 (h.1▸h.2))
 exact C8 bH
theorem pO(hX: ∀W0 Φ,Go.Vc.XC W0 Φ):Rows.FnExactShardNearestSaid:=
 OpenClaim.holds_of_wide_leaving 5 Tryz.f5 rfl rfl rfl rfl rfl rfl rfl ⟨rfl,rfl,rfl,rfl,rfl⟩ rfl rfl rfl rfl rfl (by kernel_rfl) Tryz.func5 (by kernel_rfl)
  (of_decide_eq_true (by kernel_rfl)) (by unfold Func.isWrapper;first | (rw [if_pos (by decide+kernel)];kernel_rfl) | (rw [if_neg (by decide+kernel)];exact ⟨rfl,rfl⟩))
  (λos started H enc _=>pq hX os started H enc)
end Go.Proofs.YtbpbncjammigdaaGreat

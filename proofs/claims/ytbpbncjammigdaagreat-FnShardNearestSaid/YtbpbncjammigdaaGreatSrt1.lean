/- A slice that the library sorts. -/
import Derived.Test.YtbpbncjammigdaaGreatAl
import Derived.Test.YtbpbncjammigdaaGreatEng1
import Derived.Shelf.SlSortCmp.NoneTotal
set_option linter.unusedVariables false
set_option linter.unusedSimpArgs false
namespace Go.Vs
open Go Go.Proofs Go.Shelf
theorem Md.grown{σ σ':St}(h:Md (λ_=>False) σ σ')(hl: ¬σ.dR): ∃q os,σ'.w=Go.Sort.grow (σ.w.drewN q) os:=by
 refine ⟨σ'.w.drawn - σ.w.drawn,σ'.w.heap.extract σ.w.heap.size σ'.w.heap.size, ?_⟩;have h1:σ'.w.heap=σ.w.heap++σ'.w.heap.extract σ.w.heap.size σ'.w.heap.size:=by
  apply Array.ext_getElem?;intro i;by_cases hi:i<σ.w.heap.size
  ·rw [h.block i hi id,qbu hi]
  ·rw [Array.getElem?_append_right (by omega),Array.getElem?_extract];have hs:σ.w.heap.size<=σ'.w.heap.size:=h.size;by_cases hj:i<σ'.w.heap.size
   ·rw [if_pos (by omega)];congr 1;omega
   ·rw [if_neg (by omega),qbb (by omega)]
 have h2:σ.w.drawn+(σ'.w.drawn - σ.w.drawn)=σ'.w.drawn:=by have:=h.dr.resolve_left hl;omega
 have e1:=h.os;have e2:=h.tape.resolve_left hl;have e3:=h.output;unfold Go.Sort.grow World.drewN;cases hw:σ'.w with
 | mk hp tp dr os out=>
  rw [hw] at h1 h2 e1 e2 e3;simp only at h1 h2 e1 e2 e3 ⊢;rw [←h1,h2,e1,e2,e3]
section
theorem EY{E:Type}[Inhabited E](enc:E->List Value)(k:Nat)(w:World)(blk off m:Nat)(dk:Array E)(os:Array Obj):
 (sortWorldK enc k w blk off m dk os).heap=w.heap.modify blk (Go.Sort.onCells (Go.Sort.putCells id off (Go.Sort.flatK enc k dk)))++os:=rfl
theorem Bh{E:Type}[Inhabited E]{enc:E->List Value}{k:Nat}{w:World}{blk off m:Nat}{dk:Array E}{os:Array Obj}{b:Nat}(hb:b<w.heap.size)(j0:b≠blk):
  (sortWorldK enc k w blk off m dk os).heap[b]? =w.heap[b]? :=by
 rw [EY,qbu (by simpa using hb),qby,if_neg (qbo j0)]
theorem YB{E:Type}[Inhabited E]{enc:E->List Value}{k:Nat}{w:World}{blk off m:Nat}{dk:Array E}{os:Array Obj}{C:Array Value}{T:TypeId}{fr:Nat×Nat}(h:w.heap[blk]? =some (.cells C T fr)):
  ∃C',(sortWorldK enc k w blk off m dk os).heap[blk]? =some (.cells C' T fr)/\C'.size=C.size:=by
 have hb:=lt_of_block h;refine ⟨Go.Sort.putCells id off (Go.Sort.flatK enc k dk) C, ?_,by simp [Go.Sort.putCells]⟩;rw [EY,qbu (by simpa using hb),qby,if_pos rfl,h]
 rfl
theorem Aw{E:Type}[Inhabited E]{enc:E->List Value}{k:Nat}{w:World}{blk off m:Nat}{dk:Array E}{os:Array Obj}:w.heap.size<=(sortWorldK enc k w blk off m dk os).heap.size:=by
 rw [EY];simp
def St.YC(σ:St)(w:World)(h:σ.w.heap.size<=w.heap.size):St:=⟨w,λb=>if b<σ.size then σ.fV b else 0,λb hb=>if_neg (by unfold St.size;omega),σ.dR⟩
theorem St.EZ{σ:St}{w:World}{h:σ.w.heap.size<=w.heap.size}{b:Nat}:(σ.YC w h).fV b=σ.fV b:=by
 show (if b<σ.size then σ.fV b else 0)=_;split
 ·rfl
 ·exact (σ.ok b (by unfold St.size at *; omega)).symm
theorem St.LF{σ:St}{w:World}{h:σ.w.heap.size<=w.heap.size}{blk:Nat}(h0:σ.fV blk=0)(hh: ∀b,b<σ.size->b≠blk->w.heap[b]? =σ.w.heap[b]?):Ext σ (σ.YC w h):=by
 refine ⟨h,λb ho=> ?_,λb=>qav St.EZ.symm⟩;by_cases hb:b<σ.size
 ·by_cases j0:b=blk
  ·subst j0;rw [h0] at ho;omega
  ·exact hh b hb j0
 ·rw [σ.ok b (by unfold St.size at hb;omega)] at ho;omega
variable{P:Program}{ρr:Ren}{α:Type}[Rp α]
theorem Nh(L:SlLaysF0.n6 P ρr)(aE: ∀w,(isAgg (ρr.t 24)).run P w= .ok true w)(zE: ∀w,(Go.sizeOf (ρr.t 24)).run P w= .ok (Rp.sz α) w){xs:List α}{a:Option Addr}{c:Nat}{g:FuncId}{cb:List Value}{B:List Ch}(cmp:α->α->Int)(hL:Lc cmp xs)(hn:xs.length<=1000000)
  (hg: ∃fn c,P.funcs[g]? =some fn/\(fn.name== "runtime.NumGoroutine")=false/\fn.body=some c)
  (Pub:St->Prop) (hE: ∀σ σ',Ext σ σ'->Pub σ->Pub σ') (hB: ∀σ,iQ σ B->apart B-> ∃rU,Pb (dD B) σ rU/\Pub rU)
  (hc: ∀σ, ¬σ.dR->Pub σ-> ∀x∈xs, ∀y∈xs, ∀cx cy,Rp.rp 0 σ cx x->Rp.rp 0 σ cy y->Calls P g ([Value.agg cx.toArray,Value.agg cy.toArray]++cb).toArray σ.w λe w'=>e= .returned (I (cmp x y))/\ ∃q os,w'=Go.Sort.grow (σ.w.drewN q) os):
  bN P (ρr.f 6) [Sl a xs c, .func (.func g) #[] cb.toArray] (Ch.own 0 0 (Sl a xs c) xs::B) (λ_ v L'=>v= .tuple #[]/\L'=Ch.own 0 0 (Sl a (nP cmp xs) c) (nP cmp xs)::B):=by
 obtain ⟨nm,Pm,yc⟩:=id L.f6;refine ⟨⟨_,_,yc,Pm,rfl⟩,λσ m hm H=> ?_⟩;by_cases hxs:xs=[]
 ·subst hxs;have h0:=AnyF.slices_SortFunc_none L a c (.func (.func g) #[] cb.toArray) σ.w;refine h0.mono ?_;rintro e w' ⟨rfl,rfl⟩;refine ⟨_,σ,_,rfl,rfl,⟨rfl,rfl⟩, ?_⟩;have e0:nP cmp ([]:List α)=[]:=by simp [nP]
  rw [e0];exact H
 rcases (H.head:Ow σ 0 0 (Sl a xs c) xs) with ⟨_,h0⟩ | ⟨b,o,c',C,T,hv,h2,h3,h4,h5,h6,h7⟩
 ·exact absurd h0 hxs
 obtain ⟨rfl,rfl⟩:a=some ⟨b,o,none⟩/\c=c':=by
  simp only [Sl,Value.slice.injEq,true_and] at hv;exact hv
 obtain ⟨rU,pp,aeW⟩:=hB σ H.all.2 H.ap.2;have hbB: ¬dD B b:=H.ap.1 b rfl;have Ov:b<σ.w.heap.size:=lt_of_block h3;have hp0:rU.fV b=0:=(pp.fV b hbB).trans h6;have hpw:rU.w=σ.w:=pp.w
 let E:={p:List Value×α // p.2∈xs/\Rp.rp 0 σ p.1 p.2}
 let enc:E->List Value:=λe=>e.1.1
 let el:Fin xs.length->E:=λi=>⟨(Classical.choose (h7 i.1 i.2),xs[i.1]),qai _,(Classical.choose_spec (h7 i.1 i.2)).1⟩
 have Yq: ∀i,(hi:i<xs.length)-> ∀j,(hj:j<(enc (el ⟨i,hi⟩)).length)->σ.cell b (o+i*Rp.sz α+j)=some (enc (el ⟨i,hi⟩))[j]:=λi hi=>(Classical.choose_spec (h7 i hi)).2;have Cz:0<xs.length:=List.length_pos_iff.2 hxs
 haveI:Inhabited E:=⟨el ⟨0,Cz⟩⟩
 let d:Array E:=Array.ofFn el
 have WT:d.size=xs.length:=by simp [d]
 have Qc: ∀i,(hi:i<xs.length)->d[i]! =el ⟨i,hi⟩:=λi hi=>by
  rw [getElem!_pos d i (by rw [WT];exact hi)];simp [d]
 have hdl:d.toList.map (λe=>e.1.2)=xs:=by
  apply List.ext_getElem (by simp [WT]);intro i h1 h2;simp [d,el]
 have hk: ∀e:E,(enc e).length=Rp.sz α:=λe=>Rp.len e.2.2;have h1: ∀e:E, ∀v∈enc e,v.oneCell'=true:=λe v hv=>by
  have:=Rp.one e.2.2 v hv;cases v <;> first | rfl | cases this
 have LD:0<Rp.sz α:=Rp.pos
 let cf:E->E->Int:=λx y=>cmp x.1.2 y.1.2
 have hO:Go.Sort.SWO (ltOf cf):=⟨λx=>by
   simp only [ltOf,cf,decide_eq_false_iff_not];exact hL.irrefl _ x.2.1,
  λx y z hx hy=>by
   simp only [ltOf,cf,decide_eq_true_eq] at *; exact hL.trans _ x.2.1 _ y.2.1 _ z.2.1 hx hy,
  λx y z hx hy=>by
   simp only [ltOf,cf,decide_eq_false_iff_not] at *; exact hL.Lx z.2.1 y.2.1 x.2.1 hy hx⟩
 have hH:Go.Sort.HoldsK enc (Rp.sz α) σ.w b o d:=by
  intro j hj;rw [Go.Sort.size_flatK,WT] at hj;have hi:j / Rp.sz α<xs.length:=Nat.div_lt_of_lt_mul (by rw [Nat.mul_comm];exact hj);have hm:j % Rp.sz α<(enc (el ⟨j / Rp.sz α,hi⟩)).length:=by rw [hk];exact Nat.mod_lt _ LD
  refine ⟨?_, ?_⟩
  ·have:=Yq _ hi _ hm;rw [Go.Sort.get_flatK _ _ _ _ (by rw [WT];exact hj),Qc _ hi,getElem!_pos (enc (el ⟨j / Rp.sz α,hi⟩)) (j % Rp.sz α) hm];have e:o+j=o+j / Rp.sz α*Rp.sz α+j % Rp.sz α:=by
    have:=Nat.div_add_mod j (Rp.sz α);rw [Nat.mul_comm] at this;omega
   rw [e];exact this
  ·unfold World.frozen?;simp only [h3];simp
 obtain ⟨fn,cd,hf1,hf2,hf3⟩:=hg;have aeX:CmpLays P g cb.toArray enc (Rp.sz α) cf b o d.size σ.w:=by
  intro mm oss dk hdk x y;have mo:rU.w.heap.size<=(sortWorldK enc (Rp.sz α) σ.w b o mm dk oss).heap.size:=by rw [hpw];exact Aw
  have hEx:Ext rU (rU.YC _ mo):=St.LF hp0 λb' fT j0=>by
   rw [hpw];exact Bh (by unfold St.size at fT;rw [hpw] at fT;exact fT) j0
  have hx:Ext σ (rU.YC _ mo):=pp.md.ext.trans hEx;have hEm:=hEx.trans (Ext.mute _);have:=hc _ (λh=>h) (hE _ _ hEm aeW) x.1.2 x.2.1 y.1.2 y.2.1 x.1.1 y.1.1 (Rp.ext (hx.trans (Ext.mute _)) x.2.2) (Rp.ext (hx.trans (Ext.mute _)) y.2.2);have e0:(#[Value.agg (enc x).toArray,Value.agg (enc y).toArray]++cb.toArray:Array Value)=([Value.agg x.1.1.toArray,Value.agg y.1.1.toArray]++cb).toArray:=by simp [enc]
  rw [e0];exact this
 have hs:=AnyQ.slices_SortFunc L (Rp.sz α) aE zE enc hk h1 cf hO g cb.toArray b o c d σ.w (enters_of hf1 hf2 hf3) aeX hH Ov (by rw [WT];omega);rw [WT] at hs;refine hs.mono ?_;rintro e w' ⟨rfl,d',n,os,hp,WU,rfl⟩;have IJ:d'.size=xs.length:=hp.1.trans WT;have Qp:d'.toList.Perm d.toList:=by
  have:=hp.2.2;simp only [←WT] at this;have e1:(d'.extract 0 d.size).toList=d'.toList:=by simp [←hp.1]
  have e2:(d.extract 0 d.size).toList=d.toList:=by simp
  rwa [e1,e2] at this
 have hr:d'.toList.map (λe=>e.1.2)=nP cmp xs:=by
  refine JK hL (by have:=Qp.map (λe:E=>e.1.2);rwa [hdl] at this) ?_;rw [List.pairwise_map,qaw];intro i j hi hj qx;have fU:i<d'.size:=by simpa using hi
  have WJ:j<d'.size:=by simpa using hj
  have:=WU i j (qa8 _) qx (by omega);rw [getElem!_pos d' i fU,getElem!_pos d' j WJ] at this;simpa [ltOf,cf] using this
 have hlen:(nP cmp xs).length=xs.length:=DI;have hex:Ext σ (σ.YC (sortWorldK enc (Rp.sz α) σ.w b o n d' os) Aw):=St.LF h6 λb' fT j0=>Bh fT j0;have CF:Md (λi=>i=b) σ (σ.YC (sortWorldK enc (Rp.sz α) σ.w b o n d' os) Aw):=
  ⟨rfl, .inr rfl,rfl, .inr (Nat.le_add_right _ _),rfl,hex,λi hi j0=>Bh hi j0,λi _ _=>St.EZ⟩
 refine ⟨_,σ.YC (sortWorldK enc (Rp.sz α) σ.w b o n d' os) Aw,_,rfl,rfl,⟨rfl,rfl⟩,⟨CF.mono λi hi=> .inl (by subst hi;rfl),⟨?_,iz H.all.2 CF λi hi he=>hbB (he▸hi)⟩,H.ap,λi hi _=>hi⟩⟩;obtain ⟨C',h3',hC'⟩:=YB (enc:=enc) (k:=Rp.sz α) (off:=o) (m:=n) (dk:=d') (os:=os) h3;refine .inr ⟨b,o,c,C',T,rfl,qa8 _,h3',by omega,by omega,St.EZ.trans h6,λi hi=> ?_⟩;have fU:i<d'.size:=by omega
 have hx:(nP cmp xs)[i]=d'[i].1.2:=by
  have: ∀l:List α,l=d'.toList.map (λe=>e.1.2)-> ∀h:i<l.length,l[i]=d'[i].1.2:=by rintro l rfl h;simp
  exact this _ hr.symm hi
 rw [hx];refine ⟨d'[i].1.1,Rp.ext hex d'[i].2.2,λj hj=> ?_⟩;have hjk:j<Rp.sz α:=by rw [←Rp.len d'[i].2.2];exact hj
 have hHs:=holdsK_sortWorldK_c enc (Rp.sz α) σ.w b o d d' n os hH Ov hp.1;have qx:i*Rp.sz α+j<d'.size*Rp.sz α:=by
  have:(i+1)*Rp.sz α<=d'.size*Rp.sz α:=qak _ fU;rw [Nat.add_mul,Nat.one_mul] at this;omega
 have h8:=(hHs (i*Rp.sz α+j) (by rw [Go.Sort.size_flatK];exact qx)).1;rw [Go.Sort.get_flatK _ _ _ _ qx] at h8;have e1:(i*Rp.sz α+j) / Rp.sz α=i:=by rw [Nat.mul_comm,Nat.mul_add_div LD,Nat.div_eq_of_lt hjk];rfl
 have e2:(i*Rp.sz α+j) % Rp.sz α=j:=by rw [Nat.mul_comm,Nat.mul_add_mod];exact Nat.mod_eq_of_lt hjk
 rw [e1,e2,getElem!_pos d' i fU,getElem!_pos _ j hj] at h8;rw [←Nat.add_assoc] at h8;exact h8
end
section
variable{α:Type}[Rp α]
omit [Rp α] in
theorem bN.conv{P:Program}{f:FuncId}{args:List Value}{pre:List Ch}{post WV:Nat->Value->List Ch->Prop}(hc:bN P f args pre post)(k: ∀m v L,post m v L-> ∃L',WV m v L'/\ ∀{S0:BS} {ar σ:St},Hp S0 ar σ L->Hp S0 ar σ L'):bN P f args pre WV:=
 ⟨hc.fn,λσ m hm H=>(hc.runs σ m hm H).mono (by
  rintro e w' ⟨v,σ',L,rfl,rfl,hp,H'⟩;obtain ⟨L',h1,h2⟩:=k m v L hp;exact ⟨v,σ',L',rfl,rfl,h1,h2 H'⟩)⟩
end
end Go.Vs

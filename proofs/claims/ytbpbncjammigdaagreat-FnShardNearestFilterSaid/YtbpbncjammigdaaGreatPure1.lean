/- Plain facts of what the functions compute. -/
import Derived.Test.YtbpbncjammigdaaGreatAl
import Derived.Test.YtbpbncjammigdaaGreatEng1
import Derived.Test.YtbpbncjammigdaaGreatLib1
set_option linter.unusedVariables false
set_option linter.unusedSimpArgs false
namespace Go.Vs
theorem Jm{S R:Type}{f:S->Option (S⊕R)}{r:R}(k:Nat)(st:Nat->S)(hs: ∀i,i<k->f (st i)=some (.inl (st (i+1))))(he:f (st k)=some (.inr r)):cu f (st 0)=some r:=by
 induction k generalizing st with
 | zero=>rw [bs,he];rfl
 | succ k ih=>
  rw [bs,hs 0 (by omega)];exact ih (λi=>st (i+1)) (λi hi=>hs (i+1) (by omega)) he
theorem GR{n:Nat}(h:n<9223372036854775808):ao (n:Int)=n:=aV (by omega) (by omega)
theorem bT{α:Type}{xs:List α}{i:Nat}(h:i<xs.length):bu xs (i:Int)=some xs[i]:=by
 unfold bu;rw [if_pos (by omega)];simp [h]
theorem sT{α:Type}{xs:List α}{a:Int}(h0:0<=a)(h:a<xs.length): ∃e,bu xs a=some e/\e∈xs:=by
 obtain ⟨n,rfl⟩:=qb0 h0;have hn:n<xs.length:=by omega
 exact ⟨xs[n],bT hn,qad _⟩
theorem iN{α:Type}{xs ys:List α}(h:xs.length+ys.length<=2147483648):nP xs ys=some (xs++ys):=by unfold nP;rw [if_pos h]
theorem GS{a b:Int}(h:b≠0):Gd a b=some (a.tmod b):=by unfold Gd;rw [if_neg h]
theorem Xc{a b:Int}(h:b≠0):OA a b=some (ao (a.tdiv b)):=by unfold OA;rw [if_neg h]
theorem kF{α:Type}{xs:List α}{l h:Int}(h0:0<=l)(h1:l<=h)(h2:h<=xs.length):eI xs l h=some ((xs.take h.toNat).drop l.toNat):=by
 unfold eI;rw [if_pos ⟨h0,h1,h2⟩]
theorem Tu{α:Type}{k:Int}{z:α}(h0:0<=k)(h1:k<=2147483648):AE k z=some (List.replicate k.toNat z):=by unfold AE;rw [if_pos ⟨h0,h1⟩]
theorem No{α:Type}{k:Nat}{xs:List α}(h:k<=xs.length):OD k xs=some (xs.take k):=by unfold OD;rw [if_pos h]
theorem tN{a b:Int}(ha:0<=a)(hb:0<b):0<=a.tmod b/\a.tmod b<b:=by
 rw [Int.tmod_eq_emod_of_nonneg ha];exact ⟨Int.emod_nonneg _ (by omega),Int.emod_lt_of_pos _ hb⟩
theorem C3{a b:Int}(ha:0<=a)(hb:0<b):0<=a.tdiv b/\a.tdiv b<=a:=by
 rw [Int.tdiv_eq_ediv_of_nonneg ha];exact ⟨Int.ediv_nonneg ha (by omega),Int.ediv_le_self _ ha⟩
theorem LN{a b:Int}(ha:0<=a)(ha':a<4611686018427387904)(hb:0<=b)(fS:b<4611686018427387904):0<=F1 a b/\F1 a b<4611686018427387904:=by
 obtain ⟨m,rfl⟩:=qb0 ha;obtain ⟨n,rfl⟩:=qb0 hb;have h1:(BitVec.ofInt 64 (m:Int) ^^^ BitVec.ofInt 64 (n:Int)).toNat=m ^^^ n:=by
  rw [BitVec.toNat_xor];have e: ∀k:Nat,k<4611686018427387904->(BitVec.ofInt 64 (k:Int)).toNat=k:=by
   intro k hk;simp only [BitVec.toNat_ofInt];omega
  rw [e m (by omega),e n (by omega)]
 have h2:m ^^^ n<2^62:=Nat.xor_lt_two_pow (by omega) (by omega);have h3:(2:Nat)^62=4611686018427387904:=by decide
 unfold F1;rw [h1];have:ao ((m ^^^ n:Nat):Int)=(m ^^^ n:Nat):=GR (by omega);show 0<=ao _/\ao _<_;rw [this];omega
theorem sU{α R:Type}{xs:List α}{P:α->Bool}{r:R}{f:Int->Option (Int⊕(Unit⊕R))}(hs: ∀i (h:i<xs.length),f (i:Int)=some (if P xs[i] then .inl ((i:Int)+1) else .inr (.inr r)))(he:f (xs.length:Int)=some (.inr (.inl ()))):
  cu f 0=some (if xs.all P then .inl () else .inr r):=by
 have key: ∀m k:Nat,k+m=xs.length->cu f (k:Int)=some (if (xs.drop k).all P then .inl () else .inr r):=by
  intro m
  induction m with
  | zero=>
   intro k hk;have:k=xs.length:=by omega
   subst this;rw [bs,he];simp [bm]
  | succ m ih=>
   intro k hk;have bG:k<xs.length:=by omega
   rw [bs,hs k bG,qbc bG];by_cases hp:P xs[k]=true
   ·rw [if_pos hp];have:=ih (k+1) (by omega);simp only [Int.natCast_add,Int.cast_ofNat_Int] at this;simp only [List.all_cons,hp,qbo,bm,this,qa0]
   ·rw [if_neg hp];simp only [List.all_cons,qbg] at hp ⊢;simp only [hp,Bool.false_and,bm,qa0];rfl
 have:=key xs.length 0 (by omega);simpa using this
end Go.Vs
namespace Go.Vs
def Good(k:Nat)(r:List UInt8×Int):Prop:=r.1.length<=2000/\0<=r.2/\r.2<=k
theorem Good.mono{k m:Nat}{r:List UInt8×Int}(h:Good k r)(hm:k<=m):Good m r:=⟨h.1,h.2.1,by have:=h.2.2;omega⟩
theorem nJ{k:Nat}(hk:k<=1000000){r:List UInt8×Int}(hr:Good k r)(n:Int):
  ∃x r',M.cn r n=some (x,r')/\Good (k+1) r'/\0<=x/\(1<=n->x<n)/\(n<1->x=0):=by
 obtain ⟨b,p⟩:=r;obtain ⟨h1,h2,h3⟩:=hr;simp only at h1 h2 h3;have e1:ao (p+1)=p+1:=aV (by omega) (by omega);have e2:ao (p+1 - 1)=p:=by rw [aV (by omega) (by omega)];omega
 have Np:Good (k+1) (b,p+1):=⟨h1,by simp only;omega,by simp only;omega⟩;unfold M.cn;simp only [e1,e2];by_cases hn:n<1
 ·refine ⟨0,(b,p+1), ?_,Np,by omega,λh=>by omega,λ_=>rfl⟩;simp [hn]
 ·by_cases hb:b.length=0
  ·refine ⟨0,(b,p+1), ?_,Np,by omega,λh=>by omega,λ_=>rfl⟩;simp [hn,hb]
  ·have hbl:(b.length:Int)≠0:=by omega
   have hbb:((b.length:Int)==0)=false:=by simpa using hb
   simp only [hn,decide_false,cond_false,hbb,qa0];by_cases hp:p<(b.length:Int)
   ·obtain ⟨e,he,_⟩:=sT (xs:=b) h2 hp;have hE:ao (e.toNat:Int)=e.toNat:=GR (by have:=e.toNat_lt;omega);have hr:=tN (a:=(e.toNat:Int)) (b:=n) (by omega) (by omega);refine ⟨_,(b,p+1), ?_,Np,hr.1,λ_=>hr.2,λh=>h.elim⟩;simp only [hp,decide_true,cond_true,he,qa0,hE,GS (show n≠0 by omega)]
   ·simp only [hp,decide_false,cond_false];have hbp:0<(b.length:Int):=by omega
    have r1:=tN (a:=p) h2 hbp;have e7:ao (ao (p*7)+3)=p*7+3:=by rw [aV (n:=p*7) (by omega) (by omega),aV (by omega) (by omega)]
    have r2:=tN (a:=p*7+3) (b:=(b.length:Int)) (by omega) hbp;obtain ⟨x,hx,_⟩:=sT (xs:=b) r1.1 r1.2;obtain ⟨y,hy,_⟩:=sT (xs:=b) r2.1 r2.2;have hX:(x.toNat:Int)<256:=by have:=x.toNat_lt;omega
    have hY:(y.toNat:Int)<256:=by have:=y.toNat_lt;omega
    have r3:=C3 (a:=p) (b:=(b.length:Int)) h2 hbp;simp only [GS hbl,qa0,hx,e7,hy,Xc hbl];generalize hq:ao (p.tdiv (b.length:Int))=q;have VS:0<=q/\q<=1000000:=by rw [←hq,aV (by omega) (by omega)];omega
    have eX:ao (x.toNat:Int)=x.toNat:=aV (by omega) (by omega);have eY:ao (y.toNat:Int)=y.toNat:=aV (by omega) (by omega);simp only [eX,eY];have eX':ao ((x.toNat:Int)*131)=x.toNat*131:=aV (by omega) (by omega);have eY':ao ((y.toNat:Int)*1117)=y.toNat*1117:=aV (by omega) (by omega);have eP:ao (p*29)=p*29:=aV (by omega) (by omega);have eQ:ao (q*53)=q*53:=aV (by omega) (by omega);simp only [eX',eY',eP,eQ];have eA:ao ((x.toNat:Int)*131+y.toNat*1117)=x.toNat*131+y.toNat*1117:=aV (by omega) (by omega);simp only [eA];have eB:ao ((x.toNat:Int)*131+y.toNat*1117+p*29)=x.toNat*131+y.toNat*1117+p*29:=aV (by omega) (by omega);simp only [eB];have eC:ao ((x.toNat:Int)*131+y.toNat*1117+p*29+q*53)=x.toNat*131+y.toNat*1117+p*29+q*53:=aV (by omega) (by omega);simp only [eC];generalize hZ:(x.toNat:Int)*131+y.toNat*1117+p*29+q*53=Z;have hZ':0<=Z/\Z<=1000000000:=by omega
    have r4:=C3 (a:=Z) (b:=64) hZ'.1 (by omega);have eD:ao (Z.tdiv 64)=Z.tdiv 64:=aV (by omega) (by omega);rw [eD];have r5:=LN (a:=Z) (b:=Z.tdiv 64) (by omega) (by omega) (by omega) (by omega);have r6:=tN (a:=F1 Z (Z.tdiv 64)) (b:=n) r5.1 (by omega);refine ⟨_,(b,p+1), ?_,Np,r6.1,λ_=>r6.2,λh=>h.elim⟩;simp only [GS (show n≠0 by omega),qa0]
theorem vq{k:Nat}(hk:k<=1000000){r:List UInt8×Int}(hr:Good k r){list:List Int}(hl:list≠[]):
  ∃x r',M.cV r list=some (x,r')/\Good (k+1) r'/\x∈list:=by
 obtain ⟨x,r',h1,h2,h3,h4,_⟩:=nJ hk hr (list.length:Int);have hlen:1<=(list.length:Int):=by
  have:list.length≠0:=by simpa using hl
  omega
 obtain ⟨e,he,hm⟩:=sT h3 (h4 hlen);refine ⟨e,r', ?_,h2,hm⟩;unfold M.cV;simp only [h1,qa0,he]
theorem yG{k:Nat}(hk:k<=900000){r:List UInt8×Int}(hr:Good k r):
  ∃x r',M.lf r=some (x,r')/\Good (k+3) r'/\ -100<=x/\x<=100:=by
 obtain ⟨x1,r1,h1,g1,a1,b1,_⟩:=nJ (by omega) hr 201;obtain ⟨x2,r2,h2,g2,a2,b2,_⟩:=nJ (by omega) g1 21;have b1:=b1 (by omega);have b2:=b2 (by omega);have e1:ao (x1 - 100)=x1 - 100:=aV (by omega) (by omega);have e2:ao (x2 - 10)=x2 - 10:=aV (by omega) (by omega);obtain ⟨x3,r3,h3,g3,m3⟩:=vq (by omega) g2 (list:=[0,1, -1,5, -7,10,3,100, -100,x1 - 100,x2 - 10]) (by simp);refine ⟨x3,r3, ?_,g3, ?_⟩
 ·unfold M.lf;simp only [h1,qa0,h2,e1,e2,h3]
 ·simp only [qa8,qap,or_false] at m3;omega
def fE(v:List Int):Bool:=decide (v.length=4)&&v.all λx=>decide (-100<=x)&&decide (x<=100)
theorem mP{v:List Int}:fE v=true↔v.length=4/\ ∀x∈v, -100<=x/\x<=100:=by
 unfold fE;simp
theorem LO{v:List Int}(h:fE v=true): ∃a b c d,v=[a,b,c,d]/\(-100<=a/\a<=100)/\(-100<=b/\b<=100)/\(-100<=c/\c<=100)/\(-100<=d/\d<=100):=by
 obtain ⟨h1,h2⟩:=mP.1 h
 match v,h1 with
 | [a,b,c,d],_=>exact ⟨a,b,c,d,rfl,h2 a (by simp),h2 b (by simp),h2 c (by simp),h2 d (by simp)⟩
theorem E5{k:Nat}(hk:k<=800000){r:List UInt8×Int}(hr:Good k r):
  ∃v r',M.gO r=some (v,r')/\Good (k+12) r'/\fE v=true:=by
 obtain ⟨x1,r1,h1,g1,a1,b1⟩:=yG (by omega) hr;obtain ⟨x2,r2,h2,g2,a2,b2⟩:=yG (by omega) g1;obtain ⟨x3,r3,h3,g3,a3,b3⟩:=yG (by omega) g2;obtain ⟨x4,r4,h4,g4,a4,b4⟩:=yG (by omega) g3;refine ⟨[x1,x2,x3,x4],r4, ?_,g4,mP.2 ⟨rfl,by simp only [qa8,qap,or_false];rintro x (rfl | rfl | rfl | rfl) <;> omega⟩⟩;have e: ∀n:Nat,n<10->ao ((n:Int)+1)=(n:Int)+1:=λn hn=>aV (by omega) (by omega);have e0:ao ((0:Int)+1)=1:=e 0 (by omega);have e1:ao ((1:Int)+1)=2:=e 1 (by omega);have e2:ao ((2:Int)+1)=3:=e 2 (by omega);have e3:ao ((3:Int)+1)=4:=e 3 (by omega);have ga: ∀(xs:List Int) (x:Int),xs.length<10->nP xs [x]=some (xs++[x]):=λxs x hx=>iN (by simp;omega);unfold M.gO;rw [bs];simp only [show decide ((0:Int)<4)=true from rfl,cond_true,h1,qa0,ga [] x1 (by simp),bm,e0,qba];rw [bs];simp only [show decide ((1:Int)<4)=true from rfl,cond_true,h2,qa0,ga [x1] x2 (by simp),bm,e1,qbr,qba];rw [bs];simp only [show decide ((2:Int)<4)=true from rfl,cond_true,h3,qa0,ga [x1,x2] x3 (by simp),bm,e2,qbr,qba];rw [bs];simp only [show decide ((3:Int)<4)=true from rfl,cond_true,h4,qa0,ga [x1,x2,x3] x4 (by simp),bm,e3,qbr,qba];rw [bs];simp only [show decide ((4:Int)<4)=false from rfl,cond_false,qa0,bm]
end Go.Vs
namespace Go.Vs
def Tv(v:List Int):Prop:=v.length<=5/\ ∀x∈v, -101<=x/\x<=101
theorem yH{v:List Int}(h:fE v=true):Tv v:=by
 obtain ⟨h1,h2⟩:=mP.1 h;exact ⟨by omega,λx hx=>by have:=h2 x hx;omega⟩
theorem Nq{v:List Int}(h:v.length<=1000000):M.ko v=some v:=by
 unfold M.ko;rw [iN (by simp;omega)];rfl
theorem Tx{k:Nat}(hk:k<=700000){r:List UInt8×Int}(hr:Good k r){v:List Int}(hv:fE v=true):
  ∃u r',M.iW r v 101=some (u,r')/\Good (k+3) r'/\Tv u:=by
 obtain ⟨hl,hb⟩:=mP.1 hv;obtain ⟨x1,r1,h1,g1,a1,b1,_⟩:=nJ (by omega) hr 20;unfold M.iW;simp only [Nq (v:=v) (by omega),qa0,h1];by_cases c0:x1=0
 ·refine ⟨v++[101],r1, ?_,g1.mono (by omega), ?_⟩
  ·simp [c0,iN (xs:=v) (ys:=[101]) (by simp;omega)]
  ·refine ⟨by simp;omega,λx hx=> ?_⟩;rcases qaf.1 hx with h | h
   ·have:=hb x h;omega
   ·simp at h;omega
 ·have e0:(x1==0)=false:=by simpa using c0
  simp only [e0,cond_false];have u0:decide (0<(v.length:Int))=true:=by simp;omega
  have RM:0<v.length:=by omega
  by_cases c1:x1=1
  ·refine ⟨v.drop 1,r1, ?_,g1.mono (by omega),by simp;omega,λx hx=> ?_⟩
   ·have:eI v 1 (v.length:Int)=some (v.drop 1):=by
     rw [kF (by omega) (by omega) (by omega)];simp
    simp [c1,RM,this]
   ·have:=hb x (List.mem_of_mem_drop hx);omega
  ·have e1:(x1==1)=false:=by simpa using c1
   simp only [e1,cond_false];by_cases c2:x1=2
   ·obtain ⟨i,r2,h2,g2,a2,b2,_⟩:=nJ (by omega) g1 (v.length:Int);obtain ⟨y,r3,h3,g3,m3⟩:=vq (by omega) g2 (list:=[-1,101,0,1]) (by simp);have b2:=b2 (by omega);obtain ⟨z,hz,_⟩:=sT (xs:=v) a2 b2;refine ⟨v.set i.toNat y,r3, ?_,g3,by simp;omega,λx hx=> ?_⟩
    ·simp [c2,RM,h2,h3,hz]
    ·rcases List.mem_or_eq_of_mem_set hx with h | h
     ·have:=hb x h;omega
     ·subst h;simp only [qa8,qap,or_false] at m3;omega
   ·have e2:(x1==2)=false:=by simpa using c2
    exact ⟨v,r1,by simp [e2],g1.mono (by omega),yH hv⟩
theorem LP{k:Nat}(hk:k<=600000){r:List UInt8×Int}(hr:Good k r):
  ∃v r',M.iE r=some (v,r')/\Good (k+16) r'/\Tv v:=by
 obtain ⟨x1,r1,h1,g1,a1,b1,_⟩:=nJ (by omega) hr 10;obtain ⟨v,r2,h2,g2,hv⟩:=E5 (by omega) g1;unfold M.iE;simp only [h1,qa0];by_cases c0:x1=0
 ·obtain ⟨u,r3,h3,g3,hu⟩:=Tx (by omega) g2 hv;exact ⟨u,r3,by simp [c0,h2,h3],g3,hu⟩
 ·have e0:(x1==0)=false:=by simpa using c0
  exact ⟨v,r2,by simp [e0,h2],g2.mono (by omega),yH hv⟩
theorem GU(code:List UInt8): ∃r,M.lg code=some r/\Good 0 r:=by
 unfold M.lg;by_cases h:2000<(code.length:Int)
 ·refine ⟨(code.take 2000,0), ?_,by simp;omega,by simp,by simp⟩;have:eI code 0 2000=some (code.take 2000):=by
   rw [kF (by omega) (by omega) (by omega)];simp
  simp [h,this]
 ·exact ⟨(code,0),by simp [h],by simp only;omega,by simp,by simp⟩
theorem Ef(v:List Int)(hb:v.length<2000000):M.jq v=some (v.all λx=>decide (-100<=x)&&decide (x<=100)):=by
 unfold M.jq;rw [sU (xs:=v) (P:=λx=>decide (-100<=x)&&decide (x<=100)) (r:=false)]
 ·by_cases ha:(v.all λx=>decide (-100<=x)&&decide (x<=100))=true
  ·simp only [ha,if_true,qa0,bm]
  ·simp only [qbg] at ha;simp only [ha];simp [bm]
 ·intro i h;have e1:decide ((i:Int)<(v.length:Int))=true:=by simpa using h
  have e2:ao ((i:Int)+1)=(i:Int)+1:=aV (by omega) (by omega);simp only [e1,cond_true,bT h,qa0,e2];by_cases c1:v[i]< -100
  ·have c2: ¬(-100<=v[i]):=by omega
   simp [c1,c2]
  ·by_cases c3:100<v[i]
   ·have c4: ¬(v[i]<=100):=by omega
    simp [c1,c3,c4]
   ·simp [c1,c3,show -100<=v[i] by omega,show v[i]<=100 by omega]
 ·simp
theorem tO(v:List Int)(hb:v.length<2000000):M.fv v=some (fE v):=by
 unfold M.fv;simp only [Ef v hb,qa0];unfold fE;by_cases hl:v.length=4
 ·have e:((v.length:Int)==4)=true:=by simp;omega
  rw [e,cond_true,decide_eq_true hl,qbo]
 ·have e:((v.length:Int)==4)=false:=by simp;omega
  rw [e,cond_false,decide_eq_false hl,Bool.false_and]
theorem C4(n l h:Int):M.dE n l h=some (decide (l<=n)&&decide (n<=h)):=by
 unfold M.dE;by_cases h1:l<=n <;> simp [h1]
theorem Ty(v:List Int)(l h:Int)(hb:v.length<2000000):M.qo v l h=some (v.all λx=>decide (l<=x)&&decide (x<=h)):=by
 unfold M.qo;rw [sU (xs:=v) (P:=λx=>decide (l<=x)&&decide (x<=h)) (r:=false)]
 ·by_cases ha:(v.all λx=>decide (l<=x)&&decide (x<=h))=true
  ·simp only [ha,if_true,qa0,bm]
  ·simp only [qbg] at ha;simp [ha,bm]
 ·intro i hi;have e1:decide ((i:Int)<(v.length:Int))=true:=by simpa using hi
  have e2:ao ((i:Int)+1)=(i:Int)+1:=aV (by omega) (by omega);simp only [e1,cond_true,bT hi,qa0,e2,C4];cases (decide (l<=v[i])&&decide (v[i]<=h)) <;> rfl
 ·simp
theorem C5(v:List Int)(hb:v.length<2000000):M.kq v=some (fE v):=by
 unfold M.kq;by_cases hl:v.length=4
 ·have e:((v.length:Int)==4)=true:=by simp;omega
  simp [e,Ty v _ _ hb,fE,hl]
 ·have e:((v.length:Int)==4)=false:=by simp;omega
  simp [e,fE,hl]
end Go.Vs
namespace Go.Vs
end Go.Vs
namespace Go.Vs
theorem yI{S R:Type}{f:S->Option (S⊕R)}{s0 s1 s2 s3 s4:S}{r:R}(h0:f s0=some (.inl s1))(h1:f s1=some (.inl s2))(h2:f s2=some (.inl s3))(h3:f s3=some (.inl s4))(h4:f s4=some (.inr r)):cu f s0=some r:=by
 rw [bs,h0,qa0,bm,bs,h1,qa0,bm,bs,h2,qa0,bm,bs,h3,qa0,bm,bs,h4];rfl
theorem Ve{α:Type}{a:α}{l:List α}:bu (a::l) 0=some a:=bT (i:=0) (by simp)
theorem Xe{α:Type}{a b:α}{l:List α}:bu (a::b::l) 1=some b:=bT (i:=1) (by simp)
theorem Xf{α:Type}{a b c:α}{l:List α}:bu (a::b::c::l) 2=some c:=bT (i:=2) (by simp)
theorem Xg{α:Type}{a b c d:α}{l:List α}:bu (a::b::c::d::l) 3=some d:=bT (i:=3) (by simp)
theorem Xh:ao ((0:Int)+1)=1:=aV (by omega) (by omega)
theorem i12:ao ((1:Int)+1)=2:=aV (by omega) (by omega)
theorem i23:ao ((2:Int)+1)=3:=aV (by omega) (by omega)
theorem i34:ao ((3:Int)+1)=4:=aV (by omega) (by omega)
theorem Vf:decide ((0:Int)<4)=true:=rfl
theorem d14:decide ((1:Int)<4)=true:=rfl
theorem d24:decide ((2:Int)<4)=true:=rfl
theorem d34:decide ((3:Int)<4)=true:=rfl
theorem d44:decide ((4:Int)<4)=false:=rfl
theorem l4{α:Type}{a b c d:α}:(([a,b,c,d]:List α).length:Int)=4:=rfl
def rb(x y:Int):Int:=max (x - y) (y - x)
theorem gS(x y:Int):0<=rb x y:=by unfold rb;omega
def Co(x:Int):Prop:= -100<=x/\x<=100
theorem pj{x y:Int}(hx:Co x)(hy:Co y):rb x y<=200:=by unfold rb;unfold Co at hx hy;omega
theorem fR{g:Int}(h0:0<=g)(h:g<=200):0<=g*g/\g<=g*g/\g*g<=40000:=by
 refine ⟨Int.mul_nonneg h0 h0, ?_, ?_⟩
 ·by_cases h1:g=0
  ·subst h1;simp
  ·have:=Int.mul_le_mul_of_nonneg_right (show (1:Int)<=g by omega) h0;omega
 ·have:=Int.mul_le_mul h h h0 (by omega);omega
def dk(k g0 g1 g2 g3:Int):Int:=
 if k=1 then g0+g1+g2+g3 else if k=2 then max (max (max (max 0 g0) g1) g2) g3 else if k=3 then g0*g0+g1*g1+g2*g2+g3*g3 else if k=4 then min g0 1+min g1 1+min g2 1+min g3 1 else -1
theorem Eg(k:Int){g0 g1 g2 g3:Int}(h0:0<=g0)(HA:g0<=200)(h1:0<=g1)(Qx:g1<=200)(h2:0<=g2)(Kc:g2<=200)(h3:0<=g3)(h3':g3<=200):
  M.j7 k [g0,g1,g2,g3]=some (dk k g0 g1 g2 g3):=by
 unfold M.j7;have s0:=fR h0 HA;have s1:=fR h1 Qx;have s2:=fR h2 Kc;have s3:=fR h3 h3';by_cases k1:k=1
 ·subst k1;have e0:ao (0+g0)=g0:=by rw [aV (by omega) (by omega)];omega
  have e1:ao (g0+g1)=g0+g1:=aV (by omega) (by omega);have e2:ao (g0+g1+g2)=g0+g1+g2:=aV (by omega) (by omega);have e3:ao (g0+g1+g2+g3)=g0+g1+g2+g3:=aV (by omega) (by omega);rw [yI (s1:=(g0,1)) (s2:=(g0+g1,2)) (s3:=(g0+g1+g2,3)) (s4:=(g0+g1+g2+g3,4)) (r:= .inl (g0+g1+g2+g3))]
  ·rfl
  ·simp only [Vf,Ve,Xh,e0,bm,cond_true,qa0];rfl
  ·simp only [d14,Xe,i12,e1,bm,cond_true,qa0];rfl
  ·simp only [d24,Xf,i23,e2,bm,cond_true,qa0];rfl
  ·simp only [d34,Xg,i34,e3,bm,cond_true,qa0];rfl
  ·simp [d44]
 by_cases k2:k=2
 ·subst k2;rw [yI (s1:=(max 0 g0,1)) (s2:=(max (max 0 g0) g1,2)) (s3:=(max (max (max 0 g0) g1) g2,3)) (s4:=(max (max (max (max 0 g0) g1) g2) g3,4)) (r:= .inl (max (max (max (max 0 g0) g1) g2) g3))]
  ·rfl
  ·simp only [Vf,Ve,Xh,bm,cond_true,qa0];rfl
  ·simp only [d14,Xe,i12,bm,cond_true,qa0];rfl
  ·simp only [d24,Xf,i23,bm,cond_true,qa0];rfl
  ·simp only [d34,Xg,i34,bm,cond_true,qa0];rfl
  ·simp [d44]
 by_cases k3:k=3
 ·subst k3;have q0:ao (g0*g0)=g0*g0:=aV (by omega) (by omega);have q1:ao (g1*g1)=g1*g1:=aV (by omega) (by omega);have q2:ao (g2*g2)=g2*g2:=aV (by omega) (by omega);have q3:ao (g3*g3)=g3*g3:=aV (by omega) (by omega);have e0:ao (0+g0*g0)=g0*g0:=by rw [aV (by omega) (by omega)];omega
  have e1:ao (g0*g0+g1*g1)=g0*g0+g1*g1:=aV (by omega) (by omega);have e2:ao (g0*g0+g1*g1+g2*g2)=g0*g0+g1*g1+g2*g2:=aV (by omega) (by omega);have e3:ao (g0*g0+g1*g1+g2*g2+g3*g3)=g0*g0+g1*g1+g2*g2+g3*g3:=aV (by omega) (by omega);rw [yI (s1:=(g0*g0,1)) (s2:=(g0*g0+g1*g1,2)) (s3:=(g0*g0+g1*g1+g2*g2,3)) (s4:=(g0*g0+g1*g1+g2*g2+g3*g3,4)) (r:= .inl (g0*g0+g1*g1+g2*g2+g3*g3))]
  ·rfl
  ·simp only [Vf,Ve,Xh,e0,q0,bm,cond_true,qa0];rfl
  ·simp only [d14,Xe,i12,e1,q1,bm,cond_true,qa0];rfl
  ·simp only [d24,Xf,i23,e2,q2,bm,cond_true,qa0];rfl
  ·simp only [d34,Xg,i34,e3,q3,bm,cond_true,qa0];rfl
  ·simp [d44]
 by_cases k4:k=4
 ·subst k4;have e0:ao (0+min g0 1)=min g0 1:=by rw [aV (by omega) (by omega)];omega
  have e1:ao (min g0 1+min g1 1)=min g0 1+min g1 1:=aV (by omega) (by omega);have e2:ao (min g0 1+min g1 1+min g2 1)=min g0 1+min g1 1+min g2 1:=aV (by omega) (by omega);have e3:ao (min g0 1+min g1 1+min g2 1+min g3 1)=min g0 1+min g1 1+min g2 1+min g3 1:=aV (by omega) (by omega);rw [yI (s1:=(min g0 1,1)) (s2:=(min g0 1+min g1 1,2)) (s3:=(min g0 1+min g1 1+min g2 1,3)) (s4:=(min g0 1+min g1 1+min g2 1+min g3 1,4)) (r:= .inl (min g0 1+min g1 1+min g2 1+min g3 1))]
  ·rfl
  ·simp only [Vf,Ve,Xh,e0,bm,cond_true,qa0];rfl
  ·simp only [d14,Xe,i12,e1,bm,cond_true,qa0];rfl
  ·simp only [d24,Xf,i23,e2,bm,cond_true,qa0];rfl
  ·simp only [d34,Xg,i34,e3,bm,cond_true,qa0];rfl
  ·simp [d44]
 have b1:(k==1)=false:=by simpa using k1
 have b2:(k==2)=false:=by simpa using k2
 have b3:(k==3)=false:=by simpa using k3
 have b4:(k==4)=false:=by simpa using k4
 rw [bs];simp [Vf,Ve,b1,b2,b3,b4,bm,dk,k1,k2,k3,k4]
theorem Ph{a b c d x y z w:Int}(ha:Co a)(hb:Co b)(hc:Co c)(hd:Co d)(hx:Co x)(hy:Co y)(hz:Co z)(hw:Co w):
  M.oJ [a,b,c,d] [x,y,z,w]=some [rb a x,rb b y,rb c z,rb d w]:=by
 have e: ∀p q,Co p->Co q->max (ao (p - q)) (ao (q - p))=rb p q:=by
  intro p q hp hq;unfold Co at hp hq;rw [aV (n:=p - q) (by omega) (by omega),aV (n:=q - p) (by omega) (by omega)];rfl
 unfold M.oJ;rw [yI (s1:=([rb a x,0,0,0],1)) (s2:=([rb a x,rb b y,0,0],2)) (s3:=([rb a x,rb b y,rb c z,0],3)) (s4:=([rb a x,rb b y,rb c z,rb d w],4)) (r:=[rb a x,rb b y,rb c z,rb d w])]
 ·rfl
 ·simp only [show List.replicate 4 (0:Int)=[0,0,0,0] from rfl,Vf,Ve,Xh,cond_true,qa0,e a x ha hx];rfl
 ·simp only [d14,Xe,i12,cond_true,qa0,e b y hb hy];rfl
 ·simp only [d24,Xf,i23,cond_true,qa0,e c z hc hz];rfl
 ·simp only [d34,Xg,i34,cond_true,qa0,e d w hd hw];rfl
 ·simp only [d44,cond_false]
theorem Jo{k:Int}(hk:1<=k/\k<=4){a b c d x y z w:Int}(ha:Co a)(hb:Co b)(hc:Co c)(hd:Co d)(hx:Co x)(hy:Co y)(hz:Co z)(hw:Co w):
  M.pX k [a,b,c,d] [x,y,z,w]=some (dk k (rb a x) (rb b y) (rb c z) (rb d w)):=by
 have e: ∀p q,Co p->Co q->M.si (ao (p - q))=some (rb p q):=by
  intro p q hp hq;unfold Co at hp hq;unfold M.si;rw [aV (n:=p - q) (by omega) (by omega),aV (n:=0 - (p - q)) (by omega) (by omega)];unfold rb;congr 1;omega
 have t: ∀g:Int,0<=g->M.qp (decide (0<g))=some (min g 1):=by
  intro g hg;unfold M.qp;by_cases h:0<g
  ·simp [h];omega
  ·simp [h];omega
 have ea:=e a x ha hx;have eb:=e b y hb hy;have ec:=e c z hc hz;have ed:=e d w hd hw;have h0:=gS a x;have h1:=gS b y;have h2:=gS c z;have h3:=gS d w;have HA:=pj ha hx;have Qx:=pj hb hy;have Kc:=pj hc hz;have h3':=pj hd hw;generalize rb a x=g0 at*;generalize rb b y=g1 at*;generalize rb c z=g2 at*;generalize rb d w=g3 at*;have s0:=fR h0 HA;have s1:=fR h1 Qx;have s2:=fR h2 Kc;have s3:=fR h3 h3';unfold M.pX;by_cases k1:k=1
 ·subst k1;have e0:ao (0+g0)=g0:=by rw [aV (by omega) (by omega)];omega
  have e1:ao (g0+g1)=g0+g1:=aV (by omega) (by omega);have e2:ao (g0+g1+g2)=g0+g1+g2:=aV (by omega) (by omega);have e3:ao (g0+g1+g2+g3)=g0+g1+g2+g3:=aV (by omega) (by omega);rw [yI (s1:=(g0,1)) (s2:=(g0+g1,2)) (s3:=(g0+g1+g2,3)) (s4:=(g0+g1+g2+g3,4)) (r:=g0+g1+g2+g3)]
  ·rfl
  ·simp only [l4,Vf,Ve,Xh,e0,ea,cond_true,qa0];rfl
  ·simp only [l4,d14,Xe,i12,e1,eb,cond_true,qa0];rfl
  ·simp only [l4,d24,Xf,i23,e2,ec,cond_true,qa0];rfl
  ·simp only [l4,d34,Xg,i34,e3,ed,cond_true,qa0];rfl
  ·simp [l4,d44]
 by_cases k2:k=2
 ·subst k2;rw [yI (s1:=(max 0 g0,1)) (s2:=(max (max 0 g0) g1,2)) (s3:=(max (max (max 0 g0) g1) g2,3)) (s4:=(max (max (max (max 0 g0) g1) g2) g3,4)) (r:=max (max (max (max 0 g0) g1) g2) g3)]
  ·rfl
  ·simp only [l4,Vf,Ve,Xh,ea,cond_true,qa0];rfl
  ·simp only [l4,d14,Xe,i12,eb,cond_true,qa0];rfl
  ·simp only [l4,d24,Xf,i23,ec,cond_true,qa0];rfl
  ·simp only [l4,d34,Xg,i34,ed,cond_true,qa0];rfl
  ·simp [l4,d44]
 by_cases k3:k=3
 ·subst k3;have q0:ao (g0*g0)=g0*g0:=aV (by omega) (by omega);have q1:ao (g1*g1)=g1*g1:=aV (by omega) (by omega);have q2:ao (g2*g2)=g2*g2:=aV (by omega) (by omega);have q3:ao (g3*g3)=g3*g3:=aV (by omega) (by omega);have e0:ao (0+g0*g0)=g0*g0:=by rw [aV (by omega) (by omega)];omega
  have e1:ao (g0*g0+g1*g1)=g0*g0+g1*g1:=aV (by omega) (by omega);have e2:ao (g0*g0+g1*g1+g2*g2)=g0*g0+g1*g1+g2*g2:=aV (by omega) (by omega);have e3:ao (g0*g0+g1*g1+g2*g2+g3*g3)=g0*g0+g1*g1+g2*g2+g3*g3:=aV (by omega) (by omega);rw [yI (s1:=(g0*g0,1)) (s2:=(g0*g0+g1*g1,2)) (s3:=(g0*g0+g1*g1+g2*g2,3)) (s4:=(g0*g0+g1*g1+g2*g2+g3*g3,4)) (r:=g0*g0+g1*g1+g2*g2+g3*g3)]
  ·rfl
  ·simp only [l4,Vf,Ve,Xh,e0,q0,ea,cond_true,qa0];rfl
  ·simp only [l4,d14,Xe,i12,e1,q1,eb,cond_true,qa0];rfl
  ·simp only [l4,d24,Xf,i23,e2,q2,ec,cond_true,qa0];rfl
  ·simp only [l4,d34,Xg,i34,e3,q3,ed,cond_true,qa0];rfl
  ·simp [l4,d44]
 ·have k4:k=4:=by omega
  subst k4;have e0:ao (0+min g0 1)=min g0 1:=by rw [aV (by omega) (by omega)];omega
  have e1:ao (min g0 1+min g1 1)=min g0 1+min g1 1:=aV (by omega) (by omega);have e2:ao (min g0 1+min g1 1+min g2 1)=min g0 1+min g1 1+min g2 1:=aV (by omega) (by omega);have e3:ao (min g0 1+min g1 1+min g2 1+min g3 1)=min g0 1+min g1 1+min g2 1+min g3 1:=aV (by omega) (by omega);rw [yI (s1:=(min g0 1,1)) (s2:=(min g0 1+min g1 1,2)) (s3:=(min g0 1+min g1 1+min g2 1,3)) (s4:=(min g0 1+min g1 1+min g2 1+min g3 1,4)) (r:=min g0 1+min g1 1+min g2 1+min g3 1)]
  ·rfl
  ·simp only [l4,Vf,Ve,Xh,e0,ea,t g0 h0,cond_true,qa0];simp only [show ((4:Int)==1)=false from rfl,show ((4:Int)==2)=false from rfl,show ((4:Int)==3)=false from rfl,cond_false,qa0,t g0 h0,e0]
  ·simp only [l4,d14,Xe,i12,e1,eb,t g1 h1,cond_true,qa0];simp only [show ((4:Int)==1)=false from rfl,show ((4:Int)==2)=false from rfl,show ((4:Int)==3)=false from rfl,cond_false,qa0,t g1 h1,e1]
  ·simp only [l4,d24,Xf,i23,e2,ec,t g2 h2,cond_true,qa0];simp only [show ((4:Int)==1)=false from rfl,show ((4:Int)==2)=false from rfl,show ((4:Int)==3)=false from rfl,cond_false,qa0,t g2 h2,e2]
  ·simp only [l4,d34,Xg,i34,e3,ed,t g3 h3,cond_true,qa0];simp only [show ((4:Int)==1)=false from rfl,show ((4:Int)==2)=false from rfl,show ((4:Int)==3)=false from rfl,cond_false,qa0,t g3 h3,e3]
  ·simp [l4,d44]
end Go.Vs
namespace Go.Vs
def xw(k:Int)(a b:List Int):Int:=
 if fE a=true/\fE b=true then dk k (rb (a.getD 0 0) (b.getD 0 0)) (rb (a.getD 1 0) (b.getD 1 0)) (rb (a.getD 2 0) (b.getD 2 0)) (rb (a.getD 3 0) (b.getD 3 0)) else -1
theorem C6{k:Int}{a b c d x y z w:Int}(ha:fE [a,b,c,d]=true)(hb:fE [x,y,z,w]=true):xw k [a,b,c,d] [x,y,z,w]=dk k (rb a x) (rb b y) (rb c z) (rb d w):=by
 unfold xw;rw [if_pos ⟨ha,hb⟩];rfl
theorem pY{v:List Int}(h:fE v=true): ∃a b c d,v=[a,b,c,d]/\Co a/\Co b/\Co c/\Co d:=LO h
theorem Bo(k:Int){a b:List Int}(ha:a.length<2000000)(hb:b.length<2000000):M.kr k a b=some (xw k a b):=by
 unfold M.kr;simp only [tO a ha,qa0];by_cases va:fE a=true
 ·simp only [va,qae,cond_false,tO b hb,qa0];by_cases vb:fE b=true
  ·simp only [vb,qae,cond_false];obtain ⟨x0,x1,x2,x3,rfl,c0,c1,c2,c3⟩:=pY va;obtain ⟨y0,y1,y2,y3,rfl,e0,e1,e2,e3⟩:=pY vb;rw [C6 va vb,No (by simp),No (by simp)];simp only [qa0,qc0,List.take_zero,Ph c0 c1 c2 c3 e0 e1 e2 e3];rw [Eg k (gS _ _) (pj c0 e0) (gS _ _) (pj c1 e1) (gS _ _) (pj c2 e2) (gS _ _) (pj c3 e3)]
   rfl
  ·have vb':fE b=false:=by simpa using vb
   simp [vb',xw]
 ·have va':fE a=false:=by simpa using va
  simp [va',xw]
theorem Xi{k:Nat}(hk:k<=900000){r:List UInt8×Int}(hr:Good k r):
  ∃x r',M.nk r=some (x,r')/\Good (k+1) r':=by
 obtain ⟨x3,r3,h3,g3,m3⟩:=vq (by omega) hr (list:=[1,2,3,4,1,2,3,4,1,2,0,5]) (by simp);exact ⟨x3,r3,by unfold M.nk;simp only [h3,qa0],g3⟩
structure aba(g0 g1 g2 g3:Int):Prop where
 n0:0<=g0
 n1:0<=g1
 n2:0<=g2
 n3:0<=g3
 m0:g0<=200
 m1:g1<=200
 m2:g2<=200
 m3:g3<=200
theorem Xj{a b c d x y z w:Int}(c0:Co a)(c1:Co b)(c2:Co c)(c3:Co d)(e0:Co x)(e1:Co y)(e2:Co z)(e3:Co w):aba (rb a x) (rb b y) (rb c z) (rb d w):=
 ⟨gS _ _,gS _ _,gS _ _,gS _ _,pj c0 e0,pj c1 e1,pj c2 e2,pj c3 e3⟩
theorem Tz{k g0 g1 g2 g3:Int}(h:aba g0 g1 g2 g3): -1<=dk k g0 g1 g2 g3/\dk k g0 g1 g2 g3<1000000:=by
 obtain ⟨n0,n1,n2,n3,m0,m1,m2,m3⟩:=h;have s0:=fR n0 m0;have s1:=fR n1 m1;have s2:=fR n2 m2;have s3:=fR n3 m3;unfold dk;split
 ·omega
 split
 ·omega
 split
 ·generalize g0*g0=q0 at*;generalize g1*g1=q1 at*;generalize g2*g2=q2 at*;generalize g3*g3=q3 at*;omega
 split <;> omega
end Go.Vs
namespace Go.Vs
end Go.Vs
namespace Go.Vs
end Go.Vs
namespace Go.Vs
end Go.Vs
namespace Go.Vs
end Go.Vs
namespace Go.Vs
end Go.Vs
namespace Go.Vs
end Go.Vs
namespace Go.Vs
abbrev Item:=Int×(List Int)×Int
def iK(x:Item):Bool:=(decide (1<=x.1)&&decide (x.1<=99))&&(fE x.2.1&&(decide (0<=x.2.2)&&decide (x.2.2<=15)))
def mN:Int->List Item->Bool
 | _,[]=>true
 | p,x::l=>(iK x&&decide (p<x.1))&&mN x.1 l
def cJ(l:List Item):Bool:=decide (l.length<=16)&&mN 0 l
theorem Jp{x:Item}(h:x.2.1.length<2000000):M.jr (x.1,x.2.1,x.2.2)=some (iK x):=by
 unfold M.jr M.iu M.nq iK;simp only [tO x.2.1 h,qa0];by_cases h1:1<=x.1
 ·by_cases h2:x.1<=99
  ·by_cases h3:fE x.2.1=true
   ·by_cases h4:0<=x.2.2
    ·simp [h1,h2,h3,h4]
    ·simp [h1,h2,h3,h4]
   ·simp only [qbg] at h3;simp [h1,h2,h3]
  ·simp [h1,h2]
 ·simp [h1]
theorem AK{x:Item}(h:x.2.1.length<2000000):M.iF (x.1,x.2.1,x.2.2)=some (iK x):=by
 unfold M.iF iK;simp only [C4,C5 x.2.1 h,qa0];cases (decide (1<=x.1)&&decide (x.1<=99)) <;> cases fE x.2.1 <;> simp
theorem GV{l:List Item}(hb: ∀x∈l,x.2.1.length<2000000):M.fW l=some (cJ l):=by
  unfold M.fW cJ;by_cases hl:16<(l.length:Int)
  ·have: ¬l.length<=16:=by omega
   simp [hl,this]
  have rD:l.length<=16:=by omega
  simp only [hl,decide_false,cond_false,rD,decide_true,qbo];have key: ∀m k:Nat, ∀p:Int,k+m=l.length->cu (fun (s3:(Int)×(Int))=>(bif decide (s3.2<(l.length:Int)) then
  (bu l s3.2).bind λx8=>
  Option.bind ((M.jr (x8.1,x8.2.1,x8.2.2)).bind λLp=>
  (bif !Lp then
  some true
 else
  some (decide (x8.1<=s3.1)))) λo29=>
  (bif o29 then
  some (.inr (.inr false))
 else
  some (.inl (x8.1,ao (s3.2+1))))
 else
  some (.inr (.inl ())))) (p,(k:Int))=some (if mN p (l.drop k) then (.inl ():Unit⊕Bool) else .inr false):=by
   intro m
   induction m with
   | zero=>
    intro k p hk;have:k=l.length:=by omega
    subst this;rw [bs];simp [bm,mN]
   | succ m ih=>
    intro k p hk;have bG:k<l.length:=by omega
    rw [bs,qbc bG];have e1:decide ((k:Int)<(l.length:Int))=true:=by simpa using bG
    have e2:ao ((k:Int)+1)=((k+1:Nat):Int):=aV (by omega) (by omega);simp only [e1,cond_true,bT bG,qa0,Jp (hb _ (qad bG)),e2,mN];by_cases h1:iK l[k]=true
    ·by_cases h2:p<l[k].1
     ·have Kc: ¬l[k].1<=p:=by omega
      simp only [h1,h2,Kc,qae,cond_false,qa0,decide_false,decide_true,Bool.and_self,qbo,bm];exact ih (k+1) l[k].1 (by omega)
     ·have Kc:l[k].1<=p:=by omega
      simp [h1,h2,Kc,bm]
    ·simp only [qbg] at h1;simp [h1,bm]
  have:=key l.length 0 0 (by omega);simp only [Int.cast_ofNat_Int,qcc] at this;rw [this];cases mN 0 l <;> rfl
def oq(l:List Item):Nat->Int
 | 0=>0
 | k+1=>(l.getD k (0,[],0)).1
theorem yJ{l:List Item}(hb: ∀x∈l,x.2.1.length<2000000)(hL:l.length<2000000):M.fV l=some (cJ l):=by
  unfold M.fV cJ;have key: ∀m k:Nat,k+m=l.length->cu (fun (s2:(Int))=>(bif decide (s2<(l.length:Int)) then
  Option.bind ((bu l s2).bind λx8=>
  (M.iF (x8.1,x8.2.1,x8.2.2)).bind λr19=>
  (bif !r19 then
  some true
 else
  (bif decide (0<s2) then
  (bu l s2).bind λwK=>
  (bu l (ao (s2 - 1))).bind λxH=>
  some (decide (wK.1<=xH.1))
 else
  some false))) λo7=>
  (bif o7 then
  some (.inr (.inr false))
 else
  some (.inl (ao (s2+1))))
 else
  some (.inr (.inl ())))) (k:Int)=some (if mN (oq l k) (l.drop k) then (.inl ():Unit⊕Bool) else .inr false):=by
   intro m
   induction m with
   | zero=>
    intro k hk;have:k=l.length:=by omega
    subst this;rw [bs];simp [bm,mN]
   | succ m ih=>
    intro k hk;have bG:k<l.length:=by omega
    rw [bs,qbc bG];have e1:decide ((k:Int)<(l.length:Int))=true:=by simpa using bG
    have e2:ao ((k:Int)+1)=((k+1:Nat):Int):=aV (by omega) (by omega);have wG:oq l (k+1)=l[k].1:=by simp [oq,List.getD,bG]
    have ih':=ih (k+1) (by omega);rw [wG] at ih';simp only [e1,cond_true,bT bG,qa0,AK (hb _ (qad bG)),e2,mN];by_cases h1:iK l[k]=true
    ·simp only [h1,qae,cond_false,qbo]
     match k,bG with
     | 0,bG=>
      have u0:oq l 0<l[0].1:=by
       have:1<=l[0].1:=by
        unfold iK at h1;simp at h1;exact h1.1.1
       show 0<_;omega
      have e3:decide ((0:Int)<((0:Nat):Int))=false:=rfl;simp only [e3,cond_false,qa0,u0,decide_true,qbo,bm];exact ih'
     | j+1,bG=>
      have e3:decide ((0:Int)<((j+1:Nat):Int))=true:=by simp
      have e4:ao (((j+1:Nat):Int) - 1)=(j:Int):=by rw [aV (by omega) (by omega)];omega
      have hj:j<l.length:=by omega
      have hk:oq l (j+1)=l[j].1:=by simp [oq,List.getD,hj]
      simp only [e3,cond_true,e4,bT hj,qa0,hk];by_cases h2:l[j].1<l[j+1].1
      ·have Kc: ¬l[j+1].1<=l[j].1:=by omega
       simp only [h2,Kc,decide_false,decide_true,cond_false,qbo,bm,qa0];exact ih'
      ·have Kc:l[j+1].1<=l[j].1:=by omega
       simp [h2,Kc,bm]
    ·simp only [qbg] at h1;simp [h1,bm]
  have:=key l.length 0 (by omega);simp only [Int.cast_ofNat_Int,qcc] at this;rw [this];show _=some (decide (l.length<=16)&&mN 0 l);have e:oq l 0=0:=rfl;rw [e];by_cases h16:l.length<=16
  ·have:decide ((l.length:Int)<=16)=true:=by simp;omega
   cases mN 0 l <;> simp [bm,this,h16]
  ·have:decide ((l.length:Int)<=16)=false:=by simp;omega
   cases mN 0 l <;> simp [bm,this,h16]
end Go.Vs
namespace Go.Vs
theorem Pj{α:Type}{a:List α}{z:α}{g:α->Option α}(ha:a.length<=1048576)(hg: ∀x∈a,g x=some x){f:List α×Int->Option ((List α×Int)⊕List α)}
  (hs: ∀(s:List α) (i:Nat) (h:i<a.length) (h':i<s.length),g a[i]=some a[i]->f (s,(i:Int))=some (.inl (s.set i a[i],((i+1:Nat):Int)))) (he: ∀s,f (s,(a.length:Int))=some (.inr s)):
  cu f (List.replicate a.length z,0)=some a:=by
 have aeV:=Jm (R:=List α) (f:=f) (r:=a) a.length (λi=>(a.take i++List.replicate (a.length - i) z,(i:Int))) (by
  intro i hi;have hl:i<(a.take i++List.replicate (a.length - i) z).length:=by simp;omega
  rw [hs _ i hi hl (hg _ (qad hi))];have hr:List.replicate (a.length - i) z=z::List.replicate (a.length - (i+1)) z:=by
   rw [show a.length - i=(a.length - (i+1))+1 by omega,List.replicate_succ]
  rw [qb4 hi,hr,List.set_append_right _ _ (by simp;omega)];have:i - (a.take i).length=0:=by simp;omega
  rw [this];simp only [List.set_cons_zero,List.append_assoc,qbr,qba]) (by
  rw [he];simp)
 simpa using aeV
end Go.Vs
namespace Go.Vs
theorem fx{i:Nat}(h:i<4000000000000000000):ao ((i:Int)+1)=((i+1:Nat):Int):=aV (by omega) (by omega)
section
variable{α S T R U:Type}{xs:List α}
theorem Pk(st:S->Int->T)(g:S->α->S)(Inv:Nat->S->Prop){fin:S->R}{f:T->Option (T⊕R)}{s0:S}(h0:Inv 0 s0)
  (hs: ∀s i (h:i<xs.length),Inv i s->f (st s (i:Int))=some (.inl (st (g s xs[i]) ((i+1:Nat):Int)))/\Inv (i+1) (g s xs[i]))
  (he: ∀s,Inv xs.length s->f (st s (xs.length:Int))=some (.inr (fin s))):
  cu f (st s0 0)=some (fin (xs.foldl g s0))/\Inv xs.length (xs.foldl g s0):=by
 have key: ∀m k:Nat, ∀s,k+m=xs.length->Inv k s->cu f (st s (k:Int))=some (fin ((xs.drop k).foldl g s))/\Inv xs.length ((xs.drop k).foldl g s):=by
  intro m
  induction m with
  | zero=>
   intro k s hk hi;have:k=xs.length:=by omega
   subst this;rw [bs,he s hi];simpa [bm] using hi
  | succ m ih=>
   intro k s hk hi;have bG:k<xs.length:=by omega
   obtain ⟨h1,h2⟩:=hs s k bG hi;rw [bs,h1,qbc bG];exact ih (k+1) _ (by omega) h2
 have:=key xs.length 0 s0 (by omega) h0;simpa using this
theorem lR(st:S->Int->T)(g:S->α->S)(Inv:Nat->S->Prop)(fin:S->R){f:T->Option (T⊕R)}{s0:S}{k:R->Option U}{r:Option U}(h0:Inv 0 s0)
  (hs: ∀s i (h:i<xs.length),Inv i s->f (st s (i:Int))=some (.inl (st (g s xs[i]) ((i+1:Nat):Int)))/\Inv (i+1) (g s xs[i]))
  (he: ∀s,Inv xs.length s->f (st s (xs.length:Int))=some (.inr (fin s)))
  (hk:Inv xs.length (xs.foldl g s0)->k (fin (xs.foldl g s0))=r):(cu f (st s0 0)).bind k=r:=by
 obtain ⟨h1,h2⟩:=Pk st g Inv (fin:=fin) h0 hs he;rw [h1];exact hk h2
theorem Xk{f:T->Option (T⊕R)}(J:T->Prop)(μ:T->Nat){r:R}(step: ∀s,J s->(∃s',f s=some (.inl s')/\J s'/\μ s'<μ s)\/f s=some (.inr r)){s:T}(h:J s):cu f s=some r:=by
 obtain ⟨r',h1,rfl⟩:=ES (f:=f) J μ (λx=>x=r) (λs hs=>(step s hs).imp id (λh=>⟨r,h,rfl⟩)) s h;exact h1
theorem xx(p:α->Bool)(r:Nat->R){f:Int->Option (Int⊕(Unit⊕R))}
  (hs: ∀i (h:i<xs.length),f (i:Int)=some (if p xs[i]=true then .inr (.inr (r i)) else .inl ((i+1:Nat):Int))) (he:f (xs.length:Int)=some (.inr (.inl ()))):
  cu f 0=some (match xs.findIdx? p with | some i=> .inr (r i) | none=> .inl ()):=by
 have key: ∀m k:Nat,k+m=xs.length->cu f (k:Int)=some (match (xs.drop k).findIdx? p with | some i=> .inr (r (k+i)) | none=> .inl ()):=by
  intro m
  induction m with
  | zero=>
   intro k hk;have:k=xs.length:=by omega
   subst this;rw [bs,he];simp [bm]
  | succ m ih=>
   intro k hk;have bG:k<xs.length:=by omega
   rw [bs,hs k bG,qbc bG,List.findIdx?_cons];by_cases hp:p xs[k]=true
   ·simp [hp,bm]
   ·simp only [hp,if_false,bm,qa0,qa6];rw [ih (k+1) (by omega)];cases h:List.findIdx? p (List.drop (k+1) xs) with
    | none=>rfl
    | some i=>simp only [qac];rw [show k+1+i=k+(i+1) by omega]
 have:=key xs.length 0 (by omega);simpa using this
end
theorem foldl_filter{α:Type}(p:α->Bool)(l:List α): ∀s:List α,l.foldl (λs x=>if p x=true then s++[x] else s) s=s++l.filter p:=by
 induction l with
 | nil=>intro s;simp
 | cons x l ih=>
  intro s;rw [List.foldl_cons,ih,List.filter_cons];by_cases h:p x=true <;> simp [h]
theorem foldl_map{α β:Type}(g:α->β)(l:List α): ∀s:List β,l.foldl (λs x=>s++[g x]) s=s++l.map g:=by
 induction l with
 | nil=>intro s;simp
 | cons x l ih=>intro s;rw [List.foldl_cons,ih];simp
theorem LQ{l:List Item}: ∀{p:Int},mN p l=true↔(∀x∈l,iK x=true/\p<x.1)/\l.Pairwise (λx y=>x.1<y.1):=by
 induction l with
 | nil=>intro p;simp [mN]
 | cons x l ih=>
  intro p;simp only [mN,qa4,decide_eq_true_eq,ih,qbf,qa8,forall_eq_or_imp]
  constructor
  ·rintro ⟨⟨h1,h2⟩,h3,h4⟩;exact ⟨⟨⟨h1,h2⟩,λy hy=>⟨(h3 y hy).1,by have:=(h3 y hy).2;omega⟩⟩,λy hy=>(h3 y hy).2,h4⟩
  ·rintro ⟨⟨⟨h1,h2⟩,h3⟩,h4,h5⟩;exact ⟨⟨h1,h2⟩,λy hy=>⟨(h3 y hy).1,h4 y hy⟩,h5⟩
theorem lC{x:Item}:iK x=true↔(1<=x.1/\x.1<=99)/\fE x.2.1=true/\0<=x.2.2/\x.2.2<=15:=by
 unfold iK;simp only [qa4,decide_eq_true_eq]
theorem di{l:List Item}:cJ l=true↔l.length<=16/\(∀x∈l,iK x=true)/\l.Pairwise (λx y=>x.1<y.1):=by
 unfold cJ;simp only [qa4,decide_eq_true_eq,LQ]
 constructor
 ·rintro ⟨h1,h2,h3⟩;exact ⟨h1,λx hx=>(h2 x hx).1,h3⟩
 ·rintro ⟨h1,h2,h3⟩;exact ⟨h1,λx hx=>⟨h2 x hx,by have:=(lC.1 (h2 x hx)).1.1;omega⟩,h3⟩
theorem vr{l m:List Item}(h:cJ l=true)(hs:m.Sublist l):cJ m=true:=by
 obtain ⟨h1,h2,h3⟩:=di.1 h;exact di.2 ⟨qaa hs.length_le h1,λx hx=>h2 x (hs.subset hx),h3.sublist hs⟩
theorem qI{x:Item}(h:iK x=true):x.2.1.length=4:=(mP.1 (lC.1 h).2.1).1
def gI(l:List Item):Prop:=l.length<=1048576/\ ∀x∈l,x.2.1.length<=1048576
theorem gI.hb{l:List Item}(h:gI l): ∀x∈l,x.2.1.length<2000000:=λx hx=>by have:=h.2 x hx;omega
theorem gI.hL{l:List Item}(h:gI l):l.length<2000000:=by have:=h.1;omega
theorem oy{l:List Item}(h:cJ l=true):gI l:=by
 obtain ⟨h1,h2,h3⟩:=di.1 h;exact ⟨by omega,λx hx=>by have:=qI (h2 x hx);omega⟩
theorem gI.impl{l:List Item}(h:gI l):M.fW l=some (cJ l):=GV h.hb
theorem gI.Zf{l:List Item}(h:gI l):M.fV l=some (cJ l):=yJ h.hb h.hL
def xy(l:List Item)(x:Item):List Item:=l.filter (λy=>decide (y.1<x.1))++x::l.filter (λy=>decide (x.1<y.1))
theorem oz{x:Item}(h:x.2.1.length<=1000000):M.ir (x.1,x.2.1,x.2.2)=some x:=by
 unfold M.ir;simp only [Nq h,qa0]
theorem LR{l:List Item}{x:Item}(hl:l.length<=1000)(hx: ∀y∈l,y.2.1.length<=1000000)(hxx:x.2.1.length<=1000000):M.vf l (x.1,x.2.1,x.2.2)=some (xy l x):=by
 unfold M.vf;simp only [];refine lR (xs:=l) (λs i=>(s,i)) (λs y=>if (decide (y.1<x.1))=true then s++[y] else s) (λi s=>s.length<=i) (λs=>s) (by simp) ?_ ?_ ?_
 ·intro s i h hs;have e1:decide ((i:Int)<(l.length:Int))=true:=by simpa using h
  simp only [e1,cond_true,bT h,qa0,fx (i:=i) (by omega)];by_cases hk:l[i].1<x.1
  ·simp only [hk,decide_true,cond_true,oz (hx _ (qad h)),qa0,if_true];rw [iN (by simp;omega)];exact ⟨by first | rfl | trivial,by simp;omega⟩
  ·simp only [hk,decide_false,cond_false,qa0,if_false,qa6];exact ⟨by first | rfl | trivial,by omega⟩
 ·intro s _;simp
 ·intro hs;rw [foldl_filter] at hs ⊢;simp only [qba] at hs ⊢;simp only [oz hxx,qa0];rw [iN (by simp;omega)];simp only [qa0];refine lR (xs:=l) (λs i=>(s,i)) (λs y=>if (decide (x.1<y.1))=true then s++[y] else s) (λi s=>s.length<=1001+i) (λs=>s) (by simp;omega) ?_ ?_ ?_
  ·intro s i h hs;have e1:decide ((i:Int)<(l.length:Int))=true:=by simpa using h
   simp only [e1,cond_true,bT h,qa0,fx (i:=i) (by omega)];by_cases hk:x.1<l[i].1
   ·simp only [hk,decide_true,cond_true,oz (hx _ (qad h)),qa0,if_true];rw [iN (by simp;omega)];exact ⟨by first | rfl | trivial,by simp;omega⟩
   ·simp only [hk,decide_false,cond_false,qa0,if_false,qa6];exact ⟨by first | rfl | trivial,by omega⟩
  ·intro s _;simp
  ·intro _;rw [foldl_filter];simp [xy]
theorem TA{l:List Item}{x:Item}(h:l.Pairwise (λx y=>x.1<y.1)):(xy l x).length<=l.length+1:=by
 unfold xy;simp only [qat,qb2];have: ∀l:List Item,(l.filter (λy=>decide (y.1<x.1))).length+(l.filter (λy=>decide (x.1<y.1))).length<=l.length:=by
  intro l
  induction l with
  | nil=>simp
  | cons y l ih=>
   rw [List.filter_cons,List.filter_cons];by_cases h1:y.1<x.1
   ·have h2: ¬x.1<y.1:=by omega
    simp [h1,h2];omega
   ·by_cases h2:x.1<y.1
    ·simp [h1,h2];omega
    ·simp [h1,h2];omega
 have:=this l;omega
theorem Nr{l:List Item}{x:Item}(h:cJ l=true)(hx:iK x=true):(∀y∈xy l x,iK y=true)/\(xy l x).Pairwise (λx y=>x.1<y.1):=by
 obtain ⟨_,h2,h3⟩:=di.1 h;unfold xy;refine ⟨?_, ?_⟩
 ·intro y hy;simp only [qaf,qa8,qaw] at hy;rcases hy with hy | rfl | hy
  ·exact h2 y hy.1
  ·exact hx
  ·exact h2 y hy.1
 ·rw [List.pairwise_append,qbf];refine ⟨h3.sublist qax,⟨λy hy=> ?_,h3.sublist qax⟩,λy hy z hz=> ?_⟩
  ·simpa using (qaw.1 hy).2
  ·have h4:y.1<x.1:=by simpa using (qaw.1 hy).2
   rcases qa8.1 hz with rfl | hz
   ·exact h4
   ·have:x.1<z.1:=by simpa using (qaw.1 hz).2
    omega
theorem yK{l:List Item}{x:Item}(h:cJ l=true)(hx:iK x=true):cJ (xy l x)=decide ((xy l x).length<=16):=by
 obtain ⟨h1,h2⟩:=Nr h hx;rw [qch,di,decide_eq_true_eq];exact ⟨λh=>h.1,λh=>⟨h,h1,h2⟩⟩
def vY(l:List Item)(x:Item):List Item×Bool:=if cJ l=true/\iK x=true/\(xy l x).length<=16 then (xy l x,true) else ([],false)
theorem C7{l:List Item}{x:Item}(h:gI l)(hx:x.2.1.length<=1000000):M.lI l (x.1,x.2.1,x.2.2)=some (vY l x):=by
 unfold M.lI vY;simp only [h.Zf,AK (x:=x) (by omega),qa0];cases h1:cJ l with
 | false=>simp
 | true=>
  cases h2:iK x with
  | false=>simp
  | true=>
   obtain ⟨hl,hi,hp⟩:=di.1 h1;simp only [qae,cond_false,qa0];rw [LR (by omega) (λy hy=>by have:=qI (hi y hy);omega) hx];have hs:=Nr h1 h2;have hn:=TA (x:=x) hp;simp only [qa0,yJ (l:=xy l x) (λy hy=>by have:=qI (hs.1 y hy);omega) (by omega),yK h1 h2];by_cases h16:(xy l x).length<=16 <;> simp [h16]
theorem Ns{k:Nat}(hk:k<=700000){r:List UInt8×Int}(hr:Good k r):
  ∃x r',M.jh (r.1,r.2)=some (x,(r'.1,r'.2))/\Good (k+14) r'/\iK x=true/\x.1<=30:=by
 obtain ⟨x1,r1,h1,g1,a1,b1,_⟩:=nJ (by omega) hr 30;obtain ⟨v,r2,h2,g2,hv⟩:=E5 (by omega) g1;obtain ⟨x3,r3,h3,g3,a3,b3,_⟩:=nJ (by omega) g2 16;have b1:=b1 (by omega);have b3:=b3 (by omega);refine ⟨(1+x1,v,x3),r3, ?_,g3.mono (by omega),lC.2 ⟨⟨by simp only;omega,by simp only;omega⟩,hv,by simp only;omega,by simp only;omega⟩,by simp only;omega⟩;unfold M.jh;simp only [h1,h2,h3,qa0,aV (n:=1+x1) (by omega) (by omega)]
def TB(x:Item):Prop:=(0<=x.1/\x.1<=100)/\Tv x.2.1/\ -1<=x.2.2/\x.2.2<=16
theorem Jq{x:Item}(h:iK x=true):TB x:=by
 obtain ⟨h1,h2,h3⟩:=lC.1 h;exact ⟨by omega,yH h2,by omega⟩
theorem LS{k:Nat}(hk:k<=500000){r:List UInt8×Int}(hr:Good k r):
  ∃x r',M.np (r.1,r.2)=some (x,(r'.1,r'.2))/\Good (k+40) r'/\TB x:=by
 obtain ⟨x,r1,h1,g1,hx,_⟩:=Ns (by omega) hr;obtain ⟨c,r2,h2,g2,_,_,_⟩:=nJ (by omega) g1 16;obtain ⟨HY,hv,ht⟩:=lC.1 hx;unfold M.np;simp only [h1,h2,qa0];by_cases c0:c=0
 ·obtain ⟨y,r3,h3,g3,m3⟩:=vq (by omega) g2 (list:=[0,99,100]) (by simp);refine ⟨(y,x.2.1,x.2.2),r3,by simp [c0,h3],g3.mono (by omega),⟨?_,yH hv,by simp only;omega⟩⟩;simp only [qa8,qap,or_false] at m3;simp only;omega
 ·have e0:(c==0)=false:=by simpa using c0
  simp only [e0,cond_false];by_cases c1:c=1
  ·obtain ⟨v,r3,h3,g3,n3⟩:=LP (by omega) g2;exact ⟨(x.1,v,x.2.2),r3,by simp [c1,h3],g3.mono (by omega),⟨by simp only;omega,n3,by simp only;omega⟩⟩
  ·have e1:(c==1)=false:=by simpa using c1
   simp only [e1,cond_false];by_cases c2:c=2
   ·obtain ⟨y,r3,h3,g3,m3⟩:=vq (by omega) g2 (list:=[-1,16]) (by simp);refine ⟨(x.1,x.2.1,y),r3,by simp [c2,h3],g3.mono (by omega),⟨by simp only;omega,yH hv, ?_⟩⟩;simp only [qa8,qap,or_false] at m3;simp only;omega
   ·have e2:(c==2)=false:=by simpa using c2
    exact ⟨x,r2,by simp [e2],g2.mono (by omega),Jq hx⟩
theorem Jr:cJ []=true:=rfl
theorem LU{n:Nat}: ∀{k:Nat} {r:List UInt8×Int} {l:List Item},k+14*n<=400000->n<=100->Good k r->cJ l=true->
   ∃l' r',cu (fun (CB:((List UInt8)×(Int))×(List (Int×(List Int)×Int))×(Int))=>(bif decide (0<CB.2.2) then
  Option.bind ((M.jh (CB.1.1,CB.1.2)).bind λLr=>
  (M.lI CB.2.1 (Lr.1.1,Lr.1.2.1,Lr.1.2.2)).bind λr55=>
  (bif r55.2 then
  some ((Lr.2.1,Lr.2.2),r55.1)
 else
  some ((Lr.2.1,Lr.2.2),CB.2.1))) λWw=>
  some (.inl ((Ww.1.1,Ww.1.2),Ww.2,ao (CB.2.2 - 1)))
 else
  some (.inr ((CB.1.1,CB.1.2),CB.2.1)))) (r,l,(n:Int))=some (r',l')/\Good (k+14*n) r'/\cJ l'=true:=by
  induction n with
  | zero=>intro k r l _ _ hr hl;exact ⟨l,r,by rw [bs];simp [bm],hr.mono (by omega),hl⟩
  | succ n ih=>
   intro k r l hk hn hr hl;obtain ⟨x,r1,h1,g1,hx,_⟩:=Ns (by omega) hr;rw [bs];have e1:decide ((0:Int)<((n+1:Nat):Int))=true:=decide_eq_true (by omega);have e2:ao (((n+1:Nat):Int) - 1)=(n:Int):=by rw [aV (by omega) (by omega)];omega
   simp only [e1,cond_true,h1,qa0,C7 (x:=x) (oy hl) (by have:=qI hx;omega),e2];by_cases hp:(vY l x).2=true
   ·have ur:cJ (vY l x).1=true:=by
     unfold vY at hp ⊢;split
     ·rename_i h;simp only;rw [yK hl hx];simpa using h.2.2
     ·rename_i h;rw [if_neg h] at hp;cases hp
    obtain ⟨l',r',h2,h3,h4⟩:=ih (k:=k+14) (r:=r1) (l:=(vY l x).1) (by omega) (by omega) g1 ur;refine ⟨l',r', ?_,h3.mono (by omega),h4⟩;simp only [hp,cond_true,qa0,bm];exact h2
   ·simp only [qbg] at hp;obtain ⟨l',r',h2,h3,h4⟩:=ih (k:=k+14) (r:=r1) (l:=l) (by omega) (by omega) g1 hl;refine ⟨l',r', ?_,h3.mono (by omega),h4⟩;simp only [hp,cond_false,qa0,bm];exact h2
theorem GW{k:Nat}(hk:k<=300000){r:List UInt8×Int}(hr:Good k r):
  ∃l r',M.lj (r.1,r.2)=some (l,(r'.1,r'.2))/\Good (k+281) r'/\cJ l=true:=by
 obtain ⟨x,r1,h1,g1,m1⟩:=vq (by omega) hr (list:=[4,6,8,3,1,0,20,12]) (by simp);obtain ⟨n,rfl,hn⟩: ∃n:Nat,x=(n:Int)/\n<=20:=⟨x.toNat,by simp only [qa8,qap,or_false] at m1;omega,by simp only [qa8,qap,or_false] at m1;omega⟩;obtain ⟨l,r2,h2,g2,hl⟩:=LU (n:=n) (k:=k+1) (r:=r1) (l:=[]) (by omega) (by omega) g1 Jr;refine ⟨l,r2, ?_,g2.mono (by omega),hl⟩;unfold M.lj;simp only [h1,qa0];rw [show ((r1.1,r1.2),([]:List Item),(n:Int))=(r1,[],(n:Int)) from rfl,h2];rfl
def Jt(l:List Item):Prop:=l.length<=17/\ ∀x∈l,TB x
theorem Jt.small{l:List Item}(h:Jt l):gI l:=⟨by have:=h.1;omega,λx hx=>by have:=(h.2 x hx).2.1.1;omega⟩
theorem TC{l:List Item}(h:cJ l=true):Jt l:=by
 obtain ⟨h1,h2,_⟩:=di.1 h;exact ⟨by omega,λx hx=>Jq (h2 x hx)⟩
theorem Ju{k:Nat}(hk:k<=200000){r:List UInt8×Int}(hr:Good k r):
  ∃l r',M.ml (r.1,r.2)=some (l,(r'.1,r'.2))/\Good (k+400) r'/\Jt l:=by
 obtain ⟨l,r1,h1,g1,hl⟩:=GW (by omega) hr;obtain ⟨c,r2,h2,g2,_,_,_⟩:=nJ (by omega) g1 20;have hN:=TC hl;obtain ⟨hlen,hit,_⟩:=di.1 hl;unfold M.ml;simp only [h1,h2,qa0];by_cases c0:c=0
 ·obtain ⟨x,r3,h3,g3,hx⟩:=LS (by omega) g2;refine ⟨l++[x],r3, ?_,g3.mono (by omega),by simp;omega, ?_⟩
  ·simp only [c0,show ((0:Int)==0)=true from rfl,cond_true,h3,qa0];rw [iN (by simp;omega)];rfl
  ·intro y hy;rcases qaf.1 hy with h | h
   ·exact hN.2 y h
   ·simp only [qbe] at h;subst h;exact hx
 ·have e0:(c==0)=false:=by simpa using c0
  simp only [e0,cond_false];by_cases c1:c=1
  ·by_cases u0:0<l.length
   ·have e1:decide (0<(l.length:Int))=true:=by simp;omega
    obtain ⟨i,r3,h3,g3,a3,b3,_⟩:=nJ (by omega) g2 (l.length:Int);have b3:=b3 (by omega);obtain ⟨v,r4,h4,g4,n4⟩:=LP (by omega) g3;obtain ⟨y,hy,my⟩:=sT (xs:=l) a3 b3;refine ⟨l.set i.toNat (y.1,v,y.2.2),r4, ?_,g4.mono (by omega),by simp;omega, ?_⟩
    ·simp only [c1,show ((1:Int)==1)=true from rfl,cond_true,e1,h3,h4,hy,qa0]
    ·intro z hz;rcases List.mem_or_eq_of_mem_set hz with h | h
     ·exact hN.2 z h
     ·subst h;exact ⟨(hN.2 y my).1,n4,(hN.2 y my).2.2⟩
   ·have e1:decide (0<(l.length:Int))=false:=decide_eq_false (by omega);exact ⟨l,r2,by simp only [c1,show ((1:Int)==1)=true from rfl,cond_true,e1,cond_false,qa0],g2.mono (by omega),hN⟩
  ·have e1:(c==1)=false:=by simpa using c1
   exact ⟨l,r2,by simp [e1],g2.mono (by omega),hN⟩
end Go.Vs
namespace Go.Vs
theorem abb(n:Int):wk .i64 n=ao n:=rfl
theorem abc{n:Int}(h0:0<=n)(h:n<18446744073709551616):wk .u64 n=n:=by
 simp only [wk,Go.IntKind.wrap,Go.IntKind.bits,Go.IntKind.signed,Bool.false_and];have e1:((2:Int)^(64:Nat))=18446744073709551616:=by decide
 rw [e1];simp;omega
theorem abd{i j:Nat}(hi:i<=j)(hj:j<1000000000):wk .i64 (rJ .u64 (wk .u64 (ao ((i:Int)+(j:Int)))) 1)=(((i+j) / 2:Nat):Int):=by
 rw [aV (by omega) (by omega),abc (by omega) (by omega),abb];have:rJ .u64 ((i:Int)+(j:Int)) 1=((i+j) / 2:Nat):=by
  unfold rJ;have e:(2:Int)^(min (1:Int).toNat (Go.IntKind.bits .u64))=2:=by decide
  rw [e,Int.fdiv_eq_ediv_of_nonneg _ (by omega)];omega
 rw [this,GR (by omega)]
def Ae(x y:Int):Int:=if x<y then -1 else if y<x then 1 else 0
theorem C8(x y:Int):M.gP x y=some (Ae x y):=by
 unfold M.gP M.cmp_isNaN_int Ae;simp only [bne_self_eq_false,qa0,cond_false];by_cases h1:x<y
 ·simp [h1]
 ·by_cases h2:y<x <;> simp [h1,h2]
theorem E6(x:Item)(k:Int):M.iG (x.1,x.2.1,x.2.2) k=some (Ae x.1 k):=by
 unfold M.iG;simp only [C8,qa0]
theorem yL{x y:Int}:Ae x y<0↔x<y:=by unfold Ae;split <;> (try split) <;> omega
theorem sV{x y:Int}:Ae x y=0↔x=y:=by unfold Ae;split <;> (try split) <;> omega
theorem Jv{x y:Int}:0<Ae x y↔y<x:=by unfold Ae;split <;> (try split) <;> omega
def dG(l:List Item)(k:Int):Nat:=l.countP λx=>decide (x.1<k)
theorem qJ{l:List Item}{k:Int}(hp:l.Pairwise (λx y=>x.1<y.1)){i:Nat}(h:i<l.length):i<dG l k↔l[i].1<k:=by
 induction l generalizing i with
 | nil=>simp at h
 | cons x l ih=>
  rw [qbf] at hp;unfold dG at ih ⊢;rw [List.countP_cons];cases i with
  | zero=>
   by_cases hx:x.1<k
   ·simp [hx]
   ·have:l.countP (λx=>decide (x.1<k))=0:=by
     rw [qcg];intro y hy;have:=hp.1 y hy;simp;omega
    simp only [this,hx,decide_false,List.getElem_cons_zero];simp
  | succ i=>
   simp only [qb2] at h;have:=ih hp.2 (i:=i) (by omega);simp only [List.getElem_cons_succ];by_cases hx:x.1<k
   ·simp only [hx,decide_true,if_true];rw [←this];omega
   ·have h0:l.countP (λx=>decide (x.1<k))=0:=by
     rw [qcg];intro y hy;have:=hp.1 y hy;simp;omega
    rw [h0] at this ⊢;have hy:=hp.1 l[i] (qad _);simp only [hx,decide_false];constructor
    ·intro hh;simp at hh
    ·intro hh;omega
theorem Pm{l:List Item}{k:Int}:dG l k<=l.length:=List.countP_le_length
theorem Pn{l:List Item}{k:Int}(hp:l.Pairwise (λx y=>x.1<y.1))(hl:l.length<1000000):
   M.aU l k=some ((dG l k:Int),l.any λx=>x.1==k):=by
  unfold M.aU;have hk:=Xk (f:=fun (s2:(Int)×(Int))=>(bif decide (s2.1<s2.2) then
  (bu l (wk .i64 (rJ .u64 (wk .u64 (ao (s2.1+s2.2))) 1))).bind λx5=>
  (M.iG (x5.1,x5.2.1,x5.2.2) k).bind λr15=>
  (bif decide (r15<0) then
  some (.inl (ao ((wk .i64 (rJ .u64 (wk .u64 (ao (s2.1+s2.2))) 1))+1),s2.2))
 else
  some (.inl (s2.1,wk .i64 (rJ .u64 (wk .u64 (ao (s2.1+s2.2))) 1))))
 else
  some (.inr s2.1))) (λs=> ∃i j:Nat,s=((i:Int),(j:Int))/\i<=j/\j<=l.length/\i<=dG l k/\dG l k<=j) (λs=>(s.2 - s.1).toNat) (r:=(dG l k:Int)) (by
   rintro _ ⟨i,j,rfl,qk,hjl,h1,h2⟩;by_cases bG:i<j
   ·have e1:decide ((i:Int)<(j:Int))=true:=decide_eq_true (by omega);have aeW:(i+j) / 2<l.length:=by omega
    simp only [e1,cond_true,abd qk (by omega),bT aeW,qa0,E6];have MT:=qJ (k:=k) hp aeW;by_cases hc:l[(i+j) / 2].1<k
    ·have e2:decide (Ae l[(i+j) / 2].1 k<0)=true:=decide_eq_true (yL.2 hc);simp only [e2,cond_true,fx (i:=(i+j) / 2) (by omega)];exact .inl ⟨_,rfl,⟨_,_,rfl,by omega,hjl,by have:=MT.2 hc;omega,h2⟩,by simp only;omega⟩
    ·have e2:decide (Ae l[(i+j) / 2].1 k<0)=false:=decide_eq_false (λh=>hc (yL.1 h));simp only [e2,cond_false];exact .inl ⟨_,rfl,⟨_,_,rfl,by omega,by omega,h1,Nat.le_of_not_lt λh=>hc (MT.1 h)⟩,by simp only;omega⟩
   ·have:i=dG l k:=by omega
    have e1:decide ((i:Int)<(j:Int))=false:=decide_eq_false (by omega);refine .inr ?_;simp only [e1,cond_false];rw [this])
   (s:=(0,(l.length:Int))) ⟨0,l.length,rfl,by omega,qa2 _,by omega,Pm⟩
  rw [hk];simp only [qa0];by_cases bG:dG l k<l.length
  ·have e1:decide ((dG l k:Int)<(l.length:Int))=true:=decide_eq_true (by omega);simp only [e1,cond_true,bT bG,qa0,E6];congr 2;have MT:=qJ (k:=k) hp bG;have hge:k<=l[dG l k].1:=by
    refine Int.not_lt.1 λh=> ?_;have:=MT.2 h;omega
   rw [qch,beq_iff_eq,sV,qbs]
   constructor
   ·intro h;exact ⟨_,qad bG,by simpa using h⟩
   ·rintro ⟨x,hx,hxk⟩;obtain ⟨i,hi,rfl⟩:=List.getElem_of_mem hx;have hik:l[i].1=k:=by simpa using hxk
    have hle: ¬i<dG l k:=λh=>by have:=(qJ hp hi).1 h;omega
    rcases Nat.lt_or_ge (dG l k) i with h | h
    ·have:=qas.1 hp _ _ bG hi h;omega
    ·have:i=dG l k:=by omega
     subst this;exact hik
  ·have e1:decide ((dG l k:Int)<(l.length:Int))=false:=decide_eq_false (by omega);simp only [e1,cond_false];congr 2
   symm
   rw [List.any_eq_false];intro x hx hxk;obtain ⟨i,hi,rfl⟩:=List.getElem_of_mem hx;have hik:l[i].1=k:=by simpa using hxk
   have:=(qJ (k:=k) hp hi).1 (by omega);omega
theorem LV{l:List Item}{k:Int}(h:cJ l=true):M.nt l k=some ((dG l k:Int),l.any λx=>x.1==k):=by
 obtain ⟨h1,_,h3⟩:=di.1 h;unfold M.nt;rw [Pn h3 (by omega)];rfl
theorem Po{l:List Item}{k:Int}(hp:l.Pairwise (λx y=>x.1<y.1))(h:l.any (λx=>x.1==k)=true): ∃hi:dG l k<l.length,l[dG l k].1=k/\l.find? (λx=>x.1==k)=some l[dG l k]:=by
 obtain ⟨x,hx,hxk⟩:=qbs.1 h;obtain ⟨i,hi,rfl⟩:=List.getElem_of_mem hx;have hik:l[i].1=k:=by simpa using hxk
 have hle: ¬i<dG l k:=λh=>by have:=(qJ hp hi).1 h;omega
 have bG:dG l k<l.length:=by omega
 have hge: ¬dG l k<i:=λh=>by
  have h1:=qas.1 hp _ _ bG hi h;have:=(qJ (k:=k) hp bG).2 (by omega);omega
 have:i=dG l k:=by omega
 refine ⟨bG,by subst this;exact hik, ?_⟩;rw [List.find?_eq_some_iff_getElem];refine ⟨by subst this;simpa using hik,_,bG,rfl,λj hj=> ?_⟩;have:=(qJ (k:=k) hp (i:=j) (by omega)).1 hj;simp;omega
theorem TD{v:List Int}(h:v.length<=1048576):M.gH v=some v:=by
 unfold M.gH;rw [iN (by simp;omega)];rfl
theorem Jx{x:Item}(h:x.2.1.length<=1048576):M.kt (x.1,x.2.1,x.2.2)=some x:=by
 unfold M.kt;simp only [TD h,qa0]
end Go.Vs
namespace Go.Vs
theorem C9{x:Item}(h:iK x=true):fE x.2.1=true:=(lC.1 h).2.1
end Go.Vs
namespace Go.Vs
theorem Xl{l:List Int}{k:Int}(h:l.length<2000000):M.sr l k=some (l.any λx=>x==k):=by
 unfold M.sr;rw [xx (xs:=l) (λx=>x==k) (λ_=>true)]
 ·have:l.any (λx=>x==k)=(l.findIdx? (λx=>x==k)).isSome:=by
   rw [qch,qbs,List.findIdx?_isSome,qbs]
  rw [this];cases l.findIdx? (λx=>x==k) <;> rfl
 ·intro i hi;have e1:decide ((i:Int)<(l.length:Int))=true:=decide_eq_true (by omega);simp only [e1,cond_true,bT hi,qa0,fx (i:=i) (by omega)];cases l[i]==k <;> rfl
 ·simp
end Go.Vs
namespace Go.Vs
def isKind(k:Int):Bool:=decide (1<=k)&&decide (k<=4)
theorem Da{k:Int}:isKind k=true↔1<=k/\k<=4:=by unfold isKind;simp
theorem Jy(k:Int):M.lk k=some (isKind k):=by
 unfold M.lk isKind;by_cases h:1<=k <;> simp [h]
theorem Jz(k:Int):M.lh k=some (isKind k):=by
 unfold M.lh;simp only [C4,qa0];rfl
theorem Pp{k g0 g1 g2 g3:Int}(h:aba g0 g1 g2 g3)(hk:1<=k/\k<=4):0<=dk k g0 g1 g2 g3:=by
 obtain ⟨n0,n1,n2,n3,m0,m1,m2,m3⟩:=h;have s0:=fR n0 m0;have s1:=fR n1 m1;have s2:=fR n2 m2;have s3:=fR n3 m3;by_cases k1:k=1
 ·subst k1;simp only [dk,if_true];omega
 by_cases k2:k=2
 ·subst k2;rw [dk,if_neg (by omega),if_pos rfl];omega
 by_cases k3:k=3
 ·subst k3;rw [dk,if_neg (by omega),if_neg (by omega),if_pos rfl];omega
 ·have k4:k=4:=by omega
  subst k4;rw [dk,if_neg (by omega),if_neg (by omega),if_neg (by omega),if_pos rfl];omega
theorem LX{k:Int}{a b:List Int}(hk:isKind k=true)(ha:fE a=true)(hb:fE b=true):0<=xw k a b/\xw k a b<1000000:=by
 obtain ⟨x0,x1,x2,x3,rfl,c0,c1,c2,c3⟩:=pY ha;obtain ⟨y0,y1,y2,y3,rfl,e0,e1,e2,e3⟩:=pY hb;rw [C6 ha hb];have G:=Xj c0 c1 c2 c3 e0 e1 e2 e3;exact ⟨Pp G (Da.1 hk),(Tz G).2⟩
theorem GX{k:Int}{a b:List Int}(hk:isKind k=true)(ha:fE a=true)(hb:fE b=true):M.pX k a b=some (xw k a b):=by
 obtain ⟨x0,x1,x2,x3,rfl,c0,c1,c2,c3⟩:=pY ha;obtain ⟨y0,y1,y2,y3,rfl,e0,e1,e2,e3⟩:=pY hb;rw [C6 ha hb];exact Jo (Da.1 hk) c0 c1 c2 c3 e0 e1 e2 e3
theorem GY{k:Int}{a b:List Int}(ha:fE a=true)(hb:fE b=true):M.kr k a b=some (xw k a b):=
 Bo k (by rw [(mP.1 ha).1];omega) (by rw [(mP.1 hb).1];omega)
end Go.Vs
namespace Go.Vs
theorem JA{l m:List Item}(hl:l.Pairwise (λx y=>x.1<y.1))(hm:m.Pairwise (λx y=>x.1<y.1))(h: ∀x,x∈l↔x∈m):l=m:=by
 induction l generalizing m with
 | nil=>
  cases m with
  | nil=>rfl
  | cons y m=>exact absurd ((h y).2 (by simp)) (by simp)
 | cons x l ih=>
  cases m with
  | nil=>exact absurd ((h x).1 (by simp)) (by simp)
  | cons y m=>
   rw [qbf] at hl hm;have J8:x=y:=by
    rcases qa8.1 ((h x).1 (by simp)) with e | hx
    ·exact e
    ·rcases qa8.1 ((h y).2 (by simp)) with e | hy
     ·exact e.symm
     ·have h1:=hl.1 y hy;have h2:=hm.1 x hx;omega
   subst J8;rw [ih hl.2 hm.2 (λz=> ?_)]
   constructor
   ·intro hz;rcases qa8.1 ((h z).1 (by simp [hz])) with e | ZZ
    ·subst e;have:=hl.1 z hz;omega
    ·exact ZZ
   ·intro hz;rcases qa8.1 ((h z).2 (by simp [hz])) with e | ZZ
    ·subst e;have:=hm.1 z hz;omega
    ·exact ZZ
theorem aeX{l:List Item}{x y:Item}:y∈xy l x↔y=x\/(y∈l/\y.1≠x.1):=by
 unfold xy;simp only [qaf,qa8,qaw,decide_eq_true_eq]
 constructor
 ·rintro (⟨h1,h2⟩ | h | ⟨h1,h2⟩)
  ·exact .inr ⟨h1,by omega⟩
  ·exact .inl h
  ·exact .inr ⟨h1,by omega⟩
 ·rintro (h | ⟨h1,h2⟩)
  ·exact .inr (.inl h)
  ·rcases Int.lt_or_lt_of_ne h2 with h3 | h3
   ·exact .inl ⟨h1,h3⟩
   ·exact .inr (.inr ⟨h1,h3⟩)
theorem filter_lt{l:List Item}{k:Int}(hp:l.Pairwise (λx y=>x.1<y.1)):l.filter (λy=>decide (y.1<k))=l.take (dG l k):=by
 induction l with
 | nil=>rfl
 | cons x l ih=>
  rw [qbf] at hp;unfold dG at ih ⊢;rw [List.filter_cons,List.countP_cons];by_cases hx:x.1<k
  ·simp [hx,ih hp.2]
  ·have h0:l.countP (λx=>decide (x.1<k))=0:=by
    rw [qcg];intro y hy;have:=hp.1 y hy;simp;omega
   have h1:=ih hp.2;rw [h0] at h1 ⊢;simp [hx,h1]
theorem Pq{l:List Item}{k:Int}(hp:l.Pairwise (λx y=>x.1<y.1)):l.filter (λy=>decide (k<y.1))=l.drop (dG l k+if (l.any λx=>x.1==k)=true then 1 else 0):=by
 induction l with
 | nil=>rfl
 | cons x l ih=>
  rw [qbf] at hp;have ih:=ih hp.2;unfold dG at ih ⊢;rw [List.filter_cons,List.countP_cons,List.any_cons];by_cases hx:x.1<k
  ·have h2: ¬k<x.1:=by omega
   have h3:(x.1==k)=false:=beq_eq_false_iff_ne.2 (by omega);simp only [hx,h2,h3,decide_true,decide_false,qa6,if_false,if_true,qck,ih];rw [show List.countP (λx=>decide (x.1<k)) l+1+(if (l.any λx=>x.1==k)=true then 1 else 0)=(List.countP (λx=>decide (x.1<k)) l+(if (l.any λx=>x.1==k)=true then 1 else 0))+1 by omega,List.drop_succ_cons]
  ·have h0:l.countP (λx=>decide (x.1<k))=0:=by
    rw [qcg];intro y hy;have:=hp.1 y hy;simp;omega
   have lV:l.filter (λy=>decide (k<y.1))=l:=by
    rw [qci];intro y hy;have:=hp.1 y hy;simp;omega
   rw [h0,lV];by_cases hk:x.1=k
   ·have h2: ¬k<x.1:=by omega
    simp [hk]
   ·have h2:k<x.1:=by omega
    have h3:(x.1==k)=false:=beq_eq_false_iff_ne.2 hk;have h4:(l.any λx=>x.1==k)=false:=by
     rw [List.any_eq_false];intro y hy;have:=hp.1 y hy;simp;omega
    simp [hx,h2,h3,h4]
theorem yM{l:List Item}(h:gI l):M.ju l=some l:=by
 unfold M.ju;rw [Tu (by omega) (by have:=h.1;omega)];simp only [qa0,qb1];rw [Pj (a:=l) (g:=λx=>M.kt (x.1,x.2.1,x.2.2)) h.1 (λx yc=>Jx (h.2 x yc))]
 ·rfl
 ·intro s i hi gA hg;have e1:decide ((i:Int)<(l.length:Int))=true:=decide_eq_true (by omega);simp only [e1,cond_true,bT hi,bT gA,qa0,hg,fx (i:=i) (by have:=h.1;omega),qb1]
 ·intro s;simp
def lU(l:List Item)(k:Int):List Item:=l.filter (λx=>x.1 != k)
theorem Af{l:List Item}{k:Int}{x:Item}:x∈lU l k↔x∈l/\x.1≠k:=by unfold lU;rw [qaw];simp
theorem Ah{l:List Item}{k:Int}:(lU l k).Sublist l:=qax
def vt(l:List Item)(k:Int):List Item×Bool:=if cJ l=true/\(l.any λx=>x.1==k)=true then (lU l k,true) else ([],false)
theorem JB{l:List Item}{k:Int}(hp:l.Pairwise (λx y=>x.1<y.1))(h:(l.any λx=>x.1==k)=true):l.take (dG l k)++l.drop (dG l k+1)=lU l k:=by
 have h1:=filter_lt (k:=k) hp;have h2:=Pq (k:=k) hp;rw [if_pos h] at h2;rw [←h1, ←h2];refine JA ?_ (hp.sublist Ah) (λx=> ?_)
 ·rw [List.pairwise_append];refine ⟨hp.sublist qax,hp.sublist qax,λy hy z hz=> ?_⟩;have h3:y.1<k:=by simpa using (qaw.1 hy).2
  have h4:k<z.1:=by simpa using (qaw.1 hz).2
  omega
 ·simp only [qaf,qaw,decide_eq_true_eq,Af]
  constructor
  ·rintro (⟨h1,h2⟩ | ⟨h1,h2⟩) <;> exact ⟨h1,by omega⟩
  ·rintro ⟨h1,h2⟩;rcases Int.lt_or_lt_of_ne h2 with h3 | h3
   ·exact .inl ⟨h1,h3⟩
   ·exact .inr ⟨h1,h3⟩
theorem uk{l:List Item}{k:Int}(h:gI l):M.ku l k=some (vt l k):=by
 unfold M.ku vt;simp only [h.impl,qa0];cases h1:cJ l with
 | false=>simp
 | true=>
  obtain ⟨hl,hi,hp⟩:=di.1 h1;simp only [qae,cond_false,LV h1,qa0];cases ha:l.any (λx=>x.1==k) with
  | false=>simp
  | true=>
   obtain ⟨bG,_,_⟩:=Po hp ha;simp only [qae,cond_false,yM h,qa0,and_self,if_true];unfold M.dM;have e1:ao ((dG l k:Int)+1)=((dG l k+1:Nat):Int):=fx (by omega);have e2:((dG l k:Int)==((dG l k+1:Nat):Int))=false:=beq_eq_false_iff_ne.2 (by omega);have g0:zG (dG l k:Int) ((dG l k+1:Nat):Int) (l.length:Int) l.length=some ():=by
    unfold zG;rw [if_pos (by omega)]
   have g1:eI l 0 (dG l k:Int)=some (l.take (dG l k)):=by
    rw [kF (by omega) (by omega) (by omega)];simp
   have g2:eI l ((dG l k+1:Nat):Int) (l.length:Int)=some (l.drop (dG l k+1)):=by
    rw [kF (by omega) (by omega) (by omega)];simp
   simp only [e1,g0,e2,cond_false,g1,g2,qa0];rw [iN (by simp;omega)];simp only [qa0,JB hp ha]
section
variable{code:List UInt8}
theorem JC{l:List Item}{k:Int}(h1:cJ l=true)(h2:(l.any λx=>x.1==k)=true):vt l k=(lU l k,true):=by
 unfold vt;rw [if_pos ⟨h1,h2⟩]
end
end Go.Vs
namespace Go.Vs
end Go.Vs
namespace Go.Vs
end Go.Vs
namespace Go.Vs
end Go.Vs
namespace Go.Vs
section
noncomputable abbrev GZ:Int×Int->Int×Int->Option Int:=λx y=>M.dt (x.1,x.2) (y.1,y.2)
end
end Go.Vs
namespace Go.Vs
section
variable{α:Type}[Inhabited α]
def el(d:List α)(i:Nat):α:=d.getD i default
theorem oM{d:List α}{i:Nat}(h:i<d.length):el d i=d[i]:=by simp [el,List.getD,h]
theorem rC{d:List α}{i:Nat}(h:i<d.length):bu d (i:Int)=some (el d i):=by rw [bT h,oM h]
theorem TE{d:List α}{i k:Nat}{x:α}(h:i<d.length):el (d.set i x) k=if k=i then x else el d k:=by
 unfold el;simp only [List.getD_eq_getElem?_getD,List.getElem?_set];by_cases e:i=k
 ·subst e;simp [h]
 ·simp [e,qbq e]
def swp(d:List α)(i j:Nat):List α:=(d.set i (el d j)).set j (el d i)
theorem G0{d:List α}{i j:Nat}:(swp d i j).length=d.length:=by simp [swp]
theorem Db{d:List α}{i j k:Nat}(hi:i<d.length)(hj:j<d.length):el (swp d i j) k=if k=j then el d i else if k=i then el d j else el d k:=by
 unfold swp;rw [TE (by simpa using hj),TE hi]
theorem JD{d:List α}{i j:Nat}(hi:i<d.length)(hj:j<d.length):(swp d i j).Perm d:=by
 unfold swp;rw [oM hi,oM hj];exact List.set_set_perm hi hj
structure mA(a b:Nat)(d d':List α):Prop where
 len:d'.length=d.length
 out: ∀i,i<a\/b<=i->el d' i=el d i
 perm:d'.Perm d
theorem mA.refl{a b:Nat}(d:List α):mA a b d d:=⟨rfl,λ_ _=>rfl,List.Perm.refl _⟩
theorem mA.trans{a b:Nat}{d d' d'':List α}(h:mA a b d d')(k:mA a b d' d''):mA a b d d'':=
 ⟨k.len.trans h.len,λi hi=>(k.out i hi).trans (h.out i hi),k.perm.trans h.perm⟩
theorem mA.swp{a b i j:Nat}{d:List α}(h1:a<=i)(h2:i<b)(h3:a<=j)(h4:j<b)(h5:b<=d.length):mA a b d (swp d i j):=
 ⟨G0,λk hk=>by rw [Db (by omega) (by omega),if_neg (by omega),if_neg (by omega)],JD (by omega) (by omega)⟩
end
structure wj{α:Type}(lt:α->α->Bool)(p:α->Prop):Prop where
 irrefl: ∀x,p x->lt x x=false
 trans: ∀x y z,p x->p y->p z->lt x y=true->lt y z=true->lt x z=true
 total: ∀x y,p x->p y->x≠y->lt x y=true\/lt y x=true
theorem wj.asymm{α:Type}{lt:α->α->Bool}{p:α->Prop}(h:wj lt p){x y:α}(hx:p x)(hy:p y)(hl:lt x y=true):lt y x=false:=by
 cases e:lt y x with
 | false=>rfl
 | true=>have:=h.trans x y x hx hy hx hl e;rw [h.irrefl x hx] at this;cases this
theorem wj.ntrans{α:Type}{lt:α->α->Bool}{p:α->Prop}(h:wj lt p){x y z:α}(hx:p x)(hy:p y)(hz:p z)(h1:lt x y=false)(h2:lt y z=false):lt x z=false:=by
 cases e:lt x z with
 | false=>rfl
 | true=>
  rcases Classical.em (x=y) with rfl | jF
  ·rw [h2] at e;cases e
  ·rcases h.total x y hx hy jF with h' | h'
   ·rw [h1] at h';cases h'
   ·have:=h.trans y x z hy hx hz h' e;rw [h2] at this;cases this
def Nt{α:Type}(cmp:α->α->Option Int)(lt:α->α->Bool)(p:α->Prop):Prop:= ∀x y,p x->p y-> ∃r,cmp x y=some r/\decide (r<0)=lt x y
def LY{α:Type}[Inhabited α](p:α->Prop)(d:List α):Prop:= ∀i,i<d.length->p (el d i)
theorem LY.of{α:Type}[Inhabited α]{p:α->Prop}{d:List α}(h: ∀x∈d,p x):LY p d:=λi hi=>h _ (by rw [oM hi];exact qad _)
theorem LY.perm{α:Type}[Inhabited α]{p:α->Prop}{d d':List α}(h:LY p d)(hp:d'.Perm d):LY p d':=by
 refine LY.of λx hx=> ?_;obtain ⟨i,hi,e⟩:=qal.1 (hp.mem_iff.1 hx);rw [←e, ←oM hi];exact h i hi
def Asc{α:Type}[Inhabited α](lt:α->α->Bool)(a b:Nat)(d:List α):Prop:= ∀i j,a<=i->i<j->j<b->lt (el d j) (el d i)=false
end Go.Vs
namespace Go.Vs
theorem Dc{j:Nat}(h:1<=j)(h2:j<4000000000000000000):ao ((j:Int) - 1)=((j - 1:Nat):Int):=by rw [aV (by omega) (by omega)];omega
section
variable{α:Type}{cmp:α->α->Option Int}{lt:α->α->Bool}{p:α->Prop}
theorem TF(hc:Nt cmp lt p){x y:α}(hx:p x)(hy:p y):(cmp x y).bind (λr=>some (decide (r<0)))=some (lt x y):=by
 obtain ⟨r,h1,h2⟩:=hc x y hx hy;rw [h1,qa0,h2]
end
section
variable{α:Type}[Inhabited α]{cmp:α->α->Option Int}{lt:α->α->Bool}{p:α->Prop}
theorem JE{d:List α}{i j:Nat}{x:α}(hj:j<d.length):bu (d.set i x) (j:Int)=some (el (d.set i x) j):=rC (by simpa using hj)
theorem Xm(d:List α)(i j:Nat):(d.set i (el d j)).set j (el d i)=swp d i j:=rfl
theorem Pr(hc:Nt cmp lt p)(hl:wj lt p){a i:Nat}{d0:List α}(hi:i<d0.length)(hn:d0.length<1000000000)(hp:LY p d0): ∀(d:List α) (j:Nat),a<=j->j<=i->mA a (i+1) d0 d->
   (∀x y,a<=x->x<y->y<=i->x≠j->y≠j->lt (el d y) (el d x)=false)->(∀y,j<y->y<=i->lt (el d y) (el d j)=false)->
   ∃d',cu (fun (s7:(List α)×(Int))=>Option.bind ((bif decide ((a:Int)<s7.2) then
  (bu s7.1 s7.2).bind λM7=>
  (bu s7.1 (ao (s7.2 - 1))).bind λx19=>
  (cmp M7 x19).bind λuu=>
  some (decide (uu<0))
 else
  some false)) λwM=>
  (bif wM then
  (bu s7.1 (ao (s7.2 - 1))).bind λzM=>
  (bu s7.1 s7.2).bind λSz=>
  (bu s7.1 s7.2).bind λx48=>
  (bu (s7.1.set s7.2.toNat zM) (ao (s7.2 - 1))).bind λM9=>
  some (.inl (((s7.1.set s7.2.toNat zM).set (ao (s7.2 - 1)).toNat Sz),ao (s7.2 - 1)))
 else
  some (.inr s7.1))) (d,(j:Int))=some d'/\mA a (i+1) d0 d'/\Asc lt a (i+1) d':=by
  intro d j
  induction j generalizing d with
  | zero=>
   intro ha _ hP h1 h2;have e1:decide ((a:Int)<((0:Nat):Int))=false:=decide_eq_false (by omega);rw [bs];simp only [e1,cond_false,qa0,bm];refine ⟨d,rfl,hP,λx y hx J8 hy=> ?_⟩;by_cases hx0:x=0
   ·subst hx0;exact h2 y J8 (by omega)
   ·exact h1 x y hx J8 (by omega) hx0 (by omega)
  | succ j ih=>
   intro ha hji hP h1 h2;have hlen:=hP.len;have hpd:=hp.perm hP.perm;have ej:ao (((j+1:Nat):Int) - 1)=(j:Int):=Dc (by omega) (by omega);rw [bs];by_cases haj:a<j+1
   ·have e1:decide ((a:Int)<((j+1:Nat):Int))=true:=decide_eq_true (by omega);simp only [e1,cond_true,ej,rC (d:=d) (i:=j+1) (by omega),rC (d:=d) (i:=j) (by omega),qa0,TF hc (hpd (j+1) (by omega)) (hpd j (by omega))];cases bG:lt (el d (j+1)) (el d j) with
    | true=>
     simp only [cond_true,JE (d:=d) (i:=j+1) (j:=j) (x:=el d j) (by omega),qa0,qb1,Xm,bm];have sw: ∀k,el (swp d (j+1) j) k=if k=j then el d (j+1) else if k=j+1 then el d j else el d k:=λk=>Db (by omega) (by omega)
     refine ih (swp d (j+1) j) (by omega) (by omega) (hP.trans (mA.swp (by omega) (by omega) (by omega) (by omega) (by omega))) ?_ ?_
     ·intro x y hx J8 hy hxj hyj;rw [sw,sw,if_neg hyj,if_neg hxj];by_cases LZ:y=j+1
      ·subst LZ;rw [if_pos rfl,if_neg (by omega)];exact h1 x j hx (by omega) (by omega) (by omega) (by omega)
      ·rw [if_neg LZ];by_cases abe:x=j+1
       ·subst abe;rw [if_pos rfl];exact h1 j y (by omega) (by omega) hy (by omega) LZ
       ·rw [if_neg abe];exact h1 x y hx J8 hy abe LZ
     ·intro y hy hyi;rw [sw,sw,if_neg (by omega),if_pos rfl];by_cases LZ:y=j+1
      ·subst LZ;rw [if_pos rfl];exact hl.asymm (hpd _ (by omega)) (hpd _ (by omega)) bG
      ·rw [if_neg LZ];exact h2 y (by omega) hyi
    | false=>
     simp only [cond_false,bm];refine ⟨d,rfl,hP,λx y hx J8 hy=> ?_⟩;by_cases hxj:x=j+1
     ·subst hxj;exact h2 y J8 (by omega)
     ·by_cases hyj:y=j+1
      ·subst hyj;by_cases aje:x=j
       ·subst aje;exact bG
       ·exact hl.ntrans (hpd _ (by omega)) (hpd j (by omega)) (hpd _ (by omega)) bG (h1 x j hx (by omega) (by omega) hxj (by omega))
      ·exact h1 x y hx J8 (by omega) hxj hyj
   ·have e1:decide ((a:Int)<((j+1:Nat):Int))=false:=decide_eq_false (by omega);have:a=j+1:=by omega
    simp only [e1,cond_false,qa0,bm];refine ⟨d,rfl,hP,λx y hx J8 hy=> ?_⟩;by_cases hx0:x=j+1
    ·subst hx0;exact h2 y J8 (by omega)
    ·exact h1 x y hx J8 (by omega) hx0 (by omega)
end
end Go.Vs
namespace Go.Vs
end Go.Vs
namespace Go.Vs
theorem Xn{S R U:Type}{f:S->Option (S⊕R)}(J:S->Prop)(μ:S->Nat)(Z:R->Prop)(step: ∀s,J s->(∃s',f s=some (.inl s')/\J s'/\μ s'<μ s)\/ ∃r,f s=some (.inr r)/\Z r){s:S}(hs:J s){c:R->Option U}{P:U->Prop}
  (hk: ∀r,Z r-> ∃u,c r=some u/\P u): ∃u,(cu f s).bind c=some u/\P u:=by
 obtain ⟨r,h1,h2⟩:=ES J μ Z step s hs;obtain ⟨u,h3,h4⟩:=hk r h2;exact ⟨u,by rw [h1];exact h3,h4⟩
end Go.Vs
namespace Go.Vs
end Go.Vs
namespace Go.Vs
abbrev cQ:=Int×Int
def lS(x y:cQ):Bool:=decide (x.2<y.2\/x.2=y.2/\x.1<y.1)
theorem tP{x y:cQ}:lS x y=true↔x.2<y.2\/x.2=y.2/\x.1<y.1:=by simp [lS]
theorem vZ{x y:cQ}:lS x y=false↔ ¬(x.2<y.2\/x.2=y.2/\x.1<y.1):=by simp [lS]
theorem qK:wj lS (λ_=>True) where
 irrefl x _:=by rw [vZ];omega
 trans x y z _ _ _ h1 h2:=by rw [tP] at *; omega
 total x y _ _ h:=by
  rw [tP,tP];by_cases e:x.2=y.2
  ·have:x.1≠y.1:=λe2=>h (Prod.ext e2 e);omega
  ·omega
theorem TG(a b:Int):M.qs [a,b]=some (if a=0 then b else a):=by
 unfold M.qs;by_cases ha:a=0
 ·subst ha;by_cases hb:b=0
  ·subst hb;rw [bs];have e0:decide ((0:Int)<(([0,0]:List Int).length:Int))=true:=rfl;have g0:bu ([0,0]:List Int) 0=some 0:=rfl;have w0:ao ((0:Int)+1)=1:=rfl;have e1:decide ((1:Int)<(([0,0]:List Int).length:Int))=true:=rfl;have g1:bu ([0,0]:List Int) 1=some 0:=rfl;have w1:ao ((1:Int)+1)=2:=rfl;have e2:decide ((2:Int)<(([0,0]:List Int).length:Int))=false:=rfl;simp only [e0,cond_true,g0,qa0,bne_self_eq_false,cond_false,w0,bm];rw [bs];simp only [e1,cond_true,g1,qa0,bne_self_eq_false,cond_false,w1,bm];rw [bs];simp only [e2,cond_false,qa0,bm,if_true]
  ·rw [bs];have e0:decide ((0:Int)<(([0,b]:List Int).length:Int))=true:=rfl;have g0:bu ([0,b]:List Int) 0=some 0:=rfl;have w0:ao ((0:Int)+1)=1:=rfl;have e1:decide ((1:Int)<(([0,b]:List Int).length:Int))=true:=rfl;have g1:bu ([0,b]:List Int) 1=some b:=rfl;simp only [e0,cond_true,g0,qa0,bne_self_eq_false,cond_false,w0,bm];rw [bs];have fS:(b != 0)=true:=by simpa using hb
   simp only [e1,cond_true,g1,qa0,fS,bm,if_true]
 ·rw [bs];have e0:decide ((0:Int)<(([a,b]:List Int).length:Int))=true:=rfl;have g0:bu ([a,b]:List Int) 0=some a:=rfl;have ha':(a != 0)=true:=by simpa using ha
  simp only [e0,cond_true,g0,qa0,ha',bm,if_neg ha]
theorem qL(x y:cQ): ∃r,M.dt (x.1,x.2) (y.1,y.2)=some r/\decide (r<0)=lS x y/\decide (0<r)=lS y x:=by
 unfold M.dt;simp only [C8,qa0,TG];refine ⟨_,rfl, ?_, ?_⟩
 ·unfold lS;apply decide_eq_decide.2;by_cases h:Ae x.2 y.2=0
  ·rw [if_pos h,yL];rw [sV] at h;omega
  ·rw [if_neg h,yL];rw [sV] at h;omega
 ·unfold lS;apply decide_eq_decide.2;by_cases h:Ae x.2 y.2=0
  ·rw [if_pos h,Jv];rw [sV] at h;omega
  ·rw [if_neg h,Jv];rw [sV] at h;omega
theorem Dd:Nt GZ lS (λ_=>True):=λx y _ _=>by
 obtain ⟨r,h1,h2,_⟩:=qL x y;exact ⟨r,h1,h2⟩
theorem BO{h:List cQ}{i j:Nat}(hi:i<h.length)(hj:j<h.length):M.dV h (i:Int) (j:Int)=some (lS (el h j) (el h i)):=by
 unfold M.dV;obtain ⟨r,h1,_,h3⟩:=qL (el h i) (el h j);simp only [rC hi,rC hj,qa0,h1,h3]
theorem G1{h:List cQ}{i j:Nat}(hi:i<h.length)(hj:j<h.length):M.fH h (i:Int) (j:Int)=some (swp h i j):=by
 unfold M.fH;simp only [rC hi,rC hj,qa0,qb1,JE (d:=h) (i:=i) (j:=j) hj]
 rfl
def HP(n:Nat)(h:List cQ):Prop:= ∀i,0<i->i<n->lS (el h ((i - 1) / 2)) (el h i)=false
theorem Pu{h0:List cQ}(hn:h0.length<1000000000): ∀(m:Nat) (h:List cQ) (j:Nat),j=m->j<h0.length->mA 0 h0.length h0 h->
  (∀i,0<i->i<h0.length->i≠j->lS (el h ((i - 1) / 2)) (el h i)=false)->(∀i,0<i->i<h0.length->0<j->(i - 1) / 2=j->lS (el h ((j - 1) / 2)) (el h i)=false)->
  ∃h',M.bz h (j:Int)=some h'/\mA 0 h0.length h0 h'/\HP h0.length h':=by
 intro m
 induction m using Nat.strongRecOn with
 | _ m ih=>
  intro h j hjm hj hP h1 h2;have hlen:=hP.len;by_cases hj0:j=0
  ·subst hj0;unfold M.bz;rw [bs];have e:(ao ((ao (((0:Nat):Int) - 1)).tdiv 2)==((0:Nat):Int))=true:=rfl;simp only [e,cond_true,qa0,bm];exact ⟨h,rfl,hP,λi vR BD=>h1 i vR BD (by omega)⟩
  ·have ep:ao ((ao ((j:Int) - 1)).tdiv 2)=(((j - 1) / 2:Nat):Int):=by
    rw [Dc (by omega) (by omega),Int.tdiv_eq_ediv_of_nonneg (by omega),aV (by omega) (by omega)];omega
   have ene:((((j - 1) / 2:Nat):Int)==(j:Int))=false:=beq_eq_false_iff_ne.2 (by omega);have hlp:(j - 1) / 2<h.length:=by omega
   cases bG:lS (el h ((j - 1) / 2)) (el h j) with
   | false=>
    unfold M.bz;rw [bs];simp only [ep,ene,cond_false,BO (h:=h) (i:=j) (j:=(j - 1) / 2) (by omega) hlp,qa0,bG,qcl,cond_true,bm];refine ⟨h,rfl,hP,λi vR BD=> ?_⟩;by_cases qk:i=j
    ·subst qk;exact bG
    ·exact h1 i vR BD qk
   | true=>
    have sw: ∀k,el (swp h ((j - 1) / 2) j) k=if k=j then el h ((j - 1) / 2) else if k=(j - 1) / 2 then el h j else el h k:=λk=>Db hlp (by omega)
    have j6:M.bz h (j:Int)=M.bz (swp h ((j - 1) / 2) j) (((j - 1) / 2:Nat):Int):=by
     conv=>lhs;unfold M.bz
     rw [bs];simp only [ep,ene,cond_false,BO (h:=h) (i:=j) (j:=(j - 1) / 2) (by omega) hlp,qa0,bG,qae,cond_false,G1 (h:=h) (i:=(j - 1) / 2) (j:=j) hlp (by omega),bm]
     rfl
    rw [j6];have asy:=qK.asymm trivial trivial bG;refine ih ((j - 1) / 2) (by omega) _ _ rfl (by omega) (hP.trans (mA.swp (by omega) (by omega) (by omega) (by omega) (by omega))) ?_ ?_
    ·intro i vR BD hip;rw [sw,sw];by_cases qk:i=j
     ·subst qk;rw [if_pos rfl,if_neg (by omega),if_pos rfl];exact asy
     ·rw [if_neg qk,if_neg hip];by_cases hpj:(i - 1) / 2=j
      ·rw [if_pos hpj];exact h2 i vR BD (by omega) hpj
      ·rw [if_neg hpj];by_cases hpp:(i - 1) / 2=(j - 1) / 2
       ·rw [if_pos hpp];have:=h1 i vR BD qk;rw [hpp] at this;exact qK.ntrans trivial trivial trivial asy this
       ·rw [if_neg hpp];exact h1 i vR BD qk
    ·intro i vR BD hp0 hpi;have aeY:=h1 ((j - 1) / 2) hp0 (by omega) (by omega);rw [sw,sw,if_neg (by omega),if_neg (by omega)];by_cases qk:i=j
     ·subst qk;rw [if_pos rfl];exact aeY
     ·rw [if_neg qk,if_neg (by omega)];have:=h1 i vR BD qk;rw [hpi] at this;exact qK.ntrans trivial trivial trivial aeY this
theorem Xo{h:List cQ}(hn:h.length<1000000)(hh:HP h.length h)(x:cQ): ∃h',M.bP h (x.1,x.2)=some h'/\h'.Perm (x::h)/\HP h'.length h':=by
 unfold M.bP M.fz M.iA;rw [iN (by simp;omega)];have hl:(h++[(x.1,x.2)]).length=h.length+1:=by simp
 have e:ao (((h++[(x.1,x.2)]).length:Int) - 1)=(h.length:Int):=by rw [hl,aV (by omega) (by omega)];omega
 simp only [qa0,e];have ea: ∀k,k<h.length->el (h++[(x.1,x.2)]) k=el h k:=λk hk=>by
  rw [oM (by omega),oM hk,qb7 hk]
 obtain ⟨h',h1,h2,h3⟩:=Pu (h0:=h++[(x.1,x.2)]) (by omega) h.length _ h.length rfl (by omega) (mA.refl _)
  (λi vR BD jF=>by rw [ea _ (by omega),ea _ (by omega)];exact hh i vR (by omega)) (λi vR BD _ hpi=>by omega)
 rw [h1];refine ⟨h',rfl,h2.perm.trans ?_,by rw [h2.len];exact h3⟩;exact qc6 (l₁:=h) (l₂:=[x])
theorem HP.top{n:Nat}{h:List cQ}(hh:HP n h): ∀i,i<n->lS (el h 0) (el h i)=false:=by
 intro i
 induction i using Nat.strongRecOn with
 | _ i ih=>
  intro hi;by_cases h0:i=0
  ·subst h0;exact qK.irrefl _ trivial
  ·exact qK.ntrans trivial trivial trivial (ih ((i - 1) / 2) (by omega) (by omega)) (hh i (by omega) hi)
theorem JF{h0:List cQ}{n:Nat}(hn:h0.length<1000000)(Vk:n<=h0.length): ∃r,M.cR h0 0 (n:Int)=some r/\
  ((∀k,0<k->k<n->(k - 1) / 2≠0->lS (el h0 ((k - 1) / 2)) (el h0 k)=false)->mA 0 n h0 r.2/\HP n r.2):=by
 unfold M.cR;refine Xn (λs=> ∃(h:List cQ) (i:Nat),s=(h,(i:Int))/\i<=h0.length/\h.length=h0.length/\((∀k,0<k->k<n->(k - 1) / 2≠0->lS (el h0 ((k - 1) / 2)) (el h0 k)=false)->mA 0 n h0 h/\
   (∀k,0<k->k<n->(k - 1) / 2≠i->lS (el h ((k - 1) / 2)) (el h k)=false)/\(∀k,0<k->k<n->0<i->(k - 1) / 2=i->lS (el h ((i - 1) / 2)) (el h k)=false))) (λs=>((h0.length:Int) - s.2).toNat)
  (λr=>(∀k,0<k->k<n->(k - 1) / 2≠0->lS (el h0 ((k - 1) / 2)) (el h0 k)=false)->mA 0 n h0 r.1/\HP n r.1) ?_
  ⟨h0,0,rfl,by omega,rfl,λhh=>⟨mA.refl _,λk h1 h2 h3=>hh k h1 h2 h3,λk _ _ h=>absurd h (qc1 _)⟩⟩ (λr hr=>⟨_,rfl,hr⟩)
 rintro _ ⟨h,i,rfl,hi,hlen,hJ⟩;have e1:ao ((ao (2*(i:Int)))+1)=((2*i+1:Nat):Int):=by rw [aV (n:=2*(i:Int)) (by omega) (by omega),aV (by omega) (by omega)];omega
 have e2:ao (((2*i+1:Nat):Int)+1)=((2*i+2:Nat):Int):=by rw [aV (by omega) (by omega)];omega
 simp only [e1,e2];by_cases hc:n<=2*i+1
 ·right;have e3:decide ((n:Int)<=((2*i+1:Nat):Int))=true:=decide_eq_true (by omega);refine ⟨(h,(i:Int)),by simp only [e3,cond_true,qa0],λhh=> ?_⟩;obtain ⟨j1,j2,j3⟩:=hJ hh;exact ⟨j1,λk k1 k2=>j2 k k1 k2 (by omega)⟩
 ·have e3:decide ((n:Int)<=((2*i+1:Nat):Int))=false:=decide_eq_false (by omega);have e4:decide (((2*i+1:Nat):Int)<0)=false:=decide_eq_false (by omega);obtain ⟨j,hj1,Z2,hj3,hj4⟩: ∃j:Nat,(Option.bind ((bif decide (((2*i+2:Nat):Int)<(n:Int)) then (M.dV h ((2*i+2:Nat):Int) ((2*i+1:Nat):Int)).bind λru=>some ru else some false)) λwM=>(bif wM then some ((2*i+2:Nat):Int) else some ((2*i+1:Nat):Int)))=some (j:Int)/\(j - 1) / 2=i/\(0<j/\j<n)/\(∀k,0<k->k<n->(k - 1) / 2=i->lS (el h j) (el h k)=false):=by
   by_cases UR:2*i+2<n
   ·have e5:decide (((2*i+2:Nat):Int)<(n:Int))=true:=decide_eq_true (by omega);simp only [e5,cond_true,BO (h:=h) (i:=2*i+2) (j:=2*i+1) (by omega) (by omega),qa0];cases bG:lS (el h (2*i+1)) (el h (2*i+2)) with
    | true=>
     refine ⟨2*i+2,rfl,by omega,by omega,λk k1 k2 k3=> ?_⟩;rcases (show k=2*i+1\/k=2*i+2 by omega) with rfl | rfl
     ·exact qK.asymm trivial trivial bG
     ·exact qK.irrefl _ trivial
    | false=>
     refine ⟨2*i+1,rfl,by omega,by omega,λk k1 k2 k3=> ?_⟩;rcases (show k=2*i+1\/k=2*i+2 by omega) with rfl | rfl
     ·exact qK.irrefl _ trivial
     ·exact bG
   ·have e5:decide (((2*i+2:Nat):Int)<(n:Int))=false:=decide_eq_false (by omega);simp only [e5,cond_false,qa0];refine ⟨2*i+1,rfl,by omega,by omega,λk k1 k2 k3=> ?_⟩;have:k=2*i+1:=by omega
    subst this;exact qK.irrefl _ trivial
  have hrw: ∀{β:Type} (g:Int->Option β),(Option.bind ((bif decide (((2*i+2:Nat):Int)<(n:Int)) then (M.dV h ((2*i+2:Nat):Int) ((2*i+1:Nat):Int)).bind λru=>some ru else some false)) λwM=>Option.bind (bif wM then some ((2*i+2:Nat):Int) else some ((2*i+1:Nat):Int)) g)=g (j:Int):=by
   intro β g;rw [←Option.bind_assoc,hj1];rfl
  simp only [e3,cond_false,e4,qa0];rw [hrw];simp only [BO (h:=h) (i:=j) (j:=i) (by omega) (by omega),qa0];cases bG:lS (el h i) (el h j) with
  | false=>
   right;refine ⟨(h,(i:Int)),by simp only [qcl,cond_true],λhh=> ?_⟩;obtain ⟨j1,j2,j3⟩:=hJ hh;refine ⟨j1,λk k1 k2=> ?_⟩;by_cases hk:(k - 1) / 2=i
   ·rw [hk];exact qK.ntrans trivial trivial trivial bG (hj4 k k1 k2 hk)
   ·exact j2 k k1 k2 hk
  | true=>
   left;have sw: ∀k,el (swp h i j) k=if k=j then el h i else if k=i then el h j else el h k:=λk=>Db (by omega) (by omega)
   refine ⟨(swp h i j,(j:Int)),by simp only [qae,cond_false,G1 (h:=h) (i:=i) (j:=j) (by omega) (by omega),qa0],⟨swp h i j,j,rfl,by omega,by rw [G0];exact hlen,λhh=> ?_⟩,by simp only;omega⟩;obtain ⟨j1,j2,j3⟩:=hJ hh;have asy:=qK.asymm trivial trivial bG;refine ⟨j1.trans (mA.swp (by omega) (by omega) (by omega) (by omega) (by omega)),λk k1 k2 k3=> ?_,λk k1 k2 k3 k4=> ?_⟩
   ·rw [sw,sw,if_neg k3];by_cases hkj:k=j
    ·subst hkj;rw [if_pos rfl,if_pos Z2];exact asy
    ·rw [if_neg hkj];by_cases hki:k=i
     ·subst hki;rw [if_pos rfl,if_neg (by omega)];exact j3 j (by omega) (by omega) (by omega) Z2
     ·rw [if_neg hki];by_cases hp:(k - 1) / 2=i
      ·rw [if_pos hp];exact hj4 k k1 k2 hp
      ·rw [if_neg hp];exact j2 k k1 k2 hp
   ·rw [sw,sw,if_neg (by omega),if_pos Z2,if_neg (by omega),if_neg (by omega)];have:=j2 k k1 k2 (by omega);rw [k4] at this;exact this
end Go.Vs
namespace Go.Vs
def lZ(x:cQ):List cQ->List cQ
 | []=>[x]
 | y::r=>if lS x y then x::y::r else y::lZ x r
def yN(l:List cQ):Prop:=l.Pairwise λx y=>lS y x=false
theorem sW(x:cQ)(l:List cQ):(lZ x l).Perm (x::l):=by
 induction l with
 | nil=>exact List.Perm.refl _
 | cons y r ih=>
  unfold lZ;split
  ·exact List.Perm.refl _
  ·exact (List.Perm.cons y ih).trans (List.Perm.swap x y r)
theorem De{x:cQ}{l:List cQ}(h:yN l):yN (lZ x l):=by
 induction l with
 | nil=>exact List.pairwise_singleton _ _
 | cons y r ih=>
  obtain ⟨h1,h2⟩:=qbf.1 h;unfold lZ;split
  ·rename_i bG;refine qbf.2 ⟨λz hz=> ?_,h⟩;rcases qa8.1 hz with rfl | hz
   ·exact qK.asymm trivial trivial bG
   ·exact qK.ntrans trivial trivial trivial (h1 z hz) (qK.asymm trivial trivial bG)
  ·rename_i bG;refine qbf.2 ⟨λz hz=> ?_,ih h2⟩;rcases qa8.1 ((sW x r).mem_iff.1 hz) with rfl | hz
   ·simpa using bG
   ·exact h1 z hz
theorem tQ{x y:cQ}(h1:lS x y=false)(h2:lS y x=false):x=y:=by
 rcases Classical.em (x=y) with h | h
 ·exact h
 ·rcases qK.total x y trivial trivial h with h' | h'
  ·rw [h1] at h';cases h'
  ·rw [h2] at h';cases h'
theorem yO{l m:List cQ}(hl:yN l)(hm:yN m)(h:l.Perm m):l=m:=
 List.Perm.eq_of_pairwise (le:=λx y=>lS y x=false) (λ_ _ _ _ h1 h2=>tQ h2 h1) hl hm h
theorem JG(x:cQ)(l:List cQ):(lZ x l).length=l.length+1:=by rw [(sW x l).length_eq];rfl
theorem E7(x:cQ): ∀(k:Nat) (l:List cQ),(lZ x (l.take k)).take k=(lZ x l).take k
 | 0,l=>by simp
 | k+1,[]=>by simp
 | k+1,y::r=>by
  rw [qc0];unfold lZ;split
  ·rw [qc0,qc0];cases k with
   | zero=>simp
   | succ k=>simp [List.take_take]
  ·rw [qc0,qc0,E7 x k r]
def fF(l:List cQ):List cQ:=l.foldl (λS x=>lZ x S) []
theorem dS(l:List cQ):yN (fF l)/\(fF l).Perm l:=by
 have key: ∀(l S:List cQ),yN S->yN (l.foldl (λS x=>lZ x S) S)/\(l.foldl (λS x=>lZ x S) S).Perm (S++l):=by
  intro l
  induction l with
  | nil=>intro S h;exact ⟨h,by simp⟩
  | cons x r ih=>
   intro S h;obtain ⟨h1,h2⟩:=ih (lZ x S) (De h);refine ⟨h1,h2.trans ?_⟩;have:=List.Perm.append_right r (sW x S);exact this.trans (List.perm_middle.symm)
 exact key l [] List.Pairwise.nil
theorem L0(l:List cQ)(x:cQ):fF (l++[x])=lZ x (fF l):=by simp [fF]
theorem E8(l:List cQ):(fF l).length=l.length:=(dS l).2.length_eq
theorem tR{l m:List cQ}(hm:yN m)(h:m.Perm l):fF l=m:=yO (dS l).1 hm ((dS l).2.trans h.symm)
def cP(k:Nat)(l:List cQ):List cQ:=(fF l).take k
theorem pZ(k:Nat)(l:List cQ)(x:cQ):cP k (l++[x])=(lZ x (cP k l)).take k:=by
 unfold cP;rw [L0,E7]
theorem qM(k:Nat)(l:List cQ):yN (cP k l):=(dS l).1.sublist (List.take_sublist _ _)
theorem lD(k:Nat)(l:List cQ):(cP k l).length=min k l.length:=by simp [cP,E8]
theorem vu(k:Nat)(l:List cQ): ∀x∈cP k l,x∈l:=λx hx=>(dS l).2.mem_iff.1 (List.mem_of_mem_take hx)
theorem abf{h:List cQ}(hn:h.length<1000000)(h1:0<h.length)(hh:HP h.length h): ∃x h',M.cX h=some (x,h')/\(h'++[x]).Perm h/\HP h'.length h'/\ ∀y∈h,lS x y=false:=by
 unfold M.cX M.iA;have el1:ao ((h.length:Int) - 1)=((h.length - 1:Nat):Int):=Dc h1 (by omega);have e0:(0:Int)=((0:Nat):Int):=rfl;simp only [qa0,el1];rw [e0,G1 h1 (by omega)];simp only [qa0];have hs:(swp h 0 (h.length - 1)).length=h.length:=G0;obtain ⟨r,hr,hJ⟩:=JF (h0:=swp h 0 (h.length - 1)) (n:=h.length - 1) (by omega) (by omega);have sw: ∀k,el (swp h 0 (h.length - 1)) k=if k=h.length - 1 then el h 0 else if k=0 then el h (h.length - 1) else el h k:=λk=>Db h1 (by omega)
 obtain ⟨j1,j2⟩:=hJ (λk k1 k2 k3=>by
  rw [sw,sw,if_neg (by omega),if_neg k3,if_neg (by omega),if_neg (by omega)];exact hh k k1 (by omega))
 rw [←e0,hr];simp only [qa0];unfold M.lJ;have db:r.2.length=h.length:=by rw [j1.len,hs]
 have el2:ao ((r.2.length:Int) - 1)=((h.length - 1:Nat):Int):=by rw [db];exact el1
 have Zg:el r.2 (h.length - 1)=el h 0:=by rw [j1.out _ (by omega),sw,if_pos rfl]
 rw [el2,rC (by omega),kF (by omega) (by omega) (by omega)];simp only [qa0,qb1,Zg,Int.toNat_zero,qcc];refine ⟨_,_,rfl, ?_, ?_, ?_⟩
 ·have:r.2.take (h.length - 1)++[el h 0]=r.2:=by
   have:=qb4 (l:=r.2) (i:=h.length - 1) (by omega);rw [←oM (by omega),Zg,show h.length - 1+1=r.2.length by omega,qbv] at this;exact this.symm
  show (r.2.take (h.length - 1)++[el h 0]).Perm h;rw [this];exact j1.perm.trans (JD h1 (by omega))
 ·have ht:(r.2.take (h.length - 1)).length=h.length - 1:=by simp;omega
  rw [ht];intro i i1 i2;have e: ∀k,k<h.length - 1->el (r.2.take (h.length - 1)) k=el r.2 k:=λk hk=>by
   rw [oM (by omega),oM (by omega),qcd]
  rw [e _ (by omega),e _ (by omega)];exact j2 i i1 i2
 ·intro y hy;obtain ⟨i,hi,rfl⟩:=qal.1 hy;rw [←oM hi];exact hh.top i hi
theorem TH{T kept:List cQ}{k:Nat}(hk:k<=1000)(hT:yN T)(hTk:T.length<=k)(hh:HP kept.length kept)(hp:kept.Perm T)(x:cQ):
  ∃sX,M.dF ((k:Int),kept) (x.1,x.2)=some ((k:Int),sX)/\HP sX.length sX/\sX.Perm ((lZ x T).take k):=by
 unfold M.dF;have K5:=hp.length_eq;obtain ⟨k1,h1,h2,h3⟩:=Xo (h:=kept) (by omega) hh x;simp only [h1,qa0];have wV:k1.length=T.length+1:=by rw [h2.length_eq];simp [K5]
 have hp1:k1.Perm (lZ x T):=h2.trans ((List.Perm.cons x hp).trans (sW x T).symm);have hil:=JG x T;by_cases hc:k<k1.length
 ·have e1:decide ((k:Int)<(k1.length:Int))=true:=decide_eq_true (by omega);obtain ⟨mx,k2,g1,g2,g3,g4⟩:=abf (h:=k1) (by omega) (by omega) h3;simp only [e1,cond_true,g1,qa0];refine ⟨k2,rfl,g3, ?_⟩;have hI:=De (x:=x) hT;have jF:lZ x T≠[]:=by intro e;rw [e] at hil;simp at hil
  have hdl:lZ x T=(lZ x T).take k++[(lZ x T).getLast jF]:=by
   have h:=List.dropLast_concat_getLast jF;rw [List.dropLast_eq_take,show (lZ x T).length - 1=k by omega] at h;exact h.symm
  have PZ:mx=(lZ x T).getLast jF:=by
   refine tQ (g4 _ (hp1.mem_iff.2 (List.getLast_mem jF))) ?_;have OG:mx∈lZ x T:=hp1.mem_iff.1 (g2.mem_iff.1 (by simp));rw [hdl] at OG hI;rcases qaf.1 OG with h | h
   ·exact (List.pairwise_append.1 hI).2.2 _ h _ (by simp)
   ·rw [qbe.1 h];exact qK.irrefl _ trivial
  have:=(g2.trans hp1);rw [hdl, ←PZ] at this;exact (List.perm_append_right_iff _).1 this
 ·have e1:decide ((k:Int)<(k1.length:Int))=false:=decide_eq_false (by omega);simp only [e1,cond_false];refine ⟨k1,rfl,h3, ?_⟩;rw [qby (by omega)];exact hp1
theorem L4{T kept:List cQ}(hT:yN T)(hp:kept.Perm T)(EX:T.Nodup)(hl:T.length<=16)(k:Int):M.fh (k,kept)=some T:=by
 unfold M.fh M.aP M.bo M.bB M.dA M.bb;have K5:=hp.length_eq;have QP:M.zr kept=some kept:=by unfold M.zr;rw [if_pos (by omega)]
 simp only [qa0,QP];obtain ⟨d',h1,h2,h3⟩:=IF (cmp:=GZ) (lt:=lS) (xs:=kept) (by omega) (λx _ y _=>Dd x y trivial trivial) (λx _=>qK.irrefl x trivial) (λx _ y _ z _=>qK.trans x y z trivial trivial trivial) (λx _ y _=>qK.total x y trivial trivial);rw [h1];simp only [qa0];exact congrArg some (yO h3 hT (h2.trans hp))
theorem E9(x y:cQ):M.jM (x.1,x.2) (y.1,y.2)=some (lS x y):=by
 unfold M.jM lS;by_cases h1:x.2<y.2
 ·simp [h1]
 ·by_cases h2:x.2=y.2
  ·simp [h2]
  ·have h3:(x.2==y.2)=false:=beq_eq_false_iff_ne.2 h2;simp [h1,h2,h3]
def abg:cQ->cQ->Option Int:=λx y=>some (if lS x y then -1 else 0)
theorem Nu:Nt abg lS (λ_=>True):=λx y _ _=>⟨_,rfl,by cases h:lS x y <;> simp⟩
theorem Ai{S:List cQ}{k:Nat}(hS:yN S)(hl:S.length<=1000)(hk:k<=1000)(x:cQ):M.ln S (x.1,x.2) (k:Int)=some ((lZ x S).take k):=by
  unfold M.ln;rw [iN (by simp;omega)];simp only [qa0,qba];rw [iN (by simp;omega)];simp only [qa0];have hlen:(S++[(x.1,x.2)]).length=S.length+1:=by simp
  have e1:ao (((S++[(x.1,x.2)]).length:Int) - 1)=(S.length:Int):=by rw [hlen,aV (by omega) (by omega)];omega
  have hf:(fun (gT:(List (Int×Int))×(Int))=>Option.bind ((bif decide (0<gT.2) then
  (bu gT.1 gT.2).bind λuw=>
  (bu gT.1 (ao (gT.2 - 1))).bind λxH=>
  (M.jM (uw.1,uw.2) (xH.1,xH.2)).bind λSr=>
  some Sr
 else
  some false)) λqt=>
  (bif qt then
  (bu gT.1 gT.2).bind λx44=>
  (bu gT.1 (ao (gT.2 - 1))).bind λM9=>
  (bu gT.1 gT.2).bind λx61=>
  (bu (gT.1.set gT.2.toNat (M9.1,M9.2)) (ao (gT.2 - 1))).bind λx68=>
  some (.inl (((gT.1.set gT.2.toNat (M9.1,M9.2)).set (ao (gT.2 - 1)).toNat (x44.1,x44.2)),ao (gT.2 - 1)))
 else
  some (.inr gT.1):Option ((List cQ×Int)⊕List cQ)))=(fun (s7:(List cQ)×(Int))=>Option.bind ((bif decide (((0:Nat):Int)<s7.2) then
  (bu s7.1 s7.2).bind λM7=>
  (bu s7.1 (ao (s7.2 - 1))).bind λx19=>
  (abg M7 x19).bind λuu=>
  some (decide (uu<0))
 else
  some false)) λwM=>
  (bif wM then
  (bu s7.1 (ao (s7.2 - 1))).bind λzM=>
  (bu s7.1 s7.2).bind λSz=>
  (bu s7.1 s7.2).bind λx48=>
  (bu (s7.1.set s7.2.toNat zM) (ao (s7.2 - 1))).bind λM9=>
  some (.inl (((s7.1.set s7.2.toNat zM).set (ao (s7.2 - 1)).toNat Sz),ao (s7.2 - 1)))
 else
  some (.inr s7.1))):=by
   funext s;have ec: ∀a b:cQ,((M.jM (a.1,a.2) (b.1,b.2)).bind λSr=>some Sr)=((abg a b).bind λuu=>some (decide (uu<0))):=by
    intro a b;rw [E9,TF Nu trivial trivial];rfl
   have ec2: ∀(a:Option cQ) (b:Option cQ) (c:Option cQ) (g:cQ->Option cQ) (F:cQ->cQ->Option ((List cQ×Int)⊕List cQ)),(a.bind λx44=>b.bind λM9=>c.bind λx61=>(g M9).bind λ_=>F M9 x44)=(b.bind λzM=>a.bind λSz=>c.bind λx48=>(g zM).bind λ_=>F zM Sz):=by
    intro a b c g F;cases a <;> cases b <;> rfl
   simp only [ec,Int.cast_ofNat_Int];congr 1;funext o;cases o with
   | false=>rfl
   | true=>exact ec2 (bu s.1 s.2) (bu s.1 (ao (s.2 - 1))) (bu s.1 s.2) (λy=>bu (s.1.set s.2.toNat y) (ao (s.2 - 1))) (λy z=>some (.inl (((s.1.set s.2.toNat y).set (ao (s.2 - 1)).toNat z),ao (s.2 - 1))))
  rw [hf,e1];have ea: ∀i,i<S.length->el (S++[(x.1,x.2)]) i=el S i:=λi hi=>by rw [oM (by omega),oM hi,qb7 hi]
  obtain ⟨d',h1,h2,h3⟩:=Pr Nu qK (a:=0) (i:=S.length) (d0:=S++[(x.1,x.2)]) (by omega) (by omega) (λ_ _=>trivial) (S++[(x.1,x.2)]) S.length (qa7 _) (qa2 _) (mA.refl _)
   (λu v _ huv hv uL Hz=>by
    rw [ea u (by omega),ea v (by omega),oM (by omega),oM (by omega)];exact qas.1 hS u v _ _ huv) (λy h h'=>by omega)
  rw [h1];have hdl:d'.length=S.length+1:=by rw [h2.len,hlen]
  have ajf:yN d':=by
   refine qas.2 λi j hi hj qk=> ?_;have:=h3 i j (qa7 _) qk (by omega);rwa [oM hi,oM hj] at this
  have hd:d'=lZ x S:=yO ajf (De hS) (h2.perm.trans ((qc6 (l₁:=S) (l₂:=[x])).trans (sW x S).symm));have hil:=JG x S;simp only [qa0];rw [hd,kF (by omega) (by omega) (by omega)];simp only [qa0,Int.toNat_zero,qcc,qah];by_cases hc:k<=(lZ x S).length
  ·rw [show (min (k:Int) ((lZ x S).length:Int)).toNat=k by omega]
  ·rw [show (min (k:Int) ((lZ x S).length:Int)).toNat=(lZ x S).length by omega,qbv,qby (by omega)]
def bC(l:List Item)(kind:Int)(at_:List Int):List cQ:=l.map λx=>(x.1,xw kind x.2.1 at_)
theorem L6{l:List Item}{kind:Int}{at_:List Int}:(bC l kind at_).length=l.length:=by simp [bC]
theorem G2{l:List Item}{kind:Int}{at_:List Int}(hp:l.Pairwise (λx y=>x.1<y.1)):(bC l kind at_).Nodup:=by
 unfold bC List.Nodup;rw [List.pairwise_map];refine hp.imp λh e=> ?_;have:=congrArg Prod.fst e;simp only at this;omega
theorem tS{k:Nat}{l:List cQ}(h:l.Nodup):(cP k l).Nodup:=by
 unfold cP;exact (List.take_sublist _ _).nodup ((dS l).2.nodup_iff.2 h)
theorem JH{l:List Item}{kind:Int}{at_:List Int}{i:Nat}(hi:i<l.length):bC (l.take (i+1)) kind at_=bC (l.take i) kind at_++[(l[i].1,xw kind l[i].2.1 at_)]:=by
 unfold bC;rw [qb4 hi,qc7];rfl
def fj(l:List Item)(kind:Int)(at_:List Int):Bool:=cJ l&&isKind kind&&fE at_
def oN(l:List Item)(kind:Int)(at_:List Int)(k:Int):List cQ:=if fj l kind at_=true/\1<=k/\k<=16 then cP k.toNat (bC l kind at_) else []
theorem iw{l:List Item}{kind:Int}{at_:List Int}:fj l kind at_=true↔cJ l=true/\isKind kind=true/\fE at_=true:=by simp [fj,and_assoc]
theorem G3{l:List Item}{kind:Int}{at_:List Int}{k:Nat}(abh: ∀x∈l,fE x.2.1=true)(pv:isKind kind=true)(hv:fE at_=true)(hlen:l.length<=1000)(hk:k<=1000):M.lK l kind at_ (k:Int)=some (cP k (bC l kind at_)):=by
 unfold M.lK;refine lR (xs:=l) (fun (s:List cQ) i=>(s,i)) (λs x=>(lZ (x.1,xw kind x.2.1 at_) s).take k) (λi s=>s=cP k (bC (l.take i) kind at_)) (λs=>s) (s0:=[]) (by simp [bC,cP,fF]) ?_ ?_ ?_
 ·rintro s i hi rfl;have e1:decide ((i:Int)<(l.length:Int))=true:=decide_eq_true (by omega);have hx:=abh _ (qad hi);have hL:=lD k (bC (l.take i) kind at_);simp only [e1,cond_true,bT hi,qa0,GX pv hx hv,fx (i:=i) (by omega)];have:=Ai (k:=k) (qM k (bC (l.take i) kind at_)) (by rw [hL];omega) hk (l[i].1,xw kind l[i].2.1 at_);simp only at this;rw [this];refine ⟨rfl, ?_⟩;rw [←pZ,JH hi]
 ·intro s _;simp
 ·intro hs;rw [hs,qbv]
theorem Bp{l:List Item}{kind:Int}{at_:List Int}{k:Nat}(hq:fj l kind at_=true)(hk:k<=1000):M.lK l kind at_ (k:Int)=some (cP k (bC l kind at_)):=by
 obtain ⟨ho,pv,hv⟩:=iw.1 hq;obtain ⟨hlen,hit,_⟩:=di.1 ho;exact G3 (λx hx=>C9 (hit x hx)) pv hv (by omega) hk
theorem xz(n a b:Int):M.dE n a b=some (decide (a<=n/\n<=b)):=by
 unfold M.dE;by_cases h:a<=n <;> simp [h]
theorem Eh{l:List Item}{kind:Int}{at_:List Int}(h:gI l)(ha:at_.length<2000000):M.j8 l kind at_=some (fj l kind at_):=by
 unfold M.j8 fj;simp only [h.Zf,Jz,C5 at_ ha,qa0];cases cJ l <;> cases isKind kind <;> simp
theorem JI(k:Int):M.iR k=some (decide (1<=k/\k<=16)):=by
 unfold M.iR;by_cases h1:1<=k <;> simp [h1]
theorem qN{l:List Item}{kind:Int}{at_:List Int}{k:Int}(h:gI l)(ha:at_.length<2000000):M.gE l kind at_ k=some (decide (fj l kind at_=true/\1<=k/\k<=16)):=by
 unfold M.gE fj;simp only [h.impl,Jy,tO at_ ha,JI,qa0];cases cJ l <;> cases isKind kind <;> cases fE at_ <;> simp
theorem Xp{l:List Item}{D:Item->Int}{n:Nat}(hn:n<=1000){f:((Int)×(List (Int×Int)))×(Int)->Option ((((Int)×(List (Int×Int)))×(Int))⊕((Int)×(List (Int×Int))))}(hlen:l.length<=16)
  (hs: ∀i (h:i<l.length) (kept:List cQ),f (((n:Int),kept),(i:Int))=(M.dF ((n:Int),kept) (l[i].1,D l[i])).bind λr=>some (.inl ((r.1,r.2),((i+1:Nat):Int))))
  (he: ∀kept:List cQ,f (((n:Int),kept),(l.length:Int))=some (.inr ((n:Int),kept))):
  ∃sX,cu f (((n:Int),[]),0)=some ((n:Int),sX)/\sX.Perm (cP n (l.map λx=>(x.1,D x))):=by
 have key: ∀m i:Nat,i+m=l.length-> ∀kept:List cQ,HP kept.length kept->kept.Perm (cP n ((l.take i).map λx=>(x.1,D x)))->
   ∃sX,cu f (((n:Int),kept),(i:Int))=some ((n:Int),sX)/\sX.Perm (cP n (l.map λx=>(x.1,D x))):=by
  intro m
  induction m with
  | zero=>
   intro i hi kept hh hp;have:i=l.length:=by omega
   subst this;rw [qbv] at hp;rw [bs,he];exact ⟨kept,rfl,hp⟩
  | succ m ih=>
   intro i hi kept hh hp;have hil:i<l.length:=by omega
   have hL:=lD n ((l.take i).map λx=>(x.1,D x));obtain ⟨sX,g1,g2,g3⟩:=TH (k:=n) hn (qM n ((l.take i).map λx=>(x.1,D x))) (by omega) hh hp (l[i].1,D l[i]);simp only at g1;rw [bs,hs i hil,g1];simp only [qa0,bm];refine ih (i+1) (by omega) sX g2 ?_;rw [←pZ] at g3;rw [qb4 hil,qc7];exact g3
 have:=key l.length 0 (by omega) [] (λi h1 h2=>by simp at h2) (by simp [cP,fF]);rw [show ((0:Nat):Int)=0 from rfl] at this;exact this
theorem G4{l:List Item}{kind:Int}{at_:List Int}{n:Nat}(abh: ∀x∈l,fE x.2.1=true)(hv:fE at_=true)(EX:(bC l kind at_).Nodup)(hlen:l.length<=16)(hn:n<=1000):M.iX l kind at_ (n:Int)=some (cP n (bC l kind at_)):=by
  unfold M.iX M.dB;obtain ⟨sX,g1,g2⟩:=Xp (l:=l) (D:=λx=>xw kind x.2.1 at_) (n:=n) hn (f:=fun (s5:((Int)×(List (Int×Int)))×(Int))=>(bif decide (s5.2<(l.length:Int)) then
  (bu l s5.2).bind λoK=>
  (M.dJ (oK.1,oK.2.1,oK.2.2) kind at_).bind λze=>
  (M.dF (s5.1.1,s5.1.2) (oK.1,ze)).bind λKg=>
  some (.inl ((Kg.1,Kg.2),ao (s5.2+1)))
 else
  some (.inr (s5.1.1,s5.1.2)))) hlen (λi hi kept=>by
   have e1:decide ((i:Int)<(l.length:Int))=true:=decide_eq_true (by omega);unfold M.dJ;simp only [e1,cond_true,bT hi,qa0,GY (abh _ (qad hi)) hv,fx (i:=i) (by omega)]) (λkept=>by simp)
  rw [g1];have hL:=lD n (bC l kind at_);have db:=L6 (l:=l) (kind:=kind) (at_:=at_);simp only [qa0,L4 (qM n (bC l kind at_)) g2 (tS EX) (by omega)]
theorem vv{l:List Item}{kind:Int}{at_:List Int}{k:Int}(h:gI l)(ha:at_.length<2000000):M.im l kind at_ k=some (oN l kind at_ k):=by
 unfold M.im oN;simp only [qN h ha,qa0];by_cases hk:fj l kind at_=true/\1<=k/\k<=16
 ·obtain ⟨n,rfl⟩:=qb0 (show 0<=k by omega);obtain ⟨ho,pv,hv⟩:=iw.1 hk.1;obtain ⟨hlen,hit,hpw⟩:=di.1 ho;have rG:(1:Int)<=(n:Int)/\(n:Int)<=16:=hk.2;have abi:decide (fj l kind at_=true/\(1:Int)<=(n:Int)/\(n:Int)<=16)=true:=decide_eq_true hk;rw [abi,if_pos (show fj l kind at_=true/\(1:Int)<=(n:Int)/\(n:Int)<=16 from hk)];simp only [qae,cond_false,G4 (n:=n) (λx hx=>C9 (hit x hx)) hv (G2 hpw) hlen (by omega),qa0,qb1]
 ·have abi:decide (fj l kind at_=true/\1<=k/\k<=16)=false:=decide_eq_false hk;rw [abi,if_neg hk];rfl
end Go.Vs
namespace Go.Vs
theorem abj(x y:cQ):(([x.1,x.2]:List Int)==([y.1,y.2]:List Int))=(x==y):=by
 rw [qch];simp only [beq_iff_eq,List.cons.injEq,and_true];exact Prod.ext_iff.symm
theorem pN{a b:List cQ}(ha:a.length<2000000):M.fg a b=some (decide (a=b)):=by
 unfold M.fg;simp only [abj];by_cases hl:a.length=b.length
 ·have e:((a.length:Int) != (b.length:Int))=false:=by simp;omega
  simp only [e,cond_false];rw [sU (xs:=a.zip b) (P:=λp=>p.1==p.2) (r:=false)]
  ·by_cases h:a=b
   ·subst h;have:(a.zip a).all (λp=>p.1==p.2)=true:=by
     rw [qab];intro p hp;obtain ⟨i,hi,rfl⟩:=qal.1 hp;simp
    rw [if_pos this];simp [bm]
   ·have: ¬(a.zip b).all (λp=>p.1==p.2)=true:=by
     intro hh;apply h;apply List.ext_getElem hl;intro i h1 h2;rw [qab] at hh;have:=hh (a[i],b[i]) (qal.2 ⟨i,by simp;omega,by simp⟩);simpa using this
    rw [if_neg this];simp [bm,h]
  ·intro i hi;have vR:i<a.length:=by simp at hi;omega
   have BD:i<b.length:=by simp at hi;omega
   have e1:decide ((i:Int)<(a.length:Int))=true:=by simpa using vR
   have e2:ao ((i:Int)+1)=(i:Int)+1:=aV (by omega) (by omega);simp only [e1,cond_true,bT vR,bT BD,qa0,e2,List.getElem_zip];cases hc:(a[i]==b[i]) <;> simp
  ·have:(a.zip b).length=a.length:=by simp;omega
   rw [this];simp
 ·have e:((a.length:Int) != (b.length:Int))=true:=by simp;omega
  have:a≠b:=λh=>hl (by rw [h]);simp [e,this]
theorem vw{l:List Item}{kind:Int}{at_:List Int}{k:Int}:(oN l kind at_ k).length<=16:=by
 unfold oN;split
 ·rename_i h;have:=lD k.toNat (bC l kind at_);omega
 ·simp
theorem vx{l:List Item}{kind:Int}{at_:List Int}{k:Int}(h:fj l kind at_=true)(h1:1<=k)(h2:k<=16):oN l kind at_ k=cP k.toNat (bC l kind at_):=if_pos ⟨h,h1,h2⟩
theorem xA{l:List Item}{kind:Int}{at_:List Int}{h:cQ}:h∈bC l kind at_↔ ∃x∈l,h=(x.1,xw kind x.2.1 at_):=by
 unfold bC;rw [qc5]
 constructor
 ·rintro ⟨x,hx,rfl⟩;exact ⟨x,hx,rfl⟩
 ·rintro ⟨x,hx,rfl⟩;exact ⟨x,hx,rfl⟩
end Go.Vs
namespace Go.Vs
theorem Xq{l:List cQ}(h:l.length<1000000):M.ss l=some (l.map (·.1)):=by
 unfold M.ss;refine lR (xs:=l) (fun (s:List Int) i=>(s,i)) (λs x=>s++[x.1]) (λi s=>s.length<=i) (λs=>s) (s0:=[]) (by simp) ?_ ?_ ?_
 ·rintro s i hi hs;have e1:decide ((i:Int)<(l.length:Int))=true:=decide_eq_true (by omega);simp only [e1,cond_true,bT hi,qa0,fx (i:=i) (by omega)];rw [iN (by simp;omega)];exact ⟨rfl,by simp;omega⟩
 ·intro s _;simp
 ·intro _;rw [foldl_map];simp
end Go.Vs
namespace Go.Vs
theorem G5(q:cQ->Bool)(l:List cQ):fF (l.filter q)=(fF l).filter q:=
 tR ((dS l).1.sublist qax) ((dS l).2.filter q)
theorem TJ{l:List Item}{kind:Int}{at_:List Int}{k:Int}:bC (lU l k) kind at_=(bC l kind at_).filter λh=>h.1 != k:=by
 unfold bC lU;rw [List.filter_map];rfl
end Go.Vs
namespace Go.Vs
end Go.Vs
namespace Go.Vs
end Go.Vs
namespace Go.Vs
end Go.Vs
namespace Go.Vs
end Go.Vs
namespace Go.Vs
end Go.Vs
namespace Go.Vs
end Go.Vs
namespace Go.Vs
end Go.Vs
namespace Go.Vs
end Go.Vs
namespace Go.Vs
end Go.Vs
namespace Go.Vs
end Go.Vs
namespace Go.Vs
end Go.Vs
namespace Go.Vs
end Go.Vs
namespace Go.Vs
end Go.Vs
namespace Go.Vs
end Go.Vs
namespace Go.Vs
end Go.Vs
namespace Go.Vs
end Go.Vs
namespace Go.Vs
end Go.Vs
namespace Go.Vs
theorem Df{α:Type}(p q:α->Bool)(l:List α)(h: ∀x∈l,p x=true->q x=false):(l.filter p++l.filter q).Perm (l.filter λx=>p x || q x):=by
 induction l with
 | nil=>simp
 | cons x r ih=>
  have ih:=ih (λy hy=>h y (by simp [hy]));by_cases hp:p x=true
  ·have hq:=h x (by simp) hp;rw [List.filter_cons_of_pos hp,List.filter_cons_of_neg (by simp [hq]),List.filter_cons_of_pos (by simp [hp])];exact List.Perm.cons x ih
  ·simp only [qbg] at hp;by_cases hq:q x=true
   ·rw [List.filter_cons_of_neg (by simp [hp]),List.filter_cons_of_pos hq,List.filter_cons_of_pos (by simp [hq])];exact List.perm_middle.trans (List.Perm.cons x ih)
   ·simp only [qbg] at hq;rw [List.filter_cons_of_neg (by simp [hp]),List.filter_cons_of_neg (by simp [hq]),List.filter_cons_of_neg (by simp [hp,hq])];exact ih
end Go.Vs
namespace Go.Vs
end Go.Vs
namespace Go.Vs
end Go.Vs
namespace Go.Vs
end Go.Vs
namespace Go.Vs
end Go.Vs
namespace Go.Vs
end Go.Vs
namespace Go.Vs
end Go.Vs
namespace Go.Vs
end Go.Vs
namespace Go.Vs
end Go.Vs
namespace Go.Vs
end Go.Vs
namespace Go.Vs
end Go.Vs
namespace Go.Vs
end Go.Vs
namespace Go.Vs
end Go.Vs
namespace Go.Vs
end Go.Vs
namespace Go.Vs
end Go.Vs
namespace Go.Vs
theorem wa{k:Nat}{l m:List cQ}(h:l.Perm m):cP k l=cP k m:=by
 unfold cP;rw [tR (dS m).1 ((dS m).2.trans h.symm)]
theorem TK{k:Nat}(hk:k<=500000){r:List UInt8×Int}(hr:Good k r): ∃x r',M.qq (r.1,r.2)=some (x,(r'.1,r'.2))/\Good (k+1) r'/\0<=x/\x<=17:=by
 obtain ⟨x,⟨p,q⟩,h1,g1,m1⟩:=vq (by omega) hr (list:=[1,2,3,5,16,4,0,17]) (by simp);have Qx:M.cV (r.1,r.2) [1,2,3,5,16,4,0,17]=some (x,(p,q)):=h1;refine ⟨x,(p,q),by unfold M.qq;simp only [Qx,qa0],g1, ?_⟩;simp only [qa8,qap,or_false] at m1;omega
end Go.Vs
namespace Go.Vs
theorem Xr(h:cQ):lS h h=false:=by rw [vZ];omega
theorem wb{a b c:cQ}(h1:lS a b=true)(h2:lS b c=true):lS a c=true:=by
 rw [tP] at *; omega
theorem TL{a b:cQ}(h:lS a b=true):lS b a=false:=by
 rw [tP] at h;rw [vZ];omega
end Go.Vs
namespace Go.Vs
end Go.Vs
namespace Go.Vs
end Go.Vs
namespace Go.Vs
theorem Pv{S T R:Type}(st:S->Int->T)(g:S->Nat->S)(Inv:Nat->S->Prop){fin:S->R}{f:T->Option (T⊕R)}(n:Nat)
  (hs: ∀s i,i<n->Inv i s->f (st s (i:Int))=some (.inl (st (g s i) ((i+1:Nat):Int)))/\Inv (i+1) (g s i)) (he: ∀s,Inv n s->f (st s (n:Int))=some (.inr (fin s))):
  ∀(m a:Nat) (s:S),a+m=n->Inv a s->cu f (st s (a:Int))=some (fin ((List.range' a m).foldl g s))/\Inv n ((List.range' a m).foldl g s):=by
 intro m
 induction m with
 | zero=>
  intro a s h hi;have:a=n:=by omega
  subst this;rw [bs,he s hi];simpa [bm] using hi
 | succ m ih=>
  intro a s h hi;obtain ⟨h1,h2⟩:=hs s a (by omega) hi;rw [bs,h1,List.range'_succ];exact ih (a+1) _ (by omega) h2
theorem Pw{S T R U:Type}(st:S->Int->T)(g:S->Nat->S)(Inv:Nat->S->Prop)(fin:S->R){f:T->Option (T⊕R)}(a n:Nat){s0:S}{k:R->Option U}{r:Option U}(ha:a<=n)(h0:Inv a s0)
  (hs: ∀s i,i<n->Inv i s->f (st s (i:Int))=some (.inl (st (g s i) ((i+1:Nat):Int)))/\Inv (i+1) (g s i)) (he: ∀s,Inv n s->f (st s (n:Int))=some (.inr (fin s)))
  (hk:Inv n ((List.range' a (n - a)).foldl g s0)->k (fin ((List.range' a (n - a)).foldl g s0))=r):(cu f (st s0 (a:Int))).bind k=r:=by
 obtain ⟨h1,h2⟩:=Pv st g Inv (fin:=fin) n hs he (n - a) a s0 (by omega) h0;rw [h1];exact hk h2
end Go.Vs
namespace Go.Vs
end Go.Vs
namespace Go.Vs
def Zh(x:cQ):Bool:=decide (1<=x.1/\x.1<=99)&&decide (0<=x.2/\x.2<=1000000)
def Qd(l:List cQ)(i:Nat):cQ:=l.getD i (0,0)
theorem nK{l:List cQ}{i:Nat}(h:i<l.length):Qd l i=l[i]:=by unfold Qd;simp [List.getD,h]
def yP(l:List cQ)(i:Nat):Bool:=Zh (Qd l i)&&(decide (i=0) || lS (Qd l (i - 1)) (Qd l i))&&(l.take i).all λy=> !(y.1==(Qd l i).1)
def uE(l:List cQ):Bool:=(List.range l.length).all (yP l)&&decide (l.length<=16)
theorem qO{l:List cQ}:uE l=true↔(∀x∈l,Zh x=true)/\l.Pairwise (λx y=>lS x y=true)/\(l.map (·.1)).Nodup/\l.length<=16:=by
 unfold uE;rw [qa4,qab,decide_eq_true_eq]
 constructor
 ·rintro ⟨h,hl⟩;have hh: ∀i (hi:i<l.length),yP l i=true:=λi hi=>h i (qav.2 hi);simp only [yP,qa4,qc3,decide_eq_true_eq,qab,qbh,beq_eq_false_iff_ne] at hh;refine ⟨?_, ?_, ?_,hl⟩
  ·intro x hx;obtain ⟨i,hi,rfl⟩:=qal.1 hx;have:=(hh i hi).1.1;rwa [nK hi] at this
  ·rw [qas];have adj: ∀i (hi:i+1<l.length),lS l[i] l[i+1]=true:=by
    intro i hi;have:=(hh (i+1) hi).1.2;rcases this with h0 | h1
    ·omega
    ·rw [nK hi] at h1;rw [show i+1 - 1=i by omega,nK (by omega:i<l.length)] at h1;exact h1
   intro i j hi hj qk;have key: ∀m, ∀(h:i+m+1<l.length),lS l[i] l[i+m+1]=true:=by
    intro m
    induction m with
    | zero=>intro h;exact adj i h
    | succ m ih=>intro h;exact wb (ih (by omega)) (adj (i+m+1) h)
   have:=key (j - i - 1) (by omega);simpa [show i+(j - i - 1)+1=j by omega] using this
  ·rw [List.nodup_iff_pairwise_ne,qas];intro i j hi hj qk;simp only [qbu] at hi hj;have:=(hh j hj).2 l[i] (qal.2 ⟨i,by rw [qan];omega,by simp⟩);rw [nK hj] at this;simpa using this
 ·rintro ⟨h1,h2,h3,h4⟩;refine ⟨λi hi=> ?_,h4⟩;have hi:=qav.1 hi;simp only [yP,qa4,qc3,decide_eq_true_eq,qab,qbh,beq_eq_false_iff_ne,nK hi];refine ⟨⟨h1 _ (qad hi), ?_⟩, ?_⟩
  ·by_cases h0:i=0
   ·exact .inl h0
   ·refine .inr ?_;rw [nK (by omega:i - 1<l.length)];exact (qas.1 h2) (i - 1) i (by omega) hi (by omega)
  ·intro y hy;obtain ⟨k,hk,rfl⟩:=qal.1 hy;rw [qan] at hk;rw [List.nodup_iff_pairwise_ne,qas] at h3;have:=h3 k i (by simp;omega) (by simp;omega) (by omega);simpa using this
theorem Px{l:List cQ}{i:Nat}(hi:i<l.length)(hl:l.length<=2000000){R:Type}(r:R):
  (cu (fun (Kh:(Int))=>(bif decide (Kh<(i:Int)) then
    (bu l Kh).bind λx55=>
    (bif x55.1==l[i].1 then
    some (Sum.inr (Sum.inr r):Int⊕(Unit⊕R))
   else
    some (Sum.inl (ao (Kh+1))))
   else
    some (Sum.inr (Sum.inl ())))) 0)=some (if (l.take i).all (λy=> !(y.1==(l[i]).1)) then Sum.inl () else Sum.inr r):=by
 refine sU (xs:=l.take i) (P:=λy=> !(y.1==(l[i]).1)) (r:=r) ?_ ?_
 ·intro k hk;have rG:k<i:=by rw [qan] at hk;omega
  have e1:decide ((k:Int)<(i:Int))=true:=decide_eq_true (by omega);simp only [e1,cond_true,bT (show k<l.length by omega),qa0,fx (i:=k) (by omega),qcd];cases l[k].1==l[i].1 <;> simp
 ·rw [qan,Nat.min_eq_left (by omega)];simp
theorem sY{l:List cQ}(hl:l.length<=2000000):M.jv l=some (uE l):=by
 unfold M.jv;have key: ∀i (h:i<(List.range l.length).length),yP l (List.range l.length)[i]=yP l i:=by intro i h;simp
 rw [sU (xs:=List.range l.length) (P:=yP l) (r:=false) ?_ ?_]
 ·unfold uE;cases (List.range l.length).all (yP l) with
  | true=>simp [bm];omega
  | false=>simp [bm]
 ·intro i h;have hi:i<l.length:=by simpa using h
  have e1:decide ((i:Int)<(l.length:Int))=true:=decide_eq_true (by omega);rw [key i h];simp only [e1,cond_true,bT hi,qa0,xz,Px hi hl false,fx (i:=i) (show i<4000000000000000000 by omega)];unfold yP;rw [nK hi];unfold Zh;cases hk:decide (1<=l[i].1/\l[i].1<=99) with
  | false=>simp
  | true=>
   cases hd:decide (0<=l[i].2/\l[i].2<=1000000) with
   | false=>simp
   | true=>
    simp only [qae,cond_false,qbo,qa0];by_cases h0:i=0
    ·subst h0;simp [bm]
    ·have e2:decide ((0:Int)<(i:Int))=true:=decide_eq_true (by omega);have e3:ao ((i:Int) - 1)=((i - 1:Nat):Int):=by rw [aV (by omega) (by omega)];omega
     have e4:decide (i=0)=false:=decide_eq_false h0;simp only [e2,e3,e4,cond_true,bT (show i - 1<l.length by omega),qa0,E9,qck,nK (show i - 1<l.length by omega)];cases hn:lS l[i - 1] l[i] with
     | false=>simp
     | true=>
      simp only [qae,cond_false,qbo];cases (l.take i).all (λy=> !(y.1==l[i].1)) <;> simp [bm]
 ·simp
def uF(l:List cQ)(key:Int):Option Nat:=l.findIdx? λy=>y.1==key
def G6(l:List cQ)(key:Int):Int:=match uF l key with | some i=>(i:Int) | none=> -1
theorem yQ{l:List cQ}{key:Int}(hl:l.length<=2000000):M.nZ l key=some (G6 l key):=by
 unfold M.nZ G6 uF;rw [xx (xs:=l) (λy=>y.1==key) (λi=>(i:Int)) ?_ ?_]
 ·cases l.findIdx? (λy=>y.1==key) <;> simp [bm]
 ·intro i hi;have e1:decide ((i:Int)<(l.length:Int))=true:=decide_eq_true (by omega);simp only [e1,cond_true,bT hi,qa0,fx (i:=i) (by omega)];cases l[i].1==key <;> simp
 ·simp
theorem sZ{l:List cQ}{key:Int}{i:Nat}(h:uF l key=some i): ∃hi:i<l.length,l[i].1=key:=by
 unfold uF at h;rw [List.findIdx?_eq_some_iff_getElem] at h;obtain ⟨hi,h1,_⟩:=h;exact ⟨hi,by simpa using h1⟩
theorem Aj{l:List cQ}{key:Int}:uF l key=none↔ ∀x∈l,x.1≠key:=by
 unfold uF;rw [List.findIdx?_eq_none_iff];simp
theorem Nv{l:List cQ}(hn:(l.map (·.1)).Nodup){i:Nat}(hi:i<l.length):uF l l[i].1=some i:=by
 unfold uF;rw [List.findIdx?_eq_some_iff_getElem];refine ⟨hi,by simp,λj hj=> ?_⟩;rw [List.nodup_iff_pairwise_ne,qas] at hn;have:=hn j i (by simp;omega) (by simp;omega) hj;simpa using this
end Go.Vs
namespace Go.Vs
def vy(b:List cQ)(x:cQ):Bool:=match uF b x.1 with | none=>true | some n=>decide (x.2<=(Qd b n).2)
def mh(a:List cQ)(x:cQ):Bool:=match uF a x.1 with | none=>true | some n=>decide (x.2<(Qd a n).2)
def mrg(a b:List cQ):List cQ:=a.filter (vy b)++b.filter (mh a)
def Dg(a b:List cQ)(k:Int):List cQ:=if uE a=true/\uE b=true/\1<=k/\k<=16 then cP k.toNat (mrg a b) else []
theorem G7{a b:List cQ}{k:Int}(ha:a.length<=2000000)(hb:b.length<=2000000):M.lr a b k=some (Dg a b k):=by
 unfold M.lr Dg;simp only [sY ha,sY hb,xz,qa0];cases hoa:uE a with
 | false=>simp
 | true=>
  cases hob:uE b with
  | false=>simp
  | true=>
   by_cases hk:1<=k/\k<=16
   rotate_left
   ·have:=decide_eq_false hk;simp [this,hk]
   have hd:=decide_eq_true hk;obtain ⟨n,rfl⟩:=qb0 (show 0<=k by omega);obtain ⟨_,_,_,hal⟩:=qO.1 hoa;obtain ⟨_,_,_,hbl⟩:=qO.1 hob;simp only [hd,qae,cond_false,qa0,true_and];rw [if_pos hk,qb1];have len: ∀l:List cQ,(cP n l).length<=1000:=λl=>by rw [lD];omega
   refine lR (xs:=a) (fun (s:List cQ) i=>(s,i)) (λs x=>if vy b x=true then (lZ x s).take n else s) (λi s=>s=cP n ((a.take i).filter (vy b))) (λs=>s) (s0:=[]) (by simp [cP,fF]) ?_ ?_ ?_
   ·rintro s i hi rfl;have e1:decide ((i:Int)<(a.length:Int))=true:=decide_eq_true (by omega);simp only [e1,cond_true,bT hi,qa0,yQ hb,fx (i:=i) (show i<4000000000000000000 by omega),Ai (qM _ _) (len _) (show n<=1000 by omega)];rw [qb4 hi,List.filter_append];unfold G6;have hkA:vy b a[i]=match uF b a[i].1 with | none=>true | some n=>decide (a[i].2<=(Qd b n).2):=rfl
    cases hp:uF b a[i].1 with
    | none=>
     rw [hp] at hkA;have e2:vy b a[i]=true:=hkA;simp [e2,pZ]
    | some m=>
     rw [hp] at hkA;obtain ⟨hm,_⟩:=sZ hp;have e3:decide ((m:Int)<0)=false:=decide_eq_false (by omega);simp only [e3,cond_false,bT hm,qa0];rw [←nK hm];cases hc:decide (a[i].2<=(Qd b m).2) with
     | true=>
      have e2:vy b a[i]=true:=by rw [hkA];exact hc
      simp [e2,pZ]
     | false=>
      have e2:vy b a[i]=false:=by rw [hkA];exact hc
      simp [e2]
   ·intro s _;simp
   ·intro hs;rw [hs,qbv];refine lR (xs:=b) (fun (s:List cQ) i=>(s,i)) (λs x=>if mh a x=true then (lZ x s).take n else s) (λi s=>s=cP n (a.filter (vy b)++(b.take i).filter (mh a))) (λs=>s) (s0:=cP n (a.filter (vy b))) (by simp) ?_ ?_ ?_
    ·rintro s i hi rfl;have e1:decide ((i:Int)<(b.length:Int))=true:=decide_eq_true (by omega);simp only [e1,cond_true,bT hi,qa0,yQ ha,fx (i:=i) (show i<4000000000000000000 by omega),Ai (qM _ _) (len _) (show n<=1000 by omega)];rw [qb4 hi,List.filter_append, ←List.append_assoc];unfold G6;have hkB:mh a b[i]=match uF a b[i].1 with | none=>true | some n=>decide (b[i].2<(Qd a n).2):=rfl
     cases hp:uF a b[i].1 with
     | none=>
      rw [hp] at hkB;have e2:mh a b[i]=true:=hkB;simp [e2,pZ, ←List.append_assoc]
     | some m=>
      rw [hp] at hkB;obtain ⟨hm,_⟩:=sZ hp;have e3:decide ((m:Int)<0)=false:=decide_eq_false (by omega);simp only [e3,cond_false,bT hm,qa0];rw [←nK hm];cases hc:decide (b[i].2<(Qd a m).2) with
      | true=>
       have e2:mh a b[i]=true:=by rw [hkB];exact hc
       simp [e2,pZ, ←List.append_assoc]
      | false=>
       have e2:mh a b[i]=false:=by rw [hkB];exact hc
       simp [e2]
    ·intro s _;simp
    ·intro hs2;rw [hs2,qbv]
     rfl
end Go.Vs
namespace Go.Vs
end Go.Vs
namespace Go.Vs
theorem G8(x y:cQ): ∃r,M.dt (x.1,x.2) (y.1,y.2)=some r/\decide (0<=r)= !lS x y:=by
 obtain ⟨r,h1,h2,_⟩:=qL x y;refine ⟨r,h1, ?_⟩;rw [←h2,qch];simp
end Go.Vs
namespace Go.Vs
theorem yR{l:List cQ}{key:Int}(hl:l.length<=2000000):M.lM l key=some (G6 l key):=by
 unfold M.lM M.bS G6 uF;rw [xx (xs:=l) (λy=>y.1==key) (λi=>(i:Int)) ?_ ?_]
 ·cases l.findIdx? (λy=>y.1==key) <;> simp [bm]
 ·intro i hi;have e1:decide ((i:Int)<(l.length:Int))=true:=decide_eq_true (by omega);simp only [e1,cond_true,bT hi,qa0,M.jT,fx (i:=i) (by omega)];cases l[i].1==key <;> simp
 ·simp
theorem JJ{l:List cQ}{key:Int}:decide (G6 l key<0)=l.all λy=> !(y.1==key):=by
 unfold G6;cases h:uF l key with
 | none=>
  have:=Aj.1 h;rw [qch];simp only [qab,qbh,beq_eq_false_iff_ne,decide_eq_true_eq];exact ⟨λ_=>this,λ_=>by omega⟩
 | some i=>
  obtain ⟨hi,e⟩:=sZ h;have h1:decide ((i:Int)<0)=false:=decide_eq_false (by omega);have h2:(l.all λy=> !(y.1==key))=false:=by
   rw [List.all_eq_false];exact ⟨l[i],qad hi,by simp [e]⟩
  rw [h2];exact h1
theorem Xt{l:List cQ}{key:Int}:decide (0<=G6 l key)= !(l.all λy=> !(y.1==key)):=by
 rw [←JJ,qch];simp
theorem AL(k:Int):M.iu k=some (decide (1<=k/\k<=99)):=by
 unfold M.iu;by_cases h1:1<=k
 ·by_cases h2:k<=99 <;> simp [h1,h2]
 ·simp [h1]
theorem Bq(h:cQ):M.mn (h.1,h.2)=some (Zh h):=by
 unfold M.mn Zh;simp only [AL,qa0];by_cases h1:1<=h.1/\h.1<=99
 ·have e1:decide (1<=h.1/\h.1<=99)=true:=decide_eq_true h1;simp only [e1,cond_true,qbo];by_cases h2:0<=h.2
  ·simp [h2]
  ·simp [h2]
 ·have e1:decide (1<=h.1/\h.1<=99)=false:=decide_eq_false h1;simp only [e1,cond_false,Bool.false_and]
theorem Fa{l:List cQ}(hl:l.length<=2000000):M.jw l=some (uE l):=by
 unfold M.jw;by_cases h16:(16:Int)<(l.length:Int)
 ·have:uE l=false:=by
   unfold uE;rw [show decide (l.length<=16)=false from decide_eq_false (by omega),Bool.and_false]
  simp [h16,this]
 simp only [h16,decide_false,cond_false];have key: ∀i (h:i<(List.range l.length).length),yP l (List.range l.length)[i]=yP l i:=by intro i h;simp
 rw [sU (xs:=List.range l.length) (P:=yP l) (r:=false) ?_ ?_]
 ·unfold uE;rw [show decide (l.length<=16)=true from decide_eq_true (by omega),Bool.and_true];cases (List.range l.length).all (yP l) <;> simp [bm]
 ·intro i h;have hi:i<l.length:=by simpa using h
  have e1:decide ((i:Int)<(l.length:Int))=true:=decide_eq_true (by omega);rw [key i h];have hgs:eI l 0 (i:Int)=some (l.take i):=by
   rw [kF (xs:=l) (show (0:Int)<=0 by omega) (show (0:Int)<=(i:Int) by omega) (by omega)];simp
  have htl:(l.take i).length<=2000000:=by rw [qan];omega
  simp only [e1,cond_true,bT hi,qa0,Bq,hgs,yR htl,Xt,fx (i:=i) (show i<4000000000000000000 by omega)];unfold yP;rw [nK hi];cases hv:Zh l[i] with
  | false=>simp
  | true=>
   simp only [qae,cond_false,qbo];by_cases h0:i=0
   ·subst h0;simp
   ·have e2:decide ((0:Int)<(i:Int))=true:=decide_eq_true (by omega);have e3:ao ((i:Int) - 1)=((i - 1:Nat):Int):=by rw [aV (by omega) (by omega)];omega
    have e4:decide (i=0)=false:=decide_eq_false h0;obtain ⟨r,hr1,hr2⟩:=G8 l[i - 1] l[i];simp only [e2,e3,e4,cond_true,bT (show i - 1<l.length by omega),qa0,hr1,hr2,qck,nK (show i - 1<l.length by omega)];cases hn:lS l[i - 1] l[i] with
    | false=>simp
    | true=>
     simp only [qae,cond_false,qbo];cases (l.take i).all (λy=> !(y.1==l[i].1)) <;> simp
 ·simp
end Go.Vs
namespace Go.Vs
theorem JK{l:List cQ}(h:(l.map (·.1)).Nodup):l.Nodup:=List.Pairwise.of_map (·.1) (λa b h e=>h (congrArg _ e)) h
theorem key_inj{l:List cQ}(h:(l.map (·.1)).Nodup){x y:cQ}(hx:x∈l)(hy:y∈l)(e:x.1=y.1):x=y:=by
 obtain ⟨i,hi,rfl⟩:=qal.1 hx;obtain ⟨j,hj,rfl⟩:=qal.1 hy;have h1:=Nv h hi;rw [e,Nv h hj] at h1;cases qai h1;rfl
end Go.Vs
namespace Go.Vs
theorem yS{α:Type}[DecidableEq α]: ∀{l m:List α},l.Nodup->(∀x∈l,x∈m)->l.length<=m.length
 | [],m,_,_=>qa7 _
 | x::t,m,hn,hs=>by
  obtain ⟨h1,h2⟩:=List.nodup_cons.1 hn;have hx:x∈m:=hs x (by simp);have:=yS (m:=m.erase x) h2 (λy hy=>(List.mem_erase_of_ne (by rintro rfl;exact h1 hy)).2 (hs y (by simp [hy])));rw [List.length_erase_of_mem hx] at this;have:0<m.length:=List.length_pos_of_mem hx;simp only [qb2];omega
theorem G9{x y:cQ}(h:x≠y)(h2:lS y x=false):lS x y=true:=by
 cases h1:lS x y with
 | true=>rfl
 | false=>exact absurd (tQ h1 h2) h
theorem yT{L:List cQ}(hn:L.Nodup):(fF L).Pairwise (λx y=>lS x y=true):=by
 have h1:=(dS L).1;have h2:(fF L).Nodup:=(dS L).2.nodup_iff.2 hn;exact (List.Pairwise.and h2 h1).imp λh=>G9 h.1 h.2
theorem wP{A:List cQ}(h:A.Pairwise (λx y=>lS x y=true)){i:Nat}(hi:i<A.length):A.filter (λy=>lS y A[i])=A.take i:=by
 rw [qas] at h;generalize hx:A[i]=x
 conv=>lhs;rw [←List.take_append_drop i A,List.filter_append]
 have e1:(A.take i).filter (λy=>lS y x)=A.take i:=by
  rw [qci];intro y hy;obtain ⟨j,hj,rfl⟩:=qal.1 hy;rw [qan] at hj;rw [qcd, ←hx];exact h j i (by omega) hi (by omega)
 have e2:(A.drop i).filter (λy=>lS y x)=[]:=by
  rw [List.filter_eq_nil_iff];intro y hy;obtain ⟨j,hj,rfl⟩:=qal.1 hy;rw [List.length_drop] at hj;rw [List.getElem_drop, ←hx];by_cases h0:j=0
  ·subst h0;simp [Xr]
  ·rw [TL (h i (i+j) hi (by omega) (by omega))];simp
 rw [e1,e2,List.append_nil]
def Fb(L:List cQ)(x:cQ):Nat:=(L.filter λy=>lS y x).length
theorem we{k:Nat}{L:List cQ}(hn:L.Nodup){x:cQ}:x∈cP k L↔x∈L/\Fb L x<k:=by
 have hs:=yT hn;have hp:=(dS L).2;have hc:Fb L x=((fF L).filter λy=>lS y x).length:=(hp.filter _).length_eq.symm;unfold cP;rw [hc]
 constructor
 ·intro h;obtain ⟨i,hi,rfl⟩:=qal.1 h;rw [qan] at hi;rw [qcd];refine ⟨hp.mem_iff.1 (qad (by omega)), ?_⟩;rw [wP hs (by omega),qan];omega
 ·rintro ⟨h1,h2⟩;obtain ⟨i,hi,rfl⟩:=qal.1 (hp.mem_iff.2 h1);rw [wP hs hi,qan] at h2;exact qal.2 ⟨i,by rw [qan];omega,by simp⟩
theorem Xu{k:Nat}{L M:List cQ}(hl:L.Nodup)(hm:M.Nodup)(h: ∀x,x∈cP k L↔x∈cP k M):cP k L=cP k M:=
 yO (qM _ _) (qM _ _) ((List.perm_ext_iff_of_nodup (tS hl) (tS hm)).2 h)
def Bst(S:List cQ)(x:cQ):Prop:=x∈S/\ ∀y∈S,y.1=x.1->x.2<=y.2
structure BL(S L:List cQ):Prop where
 keys:(L.map (·.1)).Nodup
 mem: ∀x,x∈L↔Bst S x
theorem BL.nodup{S L:List cQ}(h:BL S L):L.Nodup:=JK h.keys
theorem L8: ∀{S:List cQ} {y:cQ},y∈S-> ∃z,Bst S z/\z.1=y.1
 | h::t,y,hy=>by
  by_cases hw: ∃w∈t,w.1=y.1
  ·obtain ⟨w,hw,e⟩:=hw;obtain ⟨z,⟨hz,hz2⟩,ez⟩:=L8 hw;by_cases hh:h.1=y.1/\h.2<z.2
   ·refine ⟨h,⟨by simp, ?_⟩,hh.1⟩;intro u hu eu;rcases qa8.1 hu with rfl | hu
    ·exact Int.le_refl _
    ·have:=hz2 u hu (by rw [eu,hh.1,ez,e]);omega
   ·refine ⟨z,⟨by simp [hz], ?_⟩,by rw [ez,e]⟩;intro u hu eu;rcases qa8.1 hu with rfl | hu
    ·have: ¬u.2<z.2:=λbG=>hh ⟨by rw [eu,ez,e],bG⟩;omega
    ·exact hz2 u hu eu
  ·rcases qa8.1 hy with rfl | hy
   ·refine ⟨y,⟨by simp, ?_⟩,rfl⟩;intro u hu eu;rcases qa8.1 hu with rfl | hu
    ·exact Int.le_refl _
    ·exact absurd ⟨u,hu,eu⟩ hw
   ·exact absurd ⟨y,hy,rfl⟩ hw
theorem Ha{S S' L L':List cQ}(h:BL S L)(h':BL S' L')(hs: ∀x∈S,x∈S')(x:cQ):Fb L x<=Fb L' x:=by
 unfold Fb;have:=yS (l:=(L.filter λy=>lS y x).map (·.1)) (m:=(L'.filter λy=>lS y x).map (·.1)) (h.keys.sublist (qax.map _)) ?_
 ·simpa using this
 ·intro k hk;obtain ⟨y,hy,rfl⟩:=qc5.1 hk;obtain ⟨hy,bG⟩:=qaw.1 hy;have hyS:=((h.mem y).1 hy).1;obtain ⟨z,hz,ez⟩:=L8 (hs y hyS);refine qc5.2 ⟨z,qaw.2 ⟨(h'.mem z).2 hz, ?_⟩,ez⟩;have hle:=hz.2 y (hs y hyS) ez.symm;simp only [tP] at bG ⊢;rcases bG with bG | ⟨h1,h2⟩
  ·left;omega
  ·rcases Int.lt_or_eq_of_le hle with h3 | h3
   ·left;omega
   ·right;exact ⟨by omega,by omega⟩
theorem Nw{S C L M N:List cQ}{k:Nat}(hL:BL S L)(hM:BL (cP k L++C) M)(hN:BL (S++C) N):cP k M=cP k N:=by
 have hnL:=hL.nodup;have hT:BL (cP k L) (cP k L):=by
  have hk:((cP k L).map (·.1)).Nodup:=by
   unfold cP;have:=((dS L).2.map (·.1)).nodup_iff.2 hL.keys;exact this.sublist ((List.take_sublist _ _).map _)
  refine ⟨hk,λx=>⟨λhx=>⟨hx,λy hy e=> ?_⟩,λh=>h.1⟩⟩;rw [key_inj hk hy hx e];exact Int.le_refl _
 have hTS: ∀x∈cP k L,x∈S:=λx hx=>((hL.mem x).1 (vu _ _ x hx)).1;have hTC: ∀x∈cP k L++C,x∈S++C:=λx hx=>by
  rcases qaf.1 hx with h | h
  ·exact qaf.2 (.inl (hTS x h))
  ·exact qaf.2 (.inr h)
 have fwd: ∀x,x∈N->Fb N x<k->x∈M/\Fb M x<k:=by
  intro x hx hc;have hb:=(hN.mem x).1 hx;have oQ:x∈cP k L++C:=by
   rcases qaf.1 hb.1 with h | h
   ·have hxL:x∈L:=(hL.mem x).2 ⟨h,λy hy=>hb.2 y (qaf.2 (.inl hy))⟩;have:=Ha hL hN (λz hz=>qaf.2 (.inl hz)) x;exact qaf.2 (.inl ((we hnL).2 ⟨hxL,by omega⟩))
   ·exact qaf.2 (.inr h)
  refine ⟨(hM.mem x).2 ⟨oQ,λy hy=>hb.2 y (hTC y hy)⟩, ?_⟩;have:=Ha hM hN hTC x;omega
 refine Xu hM.nodup hN.nodup λx=> ?_;rw [we hM.nodup,we hN.nodup]
 constructor
 rotate_left
 ·rintro ⟨h1,h2⟩;exact fwd x h1 h2
 rintro ⟨hx,hc⟩;have hb:=(hM.mem x).1 hx;have hxN:x∈N:=by
  refine (hN.mem x).2 ⟨hTC x hb.1,λy hy e=> ?_⟩;rcases qaf.1 hy with h | h
  ·obtain ⟨z,hz,ez⟩:=L8 h;have hzy:=hz.2 y h ez.symm;by_cases bG:y.2<x.2
   ·exfalso;have hzL:=(hL.mem z).2 hz;have hzT:z∉cP k L:=λhzT=>by
     have:=hb.2 z (qaf.2 (.inl hzT)) (by rw [ez,e]);omega
    have hck:k<=Fb L z:=by
     apply Nat.le_of_not_lt;intro h';exact hzT ((we hnL).2 ⟨hzL,h'⟩)
    have hlen:(cP k L).length=k:=by
     rw [lD];have:Fb L z<=L.length:=List.length_filter_le _ _;omega
    have lV: ∀t∈cP k L,lS t x=true:=by
     intro t ht;obtain ⟨htL,htc⟩:=(we hnL).1 ht;have jF:t≠z:=by rintro rfl;exact hzT ht
     have htz:lS t z=true:=by
      cases h1:lS t z with
      | true=>rfl
      | false=>
       exfalso;have h2:lS z t=true:=G9 (qbq jF) h1;have:Fb L z<=Fb L t:=by
        unfold Fb;refine yS (hnL.sublist qax) λu hu=> ?_;obtain ⟨tk,hu2⟩:=qaw.1 hu;exact qaw.2 ⟨tk,wb hu2 h2⟩
       omega
     refine wb htz (tP.2 (.inl (by omega)))
    have h3:Fb (cP k L) x=k:=by
     unfold Fb;rw [qci.2 lV,hlen]
    have:=Ha hT hM (λz hz=>qaf.2 (.inl hz)) x;omega
   ·omega
  ·exact hb.2 y (qaf.2 (.inr h)) e
 refine ⟨hxN, ?_⟩;apply Nat.lt_of_not_le;intro hk;have hlen:(cP k N).length=k:=by
  rw [lD];have:Fb N x<=N.length:=List.length_filter_le _ _;omega
 have:(cP k N).length<=Fb M x:=by
  unfold Fb;refine yS (tS hN.nodup) λu hu=> ?_;obtain ⟨tk,hu2⟩:=(we hN.nodup).1 hu;refine qaw.2 ⟨(fwd u tk hu2).1, ?_⟩;cases h1:lS u x with
  | true=>rfl
  | false=>
   exfalso;have hcx:Fb N x<=Fb N u:=by
    unfold Fb;refine yS (hN.nodup.sublist qax) λw hw=> ?_;obtain ⟨Ay,uI⟩:=qaw.1 hw;refine qaw.2 ⟨Ay, ?_⟩;by_cases ZX:x=u
    ·rw [←ZX];exact uI
    ·exact wb uI (G9 ZX h1)
   omega
 omega
theorem Fc{b:List cQ}(hn:(b.map (·.1)).Nodup){x:cQ}:vy b x=true↔ ∀y∈b,y.1=x.1->x.2<=y.2:=by
 unfold vy;cases h:uF b x.1 with
 | none=>simp only [true_iff];exact λy hy e=>absurd e (Aj.1 h y hy)
 | some i=>
  obtain ⟨hi,e⟩:=sZ h;simp only [decide_eq_true_eq,nK hi]
  constructor
  ·intro hle y hy ey;rw [key_inj hn hy (qad hi) (by rw [ey,e])];exact hle
  ·intro hh;exact hh _ (qad hi) e
theorem Fe{b:List cQ}(hn:(b.map (·.1)).Nodup){x:cQ}:mh b x=true↔ ∀y∈b,y.1=x.1->x.2<y.2:=by
 unfold mh;cases h:uF b x.1 with
 | none=>simp only [true_iff];exact λy hy e=>absurd e (Aj.1 h y hy)
 | some i=>
  obtain ⟨hi,e⟩:=sZ h;simp only [decide_eq_true_eq,nK hi]
  constructor
  ·intro hle y hy ey;rw [key_inj hn hy (qad hi) (by rw [ey,e])];exact hle
  ·intro hh;exact hh _ (qad hi) e
theorem TN{a b:List cQ}(ha:(a.map (·.1)).Nodup)(hb:(b.map (·.1)).Nodup):BL (a++b) (mrg a b):=by
 constructor
 ·unfold mrg;rw [qc7,List.nodup_append];refine ⟨ha.sublist (qax.map _),hb.sublist (qax.map _), ?_⟩;intro p hp q hq e;obtain ⟨x,hx,rfl⟩:=qc5.1 hp;obtain ⟨y,hy,rfl⟩:=qc5.1 hq;obtain ⟨hx1,oQ⟩:=qaw.1 hx;obtain ⟨hy1,hy2⟩:=qaw.1 hy;have h1:=(Fc hb).1 oQ y hy1 e.symm;have h2:=(Fe ha).1 hy2 x hx1 e;omega
 ·intro x;unfold mrg Bst;rw [qaf,qaw,qaw,Fc hb,Fe ha,qaf]
  constructor
  ·rintro (⟨h1,h2⟩ | ⟨h1,h2⟩)
   ·refine ⟨.inl h1,λy hy e=> ?_⟩;rcases qaf.1 hy with h | h
    ·rw [key_inj ha h h1 e];exact Int.le_refl _
    ·exact h2 y h e
   ·refine ⟨.inr h1,λy hy e=> ?_⟩;rcases qaf.1 hy with h | h
    ·exact Int.le_of_lt (h2 y h e)
    ·rw [key_inj hb h h1 e];exact Int.le_refl _
  ·rintro ⟨h1,h2⟩;by_cases KT:x∈a
   ·exact .inl ⟨KT,λy hy=>h2 y (qaf.2 (.inr hy))⟩
   ·have hxb:x∈b:=h1.resolve_left KT;refine .inr ⟨hxb,λy hy e=> ?_⟩;have hle:=h2 y (qaf.2 (.inl hy)) e;rcases Int.lt_or_eq_of_le hle with h | h
    ·exact h
    ·exact absurd (show x∈a by rw [show x=y from Prod.ext e.symm h];exact hy) KT
theorem BL.same{S S' L L':List cQ}{k:Nat}(h:BL S L)(h':BL S' L')(hs: ∀x,x∈S↔x∈S'):cP k L=cP k L':=by
 refine wa ((List.perm_ext_iff_of_nodup h.nodup h'.nodup).2 λx=> ?_);rw [h.mem,h'.mem];unfold Bst
 constructor
 ·rintro ⟨h1,h2⟩;exact ⟨(hs x).1 h1,λy hy=>h2 y ((hs y).2 hy)⟩
 ·rintro ⟨h1,h2⟩;exact ⟨(hs x).2 h1,λy hy=>h2 y ((hs y).1 hy)⟩
theorem TO{L:List cQ}{k:Nat}(hk:k<=16)(h1: ∀x∈L,Zh x=true)(h2:(L.map (·.1)).Nodup):uE (cP k L)=true:=by
 have hn:=JK h2;refine qO.2 ⟨λx hx=>h1 x (vu _ _ x hx),(yT hn).sublist (List.take_sublist _ _), ?_,by rw [lD];omega⟩;have:=((dS L).2.map (·.1)).nodup_iff.2 h2;exact this.sublist ((List.take_sublist _ _).map _)
end Go.Vs
namespace Go.Vs
theorem Hc{n:Nat}(hn:n<=1000000):M.dC [] (n:Int)=some []:=by
 unfold M.dC;have e0:decide ((n:Int)<0)=false:=decide_eq_false (by omega);have e1:ao ((n:Int) - ao ((([]:List cQ).length:Int) - (([]:List cQ).length:Int)))=(n:Int):=by
  have:ao ((([]:List cQ).length:Int) - (([]:List cQ).length:Int))=0:=by decide
  rw [this,aV (by omega) (by omega)];omega
 have g0:eI ([]:List cQ) 0 (([]:List cQ).length:Int)=some []:=by
  rw [kF (by omega) (by simp) (by simp)];rfl
 simp only [e0,cond_false,e1];by_cases h:0<n
 ·have e2:decide (0<(n:Int))=true:=decide_eq_true (by omega);have g1:E0 ([]:List cQ) (n:Int) (0,0)=some (List.replicate n (0,0)):=by
   unfold E0;rw [if_pos ⟨by omega,by simp;omega⟩];simp
  have g2:eI (List.replicate n ((0,0):cQ)) 0 (([]:List cQ).length:Int)=some []:=by
   rw [kF (by omega) (by simp) (by simp)];simp
  simp only [e2,cond_true,g0,qa0,g1,g2]
 ·have e2:decide (0<(n:Int))=false:=decide_eq_false (by omega);simp only [e2,cond_false,qa0]
theorem Ei{a b:List cQ}(ha:a.length<=100000)(hb:b.length<=100000):M.cZ [a,b]=some (a++b):=by
 unfold M.cZ;have c0:decide ((0:Int)<(([a,b]:List (List cQ)).length:Int))=true:=rfl;have c1:decide ((1:Int)<(([a,b]:List (List cQ)).length:Int))=true:=rfl;have c2:decide ((2:Int)<(([a,b]:List (List cQ)).length:Int))=false:=rfl;have i0:bu ([a,b]:List (List cQ)) 0=some a:=rfl;have i1:bu ([a,b]:List (List cQ)) 1=some b:=rfl;have w0:ao ((0:Int)+1)=1:=rfl;have w1:ao ((1:Int)+1)=2:=rfl;have s0:ao ((0:Int)+(a.length:Int))=(a.length:Int):=by rw [aV (by omega) (by omega)];omega
 have s1:ao ((a.length:Int)+(b.length:Int))=((a.length+b.length:Nat):Int):=by rw [aV (by omega) (by omega)];omega
 have n0:decide ((a.length:Int)<0)=false:=decide_eq_false (by omega);have n1:decide (((a.length+b.length:Nat):Int)<0)=false:=decide_eq_false (by omega);rw [bs];simp only [c0,cond_true,i0,qa0,s0,n0,cond_false,w0,bm];rw [bs];simp only [c1,cond_true,i1,qa0,s1,n1,cond_false,w1,bm];rw [bs];simp only [c2,cond_false,qa0,bm,Hc (show a.length+b.length<=1000000 by omega)];rw [bs];simp only [c0,cond_true,i0,qa0,iN (show ([]:List cQ).length+a.length<=2147483648 by simp;omega),w0,qba,bm];rw [bs];simp only [c1,cond_true,i1,qa0,iN (show a.length+b.length<=2147483648 by omega),w1,bm];rw [bs];simp only [c2,cond_false,qa0,bm]
theorem Hd{l:List cQ}(hl:l.length<=1000000):M.bb l=some (fF l):=by
 unfold M.bb;obtain ⟨d',h1,h2,h3⟩:=IF (cmp:=GZ) (lt:=lS) (xs:=l) (by omega) (λx _ y _=>Dd x y trivial trivial) (λx _=>qK.irrefl x trivial) (λx _ y _ z _=>qK.trans x y z trivial trivial trivial) (λx _ y _=>qK.total x y trivial trivial);rw [tR h3 h2];exact h1
def Py(s:List cQ)(x:cQ):List cQ:=if s.all (λy=> !(y.1==x.1))=true then s++[x] else s
def Zi(L:List cQ):List cQ:=L.foldl Py []
structure Xv(P s:List cQ):Prop where
 sub:s.Sublist P
 keys:(s.map (·.1)).Nodup
 all: ∀y∈P, ∃z∈s,z.1=y.1/\z.2<=y.2
theorem Xv.nil:Xv [] []:=⟨List.Sublist.refl _,by simp,by simp⟩
theorem Xv.snoc{P s:List cQ}{x:cQ}(h:Xv P s)(hx: ∀y∈P,lS x y=false):Xv (P++[x]) (Py s x):=by
 unfold Py;by_cases hc:s.all (λy=> !(y.1==x.1))=true
 ·rw [if_pos hc];simp only [qab,qbh,beq_eq_false_iff_ne] at hc;refine ⟨List.Sublist.append h.sub (List.Sublist.refl _), ?_, ?_⟩
  ·rw [qc7,List.nodup_append];refine ⟨h.keys,by simp, ?_⟩;intro k hk k' rG e;obtain ⟨y,hy,rfl⟩:=qc5.1 hk;simp only [qaz,qbm,qbe] at rG;exact hc y hy (e.trans rG)
  ·intro y hy;rcases qaf.1 hy with hy | hy
   ·obtain ⟨z,hz,h1,h2⟩:=h.all y hy;exact ⟨z,by simp [hz],h1,h2⟩
   ·rw [qbe.1 hy];exact ⟨x,by simp,rfl,Int.le_refl _⟩
 ·rw [if_neg hc];refine ⟨h.sub.trans (List.sublist_append_left _ _),h.keys, ?_⟩;intro y hy;rcases qaf.1 hy with hy | hy
  ·exact h.all y hy
  ·rw [qbe.1 hy];simp only [qab,qbh,beq_eq_false_iff_ne] at hc;have: ∃z∈s,z.1=x.1:=qa9 λhn=>hc λz hz e=>hn ⟨z,hz,e⟩;obtain ⟨z,hz,e⟩:=this;refine ⟨z,hz,e, ?_⟩;have:=vZ.1 (hx z (h.sub.subset hz));omega
theorem JL: ∀{Q P s:List cQ},Xv P s->(P++Q).Pairwise (λx y=>lS y x=false)->Xv (P++Q) (Q.foldl Py s)
 | [],P,s,h,_=>by simpa using h
 | x::Q,P,s,h,hp=>by
  have e:P++x::Q=(P++[x])++Q:=by simp
  rw [e] at hp ⊢;rw [List.foldl_cons];refine JL (h.snoc ?_) hp;intro y hy;have:=(List.pairwise_append.1 ((List.pairwise_append.1 hp).1)).2.2 y hy x (by simp);exact this
theorem abk{S:List cQ}:BL S (Zi (fF S))/\yN (Zi (fF S)):=by
 obtain ⟨h1,h2⟩:=dS S;have h:=JL (Q:=fF S) Xv.nil (by rw [qba];exact h1);rw [qba] at h;change Xv (fF S) (Zi (fF S)) at h;refine ⟨⟨h.keys,λx=>⟨λhx=> ?_,λhx=> ?_⟩⟩,h1.sublist h.sub⟩
 ·refine ⟨h2.mem_iff.1 (h.sub.subset hx),λy hy e=> ?_⟩;obtain ⟨z,hz,e1,e2⟩:=h.all y (h2.mem_iff.2 hy);have:z=x:=key_inj h.keys hz hx (e1.trans e);rw [←this];exact e2
 ·obtain ⟨z,hz,e1,e2⟩:=h.all x (h2.mem_iff.2 hx.1);have h3:=hx.2 z (h2.mem_iff.1 (h.sub.subset hz)) e1;have:z=x:=Prod.ext e1 (by omega);rw [←this];exact hz
theorem Xx{a b:List cQ}{k:Nat}(ha:(a.map (·.1)).Nodup)(hb:(b.map (·.1)).Nodup):(Zi (fF (a++b))).take k=cP k (mrg a b):=by
 obtain ⟨h1,h2⟩:=abk (S:=a++b);have h3:=TN ha hb;rw [←h1.same (k:=k) h3 (λx=>Iff.rfl)];unfold cP;rw [tR h2 (List.Perm.refl _)]
theorem Ej{a b:List cQ}(ha:a.length<=100000)(hb:b.length<=100000):M.kh a b=some (Zi (fF (a++b))):=by
 unfold M.kh;have hl:(fF (a++b)).length<=200000:=by rw [E8];simp;omega
 simp only [Ei ha hb,qa0,Hd (show (a++b).length<=1000000 by simp;omega)];generalize fF (a++b)=L at hl;refine lR (xs:=L) (fun (s:List cQ) i=>(s,i)) Py (λi s=>s.length<=i) (λs=>s) (s0:=[]) (by simp) ?_ ?_ ?_
 ·intro s i hi hs;have e1:decide ((i:Int)<(L.length:Int))=true:=decide_eq_true (by omega);simp only [e1,cond_true,bT hi,qa0,yR (show s.length<=2000000 by omega),JJ,fx (i:=i) (show i<4000000000000000000 by omega)];unfold Py;by_cases hc:s.all (λy=> !(y.1==L[i].1))=true
  ·rw [hc,if_pos rfl];simp only [cond_true,iN (show s.length+[(L[i].1,L[i].2)].length<=2147483648 by simp;omega),qa0,true_and];simp;omega
  ·rw [if_neg hc,qbg] at*;rw [hc];simp only [cond_false,qa0,true_and];omega
 ·intro s _;simp
 ·intro _;rfl
theorem He{a b:List cQ}{k:Int}(ha:a.length<=2000000)(hb:b.length<=2000000):M.jy a b k=some (Dg a b k):=by
 unfold M.jy Dg;simp only [Fa (show a.length<=2000000 by omega),Fa (show b.length<=2000000 by omega),JI,qa0];cases hoa:uE a with
 | false=>simp
 | true=>
  cases hob:uE b with
  | false=>simp
  | true=>
   by_cases hk:1<=k/\k<=16
   rotate_left
   ·have:=decide_eq_false hk;simp [this,hk]
   have hd:=decide_eq_true hk;obtain ⟨n,rfl⟩:=qb0 (show 0<=k by omega);have hm:min (n:Int) ((Zi (fF (a++b))).length:Int)=((min n (Zi (fF (a++b))).length:Nat):Int):=by omega
   have hal:=(qO.1 hoa).2.2.2;have hbl:=(qO.1 hob).2.2.2;simp only [hd,qae,cond_false,qa0,true_and,Ej (show a.length<=100000 by omega) (show b.length<=100000 by omega),hm];rw [if_pos hk,qb1, ←Xx (qO.1 hoa).2.2.1 (qO.1 hob).2.2.1];rw [kF (by omega) (by omega) (by omega)];simp only [qa0,qb1,Int.toNat_zero,qcc];congr 1;rcases Nat.le_total n (Zi (fF (a++b))).length with h | h
   ·rw [Nat.min_eq_left h]
   ·rw [Nat.min_eq_right h,qbv,qby h]
end Go.Vs
namespace Go.Vs
theorem TP{a b:List cQ}{k:Int}:(Dg a b k).length<=16:=by
 unfold Dg;split
 ·rename_i h;rw [lD];omega
 ·simp
theorem Xy{a b:List cQ}{k:Nat}(ha:uE a=true)(hb:uE b=true)(h1:1<=k)(h2:k<=16):Dg a b (k:Int)=cP k (mrg a b):=by
 unfold Dg;rw [if_pos ⟨ha,hb,by omega,by omega⟩,qb1]
end Go.Vs
namespace Go.Vs
theorem AM{l:List Item}{kind:Int}{v:List Int}:(bC l kind v).map (·.1)=l.map (·.1):=by
 unfold bC;rw [List.map_map];rfl
theorem JM{l:List Item}(h:l.Pairwise (λx y=>x.1<y.1)):(l.map (·.1)).Nodup:=by
 unfold List.Nodup;rw [List.pairwise_map];exact h.imp λh=>by omega
theorem BL.self{S:List cQ}(h:(S.map (·.1)).Nodup):BL S S:=⟨h,λx=>⟨λhx=>⟨hx,λy hy e=>by rw [key_inj h hy hx e];exact Int.le_refl _⟩,λh=>h.1⟩⟩
theorem Ff{L:List cQ}{k:Nat}(h:(L.map (·.1)).Nodup):((cP k L).map (·.1)).Nodup:=by
 unfold cP;have:=((dS L).2.map (·.1)).nodup_iff.2 h;exact this.sublist ((List.take_sublist _ _).map _)
theorem Pz{A B:List cQ}{k:Nat}(h:((A++B).map (·.1)).Nodup):cP k (mrg (cP k A) (cP k B))=cP k (A++B):=by
 have hA:(A.map (·.1)).Nodup:=h.sublist ((List.sublist_append_left A B).map _);have hB:(B.map (·.1)).Nodup:=h.sublist ((List.sublist_append_right A B).map _);have tA:=Ff (k:=k) hA;have tB:=Ff (k:=k) hB;have hAB:=List.nodup_append.1 (by rw [qc7] at h;exact h);have hd:((A++cP k B).map (·.1)).Nodup:=by
  rw [qc7,List.nodup_append];refine ⟨hA,tB,λa ha b hb=>hAB.2.2 a ha b ?_⟩;obtain ⟨x,hx,rfl⟩:=qc5.1 hb;exact qc5.2 ⟨x,vu _ _ x hx,rfl⟩
 have e1:=Nw (k:=k) (BL.self hA) (TN tA tB) (BL.self hd);rw [e1];have hd2:((cP k B++A).map (·.1)).Nodup:=((qc6 (l₁:=A) (l₂:=cP k B)).map (·.1)).nodup_iff.1 hd;have hd3:((B++A).map (·.1)).Nodup:=((qc6 (l₁:=A) (l₂:=B)).map (·.1)).nodup_iff.1 h;have e2:=Nw (k:=k) (BL.self hB) (BL.self hd2) (BL.self hd3);rw [wa (qc6 (l₁:=A) (l₂:=cP k B)),e2];exact wa qc6
theorem wQ(l m:List Item)(kind:Int)(v:List Int):bC (l++m) kind v=bC l kind v++bC m kind v:=by unfold bC;rw [qc7]
end Go.Vs
namespace Go.Vs
end Go.Vs
namespace Go.Vs
theorem Fg{L:List Item}{kind:Int}{v:List Int}{k:Nat}(hk:k<=16)(pv:isKind kind=true)(hv:fE v=true)(h1: ∀x∈L,iK x=true)(h2:(L.map (·.1)).Nodup):uE (cP k (bC L kind v))=true:=by
 refine TO hk ?_ (by rw [AM];exact h2);intro x hx;obtain ⟨y,hy,rfl⟩:=xA.1 hx;obtain ⟨q1,q2,_⟩:=lC.1 (h1 y hy);have:=LX pv q2 hv;unfold Zh;simp only [qa4,decide_eq_true_eq];omega
end Go.Vs
namespace Go.Vs
def L9(k s:Int):Int:=389*k % 1009*s / 1009
theorem tc{k s:Int}(h:1<=s):0<=L9 k s/\L9 k s<s:=by
 unfold L9;have h1:0<=389*k % 1009:=Int.emod_nonneg _ (by omega);have h2:389*k % 1009<1009:=Int.emod_lt_of_pos _ (by omega);refine ⟨Int.ediv_nonneg (Int.mul_nonneg h1 (by omega)) (by omega), ?_⟩;rw [Int.ediv_lt_iff_lt_mul (by omega),Int.mul_comm s 1009];exact Int.mul_lt_mul_of_pos_right h2 (by omega)
def DR(l:List Item)(s n:Int):List Item:=l.filter λx=>L9 x.1 s==n
theorem BP{l:List Item}{s n:Int}:(DR l s n).Sublist l:=qax
def jZ(l:List Item)(s n:Int):List Item:=l.filter λx=>decide (L9 x.1 s<n)
theorem AN{l:List Item}{s:Int}(h:1<=s):jZ l s 0=[]:=by
 unfold jZ;rw [List.filter_eq_nil_iff];intro x _;have:=(tc (k:=x.1) h).1;simp;omega
theorem Ma{l:List Item}{s:Int}(h:1<=s):jZ l s s=l:=by
 unfold jZ;rw [qci];intro x _;have:=(tc (k:=x.1) h).2;simpa using this
theorem AO(l:List Item)(s n:Int):(jZ l s n++DR l s n).Perm (jZ l s (n+1)):=by
 have:=Df (λx:Item=>decide (L9 x.1 s<n)) (λx=>L9 x.1 s==n) l (λx _ h=>by simp at h ⊢;omega);refine this.trans (List.Perm.of_eq ?_);unfold jZ;refine List.filter_congr λx _=> ?_;rw [qch];simp;omega
theorem JN{l m:List Item}{kind:Int}{v:List Int}(h:l.Perm m):(bC l kind v).Perm (bC m kind v):=h.map _
theorem Dh{l:List Item}{kind:Int}{v:List Int}{k:Nat}{s n:Int}(hq:fj l kind v=true)(h1:1<=k)(h2:k<=16):
  Dg (cP k (bC (jZ l s n) kind v)) (cP k (bC (DR l s n) kind v)) (k:Int)=cP k (bC (jZ l s (n+1)) kind v):=by
 obtain ⟨ho,pv,hv⟩:=iw.1 hq;obtain ⟨_,hit,hp⟩:=di.1 ho;have sA:(jZ l s n).Sublist l:=qax;have sB:(DR l s n).Sublist l:=qax;have kn: ∀m:List Item,m.Sublist l->(m.map (·.1)).Nodup:=λm hm=>(JM hp).sublist (hm.map _);have oA:=Fg (k:=k) h2 pv hv (λx hx=>hit x (sA.subset hx)) (kn _ sA);have oB:=Fg (k:=k) h2 pv hv (λx hx=>hit x (sB.subset hx)) (kn _ sB);have R5:=JN (kind:=kind) (v:=v) (AO l s n);have hn:((bC (jZ l s n) kind v++bC (DR l s n) kind v).map (·.1)).Nodup:=by
  rw [←wQ,AM];exact ((AO l s n).map (·.1)).nodup_iff.2 (kn _ qax)
 rw [Xy oA oB h1 h2,Pz hn, ←wQ];exact wa R5
def wh(l:List Item)(s:Nat)(kind:Int)(v:List Int)(k:Nat)(n:Nat):List cQ:=(List.range n).foldl (fun (out:List cQ) (i:Nat)=>Dg out (cP k (bC (DR l (s:Int) (i:Int)) kind v)) (k:Int)) []
theorem Di{l:List Item}{kind:Int}{v:List Int}{k s:Nat}(hq:fj l kind v=true)(h1:1<=k)(h2:k<=16)(hs:1<=s):wh l s kind v k s=cP k (bC l kind v):=by
 have key: ∀n:Nat,wh l s kind v k n=cP k (bC (jZ l s n) kind v):=by
  intro n
  induction n with
  | zero=>
   have:=AN (l:=l) (s:=(s:Int)) (by omega);unfold wh;rw [Int.natCast_zero,this];simp [bC,cP,fF]
  | succ n ih=>
   have:=Dh (s:=(s:Int)) (n:=(n:Int)) hq h1 h2;unfold wh at ih ⊢;rw [List.range_succ,List.foldl_append,ih,List.foldl_cons,List.foldl_nil,this]
   rfl
 rw [key,Ma (by omega)]
end Go.Vs
namespace Go.Vs
end Go.Vs
namespace Go.Vs
theorem Dj{k s:Int}(hk:1<=k/\k<=99)(hs:1<=s/\s<=8):M.lL k s=some (L9 k s):=by
 unfold M.lL;have h1:0<=389*k % 1009:=Int.emod_nonneg _ (by omega);have h2:389*k % 1009<1009:=Int.emod_lt_of_pos _ (by omega);have e1:ao (389*k)=389*k:=aV (by omega) (by omega);have e2:(389*k).tmod 1009=389*k % 1009:=Int.tmod_eq_emod_of_nonneg (by omega);have h3:0<=389*k % 1009*s:=Int.mul_nonneg h1 (by omega);have h4:389*k % 1009*s<=1009*8:=Int.mul_le_mul (by omega) hs.2 (by omega) (by omega);have e3:ao (389*k % 1009*s)=389*k % 1009*s:=aV (by omega) (by omega);have e4:(389*k % 1009*s).tdiv 1009=389*k % 1009*s / 1009:=Int.tdiv_eq_ediv_of_nonneg h3;have hr:=tc (k:=k) hs.1;rw [e1,e2,e3,e4];unfold L9 at*;rw [aV (by omega) (by omega)]
def shV(k s:Int):Int:=if (1<=k/\k<=99)/\1<=s/\s<=8 then L9 k s else -1
theorem Mb(k s:Int):M.nz k s=some (shV k s):=by
 unfold M.nz M.eL shV;simp only [AL,qa0];by_cases hk:1<=k/\k<=99
 rotate_left
 ·rw [if_neg λh=>hk h.1];simp [decide_eq_false hk]
 by_cases hs:1<=s/\s<=8
 rotate_left
 ·rw [if_neg λh=>hs h.2];by_cases h1:1<=s
  ·have: ¬s<=8:=λh=>hs ⟨h1,h⟩;simp [decide_eq_true hk,h1,this]
  ·simp [decide_eq_true hk,h1]
 rw [if_pos ⟨hk,hs⟩];have h:=Dj hk hs;unfold M.lL at h;simp only [decide_eq_true hk,decide_eq_true hs.1,decide_eq_true hs.2,qae,cond_true,cond_false,qa0];exact h
theorem Ek{k:Nat}(hk:k<=500000){r:List UInt8×Int}(hr:Good k r): ∃x r',M.j9 (r.1,r.2)=some (x,(r'.1,r'.2))/\Good (k+1) r'/\0<=x/\x<=9:=by
 obtain ⟨x,r1,h1,g1,m1⟩:=vq (by omega) hr (list:=[1,2,3,4,8,0,9,5]) (by simp);refine ⟨x,r1,by unfold M.j9;simp only [h1,qa0],g1, ?_⟩;simp only [qa8,qap,or_false] at m1;omega
theorem Fh{l:List Item}(h:cJ l=true){x:Item}(hx:x∈l):1<=x.1/\x.1<=99:=(lC.1 ((di.1 h).2.1 x hx)).1
theorem Mc{l:List Item}{s n:Int}(h:cJ l=true)(hs:1<=s/\s<=8):M.kg l s n=some (DR l s n):=by
 unfold M.kg;obtain ⟨hlen,hit,_⟩:=di.1 h;refine lR (xs:=l) (fun (s:List Item) i=>(s,i)) (λt x=>if (L9 x.1 s==n)=true then t++[x] else t) (λi t=>t.length<=i) (λt=>t) (s0:=[]) (by simp) ?_ ?_ ?_
 ·intro t i hi ht;have e1:decide ((i:Int)<(l.length:Int))=true:=decide_eq_true (by omega);have hx:=qad hi;have h4:=qI (hit _ hx);simp only [e1,cond_true,bT hi,qa0,Dj (Fh h hx) hs,oz (show l[i].2.1.length<=1000000 by omega),fx (i:=i) (by omega)];cases (L9 l[i].1 s==n) with
  | true=>
   simp only [cond_true,if_true];rw [iN (by simp;omega)];exact ⟨rfl,by simp;omega⟩
  | false=>exact ⟨by simp,by simpa using Nat.le_succ_of_le ht⟩
 ·intro t _;simp
 ·intro _;rw [foldl_filter];rfl
def abl(l:List Item)(s n:Int):List Item:=if cJ l=true/\1<=s/\s<=8 then DR l s n else []
theorem Xz{l:List Item}{s n:Int}(h:cJ l=true)(hs:1<=s/\s<=8):abl l s n=DR l s n:=if_pos ⟨h,hs⟩
theorem JO{l:List Item}{s n:Int}(h:cJ l=true)(hs:1<=s/\s<=8):M.cS l s n=some (DR l s n):=by
 unfold M.cS M.gn;obtain ⟨hlen,hit,_⟩:=di.1 h;refine lR (xs:=l) (fun (s:List Item) i=>(s,i)) (λt x=>if (L9 x.1 s==n)=true then t++[x] else t) (λi t=>t.length<=i) (λt=>t) (s0:=[]) (by simp) ?_ ?_ ?_
 ·intro t i hi ht;have e1:decide ((i:Int)<(l.length:Int))=true:=decide_eq_true (by omega);have hx:=qad hi;have hV:shV l[i].1 s=L9 l[i].1 s:=if_pos ⟨Fh h hx,hs⟩;simp only [e1,cond_true,bT hi,qa0,Mb,hV,fx (i:=i) (by omega)];cases (L9 l[i].1 s==n) with
  | true=>
   simp only [cond_true,if_true];rw [iN (by simp;omega)];exact ⟨rfl,by simp;omega⟩
  | false=>exact ⟨by simp,by simpa using Nat.le_succ_of_le ht⟩
 ·intro t _;simp
 ·intro _;rw [foldl_filter];rfl
theorem Dk(s:Int):M.eL s=some (decide (1<=s/\s<=8)):=by
 unfold M.eL;by_cases h1:1<=s <;> by_cases h2:s<=8 <;> simp [h1,h2]
theorem JP{l:List Item}{s n:Int}(sl:gI l):M.fY l s n=some (abl l s n):=by
 unfold M.fY abl;simp only [sl.impl,Dk,qa0];cases ho:cJ l with
 | false=>simp
 | true=>
  by_cases hs:1<=s/\s<=8
  ·rw [if_pos ⟨rfl,hs⟩];have R2:gI (DR l s n):=⟨qaa BP.length_le sl.1,λx hx=>sl.2 x (BP.subset hx)⟩;simp only [decide_eq_true hs,qae,cond_false,qa0,JO ho hs,yM R2]
  ·rw [if_neg λh=>hs h.2];simp [decide_eq_false hs]
end Go.Vs
namespace Go.Vs
end Go.Vs
namespace Go.Vs
end Go.Vs
namespace Go.Vs
end Go.Vs
namespace Go.Vs
end Go.Vs
namespace Go.Vs
end Go.Vs
namespace Go.Vs
def cr(l:List Item)(s kind:Int)(v:List Int)(k:Int):List cQ:=if fj l kind v=true/\(1<=s/\s<=8)/\1<=k/\k<=16 then wh l s.toNat kind v k.toNat s.toNat else []
theorem pO{l:List Item}{s kind:Int}{v:List Int}{k:Int}(hs:1<=s/\s<=8):cr l s kind v k=oN l kind v k:=by
 unfold cr oN;by_cases h:fj l kind v=true/\1<=k/\k<=16
 ·rw [if_pos ⟨h.1,hs,h.2⟩,if_pos h,Di h.1 (by omega) (by omega) (by omega)]
 ·rw [if_neg λq=>h ⟨q.1,q.2.2⟩,if_neg h]
theorem rQ{l:List Item}{s kind:Int}{v:List Int}{k:Int}(sl:gI l)(hv:v.length<2000000):M.fa l s kind v k=some (cr l s kind v k):=by
 unfold M.fa cr;simp only [Eh sl hv,xz,qa0];cases hq:fj l kind v with
 | false=>simp
 | true=>
  by_cases hs:1<=s/\s<=8
  rotate_left
  ·rw [if_neg λh=>hs h.2.1];simp [decide_eq_false hs]
  by_cases hk:1<=k/\k<=16
  rotate_left
  ·rw [if_neg λh=>hk h.2.2];simp [decide_eq_true hs,decide_eq_false hk]
  obtain ⟨n,rfl⟩:=qb0 (show 0<=k by omega);obtain ⟨m,rfl⟩:=qb0 (show 0<=s by omega);obtain ⟨ho,pv,hvv⟩:=iw.1 hq;rw [if_pos ⟨rfl,hs,hk⟩];simp only [decide_eq_true hs,decide_eq_true hk,qae,cond_false,qa0,qb1];refine Pw (fun (t:List cQ) i=>(t,i)) (λt i=>Dg t (cP n (bC (DR l (m:Int) (i:Int)) kind v)) (n:Int)) (λi t=>t.length<=16) (λt=>t) 0 m (s0:=[]) (by omega) (by simp) ?_ ?_ ?_
  ·intro t i hi ht;have e1:decide ((i:Int)<(m:Int))=true:=decide_eq_true (by omega);have q1:fj (DR l (m:Int) (i:Int)) kind v=true:=iw.2 ⟨vr ho BP,pv,hvv⟩;have l1:(cP n (bC (DR l (m:Int) (i:Int)) kind v)).length<=16:=by rw [lD];omega
   simp only [e1,cond_true,Mc ho hs,qa0,Bp q1 (show n<=1000 by omega),G7 (show t.length<=2000000 by omega) (show (cP n (bC (DR l (m:Int) (i:Int)) kind v)).length<=2000000 by omega),fx (i:=i) (by omega)];exact ⟨trivial,TP⟩
  ·intro t _;simp
  ·intro _;unfold wh;rw [Nat.sub_zero,List.range_eq_range']
theorem xB(code:List UInt8): ∃(l:List Item) (s kind:Int) (v:List Int) (k:Int),M.dO code=some (l,s,kind,v,k)/\Jt l/\Tv v/\(0<=s/\s<=9)/\0<=k/\k<=17:=by
 obtain ⟨⟨r1,r2⟩,h,g⟩:=GU code;obtain ⟨l,⟨q1,q2⟩,h1,g1,nl⟩:=Ju (by omega) g;obtain ⟨s,⟨c1,c2⟩,h2,g2,m2⟩:=Ek (by omega) g1;obtain ⟨kind,⟨u1,u2⟩,h3,g3⟩:=Xi (by omega) g2;obtain ⟨v,⟨t1,t2⟩,h4,g4,nv⟩:=LP (by omega) g3;obtain ⟨k,⟨s1,s2⟩,h5,g5,m5⟩:=TK (by omega) g4;exact ⟨l,s,kind,v,k,by unfold M.dO;simp only [h,h1,h2,h3,h4,h5,qa0],nl,nv,m2,m5⟩
theorem vz{l:List Item}{s kind:Int}{v:List Int}{k:Int}:(cr l s kind v k).length<=16:=by
 by_cases hs:1<=s/\s<=8
 ·rw [pO hs];exact vw
 ·unfold cr;rw [if_neg λh=>hs h.2.1];simp
end Go.Vs
namespace Go.Vs
end Go.Vs
namespace Go.Vs
end Go.Vs
namespace Go.Vs
end Go.Vs
namespace Go.Vs
end Go.Vs
namespace Go.Vs
end Go.Vs
namespace Go.Vs
theorem JQ{β:Type}{f:Nat->Option β}{g:Nat->β}: ∀{n:Nat},(∀i,i<n->f i=some (g i))->E1 f n=some ((List.range n).map g)
 | 0,_=>rfl
 | n+1,h=>by
  rw [E1,JQ (λi hi=>h i (by omega)),qa0,h n (by omega),qa0,List.range_succ,qc7]
  rfl
theorem rR{l:List Item}{s kind:Int}{v:List Int}{k:Int}(sl:gI l)(hv:v.length<2000000):M.fI l s kind v k=some (cr l s kind v k):=by
  unfold M.fI cr;simp only [Dk,qa0];by_cases hs:1<=s/\s<=8
  rotate_left
  ·rw [if_neg λh=>hs h.2.1];simp [decide_eq_false hs]
  simp only [decide_eq_true hs,qae,cond_false,qN sl hv,qa0];by_cases hq:fj l kind v=true/\1<=k/\k<=16
  rotate_left
  ·rw [if_neg λh=>hq ⟨h.1,h.2.2⟩];simp [decide_eq_false hq]
  obtain ⟨hq,hk⟩:=hq;obtain ⟨n,rfl⟩:=qb0 (show 0<=k by omega);obtain ⟨m,rfl⟩:=qb0 (show 0<=s by omega);obtain ⟨ho,pv,hvv⟩:=iw.1 hq;rw [if_pos ⟨hq,hs,hk⟩];simp only [decide_eq_true (show fj l kind v=true/\1<=(n:Int)/\(n:Int)<=16 from ⟨hq,hk⟩),qae,cond_false,qb1]
  let g:Nat->List cQ:=λi=>cP n (bC (DR l (m:Int) (i:Int)) kind v)
  have XA: ∀i:Nat,cJ (DR l (m:Int) (i:Int))=true:=λi=>vr ho BP;have hf:M.gK l (m:Int) kind v (n:Int)=some ((List.range m).map g++List.replicate (8 - m) []):=by
   unfold M.gK;rw [JQ (g:=g) (λi hi=> ?_)]
   ·simp
   ·have q1:fj (DR l (m:Int) (i:Int)) kind v=true:=iw.2 ⟨XA i,pv,hvv⟩;rw [JP sl,qa0,Xz ho hs,vv (oy (XA i)) hv,vx q1 hk.1 hk.2];simp [g]
  rw [hf,qa0];have UY: ∀i:Nat,i<8->bu ((List.range m).map g++List.replicate (8 - m) []) (i:Int)=some (g i):=by
   intro i hi;rw [bT (by simp;omega)];congr 1;by_cases him:i<m
   ·rw [qb7 (by simpa using him)];simp
   ·rw [qbk (by simp;omega)];have:DR l (m:Int) (i:Int)=[]:=by
     unfold DR;rw [List.filter_eq_nil_iff];intro x _;have:=(tc (k:=x.1) (s:=(m:Int)) hs.1).2;simp;omega
    simp [g,this,bC,cP,fF]
  have hb0:([]:List cQ)=cP n (bC (jZ l (m:Int) ((0:Nat):Int)) kind v):=by
   rw [Int.natCast_zero,AN hs.1];simp [bC,cP,fF]
  have lW:jZ l (m:Int) ((8:Nat):Int)=l:=by
   unfold jZ;rw [qci];intro x _;have:=(tc (k:=x.1) (s:=(m:Int)) hs.1).2;simp;omega
  have hlen: ∀x:List Item,(cP n (bC x kind v)).length<=16:=λx=>by rw [lD];omega
  have bU:=Jm (R:=List cQ) (r:=cP n (bC l kind v)) (f:=fun (D4:(List (Int×Int))×(Int))=>(bif decide (D4.2<8) then
  (bu ((List.range m).map g++List.replicate (8 - m) []) D4.2).bind λWA=>
  (M.jy D4.1 WA (n:Int)).bind λBN=>
  some (.inl (BN,ao (D4.2+1)))
 else
  some (.inr D4.1))) 8 (λi=>(cP n (bC (jZ l (m:Int) (i:Int)) kind v),(i:Int))) ?_ ?_
  ·have hz:(([]:List cQ),(0:Int))=(cP n (bC (jZ l (m:Int) ((0:Nat):Int)) kind v),((0:Nat):Int)):=by rw [←hb0];rfl
   rw [hz,bU,qa0,Di hq (by omega) (by omega) (by omega)]
  ·intro i hi;have d1:decide ((i:Int)<8)=true:=decide_eq_true (by omega);have e6:ao ((i:Int)+1)=((i+1:Nat):Int):=aV (by omega) (by omega);have h1:=hlen (jZ l (m:Int) (i:Int));have h2:=hlen (DR l (m:Int) (i:Int));have fu:=Dh (s:=(m:Int)) (n:=(i:Int)) (k:=n) hq (by omega) (by omega);simp only [d1,cond_true,UY i hi,qa0,g,He (show (cP n (bC (jZ l (m:Int) (i:Int)) kind v)).length<=2000000 by omega) (show (cP n (bC (DR l (m:Int) (i:Int)) kind v)).length<=2000000 by omega),fu,e6]
   rfl
  ·have d1:decide (((8:Nat):Int)<8)=false:=by decide
   simp only [d1,cond_false,lW]
theorem PC(code:List UInt8):M.po code=some true:=by
 unfold M.po;by_cases hc:1048576<(code.length:Int)
 ·simp [hc]
 obtain ⟨l,s,kind,v,k,h,nl,nv,hs,hk⟩:=xB code;have sl:=nl.small;have la:v.length<2000000:=by have:=nv.1;omega
 have hlen:=vz (l:=l) (s:=s) (kind:=kind) (v:=v) (k:=k);simp only [hc,decide_false,cond_false,h,qa0,rQ sl la,rR sl la,pN (show (cr l s kind v k).length<2000000 by omega),decide_true,qae];by_cases h1:s<1
 ·simp [h1]
 by_cases h8:8<s
 ·simp [h1,h8]
 have e:=pO (l:=l) (s:=s) (kind:=kind) (v:=v) (k:=k) ⟨by omega,by omega⟩;have db:=vw (l:=l) (kind:=kind) (at_:=v) (k:=k);simp only [h1,h8,decide_false,cond_false,qa0,vv sl la,e,pN (show (oN l kind v k).length<2000000 by omega),decide_true]
theorem tT(code:List UInt8):M.gp code=some true:=by
 unfold M.gp;by_cases hc:1048576<(code.length:Int)
 ·simp [hc]
 obtain ⟨l,s,kind,v,k,h,nl,nv,hs,hk⟩:=xB code;have sl:=nl.small;have la:v.length<2000000:=by have:=nv.1;omega
 have hlen:=vz (l:=l) (s:=s) (kind:=kind) (v:=v) (k:=k);simp only [hc,decide_false,cond_false,h,qa0,rQ sl la,rR sl la,pN (show (cr l s kind v k).length<2000000 by omega),decide_true,qae];by_cases jF:cr l s kind v k=[]
 ·simp [jF]
 have u0:=List.length_pos_iff.2 jF;have e3:(((cr l s kind v k).length:Int)==0)=false:=beq_eq_false_iff_ne.2 (by omega);have hq:fj l kind v=true/\(1<=s/\s<=8)/\1<=k/\k<=16:=by
  unfold cr at jF;split at jF
  ·assumption
  ·exact absurd rfl jF
 obtain ⟨hq,rs,k1,k2⟩:=hq;obtain ⟨ho,pv,hv⟩:=iw.1 hq;obtain ⟨aaT,hit,hpw⟩:=di.1 ho;have ek:cr l s kind v k=cP k.toNat (bC l kind v):=by rw [pO rs,vx hq k1 k2]
 have e0:(0:Int)=((0:Nat):Int):=rfl;simp only [e3,cond_false,qa0];have g0:bu (cr l s kind v k) 0=some (cr l s kind v k)[0]:=bT (i:=0) u0;simp only [g0,qa0];have hm0:(cr l s kind v k)[0]∈bC l kind v:=by
  have XA: ∀t∈cr l s kind v k,t∈bC l kind v:=λt ht=>by
   rw [ek] at ht;exact vu _ _ _ ht
  exact XA _ (qad u0)
 obtain ⟨x,hx,hx0⟩:=xA.1 hm0;have hx1:(cr l s kind v k)[0].1=x.1:=by rw [hx0]
 have ajg:(l.any λy=>y.1==x.1)=true:=qbs.2 ⟨x,hx,by simp⟩;have hd:=JC (k:=x.1) ho ajg;have R8:cJ (lU l x.1)=true:=vr ho Ah;have Fi:fj (lU l x.1) kind v=true:=iw.2 ⟨R8,pv,hv⟩;have ek2:cr (lU l x.1) s kind v k=cP k.toNat (bC (lU l x.1) kind v):=by rw [pO rs,vx Fi k1 k2]
 have akl:=vz (l:=lU l x.1) (s:=s) (kind:=kind) (v:=v) (k:=k);have ajh:fF (bC (lU l x.1) kind v)=(fF (bC l kind v)).tail:=by
  obtain ⟨i1,i2⟩:=dS (bC l kind v);rw [TJ,G5];have EX:((fF (bC l kind v)).map (·.1)).Nodup:=(i2.map (·.1)).nodup_iff.2 (by
   unfold bC List.Nodup;rw [List.map_map,List.pairwise_map];exact hpw.imp λh=>by simp only [Function.comp];omega)
  have abm: ∃r,fF (bC l kind v)=(cr l s kind v k)[0]::r:=by
   have Lb:0<k.toNat:=by omega
   cases hi:fF (bC l kind v) with
   | nil=>rw [ek] at u0;unfold cP at u0;rw [hi] at u0;simp at u0
   | cons m r=>
    refine ⟨r, ?_⟩;have:(cr l s kind v k)=m::r.take (k.toNat - 1):=by
     rw [ek];unfold cP;rw [hi];obtain ⟨n,hn⟩: ∃n,k.toNat=n+1:=⟨k.toNat - 1,by omega⟩;rw [hn];rfl
    simp [this]
  obtain ⟨r,hr⟩:=abm;rw [hr] at EX ⊢;rw [qaz,List.nodup_cons,hx1] at EX;rw [List.filter_cons,if_neg (by simp [hx1]),List.tail_cons];exact qci.2 λy hy=>by
   have:y.1≠x.1:=λq=>EX.1 (qc5.2 ⟨y,hy,q⟩);simpa using this
 have wG:cr (lU l x.1) s kind v k=((fF (bC l kind v)).tail).take k.toNat:=by rw [ek2];unfold cP;rw [ajh]
 have aeZ:cr l s kind v k=(fF (bC l kind v)).take k.toNat:=ek;have NQ:(((cr (lU l x.1) s kind v k).map (·.1)).any λy=>y==x.1)=false:=by
  rw [List.any_eq_false];intro y hy;obtain ⟨t,ht,rfl⟩:=qc5.1 hy;rw [ek2] at ht;obtain ⟨z,hz,rfl⟩:=xA.1 (vu _ _ _ ht);have:=(Af.1 hz).2;simpa using this
 have Zj:ao (((cr l s kind v k).length:Int) - 1)=(((cr l s kind v k).length - 1:Nat):Int):=by rw [aV (by omega) (by omega)];omega
 have Vk:(cr l s kind v k).length - 1<=(cr (lU l x.1) s kind v k).length:=by
  rw [wG,aeZ,qan,qan,List.length_tail];omega
 have d5:decide ((((cr l s kind v k).length - 1:Nat):Int)<=((cr (lU l x.1) s kind v k).length:Int))=true:=decide_eq_true (by omega);have g1:=CC (xs:=cr (lU l x.1) s kind v k) (l:=0) (h:=(cr l s kind v k).length - 1) (by omega) Vk;have g2:=CC (xs:=cr l s kind v k) (l:=1) (h:=(cr l s kind v k).length) (by omega) (by omega);simp only [Int.natCast_zero,Int.natCast_one] at g1 g2;have ED:((cr (lU l x.1) s kind v k).take ((cr l s kind v k).length - 1)).drop 0=((cr l s kind v k).take (cr l s kind v k).length).drop 1:=by
  rw [qcc,qbv,wG,aeZ];generalize fF (bC l kind v)=I;cases I with
  | nil=>simp
  | cons m r=>
   obtain ⟨n,hn⟩: ∃n,k.toNat=n+1:=⟨k.toNat - 1,by omega⟩;rw [hn];simp only [List.tail_cons,qc0,qb2,qan,Nat.add_sub_cancel,List.drop_succ_cons,qcc,List.take_take];rw [List.take_eq_take_iff];omega
 have oS:(((cr l s kind v k).take (cr l s kind v k).length).drop 1).length<2000000:=by simp;omega
 simp only [hx1,uk sl,hd,qa0,rQ (oy R8) la,rR (oy R8) la,cond_true,Xq (show (cr (lU l x.1) s kind v k).length<1000000 by omega),Xl (show ((cr (lU l x.1) s kind v k).map (·.1)).length<2000000 by simp;omega),NQ,qcl,Zj,d5,g1,g2,ED,pN oS,decide_true]
end Go.Vs

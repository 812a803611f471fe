/- Plain facts of what the functions compute. -/
import Derived.Test.YtbpbncjammigdaaGreatAl
import Derived.Test.YtbpbncjammigdaaGreatEng1
import Derived.Test.YtbpbncjammigdaaGreatLib1
set_option linter.unusedVariables false
set_option linter.unusedSimpArgs false
namespace Go.Vs
theorem IJ{S R:Type}{f:S->Option (S⊕R)}{r:R}(k:Nat)(st:Nat->S)(hs: ∀i,i<k->f (st i)=some (.inl (st (i+1))))(he:f (st k)=some (.inr r)):cA f (st 0)=some r:=by
 induction k generalizing st with
 | zero=>rw [bA,he];rfl
 | succ k ih=>
  rw [bA,hs 0 (by omega)];exact ih (λi=>st (i+1)) (λi hi=>hs (i+1) (by omega)) he
theorem M5{n:Nat}(h:n<9223372036854775808):av (n:Int)=n:=bj (by omega) (by omega)
theorem cr{α:Type}{xs:List α}{i:Nat}(h:i<xs.length):bF xs (i:Int)=some xs[i]:=by
 unfold bF;rw [if_pos (by omega)];simp [h]
theorem o0{α:Type}{xs:List α}{a:Int}(h0:0<=a)(h:a<xs.length): ∃e,bF xs a=some e/\e∈xs:=by
 obtain ⟨n,rfl⟩:=qax h0;have hn:n<xs.length:=by omega
 exact ⟨xs[n],cr hn,qai _⟩
theorem gH{α:Type}{xs ys:List α}(h:xs.length+ys.length<=2147483648):mA xs ys=some (xs++ys):=by unfold mA;rw [if_pos h]
theorem FL{a b:Int}(h:b≠0):DV a b=some (a.tmod b):=by unfold DV;rw [if_neg h]
theorem V0{a b:Int}(h:b≠0):ND a b=some (av (a.tdiv b)):=by unfold ND;rw [if_neg h]
theorem kt{α:Type}{xs:List α}{l h:Int}(h0:0<=l)(h1:l<=h)(h2:h<=xs.length):fN xs l h=some ((xs.take h.toNat).drop l.toNat):=by
 unfold fN;rw [if_pos ⟨h0,h1,h2⟩]
theorem Su{α:Type}{k:Int}{z:α}(h0:0<=k)(h1:k<=2147483648):wM k z=some (List.replicate k.toNat z):=by unfold wM;rw [if_pos ⟨h0,h1⟩]
theorem M6{α:Type}{k:Nat}{xs:List α}(h:k<=xs.length):NH k xs=some (xs.take k):=by unfold NH;rw [if_pos h]
theorem pY{a b:Int}(ha:0<=a)(hb:0<b):0<=a.tmod b/\a.tmod b<b:=by
 rw [Int.tmod_eq_emod_of_nonneg ha];exact ⟨Int.emod_nonneg _ (by omega),Int.emod_lt_of_pos _ hb⟩
theorem zl{a b:Int}(ha:0<=a)(hb:0<b):0<=a.tdiv b/\a.tdiv b<=a:=by
 rw [Int.tdiv_eq_ediv_of_nonneg ha];exact ⟨Int.ediv_nonneg ha (by omega),Int.ediv_le_self _ ha⟩
theorem Lq{a b:Int}(ha:0<=a)(ha':a<4611686018427387904)(hb:0<=b)(eT:b<4611686018427387904):0<=DF a b/\DF a b<4611686018427387904:=by
 obtain ⟨m,rfl⟩:=qax ha;obtain ⟨n,rfl⟩:=qax hb;have h1:(BitVec.ofInt 64 (m:Int) ^^^ BitVec.ofInt 64 (n:Int)).toNat=m ^^^ n:=by
  rw [BitVec.toNat_xor];have e: ∀k:Nat,k<4611686018427387904->(BitVec.ofInt 64 (k:Int)).toNat=k:=by
   intro k hk;simp only [BitVec.toNat_ofInt];omega
  rw [e m (by omega),e n (by omega)]
 have h2:m ^^^ n<2^62:=Nat.xor_lt_two_pow (by omega) (by omega);have h3:(2:Nat)^62=4611686018427387904:=by decide
 unfold DF;rw [h1];have:av ((m ^^^ n:Nat):Int)=(m ^^^ n:Nat):=M5 (by omega);show 0<=av _/\av _<_;rw [this];omega
theorem pa{α R:Type}{xs:List α}{P:α->Bool}{r:R}{f:Int->Option (Int⊕(Unit⊕R))}(hs: ∀i (h:i<xs.length),f (i:Int)=some (if P xs[i] then .inl ((i:Int)+1) else .inr (.inr r)))(he:f (xs.length:Int)=some (.inr (.inl ()))):
  cA f 0=some (if xs.all P then .inl () else .inr r):=by
 have key: ∀m k:Nat,k+m=xs.length->cA f (k:Int)=some (if (xs.drop k).all P then .inl () else .inr r):=by
  intro m
  induction m with
  | zero=>
   intro k hk;have:k=xs.length:=by omega
   subst this;rw [bA,he];simp [bz]
  | succ m ih=>
   intro k hk;have bJ:k<xs.length:=by omega
   rw [bA,hs k bJ,qb9 bJ];by_cases hp:P xs[k]=true
   ·rw [if_pos hp];have:=ih (k+1) (by omega);simp only [Int.natCast_add,Int.cast_ofNat_Int] at this;simp only [List.all_cons,hp,qbm,bz,this,qa0]
   ·rw [if_neg hp];simp only [List.all_cons,qbd] at hp ⊢;simp only [hp,Bool.false_and,bz,qa0];rfl
 have:=key xs.length 0 (by omega);simpa using this
end Go.Vs
namespace Go.Vs
def Good(k:Nat)(r:List UInt8×Int):Prop:=r.1.length<=2000/\0<=r.2/\r.2<=k
theorem Good.mono{k m:Nat}{r:List UInt8×Int}(h:Good k r)(hm:k<=m):Good m r:=⟨h.1,h.2.1,by have:=h.2.2;omega⟩
theorem k7{k:Nat}(hk:k<=1000000){r:List UInt8×Int}(hr:Good k r)(n:Int):
  ∃x r',M.bT r n=some (x,r')/\Good (k+1) r'/\0<=x/\(1<=n->x<n)/\(n<1->x=0):=by
 obtain ⟨b,p⟩:=r;obtain ⟨h1,h2,h3⟩:=hr;simp only at h1 h2 h3;have e1:av (p+1)=p+1:=bj (by omega) (by omega);have e2:av (p+1 - 1)=p:=by rw [bj (by omega) (by omega)];omega
 have M7:Good (k+1) (b,p+1):=⟨h1,by simp only;omega,by simp only;omega⟩;unfold M.bT;simp only [e1,e2];by_cases hn:n<1
 ·refine ⟨0,(b,p+1), ?_,M7,by omega,λh=>by omega,λ_=>rfl⟩;simp [hn]
 ·by_cases hb:b.length=0
  ·refine ⟨0,(b,p+1), ?_,M7,by omega,λh=>by omega,λ_=>rfl⟩;simp [hn,hb]
  ·have hbl:(b.length:Int)≠0:=by omega
   have hbb:((b.length:Int)==0)=false:=by simpa using hb
   simp only [hn,decide_false,cond_false,hbb,qa0];by_cases hp:p<(b.length:Int)
   ·obtain ⟨e,he,_⟩:=o0 (xs:=b) h2 hp;have hE:av (e.toNat:Int)=e.toNat:=M5 (by have:=e.toNat_lt;omega);have hr:=pY (a:=(e.toNat:Int)) (b:=n) (by omega) (by omega);refine ⟨_,(b,p+1), ?_,M7,hr.1,λ_=>hr.2,λh=>h.elim⟩;simp only [hp,decide_true,cond_true,he,qa0,hE,FL (show n≠0 by omega)]
   ·simp only [hp,decide_false,cond_false];have hbp:0<(b.length:Int):=by omega
    have r1:=pY (a:=p) h2 hbp;have e7:av (av (p*7)+3)=p*7+3:=by rw [bj (n:=p*7) (by omega) (by omega),bj (by omega) (by omega)]
    have r2:=pY (a:=p*7+3) (b:=(b.length:Int)) (by omega) hbp;obtain ⟨x,hx,_⟩:=o0 (xs:=b) r1.1 r1.2;obtain ⟨y,hy,_⟩:=o0 (xs:=b) r2.1 r2.2;have hX:(x.toNat:Int)<256:=by have:=x.toNat_lt;omega
    have hY:(y.toNat:Int)<256:=by have:=y.toNat_lt;omega
    have r3:=zl (a:=p) (b:=(b.length:Int)) h2 hbp;simp only [FL hbl,qa0,hx,e7,hy,V0 hbl];generalize hq:av (p.tdiv (b.length:Int))=q;have Vr:0<=q/\q<=1000000:=by rw [←hq,bj (by omega) (by omega)];omega
    have eX:av (x.toNat:Int)=x.toNat:=bj (by omega) (by omega);have eY:av (y.toNat:Int)=y.toNat:=bj (by omega) (by omega);simp only [eX,eY];have eX':av ((x.toNat:Int)*131)=x.toNat*131:=bj (by omega) (by omega);have eY':av ((y.toNat:Int)*1117)=y.toNat*1117:=bj (by omega) (by omega);have eP:av (p*29)=p*29:=bj (by omega) (by omega);have eQ:av (q*53)=q*53:=bj (by omega) (by omega);simp only [eX',eY',eP,eQ];have eA:av ((x.toNat:Int)*131+y.toNat*1117)=x.toNat*131+y.toNat*1117:=bj (by omega) (by omega);simp only [eA];have eB:av ((x.toNat:Int)*131+y.toNat*1117+p*29)=x.toNat*131+y.toNat*1117+p*29:=bj (by omega) (by omega);simp only [eB];have eC:av ((x.toNat:Int)*131+y.toNat*1117+p*29+q*53)=x.toNat*131+y.toNat*1117+p*29+q*53:=bj (by omega) (by omega);simp only [eC];generalize hZ:(x.toNat:Int)*131+y.toNat*1117+p*29+q*53=Z;have hZ':0<=Z/\Z<=1000000000:=by omega
    have r4:=zl (a:=Z) (b:=64) hZ'.1 (by omega);have eD:av (Z.tdiv 64)=Z.tdiv 64:=bj (by omega) (by omega);rw [eD];have r5:=Lq (a:=Z) (b:=Z.tdiv 64) (by omega) (by omega) (by omega) (by omega);have r6:=pY (a:=DF Z (Z.tdiv 64)) (b:=n) r5.1 (by omega);refine ⟨_,(b,p+1), ?_,M7,r6.1,λ_=>r6.2,λh=>h.elim⟩;simp only [FL (show n≠0 by omega),qa0]
theorem rH{k:Nat}(hk:k<=1000000){r:List UInt8×Int}(hr:Good k r){list:List Int}(hl:list≠[]):
  ∃x r',M.cO r list=some (x,r')/\Good (k+1) r'/\x∈list:=by
 obtain ⟨x,r',h1,h2,h3,h4,_⟩:=k7 hk hr (list.length:Int);have hlen:1<=(list.length:Int):=by
  have:list.length≠0:=by simpa using hl
  omega
 obtain ⟨e,he,hm⟩:=o0 h3 (h4 hlen);refine ⟨e,r', ?_,h2,hm⟩;unfold M.cO;simp only [h1,qa0,he]
theorem uU{k:Nat}(hk:k<=900000){r:List UInt8×Int}(hr:Good k r):
  ∃x r',M.iT r=some (x,r')/\Good (k+3) r'/\ -100<=x/\x<=100:=by
 obtain ⟨x1,r1,h1,g1,a1,b1,_⟩:=k7 (by omega) hr 201;obtain ⟨x2,r2,h2,g2,a2,b2,_⟩:=k7 (by omega) g1 21;have b1:=b1 (by omega);have b2:=b2 (by omega);have e1:av (x1 - 100)=x1 - 100:=bj (by omega) (by omega);have e2:av (x2 - 10)=x2 - 10:=bj (by omega) (by omega);obtain ⟨x3,r3,h3,g3,m3⟩:=rH (by omega) g2 (list:=[0,1, -1,5, -7,10,3,100, -100,x1 - 100,x2 - 10]) (by simp);refine ⟨x3,r3, ?_,g3, ?_⟩
 ·unfold M.iT;simp only [h1,qa0,h2,e1,e2,h3]
 ·simp only [qab,qap,or_false] at m3;omega
def eo(v:List Int):Bool:=decide (v.length=4)&&v.all λx=>decide (-100<=x)&&decide (x<=100)
theorem ku{v:List Int}:eo v=true↔v.length=4/\ ∀x∈v, -100<=x/\x<=100:=by
 unfold eo;simp
theorem Lr{v:List Int}(h:eo v=true): ∃a b c d,v=[a,b,c,d]/\(-100<=a/\a<=100)/\(-100<=b/\b<=100)/\(-100<=c/\c<=100)/\(-100<=d/\d<=100):=by
 obtain ⟨h1,h2⟩:=ku.1 h
 match v,h1 with
 | [a,b,c,d],_=>exact ⟨a,b,c,d,rfl,h2 a (by simp),h2 b (by simp),h2 c (by simp),h2 d (by simp)⟩
theorem CR{k:Nat}(hk:k<=800000){r:List UInt8×Int}(hr:Good k r):
  ∃v r',M.fl r=some (v,r')/\Good (k+12) r'/\eo v=true:=by
 obtain ⟨x1,r1,h1,g1,a1,b1⟩:=uU (by omega) hr;obtain ⟨x2,r2,h2,g2,a2,b2⟩:=uU (by omega) g1;obtain ⟨x3,r3,h3,g3,a3,b3⟩:=uU (by omega) g2;obtain ⟨x4,r4,h4,g4,a4,b4⟩:=uU (by omega) g3;refine ⟨[x1,x2,x3,x4],r4, ?_,g4,ku.2 ⟨rfl,by simp only [qab,qap,or_false];rintro x (rfl | rfl | rfl | rfl) <;> omega⟩⟩;have e: ∀n:Nat,n<10->av ((n:Int)+1)=(n:Int)+1:=λn hn=>bj (by omega) (by omega);have e0:av ((0:Int)+1)=1:=e 0 (by omega);have e1:av ((1:Int)+1)=2:=e 1 (by omega);have e2:av ((2:Int)+1)=3:=e 2 (by omega);have e3:av ((3:Int)+1)=4:=e 3 (by omega);have ga: ∀(xs:List Int) (x:Int),xs.length<10->mA xs [x]=some (xs++[x]):=λxs x hx=>gH (by simp;omega);unfold M.fl;rw [bA];simp only [show decide ((0:Int)<4)=true from rfl,cond_true,h1,qa0,ga [] x1 (by simp),bz,e0,qb7];rw [bA];simp only [show decide ((1:Int)<4)=true from rfl,cond_true,h2,qa0,ga [x1] x2 (by simp),bz,e1,qbq,qb7];rw [bA];simp only [show decide ((2:Int)<4)=true from rfl,cond_true,h3,qa0,ga [x1,x2] x3 (by simp),bz,e2,qbq,qb7];rw [bA];simp only [show decide ((3:Int)<4)=true from rfl,cond_true,h4,qa0,ga [x1,x2,x3] x4 (by simp),bz,e3,qbq,qb7];rw [bA];simp only [show decide ((4:Int)<4)=false from rfl,cond_false,qa0,bz]
end Go.Vs
namespace Go.Vs
def Sv(v:List Int):Prop:=v.length<=5/\ ∀x∈v, -101<=x/\x<=101
theorem uV{v:List Int}(h:eo v=true):Sv v:=by
 obtain ⟨h1,h2⟩:=ku.1 h;exact ⟨by omega,λx hx=>by have:=h2 x hx;omega⟩
theorem M8{v:List Int}(h:v.length<=1000000):M.iB v=some v:=by
 unfold M.iB;rw [gH (by simp;omega)];rfl
theorem Sy{k:Nat}(hk:k<=700000){r:List UInt8×Int}(hr:Good k r){v:List Int}(hv:eo v=true):
  ∃u r',M.gk r v 101=some (u,r')/\Good (k+3) r'/\Sv u:=by
 obtain ⟨hl,hb⟩:=ku.1 hv;obtain ⟨x1,r1,h1,g1,a1,b1,_⟩:=k7 (by omega) hr 20;unfold M.gk;simp only [M8 (v:=v) (by omega),qa0,h1];by_cases c0:x1=0
 ·refine ⟨v++[101],r1, ?_,g1.mono (by omega), ?_⟩
  ·simp [c0,gH (xs:=v) (ys:=[101]) (by simp;omega)]
  ·refine ⟨by simp;omega,λx hx=> ?_⟩;rcases qaj.1 hx with h | h
   ·have:=hb x h;omega
   ·simp at h;omega
 ·have e0:(x1==0)=false:=by simpa using c0
  simp only [e0,cond_false];have AB:decide (0<(v.length:Int))=true:=by simp;omega
  have Qc:0<v.length:=by omega
  by_cases c1:x1=1
  ·refine ⟨v.drop 1,r1, ?_,g1.mono (by omega),by simp;omega,λx hx=> ?_⟩
   ·have:fN v 1 (v.length:Int)=some (v.drop 1):=by
     rw [kt (by omega) (by omega) (by omega)];simp
    simp [c1,Qc,this]
   ·have:=hb x (List.mem_of_mem_drop hx);omega
  ·have e1:(x1==1)=false:=by simpa using c1
   simp only [e1,cond_false];by_cases c2:x1=2
   ·obtain ⟨i,r2,h2,g2,a2,b2,_⟩:=k7 (by omega) g1 (v.length:Int);obtain ⟨y,r3,h3,g3,m3⟩:=rH (by omega) g2 (list:=[-1,101,0,1]) (by simp);have b2:=b2 (by omega);obtain ⟨z,hz,_⟩:=o0 (xs:=v) a2 b2;refine ⟨v.set i.toNat y,r3, ?_,g3,by simp;omega,λx hx=> ?_⟩
    ·simp [c2,Qc,h2,h3,hz]
    ·rcases List.mem_or_eq_of_mem_set hx with h | h
     ·have:=hb x h;omega
     ·subst h;simp only [qab,qap,or_false] at m3;omega
   ·have e2:(x1==2)=false:=by simpa using c2
    exact ⟨v,r1,by simp [e2],g1.mono (by omega),uV hv⟩
theorem Ls{k:Nat}(hk:k<=600000){r:List UInt8×Int}(hr:Good k r):
  ∃v r',M.fO r=some (v,r')/\Good (k+16) r'/\Sv v:=by
 obtain ⟨x1,r1,h1,g1,a1,b1,_⟩:=k7 (by omega) hr 10;obtain ⟨v,r2,h2,g2,hv⟩:=CR (by omega) g1;unfold M.fO;simp only [h1,qa0];by_cases c0:x1=0
 ·obtain ⟨u,r3,h3,g3,hu⟩:=Sy (by omega) g2 hv;exact ⟨u,r3,by simp [c0,h2,h3],g3,hu⟩
 ·have e0:(x1==0)=false:=by simpa using c0
  exact ⟨v,r2,by simp [e0,h2],g2.mono (by omega),uV hv⟩
theorem FM(code:List UInt8): ∃r,M.iU code=some r/\Good 0 r:=by
 unfold M.iU;by_cases h:2000<(code.length:Int)
 ·refine ⟨(code.take 2000,0), ?_,by simp;omega,by simp,by simp⟩;have:fN code 0 2000=some (code.take 2000):=by
   rw [kt (by omega) (by omega) (by omega)];simp
  simp [h,this]
 ·exact ⟨(code,0),by simp [h],by simp only;omega,by simp,by simp⟩
theorem A2(v:List Int)(hb:v.length<2000000):M.gK v=some (v.all λx=>decide (-100<=x)&&decide (x<=100)):=by
 unfold M.gK;rw [pa (xs:=v) (P:=λx=>decide (-100<=x)&&decide (x<=100)) (r:=false)]
 ·by_cases ha:(v.all λx=>decide (-100<=x)&&decide (x<=100))=true
  ·simp only [ha,if_true,qa0,bz]
  ·simp only [qbd] at ha;simp only [ha];simp [bz]
 ·intro i h;have e1:decide ((i:Int)<(v.length:Int))=true:=by simpa using h
  have e2:av ((i:Int)+1)=(i:Int)+1:=bj (by omega) (by omega);simp only [e1,cond_true,cr h,qa0,e2];by_cases c1:v[i]< -100
  ·have c2: ¬(-100<=v[i]):=by omega
   simp [c1,c2]
  ·by_cases c3:100<v[i]
   ·have c4: ¬(v[i]<=100):=by omega
    simp [c1,c3,c4]
   ·simp [c1,c3,show -100<=v[i] by omega,show v[i]<=100 by omega]
 ·simp
theorem pZ(v:List Int)(hb:v.length<2000000):M.dZ v=some (eo v):=by
 unfold M.dZ;simp only [A2 v hb,qa0];unfold eo;by_cases hl:v.length=4
 ·have e:((v.length:Int)==4)=true:=by simp;omega
  rw [e,cond_true,decide_eq_true hl,qbm]
 ·have e:((v.length:Int)==4)=false:=by simp;omega
  rw [e,cond_false,decide_eq_false hl,Bool.false_and]
theorem zm(n l h:Int):M.dp n l h=some (decide (l<=n)&&decide (n<=h)):=by
 unfold M.dp;by_cases h1:l<=n <;> simp [h1]
theorem Sz(v:List Int)(l h:Int)(hb:v.length<2000000):M.nb v l h=some (v.all λx=>decide (l<=x)&&decide (x<=h)):=by
 unfold M.nb;rw [pa (xs:=v) (P:=λx=>decide (l<=x)&&decide (x<=h)) (r:=false)]
 ·by_cases ha:(v.all λx=>decide (l<=x)&&decide (x<=h))=true
  ·simp only [ha,if_true,qa0,bz]
  ·simp only [qbd] at ha;simp [ha,bz]
 ·intro i hi;have e1:decide ((i:Int)<(v.length:Int))=true:=by simpa using hi
  have e2:av ((i:Int)+1)=(i:Int)+1:=bj (by omega) (by omega);simp only [e1,cond_true,cr hi,qa0,e2,zm];cases (decide (l<=v[i])&&decide (v[i]<=h)) <;> rfl
 ·simp
theorem zn(v:List Int)(hb:v.length<2000000):M.iC v=some (eo v):=by
 unfold M.iC;by_cases hl:v.length=4
 ·have e:((v.length:Int)==4)=true:=by simp;omega
  simp [e,Sz v _ _ hb,eo,hl]
 ·have e:((v.length:Int)==4)=false:=by simp;omega
  simp [e,eo,hl]
end Go.Vs
namespace Go.Vs
end Go.Vs
namespace Go.Vs
theorem uW{S R:Type}{f:S->Option (S⊕R)}{s0 s1 s2 s3 s4:S}{r:R}(h0:f s0=some (.inl s1))(h1:f s1=some (.inl s2))(h2:f s2=some (.inl s3))(h3:f s3=some (.inl s4))(h4:f s4=some (.inr r)):cA f s0=some r:=by
 rw [bA,h0,qa0,bz,bA,h1,qa0,bz,bA,h2,qa0,bz,bA,h3,qa0,bz,bA,h4];rfl
theorem T8{α:Type}{a:α}{l:List α}:bF (a::l) 0=some a:=cr (i:=0) (by simp)
theorem V1{α:Type}{a b:α}{l:List α}:bF (a::b::l) 1=some b:=cr (i:=1) (by simp)
theorem V2{α:Type}{a b c:α}{l:List α}:bF (a::b::c::l) 2=some c:=cr (i:=2) (by simp)
theorem V3{α:Type}{a b c d:α}{l:List α}:bF (a::b::c::d::l) 3=some d:=cr (i:=3) (by simp)
theorem V4:av ((0:Int)+1)=1:=bj (by omega) (by omega)
theorem i12:av ((1:Int)+1)=2:=bj (by omega) (by omega)
theorem i23:av ((2:Int)+1)=3:=bj (by omega) (by omega)
theorem i34:av ((3:Int)+1)=4:=bj (by omega) (by omega)
theorem T9:decide ((0:Int)<4)=true:=rfl
theorem d14:decide ((1:Int)<4)=true:=rfl
theorem d24:decide ((2:Int)<4)=true:=rfl
theorem d34:decide ((3:Int)<4)=true:=rfl
theorem d44:decide ((4:Int)<4)=false:=rfl
theorem l4{α:Type}{a b c d:α}:(([a,b,c,d]:List α).length:Int)=4:=rfl
def nQ(x y:Int):Int:=max (x - y) (y - x)
theorem fv(x y:Int):0<=nQ x y:=by unfold nQ;omega
def Co(x:Int):Prop:= -100<=x/\x<=100
theorem mj{x y:Int}(hx:Co x)(hy:Co y):nQ x y<=200:=by unfold nQ;unfold Co at hx hy;omega
theorem eG{g:Int}(h0:0<=g)(h:g<=200):0<=g*g/\g<=g*g/\g*g<=40000:=by
 refine ⟨Int.mul_nonneg h0 h0, ?_, ?_⟩
 ·by_cases h1:g=0
  ·subst h1;simp
  ·have:=Int.mul_le_mul_of_nonneg_right (show (1:Int)<=g by omega) h0;omega
 ·have:=Int.mul_le_mul h h h0 (by omega);omega
def dk(k g0 g1 g2 g3:Int):Int:=
 if k=1 then g0+g1+g2+g3 else if k=2 then max (max (max (max 0 g0) g1) g2) g3 else if k=3 then g0*g0+g1*g1+g2*g2+g3*g3 else if k=4 then min g0 1+min g1 1+min g2 1+min g3 1 else -1
theorem A6(k:Int){g0 g1 g2 g3:Int}(h0:0<=g0)(GR:g0<=200)(h1:0<=g1)(QI:g1<=200)(h2:0<=g2)(JB:g2<=200)(h3:0<=g3)(h3':g3<=200):
  M.iq k [g0,g1,g2,g3]=some (dk k g0 g1 g2 g3):=by
 unfold M.iq;have s0:=eG h0 GR;have s1:=eG h1 QI;have s2:=eG h2 JB;have s3:=eG h3 h3';by_cases k1:k=1
 ·subst k1;have e0:av (0+g0)=g0:=by rw [bj (by omega) (by omega)];omega
  have e1:av (g0+g1)=g0+g1:=bj (by omega) (by omega);have e2:av (g0+g1+g2)=g0+g1+g2:=bj (by omega) (by omega);have e3:av (g0+g1+g2+g3)=g0+g1+g2+g3:=bj (by omega) (by omega);rw [uW (s1:=(g0,1)) (s2:=(g0+g1,2)) (s3:=(g0+g1+g2,3)) (s4:=(g0+g1+g2+g3,4)) (r:= .inl (g0+g1+g2+g3))]
  ·rfl
  ·simp only [T9,T8,V4,e0,bz,cond_true,qa0];rfl
  ·simp only [d14,V1,i12,e1,bz,cond_true,qa0];rfl
  ·simp only [d24,V2,i23,e2,bz,cond_true,qa0];rfl
  ·simp only [d34,V3,i34,e3,bz,cond_true,qa0];rfl
  ·simp [d44]
 by_cases k2:k=2
 ·subst k2;rw [uW (s1:=(max 0 g0,1)) (s2:=(max (max 0 g0) g1,2)) (s3:=(max (max (max 0 g0) g1) g2,3)) (s4:=(max (max (max (max 0 g0) g1) g2) g3,4)) (r:= .inl (max (max (max (max 0 g0) g1) g2) g3))]
  ·rfl
  ·simp only [T9,T8,V4,bz,cond_true,qa0];rfl
  ·simp only [d14,V1,i12,bz,cond_true,qa0];rfl
  ·simp only [d24,V2,i23,bz,cond_true,qa0];rfl
  ·simp only [d34,V3,i34,bz,cond_true,qa0];rfl
  ·simp [d44]
 by_cases k3:k=3
 ·subst k3;have q0:av (g0*g0)=g0*g0:=bj (by omega) (by omega);have q1:av (g1*g1)=g1*g1:=bj (by omega) (by omega);have q2:av (g2*g2)=g2*g2:=bj (by omega) (by omega);have q3:av (g3*g3)=g3*g3:=bj (by omega) (by omega);have e0:av (0+g0*g0)=g0*g0:=by rw [bj (by omega) (by omega)];omega
  have e1:av (g0*g0+g1*g1)=g0*g0+g1*g1:=bj (by omega) (by omega);have e2:av (g0*g0+g1*g1+g2*g2)=g0*g0+g1*g1+g2*g2:=bj (by omega) (by omega);have e3:av (g0*g0+g1*g1+g2*g2+g3*g3)=g0*g0+g1*g1+g2*g2+g3*g3:=bj (by omega) (by omega);rw [uW (s1:=(g0*g0,1)) (s2:=(g0*g0+g1*g1,2)) (s3:=(g0*g0+g1*g1+g2*g2,3)) (s4:=(g0*g0+g1*g1+g2*g2+g3*g3,4)) (r:= .inl (g0*g0+g1*g1+g2*g2+g3*g3))]
  ·rfl
  ·simp only [T9,T8,V4,e0,q0,bz,cond_true,qa0];rfl
  ·simp only [d14,V1,i12,e1,q1,bz,cond_true,qa0];rfl
  ·simp only [d24,V2,i23,e2,q2,bz,cond_true,qa0];rfl
  ·simp only [d34,V3,i34,e3,q3,bz,cond_true,qa0];rfl
  ·simp [d44]
 by_cases k4:k=4
 ·subst k4;have e0:av (0+min g0 1)=min g0 1:=by rw [bj (by omega) (by omega)];omega
  have e1:av (min g0 1+min g1 1)=min g0 1+min g1 1:=bj (by omega) (by omega);have e2:av (min g0 1+min g1 1+min g2 1)=min g0 1+min g1 1+min g2 1:=bj (by omega) (by omega);have e3:av (min g0 1+min g1 1+min g2 1+min g3 1)=min g0 1+min g1 1+min g2 1+min g3 1:=bj (by omega) (by omega);rw [uW (s1:=(min g0 1,1)) (s2:=(min g0 1+min g1 1,2)) (s3:=(min g0 1+min g1 1+min g2 1,3)) (s4:=(min g0 1+min g1 1+min g2 1+min g3 1,4)) (r:= .inl (min g0 1+min g1 1+min g2 1+min g3 1))]
  ·rfl
  ·simp only [T9,T8,V4,e0,bz,cond_true,qa0];rfl
  ·simp only [d14,V1,i12,e1,bz,cond_true,qa0];rfl
  ·simp only [d24,V2,i23,e2,bz,cond_true,qa0];rfl
  ·simp only [d34,V3,i34,e3,bz,cond_true,qa0];rfl
  ·simp [d44]
 have b1:(k==1)=false:=by simpa using k1
 have b2:(k==2)=false:=by simpa using k2
 have b3:(k==3)=false:=by simpa using k3
 have b4:(k==4)=false:=by simpa using k4
 rw [bA];simp [T9,T8,b1,b2,b3,b4,bz,dk,k1,k2,k3,k4]
theorem OW{a b c d x y z w:Int}(ha:Co a)(hb:Co b)(hc:Co c)(hd:Co d)(hx:Co x)(hy:Co y)(hz:Co z)(hw:Co w):
  M.lN [a,b,c,d] [x,y,z,w]=some [nQ a x,nQ b y,nQ c z,nQ d w]:=by
 have e: ∀p q,Co p->Co q->max (av (p - q)) (av (q - p))=nQ p q:=by
  intro p q hp hq;unfold Co at hp hq;rw [bj (n:=p - q) (by omega) (by omega),bj (n:=q - p) (by omega) (by omega)];rfl
 unfold M.lN;rw [uW (s1:=([nQ a x,0,0,0],1)) (s2:=([nQ a x,nQ b y,0,0],2)) (s3:=([nQ a x,nQ b y,nQ c z,0],3)) (s4:=([nQ a x,nQ b y,nQ c z,nQ d w],4)) (r:=[nQ a x,nQ b y,nQ c z,nQ d w])]
 ·rfl
 ·simp only [show List.replicate 4 (0:Int)=[0,0,0,0] from rfl,T9,T8,V4,cond_true,qa0,e a x ha hx];rfl
 ·simp only [d14,V1,i12,cond_true,qa0,e b y hb hy];rfl
 ·simp only [d24,V2,i23,cond_true,qa0,e c z hc hz];rfl
 ·simp only [d34,V3,i34,cond_true,qa0,e d w hd hw];rfl
 ·simp only [d44,cond_false]
theorem IK{k:Int}(hk:1<=k/\k<=4){a b c d x y z w:Int}(ha:Co a)(hb:Co b)(hc:Co c)(hd:Co d)(hx:Co x)(hy:Co y)(hz:Co z)(hw:Co w):
  M.mQ k [a,b,c,d] [x,y,z,w]=some (dk k (nQ a x) (nQ b y) (nQ c z) (nQ d w)):=by
 have e: ∀p q,Co p->Co q->M.oN (av (p - q))=some (nQ p q):=by
  intro p q hp hq;unfold Co at hp hq;unfold M.oN;rw [bj (n:=p - q) (by omega) (by omega),bj (n:=0 - (p - q)) (by omega) (by omega)];unfold nQ;congr 1;omega
 have t: ∀g:Int,0<=g->M.nc (decide (0<g))=some (min g 1):=by
  intro g hg;unfold M.nc;by_cases h:0<g
  ·simp [h];omega
  ·simp [h];omega
 have ea:=e a x ha hx;have eb:=e b y hb hy;have ec:=e c z hc hz;have ed:=e d w hd hw;have h0:=fv a x;have h1:=fv b y;have h2:=fv c z;have h3:=fv d w;have GR:=mj ha hx;have QI:=mj hb hy;have JB:=mj hc hz;have h3':=mj hd hw;generalize nQ a x=g0 at*;generalize nQ b y=g1 at*;generalize nQ c z=g2 at*;generalize nQ d w=g3 at*;have s0:=eG h0 GR;have s1:=eG h1 QI;have s2:=eG h2 JB;have s3:=eG h3 h3';unfold M.mQ;by_cases k1:k=1
 ·subst k1;have e0:av (0+g0)=g0:=by rw [bj (by omega) (by omega)];omega
  have e1:av (g0+g1)=g0+g1:=bj (by omega) (by omega);have e2:av (g0+g1+g2)=g0+g1+g2:=bj (by omega) (by omega);have e3:av (g0+g1+g2+g3)=g0+g1+g2+g3:=bj (by omega) (by omega);rw [uW (s1:=(g0,1)) (s2:=(g0+g1,2)) (s3:=(g0+g1+g2,3)) (s4:=(g0+g1+g2+g3,4)) (r:=g0+g1+g2+g3)]
  ·rfl
  ·simp only [l4,T9,T8,V4,e0,ea,cond_true,qa0];rfl
  ·simp only [l4,d14,V1,i12,e1,eb,cond_true,qa0];rfl
  ·simp only [l4,d24,V2,i23,e2,ec,cond_true,qa0];rfl
  ·simp only [l4,d34,V3,i34,e3,ed,cond_true,qa0];rfl
  ·simp [l4,d44]
 by_cases k2:k=2
 ·subst k2;rw [uW (s1:=(max 0 g0,1)) (s2:=(max (max 0 g0) g1,2)) (s3:=(max (max (max 0 g0) g1) g2,3)) (s4:=(max (max (max (max 0 g0) g1) g2) g3,4)) (r:=max (max (max (max 0 g0) g1) g2) g3)]
  ·rfl
  ·simp only [l4,T9,T8,V4,ea,cond_true,qa0];rfl
  ·simp only [l4,d14,V1,i12,eb,cond_true,qa0];rfl
  ·simp only [l4,d24,V2,i23,ec,cond_true,qa0];rfl
  ·simp only [l4,d34,V3,i34,ed,cond_true,qa0];rfl
  ·simp [l4,d44]
 by_cases k3:k=3
 ·subst k3;have q0:av (g0*g0)=g0*g0:=bj (by omega) (by omega);have q1:av (g1*g1)=g1*g1:=bj (by omega) (by omega);have q2:av (g2*g2)=g2*g2:=bj (by omega) (by omega);have q3:av (g3*g3)=g3*g3:=bj (by omega) (by omega);have e0:av (0+g0*g0)=g0*g0:=by rw [bj (by omega) (by omega)];omega
  have e1:av (g0*g0+g1*g1)=g0*g0+g1*g1:=bj (by omega) (by omega);have e2:av (g0*g0+g1*g1+g2*g2)=g0*g0+g1*g1+g2*g2:=bj (by omega) (by omega);have e3:av (g0*g0+g1*g1+g2*g2+g3*g3)=g0*g0+g1*g1+g2*g2+g3*g3:=bj (by omega) (by omega);rw [uW (s1:=(g0*g0,1)) (s2:=(g0*g0+g1*g1,2)) (s3:=(g0*g0+g1*g1+g2*g2,3)) (s4:=(g0*g0+g1*g1+g2*g2+g3*g3,4)) (r:=g0*g0+g1*g1+g2*g2+g3*g3)]
  ·rfl
  ·simp only [l4,T9,T8,V4,e0,q0,ea,cond_true,qa0];rfl
  ·simp only [l4,d14,V1,i12,e1,q1,eb,cond_true,qa0];rfl
  ·simp only [l4,d24,V2,i23,e2,q2,ec,cond_true,qa0];rfl
  ·simp only [l4,d34,V3,i34,e3,q3,ed,cond_true,qa0];rfl
  ·simp [l4,d44]
 ·have k4:k=4:=by omega
  subst k4;have e0:av (0+min g0 1)=min g0 1:=by rw [bj (by omega) (by omega)];omega
  have e1:av (min g0 1+min g1 1)=min g0 1+min g1 1:=bj (by omega) (by omega);have e2:av (min g0 1+min g1 1+min g2 1)=min g0 1+min g1 1+min g2 1:=bj (by omega) (by omega);have e3:av (min g0 1+min g1 1+min g2 1+min g3 1)=min g0 1+min g1 1+min g2 1+min g3 1:=bj (by omega) (by omega);rw [uW (s1:=(min g0 1,1)) (s2:=(min g0 1+min g1 1,2)) (s3:=(min g0 1+min g1 1+min g2 1,3)) (s4:=(min g0 1+min g1 1+min g2 1+min g3 1,4)) (r:=min g0 1+min g1 1+min g2 1+min g3 1)]
  ·rfl
  ·simp only [l4,T9,T8,V4,e0,ea,t g0 h0,cond_true,qa0];simp only [show ((4:Int)==1)=false from rfl,show ((4:Int)==2)=false from rfl,show ((4:Int)==3)=false from rfl,cond_false,qa0,t g0 h0,e0]
  ·simp only [l4,d14,V1,i12,e1,eb,t g1 h1,cond_true,qa0];simp only [show ((4:Int)==1)=false from rfl,show ((4:Int)==2)=false from rfl,show ((4:Int)==3)=false from rfl,cond_false,qa0,t g1 h1,e1]
  ·simp only [l4,d24,V2,i23,e2,ec,t g2 h2,cond_true,qa0];simp only [show ((4:Int)==1)=false from rfl,show ((4:Int)==2)=false from rfl,show ((4:Int)==3)=false from rfl,cond_false,qa0,t g2 h2,e2]
  ·simp only [l4,d34,V3,i34,e3,ed,t g3 h3,cond_true,qa0];simp only [show ((4:Int)==1)=false from rfl,show ((4:Int)==2)=false from rfl,show ((4:Int)==3)=false from rfl,cond_false,qa0,t g3 h3,e3]
  ·simp [l4,d44]
end Go.Vs
namespace Go.Vs
def tP(k:Int)(a b:List Int):Int:=
 if eo a=true/\eo b=true then dk k (nQ (a.getD 0 0) (b.getD 0 0)) (nQ (a.getD 1 0) (b.getD 1 0)) (nQ (a.getD 2 0) (b.getD 2 0)) (nQ (a.getD 3 0) (b.getD 3 0)) else -1
theorem zo{k:Int}{a b c d x y z w:Int}(ha:eo [a,b,c,d]=true)(hb:eo [x,y,z,w]=true):tP k [a,b,c,d] [x,y,z,w]=dk k (nQ a x) (nQ b y) (nQ c z) (nQ d w):=by
 unfold tP;rw [if_pos ⟨ha,hb⟩];rfl
theorem mV{v:List Int}(h:eo v=true): ∃a b c d,v=[a,b,c,d]/\Co a/\Co b/\Co c/\Co d:=Lr h
theorem xF(k:Int){a b:List Int}(ha:a.length<2000000)(hb:b.length<2000000):M.iD k a b=some (tP k a b):=by
 unfold M.iD;simp only [pZ a ha,qa0];by_cases va:eo a=true
 ·simp only [va,qah,cond_false,pZ b hb,qa0];by_cases vb:eo b=true
  ·simp only [vb,qah,cond_false];obtain ⟨x0,x1,x2,x3,rfl,c0,c1,c2,c3⟩:=mV va;obtain ⟨y0,y1,y2,y3,rfl,e0,e1,e2,e3⟩:=mV vb;rw [zo va vb,M6 (by simp),M6 (by simp)];simp only [qa0,qcc,List.take_zero,OW c0 c1 c2 c3 e0 e1 e2 e3];rw [A6 k (fv _ _) (mj c0 e0) (fv _ _) (mj c1 e1) (fv _ _) (mj c2 e2) (fv _ _) (mj c3 e3)]
   rfl
  ·have vb':eo b=false:=by simpa using vb
   simp [vb',tP]
 ·have va':eo a=false:=by simpa using va
  simp [va',tP]
theorem V5{k:Nat}(hk:k<=900000){r:List UInt8×Int}(hr:Good k r):
  ∃x r',M.kK r=some (x,r')/\Good (k+1) r':=by
 obtain ⟨x3,r3,h3,g3,m3⟩:=rH (by omega) hr (list:=[1,2,3,4,1,2,3,4,1,2,0,5]) (by simp);exact ⟨x3,r3,by unfold M.kK;simp only [h3,qa0],g3⟩
structure aaB(g0 g1 g2 g3:Int):Prop where
 n0:0<=g0
 n1:0<=g1
 n2:0<=g2
 n3:0<=g3
 m0:g0<=200
 m1:g1<=200
 m2:g2<=200
 m3:g3<=200
theorem V6{a b c d x y z w:Int}(c0:Co a)(c1:Co b)(c2:Co c)(c3:Co d)(e0:Co x)(e1:Co y)(e2:Co z)(e3:Co w):aaB (nQ a x) (nQ b y) (nQ c z) (nQ d w):=
 ⟨fv _ _,fv _ _,fv _ _,fv _ _,mj c0 e0,mj c1 e1,mj c2 e2,mj c3 e3⟩
theorem SA{k g0 g1 g2 g3:Int}(h:aaB g0 g1 g2 g3): -1<=dk k g0 g1 g2 g3/\dk k g0 g1 g2 g3<1000000:=by
 obtain ⟨n0,n1,n2,n3,m0,m1,m2,m3⟩:=h;have s0:=eG n0 m0;have s1:=eG n1 m1;have s2:=eG n2 m2;have s3:=eG n3 m3;unfold dk;split
 ·omega
 split
 ·omega
 split
 ·generalize g0*g0=q0 at*;generalize g1*g1=q1 at*;generalize g2*g2=q2 at*;generalize g3*g3=q3 at*;omega
 split <;> omega
end Go.Vs
namespace Go.Vs
end Go.Vs
namespace Go.Vs
end Go.Vs
namespace Go.Vs
end Go.Vs
namespace Go.Vs
end Go.Vs
namespace Go.Vs
end Go.Vs
namespace Go.Vs
end Go.Vs
namespace Go.Vs
abbrev Item:=Int×(List Int)×Int
def fS(x:Item):Bool:=(decide (1<=x.1)&&decide (x.1<=99))&&(eo x.2.1&&(decide (0<=x.2.2)&&decide (x.2.2<=15)))
def kl:Int->List Item->Bool
 | _,[]=>true
 | p,x::l=>(fS x&&decide (p<x.1))&&kl x.1 l
def cV(l:List Item):Bool:=decide (l.length<=16)&&kl 0 l
theorem IL{x:Item}(h:x.2.1.length<2000000):M.gL (x.1,x.2.1,x.2.2)=some (fS x):=by
 unfold M.gL M.fH M.kM fS;simp only [pZ x.2.1 h,qa0];by_cases h1:1<=x.1
 ·by_cases h2:x.1<=99
  ·by_cases h3:eo x.2.1=true
   ·by_cases h4:0<=x.2.2
    ·simp [h1,h2,h3,h4]
    ·simp [h1,h2,h3,h4]
   ·simp only [qbd] at h3;simp [h1,h2,h3]
  ·simp [h1,h2]
 ·simp [h1]
theorem wX{x:Item}(h:x.2.1.length<2000000):M.fP (x.1,x.2.1,x.2.2)=some (fS x):=by
 unfold M.fP fS;simp only [zm,zn x.2.1 h,qa0];cases (decide (1<=x.1)&&decide (x.1<=99)) <;> cases eo x.2.1 <;> simp
theorem FN{l:List Item}(hb: ∀x∈l,x.2.1.length<2000000):M.fo l=some (cV l):=by
  unfold M.fo cV;by_cases hl:16<(l.length:Int)
  ·have: ¬l.length<=16:=by omega
   simp [hl,this]
  have om:l.length<=16:=by omega
  simp only [hl,decide_false,cond_false,om,decide_true,qbm];have key: ∀m k:Nat, ∀p:Int,k+m=l.length->cA (fun (s3:(Int)×(Int))=>(bif decide (s3.2<(l.length:Int)) then
  (bF l s3.2).bind λx8=>
  Option.bind ((M.gL (x8.1,x8.2.1,x8.2.2)).bind λKa=>
  (bif !Ka then
  some true
 else
  some (decide (x8.1<=s3.1)))) λo29=>
  (bif o29 then
  some (.inr (.inr false))
 else
  some (.inl (x8.1,av (s3.2+1))))
 else
  some (.inr (.inl ())))) (p,(k:Int))=some (if kl p (l.drop k) then (.inl ():Unit⊕Bool) else .inr false):=by
   intro m
   induction m with
   | zero=>
    intro k p hk;have:k=l.length:=by omega
    subst this;rw [bA];simp [bz,kl]
   | succ m ih=>
    intro k p hk;have bJ:k<l.length:=by omega
    rw [bA,qb9 bJ];have e1:decide ((k:Int)<(l.length:Int))=true:=by simpa using bJ
    have e2:av ((k:Int)+1)=((k+1:Nat):Int):=bj (by omega) (by omega);simp only [e1,cond_true,cr bJ,qa0,IL (hb _ (qai bJ)),e2,kl];by_cases h1:fS l[k]=true
    ·by_cases h2:p<l[k].1
     ·have JB: ¬l[k].1<=p:=by omega
      simp only [h1,h2,JB,qah,cond_false,qa0,decide_false,decide_true,Bool.and_self,qbm,bz];exact ih (k+1) l[k].1 (by omega)
     ·have JB:l[k].1<=p:=by omega
      simp [h1,h2,JB,bz]
    ·simp only [qbd] at h1;simp [h1,bz]
  have:=key l.length 0 0 (by omega);simp only [Int.cast_ofNat_Int,List.drop_zero] at this;rw [this];cases kl 0 l <;> rfl
def lF(l:List Item):Nat->Int
 | 0=>0
 | k+1=>(l.getD k (0,[],0)).1
theorem uX{l:List Item}(hb: ∀x∈l,x.2.1.length<2000000)(hL:l.length<2000000):M.eH l=some (cV l):=by
  unfold M.eH cV;have key: ∀m k:Nat,k+m=l.length->cA (fun (s2:(Int))=>(bif decide (s2<(l.length:Int)) then
  Option.bind ((bF l s2).bind λx8=>
  (M.fP (x8.1,x8.2.1,x8.2.2)).bind λr19=>
  (bif !r19 then
  some true
 else
  (bif decide (0<s2) then
  (bF l s2).bind λsN=>
  (bF l (av (s2 - 1))).bind λtX=>
  some (decide (sN.1<=tX.1))
 else
  some false))) λo7=>
  (bif o7 then
  some (.inr (.inr false))
 else
  some (.inl (av (s2+1))))
 else
  some (.inr (.inl ())))) (k:Int)=some (if kl (lF l k) (l.drop k) then (.inl ():Unit⊕Bool) else .inr false):=by
   intro m
   induction m with
   | zero=>
    intro k hk;have:k=l.length:=by omega
    subst this;rw [bA];simp [bz,kl]
   | succ m ih=>
    intro k hk;have bJ:k<l.length:=by omega
    rw [bA,qb9 bJ];have e1:decide ((k:Int)<(l.length:Int))=true:=by simpa using bJ
    have e2:av ((k:Int)+1)=((k+1:Nat):Int):=bj (by omega) (by omega);have yO:lF l (k+1)=l[k].1:=by simp [lF,List.getD,bJ]
    have ih':=ih (k+1) (by omega);rw [yO] at ih';simp only [e1,cond_true,cr bJ,qa0,wX (hb _ (qai bJ)),e2,kl];by_cases h1:fS l[k]=true
    ·simp only [h1,qah,cond_false,qbm]
     match k,bJ with
     | 0,bJ=>
      have AB:lF l 0<l[0].1:=by
       have:1<=l[0].1:=by
        unfold fS at h1;simp at h1;exact h1.1.1
       show 0<_;omega
      have e3:decide ((0:Int)<((0:Nat):Int))=false:=rfl;simp only [e3,cond_false,qa0,AB,decide_true,qbm,bz];exact ih'
     | j+1,bJ=>
      have e3:decide ((0:Int)<((j+1:Nat):Int))=true:=by simp
      have e4:av (((j+1:Nat):Int) - 1)=(j:Int):=by rw [bj (by omega) (by omega)];omega
      have hj:j<l.length:=by omega
      have hk:lF l (j+1)=l[j].1:=by simp [lF,List.getD,hj]
      simp only [e3,cond_true,e4,cr hj,qa0,hk];by_cases h2:l[j].1<l[j+1].1
      ·have JB: ¬l[j+1].1<=l[j].1:=by omega
       simp only [h2,JB,decide_false,decide_true,cond_false,qbm,bz,qa0];exact ih'
      ·have JB:l[j+1].1<=l[j].1:=by omega
       simp [h2,JB,bz]
    ·simp only [qbd] at h1;simp [h1,bz]
  have:=key l.length 0 (by omega);simp only [Int.cast_ofNat_Int,List.drop_zero] at this;rw [this];show _=some (decide (l.length<=16)&&kl 0 l);have e:lF l 0=0:=rfl;rw [e];by_cases h16:l.length<=16
  ·have:decide ((l.length:Int)<=16)=true:=by simp;omega
   cases kl 0 l <;> simp [bz,this,h16]
  ·have:decide ((l.length:Int)<=16)=false:=by simp;omega
   cases kl 0 l <;> simp [bz,this,h16]
end Go.Vs
namespace Go.Vs
theorem OX{α:Type}{a:List α}{z:α}{g:α->Option α}(ha:a.length<=1048576)(hg: ∀x∈a,g x=some x){f:List α×Int->Option ((List α×Int)⊕List α)}
  (hs: ∀(s:List α) (i:Nat) (h:i<a.length) (h':i<s.length),g a[i]=some a[i]->f (s,(i:Int))=some (.inl (s.set i a[i],((i+1:Nat):Int)))) (he: ∀s,f (s,(a.length:Int))=some (.inr s)):
  cA f (List.replicate a.length z,0)=some a:=by
 have aeq:=IJ (R:=List α) (f:=f) (r:=a) a.length (λi=>(a.take i++List.replicate (a.length - i) z,(i:Int))) (by
  intro i hi;have hl:i<(a.take i++List.replicate (a.length - i) z).length:=by simp;omega
  rw [hs _ i hi hl (hg _ (qai hi))];have hr:List.replicate (a.length - i) z=z::List.replicate (a.length - (i+1)) z:=by
   rw [show a.length - i=(a.length - (i+1))+1 by omega,List.replicate_succ]
  rw [qb1 hi,hr,List.set_append_right _ _ (by simp;omega)];have:i - (a.take i).length=0:=by simp;omega
  rw [this];simp only [List.set_cons_zero,List.append_assoc,qbq,qb7]) (by
  rw [he];simp)
 simpa using aeq
end Go.Vs
namespace Go.Vs
theorem fz{i:Nat}(h:i<4000000000000000000):av ((i:Int)+1)=((i+1:Nat):Int):=bj (by omega) (by omega)
section
variable{α S T R U:Type}{xs:List α}
theorem OY(st:S->Int->T)(g:S->α->S)(Inv:Nat->S->Prop){fin:S->R}{f:T->Option (T⊕R)}{s0:S}(h0:Inv 0 s0)
  (hs: ∀s i (h:i<xs.length),Inv i s->f (st s (i:Int))=some (.inl (st (g s xs[i]) ((i+1:Nat):Int)))/\Inv (i+1) (g s xs[i]))
  (he: ∀s,Inv xs.length s->f (st s (xs.length:Int))=some (.inr (fin s))):
  cA f (st s0 0)=some (fin (xs.foldl g s0))/\Inv xs.length (xs.foldl g s0):=by
 have key: ∀m k:Nat, ∀s,k+m=xs.length->Inv k s->cA f (st s (k:Int))=some (fin ((xs.drop k).foldl g s))/\Inv xs.length ((xs.drop k).foldl g s):=by
  intro m
  induction m with
  | zero=>
   intro k s hk hi;have:k=xs.length:=by omega
   subst this;rw [bA,he s hi];simpa [bz] using hi
  | succ m ih=>
   intro k s hk hi;have bJ:k<xs.length:=by omega
   obtain ⟨h1,h2⟩:=hs s k bJ hi;rw [bA,h1,qb9 bJ];exact ih (k+1) _ (by omega) h2
 have:=key xs.length 0 s0 (by omega) h0;simpa using this
theorem kv(st:S->Int->T)(g:S->α->S)(Inv:Nat->S->Prop)(fin:S->R){f:T->Option (T⊕R)}{s0:S}{k:R->Option U}{r:Option U}(h0:Inv 0 s0)
  (hs: ∀s i (h:i<xs.length),Inv i s->f (st s (i:Int))=some (.inl (st (g s xs[i]) ((i+1:Nat):Int)))/\Inv (i+1) (g s xs[i]))
  (he: ∀s,Inv xs.length s->f (st s (xs.length:Int))=some (.inr (fin s)))
  (hk:Inv xs.length (xs.foldl g s0)->k (fin (xs.foldl g s0))=r):(cA f (st s0 0)).bind k=r:=by
 obtain ⟨h1,h2⟩:=OY st g Inv (fin:=fin) h0 hs he;rw [h1];exact hk h2
theorem zp(p:α->Bool)(r:Nat->R){f:Int->Option (Int⊕(Unit⊕R))}
  (hs: ∀i (h:i<xs.length),f (i:Int)=some (if p xs[i]=true then .inr (.inr (r i)) else .inl ((i+1:Nat):Int))) (he:f (xs.length:Int)=some (.inr (.inl ()))):
  cA f 0=some (match xs.findIdx? p with | some i=> .inr (r i) | none=> .inl ()):=by
 have key: ∀m k:Nat,k+m=xs.length->cA f (k:Int)=some (match (xs.drop k).findIdx? p with | some i=> .inr (r (k+i)) | none=> .inl ()):=by
  intro m
  induction m with
  | zero=>
   intro k hk;have:k=xs.length:=by omega
   subst this;rw [bA,he];simp [bz]
  | succ m ih=>
   intro k hk;have bJ:k<xs.length:=by omega
   rw [bA,hs k bJ,qb9 bJ,List.findIdx?_cons];by_cases hp:p xs[k]=true
   ·simp [hp,bz]
   ·simp only [hp,if_false,bz,qa0,qa7];rw [ih (k+1) (by omega)];cases h:List.findIdx? p (List.drop (k+1) xs) with
    | none=>rfl
    | some i=>simp only [qae];rw [show k+1+i=k+(i+1) by omega]
 have:=key xs.length 0 (by omega);simpa using this
end
theorem foldl_filter{α:Type}(p:α->Bool)(l:List α): ∀s:List α,l.foldl (λs x=>if p x=true then s++[x] else s) s=s++l.filter p:=by
 induction l with
 | nil=>intro s;simp
 | cons x l ih=>
  intro s;rw [List.foldl_cons,ih,List.filter_cons];by_cases h:p x=true <;> simp [h]
theorem Lt{l:List Item}: ∀{p:Int},kl p l=true↔(∀x∈l,fS x=true/\p<x.1)/\l.Pairwise (λx y=>x.1<y.1):=by
 induction l with
 | nil=>intro p;simp [kl]
 | cons x l ih=>
  intro p;simp only [kl,qa5,decide_eq_true_eq,ih,qc5,qab,forall_eq_or_imp]
  constructor
  ·rintro ⟨⟨h1,h2⟩,h3,h4⟩;exact ⟨⟨⟨h1,h2⟩,λy hy=>⟨(h3 y hy).1,by have:=(h3 y hy).2;omega⟩⟩,λy hy=>(h3 y hy).2,h4⟩
  ·rintro ⟨⟨⟨h1,h2⟩,h3⟩,h4,h5⟩;exact ⟨⟨h1,h2⟩,λy hy=>⟨(h3 y hy).1,h4 y hy⟩,h5⟩
theorem jl{x:Item}:fS x=true↔(1<=x.1/\x.1<=99)/\eo x.2.1=true/\0<=x.2.2/\x.2.2<=15:=by
 unfold fS;simp only [qa5,decide_eq_true_eq]
theorem dG{l:List Item}:cV l=true↔l.length<=16/\(∀x∈l,fS x=true)/\l.Pairwise (λx y=>x.1<y.1):=by
 unfold cV;simp only [qa5,decide_eq_true_eq,Lt]
 constructor
 ·rintro ⟨h1,h2,h3⟩;exact ⟨h1,λx hx=>(h2 x hx).1,h3⟩
 ·rintro ⟨h1,h2,h3⟩;exact ⟨h1,λx hx=>⟨h2 x hx,by have:=(jl.1 (h2 x hx)).1.1;omega⟩,h3⟩
theorem wY{l m:List Item}(h:cV l=true)(hs:m.Sublist l):cV m=true:=by
 obtain ⟨h1,h2,h3⟩:=dG.1 h;exact dG.2 ⟨qac hs.length_le h1,λx hx=>h2 x (hs.subset hx),h3.sublist hs⟩
theorem nz{x:Item}(h:fS x=true):x.2.1.length=4:=(ku.1 (jl.1 h).2.1).1
def fY(l:List Item):Prop:=l.length<=1048576/\ ∀x∈l,x.2.1.length<=1048576
theorem fY.hb{l:List Item}(h:fY l): ∀x∈l,x.2.1.length<2000000:=λx hx=>by have:=h.2 x hx;omega
theorem fY.hL{l:List Item}(h:fY l):l.length<2000000:=by have:=h.1;omega
theorem sV{l:List Item}(h:cV l=true):fY l:=by
 obtain ⟨h1,h2,h3⟩:=dG.1 h;exact ⟨by omega,λx hx=>by have:=nz (h2 x hx);omega⟩
theorem fY.impl{l:List Item}(h:fY l):M.fo l=some (cV l):=FN h.hb
theorem fY.Yl{l:List Item}(h:fY l):M.eH l=some (cV l):=uX h.hb h.hL
def wA(l:List Item)(x:Item):List Item:=l.filter (λy=>decide (y.1<x.1))++x::l.filter (λy=>decide (x.1<y.1))
theorem lI{x:Item}(h:x.2.1.length<=1000000):M.fG (x.1,x.2.1,x.2.2)=some x:=by
 unfold M.fG;simp only [M8 h,qa0]
theorem Lu{l:List Item}{x:Item}(hl:l.length<=1000)(hx: ∀y∈l,y.2.1.length<=1000000)(hxx:x.2.1.length<=1000000):M.qR l (x.1,x.2.1,x.2.2)=some (wA l x):=by
 unfold M.qR;simp only [];refine kv (xs:=l) (λs i=>(s,i)) (λs y=>if (decide (y.1<x.1))=true then s++[y] else s) (λi s=>s.length<=i) (λs=>s) (by simp) ?_ ?_ ?_
 ·intro s i h hs;have e1:decide ((i:Int)<(l.length:Int))=true:=by simpa using h
  simp only [e1,cond_true,cr h,qa0,fz (i:=i) (by omega)];by_cases hk:l[i].1<x.1
  ·simp only [hk,decide_true,cond_true,lI (hx _ (qai h)),qa0,if_true];rw [gH (by simp;omega)];exact ⟨by first | rfl | trivial,by simp;omega⟩
  ·simp only [hk,decide_false,cond_false,qa0,if_false,qa7];exact ⟨by first | rfl | trivial,by omega⟩
 ·intro s _;simp
 ·intro hs;rw [foldl_filter] at hs ⊢;simp only [qb7] at hs ⊢;simp only [lI hxx,qa0];rw [gH (by simp;omega)];simp only [qa0];refine kv (xs:=l) (λs i=>(s,i)) (λs y=>if (decide (x.1<y.1))=true then s++[y] else s) (λi s=>s.length<=1001+i) (λs=>s) (by simp;omega) ?_ ?_ ?_
  ·intro s i h hs;have e1:decide ((i:Int)<(l.length:Int))=true:=by simpa using h
   simp only [e1,cond_true,cr h,qa0,fz (i:=i) (by omega)];by_cases hk:x.1<l[i].1
   ·simp only [hk,decide_true,cond_true,lI (hx _ (qai h)),qa0,if_true];rw [gH (by simp;omega)];exact ⟨by first | rfl | trivial,by simp;omega⟩
   ·simp only [hk,decide_false,cond_false,qa0,if_false,qa7];exact ⟨by first | rfl | trivial,by omega⟩
  ·intro s _;simp
  ·intro _;rw [foldl_filter];simp [wA]
theorem SB{l:List Item}{x:Item}(h:l.Pairwise (λx y=>x.1<y.1)):(wA l x).length<=l.length+1:=by
 unfold wA;simp only [qau,qb6];have: ∀l:List Item,(l.filter (λy=>decide (y.1<x.1))).length+(l.filter (λy=>decide (x.1<y.1))).length<=l.length:=by
  intro l
  induction l with
  | nil=>simp
  | cons y l ih=>
   rw [List.filter_cons,List.filter_cons];by_cases h1:y.1<x.1
   ·have h2: ¬x.1<y.1:=by omega
    simp [h1,h2];omega
   ·by_cases h2:x.1<y.1
    ·simp [h1,h2];omega
    ·simp [h1,h2];omega
 have:=this l;omega
theorem M9{l:List Item}{x:Item}(h:cV l=true)(hx:fS x=true):(∀y∈wA l x,fS y=true)/\(wA l x).Pairwise (λx y=>x.1<y.1):=by
 obtain ⟨_,h2,h3⟩:=dG.1 h;unfold wA;refine ⟨?_, ?_⟩
 ·intro y hy;simp only [qaj,qab,qb8] at hy;rcases hy with hy | rfl | hy
  ·exact h2 y hy.1
  ·exact hx
  ·exact h2 y hy.1
 ·rw [List.pairwise_append,qc5];refine ⟨h3.sublist qba,⟨λy hy=> ?_,h3.sublist qba⟩,λy hy z hz=> ?_⟩
  ·simpa using (qb8.1 hy).2
  ·have h4:y.1<x.1:=by simpa using (qb8.1 hy).2
   rcases qab.1 hz with rfl | hz
   ·exact h4
   ·have:x.1<z.1:=by simpa using (qb8.1 hz).2
    omega
theorem uY{l:List Item}{x:Item}(h:cV l=true)(hx:fS x=true):cV (wA l x)=decide ((wA l x).length<=16):=by
 obtain ⟨h1,h2⟩:=M9 h hx;rw [Bool.eq_iff_iff,dG,decide_eq_true_eq];exact ⟨λh=>h.1,λh=>⟨h,h1,h2⟩⟩
def sd(l:List Item)(x:Item):List Item×Bool:=if cV l=true/\fS x=true/\(wA l x).length<=16 then (wA l x,true) else ([],false)
theorem zq{l:List Item}{x:Item}(h:fY l)(hx:x.2.1.length<=1000000):M.jv l (x.1,x.2.1,x.2.2)=some (sd l x):=by
 unfold M.jv sd;simp only [h.Yl,wX (x:=x) (by omega),qa0];cases h1:cV l with
 | false=>simp
 | true=>
  cases h2:fS x with
  | false=>simp
  | true=>
   obtain ⟨hl,hi,hp⟩:=dG.1 h1;simp only [qah,cond_false,qa0];rw [Lu (by omega) (λy hy=>by have:=nz (hi y hy);omega) hx];have hs:=M9 h1 h2;have hn:=SB (x:=x) hp;simp only [qa0,uX (l:=wA l x) (λy hy=>by have:=nz (hs.1 y hy);omega) (by omega),uY h1 h2];by_cases h16:(wA l x).length<=16 <;> simp [h16]
theorem Na{k:Nat}(hk:k<=700000){r:List UInt8×Int}(hr:Good k r):
  ∃x r',M.gu (r.1,r.2)=some (x,(r'.1,r'.2))/\Good (k+14) r'/\fS x=true/\x.1<=30:=by
 obtain ⟨x1,r1,h1,g1,a1,b1,_⟩:=k7 (by omega) hr 30;obtain ⟨v,r2,h2,g2,hv⟩:=CR (by omega) g1;obtain ⟨x3,r3,h3,g3,a3,b3,_⟩:=k7 (by omega) g2 16;have b1:=b1 (by omega);have b3:=b3 (by omega);refine ⟨(1+x1,v,x3),r3, ?_,g3.mono (by omega),jl.2 ⟨⟨by simp only;omega,by simp only;omega⟩,hv,by simp only;omega,by simp only;omega⟩,by simp only;omega⟩;unfold M.gu;simp only [h1,h2,h3,qa0,bj (n:=1+x1) (by omega) (by omega)]
def SC(x:Item):Prop:=(0<=x.1/\x.1<=100)/\Sv x.2.1/\ -1<=x.2.2/\x.2.2<=16
theorem IM{x:Item}(h:fS x=true):SC x:=by
 obtain ⟨h1,h2,h3⟩:=jl.1 h;exact ⟨by omega,uV h2,by omega⟩
theorem Lw{k:Nat}(hk:k<=500000){r:List UInt8×Int}(hr:Good k r):
  ∃x r',M.kL (r.1,r.2)=some (x,(r'.1,r'.2))/\Good (k+40) r'/\SC x:=by
 obtain ⟨x,r1,h1,g1,hx,_⟩:=Na (by omega) hr;obtain ⟨c,r2,h2,g2,_,_,_⟩:=k7 (by omega) g1 16;obtain ⟨Hq,hv,ht⟩:=jl.1 hx;unfold M.kL;simp only [h1,h2,qa0];by_cases c0:c=0
 ·obtain ⟨y,r3,h3,g3,m3⟩:=rH (by omega) g2 (list:=[0,99,100]) (by simp);refine ⟨(y,x.2.1,x.2.2),r3,by simp [c0,h3],g3.mono (by omega),⟨?_,uV hv,by simp only;omega⟩⟩;simp only [qab,qap,or_false] at m3;simp only;omega
 ·have e0:(c==0)=false:=by simpa using c0
  simp only [e0,cond_false];by_cases c1:c=1
  ·obtain ⟨v,r3,h3,g3,n3⟩:=Ls (by omega) g2;exact ⟨(x.1,v,x.2.2),r3,by simp [c1,h3],g3.mono (by omega),⟨by simp only;omega,n3,by simp only;omega⟩⟩
  ·have e1:(c==1)=false:=by simpa using c1
   simp only [e1,cond_false];by_cases c2:c=2
   ·obtain ⟨y,r3,h3,g3,m3⟩:=rH (by omega) g2 (list:=[-1,16]) (by simp);refine ⟨(x.1,x.2.1,y),r3,by simp [c2,h3],g3.mono (by omega),⟨by simp only;omega,uV hv, ?_⟩⟩;simp only [qab,qap,or_false] at m3;simp only;omega
   ·have e2:(c==2)=false:=by simpa using c2
    exact ⟨x,r2,by simp [e2],g2.mono (by omega),IM hx⟩
theorem IN:cV []=true:=rfl
theorem Lx{n:Nat}: ∀{k:Nat} {r:List UInt8×Int} {l:List Item},k+14*n<=400000->n<=100->Good k r->cV l=true->
   ∃l' r',cA (fun (yr:((List UInt8)×(Int))×(List (Int×(List Int)×Int))×(Int))=>(bif decide (0<yr.2.2) then
  Option.bind ((M.gu (yr.1.1,yr.1.2)).bind λKc=>
  (M.jv yr.2.1 (Kc.1.1,Kc.1.2.1,Kc.1.2.2)).bind λXu=>
  (bif Xu.2 then
  some ((Kc.2.1,Kc.2.2),Xu.1)
 else
  some ((Kc.2.1,Kc.2.2),yr.2.1))) λUE=>
  some (.inl ((UE.1.1,UE.1.2),UE.2,av (yr.2.2 - 1)))
 else
  some (.inr ((yr.1.1,yr.1.2),yr.2.1)))) (r,l,(n:Int))=some (r',l')/\Good (k+14*n) r'/\cV l'=true:=by
  induction n with
  | zero=>intro k r l _ _ hr hl;exact ⟨l,r,by rw [bA];simp [bz],hr.mono (by omega),hl⟩
  | succ n ih=>
   intro k r l hk hn hr hl;obtain ⟨x,r1,h1,g1,hx,_⟩:=Na (by omega) hr;rw [bA];have e1:decide ((0:Int)<((n+1:Nat):Int))=true:=decide_eq_true (by omega);have e2:av (((n+1:Nat):Int) - 1)=(n:Int):=by rw [bj (by omega) (by omega)];omega
   simp only [e1,cond_true,h1,qa0,zq (x:=x) (sV hl) (by have:=nz hx;omega),e2];by_cases hp:(sd l x).2=true
   ·have qx:cV (sd l x).1=true:=by
     unfold sd at hp ⊢;split
     ·rename_i h;simp only;rw [uY hl hx];simpa using h.2.2
     ·rename_i h;rw [if_neg h] at hp;cases hp
    obtain ⟨l',r',h2,h3,h4⟩:=ih (k:=k+14) (r:=r1) (l:=(sd l x).1) (by omega) (by omega) g1 qx;refine ⟨l',r', ?_,h3.mono (by omega),h4⟩;simp only [hp,cond_true,qa0,bz];exact h2
   ·simp only [qbd] at hp;obtain ⟨l',r',h2,h3,h4⟩:=ih (k:=k+14) (r:=r1) (l:=l) (by omega) (by omega) g1 hl;refine ⟨l',r', ?_,h3.mono (by omega),h4⟩;simp only [hp,cond_false,qa0,bz];exact h2
theorem FO{k:Nat}(hk:k<=300000){r:List UInt8×Int}(hr:Good k r):
  ∃l r',M.iW (r.1,r.2)=some (l,(r'.1,r'.2))/\Good (k+281) r'/\cV l=true:=by
 obtain ⟨x,r1,h1,g1,m1⟩:=rH (by omega) hr (list:=[4,6,8,3,1,0,20,12]) (by simp);obtain ⟨n,rfl,hn⟩: ∃n:Nat,x=(n:Int)/\n<=20:=⟨x.toNat,by simp only [qab,qap,or_false] at m1;omega,by simp only [qab,qap,or_false] at m1;omega⟩;obtain ⟨l,r2,h2,g2,hl⟩:=Lx (n:=n) (k:=k+1) (r:=r1) (l:=[]) (by omega) (by omega) g1 IN;refine ⟨l,r2, ?_,g2.mono (by omega),hl⟩;unfold M.iW;simp only [h1,qa0];rw [show ((r1.1,r1.2),([]:List Item),(n:Int))=(r1,[],(n:Int)) from rfl,h2];rfl
def IP(l:List Item):Prop:=l.length<=17/\ ∀x∈l,SC x
theorem IP.small{l:List Item}(h:IP l):fY l:=⟨by have:=h.1;omega,λx hx=>by have:=(h.2 x hx).2.1.1;omega⟩
theorem SD{l:List Item}(h:cV l=true):IP l:=by
 obtain ⟨h1,h2,_⟩:=dG.1 h;exact ⟨by omega,λx hx=>IM (h2 x hx)⟩
theorem IQ{k:Nat}(hk:k<=200000){r:List UInt8×Int}(hr:Good k r):
  ∃l r',M.jO (r.1,r.2)=some (l,(r'.1,r'.2))/\Good (k+400) r'/\IP l:=by
 obtain ⟨l,r1,h1,g1,hl⟩:=FO (by omega) hr;obtain ⟨c,r2,h2,g2,_,_,_⟩:=k7 (by omega) g1 20;have hN:=SD hl;obtain ⟨hlen,hit,_⟩:=dG.1 hl;unfold M.jO;simp only [h1,h2,qa0];by_cases c0:c=0
 ·obtain ⟨x,r3,h3,g3,hx⟩:=Lw (by omega) g2;refine ⟨l++[x],r3, ?_,g3.mono (by omega),by simp;omega, ?_⟩
  ·simp only [c0,show ((0:Int)==0)=true from rfl,cond_true,h3,qa0];rw [gH (by simp;omega)];rfl
  ·intro y hy;rcases qaj.1 hy with h | h
   ·exact hN.2 y h
   ·simp only [qbc] at h;subst h;exact hx
 ·have e0:(c==0)=false:=by simpa using c0
  simp only [e0,cond_false];by_cases c1:c=1
  ·by_cases AB:0<l.length
   ·have e1:decide (0<(l.length:Int))=true:=by simp;omega
    obtain ⟨i,r3,h3,g3,a3,b3,_⟩:=k7 (by omega) g2 (l.length:Int);have b3:=b3 (by omega);obtain ⟨v,r4,h4,g4,n4⟩:=Ls (by omega) g3;obtain ⟨y,hy,my⟩:=o0 (xs:=l) a3 b3;refine ⟨l.set i.toNat (y.1,v,y.2.2),r4, ?_,g4.mono (by omega),by simp;omega, ?_⟩
    ·simp only [c1,show ((1:Int)==1)=true from rfl,cond_true,e1,h3,h4,hy,qa0]
    ·intro z hz;rcases List.mem_or_eq_of_mem_set hz with h | h
     ·exact hN.2 z h
     ·subst h;exact ⟨(hN.2 y my).1,n4,(hN.2 y my).2.2⟩
   ·have e1:decide (0<(l.length:Int))=false:=decide_eq_false (by omega);exact ⟨l,r2,by simp only [c1,show ((1:Int)==1)=true from rfl,cond_true,e1,cond_false,qa0],g2.mono (by omega),hN⟩
  ·have e1:(c==1)=false:=by simpa using c1
   exact ⟨l,r2,by simp [e1],g2.mono (by omega),hN⟩
end Go.Vs
namespace Go.Vs
def A7(x y:Int):Int:=if x<y then -1 else if y<x then 1 else 0
theorem Ly(x y:Int):M.gb x y=some (A7 x y):=by
 unfold M.gb M.cmp_isNaN_int A7;simp only [bne_self_eq_false,qa0,cond_false];by_cases h1:x<y
 ·simp [h1]
 ·by_cases h2:y<x <;> simp [h1,h2]
theorem IS{x y:Int}:A7 x y<0↔x<y:=by unfold A7;split <;> (try split) <;> omega
theorem se{x y:Int}:A7 x y=0↔x=y:=by unfold A7;split <;> (try split) <;> omega
theorem IT{x y:Int}:0<A7 x y↔y<x:=by unfold A7;split <;> (try split) <;> omega
theorem SE{v:List Int}(h:v.length<=1048576):M.fg v=some v:=by
 unfold M.fg;rw [gH (by simp;omega)];rfl
theorem IU{x:Item}(h:x.2.1.length<=1048576):M.iE (x.1,x.2.1,x.2.2)=some x:=by
 unfold M.iE;simp only [SE h,qa0]
end Go.Vs
namespace Go.Vs
theorem zr{x:Item}(h:fS x=true):eo x.2.1=true:=(jl.1 h).2.1
end Go.Vs
namespace Go.Vs
end Go.Vs
namespace Go.Vs
def isKind(k:Int):Bool:=decide (1<=k)&&decide (k<=4)
theorem zt{k:Int}:isKind k=true↔1<=k/\k<=4:=by unfold isKind;simp
theorem IV(k:Int):M.iY k=some (isKind k):=by
 unfold M.iY isKind;by_cases h:1<=k <;> simp [h]
theorem IW(k:Int):M.iV k=some (isKind k):=by
 unfold M.iV;simp only [zm,qa0];rfl
theorem OZ{k g0 g1 g2 g3:Int}(h:aaB g0 g1 g2 g3)(hk:1<=k/\k<=4):0<=dk k g0 g1 g2 g3:=by
 obtain ⟨n0,n1,n2,n3,m0,m1,m2,m3⟩:=h;have s0:=eG n0 m0;have s1:=eG n1 m1;have s2:=eG n2 m2;have s3:=eG n3 m3;by_cases k1:k=1
 ·subst k1;simp only [dk,if_true];omega
 by_cases k2:k=2
 ·subst k2;rw [dk,if_neg (by omega),if_pos rfl];omega
 by_cases k3:k=3
 ·subst k3;rw [dk,if_neg (by omega),if_neg (by omega),if_pos rfl];omega
 ·have k4:k=4:=by omega
  subst k4;rw [dk,if_neg (by omega),if_neg (by omega),if_neg (by omega),if_pos rfl];omega
theorem LC{k:Int}{a b:List Int}(hk:isKind k=true)(ha:eo a=true)(hb:eo b=true):0<=tP k a b/\tP k a b<1000000:=by
 obtain ⟨x0,x1,x2,x3,rfl,c0,c1,c2,c3⟩:=mV ha;obtain ⟨y0,y1,y2,y3,rfl,e0,e1,e2,e3⟩:=mV hb;rw [zo ha hb];have G:=V6 c0 c1 c2 c3 e0 e1 e2 e3;exact ⟨OZ G (zt.1 hk),(SA G).2⟩
theorem FP{k:Int}{a b:List Int}(hk:isKind k=true)(ha:eo a=true)(hb:eo b=true):M.mQ k a b=some (tP k a b):=by
 obtain ⟨x0,x1,x2,x3,rfl,c0,c1,c2,c3⟩:=mV ha;obtain ⟨y0,y1,y2,y3,rfl,e0,e1,e2,e3⟩:=mV hb;rw [zo ha hb];exact IK (zt.1 hk) c0 c1 c2 c3 e0 e1 e2 e3
theorem FR{k:Int}{a b:List Int}(ha:eo a=true)(hb:eo b=true):M.iD k a b=some (tP k a b):=
 xF k (by rw [(ku.1 ha).1];omega) (by rw [(ku.1 hb).1];omega)
end Go.Vs
namespace Go.Vs
theorem FT{l:List Item}(h:fY l):M.iX l=some l:=by
 unfold M.iX;rw [Su (by omega) (by have:=h.1;omega)];simp only [qa0,qaz];rw [OX (a:=l) (g:=λx=>M.iE (x.1,x.2.1,x.2.2)) h.1 (λx uf=>IU (h.2 x uf))]
 ·rfl
 ·intro s i hi fa hg;have e1:decide ((i:Int)<(l.length:Int))=true:=decide_eq_true (by omega);simp only [e1,cond_true,cr hi,cr fa,qa0,hg,fz (i:=i) (by have:=h.1;omega),qaz]
 ·intro s;simp
end Go.Vs
namespace Go.Vs
end Go.Vs
namespace Go.Vs
end Go.Vs
namespace Go.Vs
end Go.Vs
namespace Go.Vs
section
noncomputable abbrev FU:Int×Int->Int×Int->Option Int:=λx y=>M.cX (x.1,x.2) (y.1,y.2)
end
end Go.Vs
namespace Go.Vs
section
variable{α:Type}[Inhabited α]
def el(d:List α)(i:Nat):α:=d.getD i default
theorem lU{d:List α}{i:Nat}(h:i<d.length):el d i=d[i]:=by simp [el,List.getD,h]
theorem oh{d:List α}{i:Nat}(h:i<d.length):bF d (i:Int)=some (el d i):=by rw [cr h,lU h]
theorem SF{d:List α}{i k:Nat}{x:α}(h:i<d.length):el (d.set i x) k=if k=i then x else el d k:=by
 unfold el;simp only [List.getD_eq_getElem?_getD,List.getElem?_set];by_cases e:i=k
 ·subst e;simp [h]
 ·simp [e,qbp e]
def swp(d:List α)(i j:Nat):List α:=(d.set i (el d j)).set j (el d i)
theorem FV{d:List α}{i j:Nat}:(swp d i j).length=d.length:=by simp [swp]
theorem zu{d:List α}{i j k:Nat}(hi:i<d.length)(hj:j<d.length):el (swp d i j) k=if k=j then el d i else if k=i then el d j else el d k:=by
 unfold swp;rw [SF (by simpa using hj),SF hi]
theorem IX{d:List α}{i j:Nat}(hi:i<d.length)(hj:j<d.length):(swp d i j).Perm d:=by
 unfold swp;rw [lU hi,lU hj];exact List.set_set_perm hi hj
structure jY(a b:Nat)(d d':List α):Prop where
 len:d'.length=d.length
 out: ∀i,i<a\/b<=i->el d' i=el d i
 perm:d'.Perm d
theorem jY.refl{a b:Nat}(d:List α):jY a b d d:=⟨rfl,λ_ _=>rfl,List.Perm.refl _⟩
theorem jY.trans{a b:Nat}{d d' d'':List α}(h:jY a b d d')(k:jY a b d' d''):jY a b d d'':=
 ⟨k.len.trans h.len,λi hi=>(k.out i hi).trans (h.out i hi),k.perm.trans h.perm⟩
theorem jY.swp{a b i j:Nat}{d:List α}(h1:a<=i)(h2:i<b)(h3:a<=j)(h4:j<b)(h5:b<=d.length):jY a b d (swp d i j):=
 ⟨FV,λk hk=>by rw [zu (by omega) (by omega),if_neg (by omega),if_neg (by omega)],IX (by omega) (by omega)⟩
end
structure sE{α:Type}(lt:α->α->Bool)(p:α->Prop):Prop where
 irrefl: ∀x,p x->lt x x=false
 trans: ∀x y z,p x->p y->p z->lt x y=true->lt y z=true->lt x z=true
 total: ∀x y,p x->p y->x≠y->lt x y=true\/lt y x=true
theorem sE.asymm{α:Type}{lt:α->α->Bool}{p:α->Prop}(h:sE lt p){x y:α}(hx:p x)(hy:p y)(hl:lt x y=true):lt y x=false:=by
 cases e:lt y x with
 | false=>rfl
 | true=>have:=h.trans x y x hx hy hx hl e;rw [h.irrefl x hx] at this;cases this
theorem sE.ntrans{α:Type}{lt:α->α->Bool}{p:α->Prop}(h:sE lt p){x y z:α}(hx:p x)(hy:p y)(hz:p z)(h1:lt x y=false)(h2:lt y z=false):lt x z=false:=by
 cases e:lt x z with
 | false=>rfl
 | true=>
  rcases Classical.em (x=y) with rfl | iH
  ·rw [h2] at e;cases e
  ·rcases h.total x y hx hy iH with h' | h'
   ·rw [h1] at h';cases h'
   ·have:=h.trans y x z hy hx hz h' e;rw [h2] at this;cases this
def Nb{α:Type}(cmp:α->α->Option Int)(lt:α->α->Bool)(p:α->Prop):Prop:= ∀x y,p x->p y-> ∃r,cmp x y=some r/\decide (r<0)=lt x y
def LD{α:Type}[Inhabited α](p:α->Prop)(d:List α):Prop:= ∀i,i<d.length->p (el d i)
theorem LD.of{α:Type}[Inhabited α]{p:α->Prop}{d:List α}(h: ∀x∈d,p x):LD p d:=λi hi=>h _ (by rw [lU hi];exact qai _)
theorem LD.perm{α:Type}[Inhabited α]{p:α->Prop}{d d':List α}(h:LD p d)(hp:d'.Perm d):LD p d':=by
 refine LD.of λx hx=> ?_;obtain ⟨i,hi,e⟩:=qam.1 (hp.mem_iff.1 hx);rw [←e, ←lU hi];exact h i hi
def Asc{α:Type}[Inhabited α](lt:α->α->Bool)(a b:Nat)(d:List α):Prop:= ∀i j,a<=i->i<j->j<b->lt (el d j) (el d i)=false
end Go.Vs
namespace Go.Vs
theorem zv{j:Nat}(h:1<=j)(h2:j<4000000000000000000):av ((j:Int) - 1)=((j - 1:Nat):Int):=by rw [bj (by omega) (by omega)];omega
section
variable{α:Type}{cmp:α->α->Option Int}{lt:α->α->Bool}{p:α->Prop}
theorem SG(hc:Nb cmp lt p){x y:α}(hx:p x)(hy:p y):(cmp x y).bind (λr=>some (decide (r<0)))=some (lt x y):=by
 obtain ⟨r,h1,h2⟩:=hc x y hx hy;rw [h1,qa0,h2]
end
section
variable{α:Type}[Inhabited α]{cmp:α->α->Option Int}{lt:α->α->Bool}{p:α->Prop}
theorem IY{d:List α}{i j:Nat}{x:α}(hj:j<d.length):bF (d.set i x) (j:Int)=some (el (d.set i x) j):=oh (by simpa using hj)
theorem V7(d:List α)(i j:Nat):(d.set i (el d j)).set j (el d i)=swp d i j:=rfl
theorem O0(hc:Nb cmp lt p)(hl:sE lt p){a i:Nat}{d0:List α}(hi:i<d0.length)(hn:d0.length<1000000000)(hp:LD p d0): ∀(d:List α) (j:Nat),a<=j->j<=i->jY a (i+1) d0 d->
   (∀x y,a<=x->x<y->y<=i->x≠j->y≠j->lt (el d y) (el d x)=false)->(∀y,j<y->y<=i->lt (el d y) (el d j)=false)->
   ∃d',cA (fun (s7:(List α)×(Int))=>Option.bind ((bif decide ((a:Int)<s7.2) then
  (bF s7.1 s7.2).bind λJ7=>
  (bF s7.1 (av (s7.2 - 1))).bind λx19=>
  (cmp J7 x19).bind λqk=>
  some (decide (qk<0))
 else
  some false)) λnM=>
  (bif nM then
  (bF s7.1 (av (s7.2 - 1))).bind λvW=>
  (bF s7.1 s7.2).bind λQz=>
  (bF s7.1 s7.2).bind λx48=>
  (bF (s7.1.set s7.2.toNat vW) (av (s7.2 - 1))).bind λMv=>
  some (.inl (((s7.1.set s7.2.toNat vW).set (av (s7.2 - 1)).toNat Qz),av (s7.2 - 1)))
 else
  some (.inr s7.1))) (d,(j:Int))=some d'/\jY a (i+1) d0 d'/\Asc lt a (i+1) d':=by
  intro d j
  induction j generalizing d with
  | zero=>
   intro ha _ hP h1 h2;have e1:decide ((a:Int)<((0:Nat):Int))=false:=decide_eq_false (by omega);rw [bA];simp only [e1,cond_false,qa0,bz];refine ⟨d,rfl,hP,λx y hx MA hy=> ?_⟩;by_cases hx0:x=0
   ·subst hx0;exact h2 y MA (by omega)
   ·exact h1 x y hx MA (by omega) hx0 (by omega)
  | succ j ih=>
   intro ha hji hP h1 h2;have hlen:=hP.len;have hpd:=hp.perm hP.perm;have ej:av (((j+1:Nat):Int) - 1)=(j:Int):=zv (by omega) (by omega);rw [bA];by_cases haj:a<j+1
   ·have e1:decide ((a:Int)<((j+1:Nat):Int))=true:=decide_eq_true (by omega);simp only [e1,cond_true,ej,oh (d:=d) (i:=j+1) (by omega),oh (d:=d) (i:=j) (by omega),qa0,SG hc (hpd (j+1) (by omega)) (hpd j (by omega))];cases bJ:lt (el d (j+1)) (el d j) with
    | true=>
     simp only [cond_true,IY (d:=d) (i:=j+1) (j:=j) (x:=el d j) (by omega),qa0,qaz,V7,bz];have sw: ∀k,el (swp d (j+1) j) k=if k=j then el d (j+1) else if k=j+1 then el d j else el d k:=λk=>zu (by omega) (by omega)
     refine ih (swp d (j+1) j) (by omega) (by omega) (hP.trans (jY.swp (by omega) (by omega) (by omega) (by omega) (by omega))) ?_ ?_
     ·intro x y hx MA hy hxj hyj;rw [sw,sw,if_neg hyj,if_neg hxj];by_cases LF:y=j+1
      ·subst LF;rw [if_pos rfl,if_neg (by omega)];exact h1 x j hx (by omega) (by omega) (by omega) (by omega)
      ·rw [if_neg LF];by_cases aaC:x=j+1
       ·subst aaC;rw [if_pos rfl];exact h1 j y (by omega) (by omega) hy (by omega) LF
       ·rw [if_neg aaC];exact h1 x y hx MA hy aaC LF
     ·intro y hy hyi;rw [sw,sw,if_neg (by omega),if_pos rfl];by_cases LF:y=j+1
      ·subst LF;rw [if_pos rfl];exact hl.asymm (hpd _ (by omega)) (hpd _ (by omega)) bJ
      ·rw [if_neg LF];exact h2 y (by omega) hyi
    | false=>
     simp only [cond_false,bz];refine ⟨d,rfl,hP,λx y hx MA hy=> ?_⟩;by_cases hxj:x=j+1
     ·subst hxj;exact h2 y MA (by omega)
     ·by_cases hyj:y=j+1
      ·subst hyj;by_cases aip:x=j
       ·subst aip;exact bJ
       ·exact hl.ntrans (hpd _ (by omega)) (hpd j (by omega)) (hpd _ (by omega)) bJ (h1 x j hx (by omega) (by omega) hxj (by omega))
      ·exact h1 x y hx MA (by omega) hxj hyj
   ·have e1:decide ((a:Int)<((j+1:Nat):Int))=false:=decide_eq_false (by omega);have:a=j+1:=by omega
    simp only [e1,cond_false,qa0,bz];refine ⟨d,rfl,hP,λx y hx MA hy=> ?_⟩;by_cases hx0:x=j+1
    ·subst hx0;exact h2 y MA (by omega)
    ·exact h1 x y hx MA (by omega) hx0 (by omega)
end
end Go.Vs
namespace Go.Vs
end Go.Vs
namespace Go.Vs
theorem V8{S R U:Type}{f:S->Option (S⊕R)}(J:S->Prop)(μ:S->Nat)(Z:R->Prop)(step: ∀s,J s->(∃s',f s=some (.inl s')/\J s'/\μ s'<μ s)\/ ∃r,f s=some (.inr r)/\Z r){s:S}(hs:J s){c:R->Option U}{P:U->Prop}
  (hk: ∀r,Z r-> ∃u,c r=some u/\P u): ∃u,(cA f s).bind c=some u/\P u:=by
 obtain ⟨r,h1,h2⟩:=NI J μ Z step s hs;obtain ⟨u,h3,h4⟩:=hk r h2;exact ⟨u,by rw [h1];exact h3,h4⟩
end Go.Vs
namespace Go.Vs
end Go.Vs
namespace Go.Vs
abbrev cK:=Int×Int
def jF(x y:cK):Bool:=decide (x.2<y.2\/x.2=y.2/\x.1<y.1)
theorem qa{x y:cK}:jF x y=true↔x.2<y.2\/x.2=y.2/\x.1<y.1:=by simp [jF]
theorem sf{x y:cK}:jF x y=false↔ ¬(x.2<y.2\/x.2=y.2/\x.1<y.1):=by simp [jF]
theorem nA:sE jF (λ_=>True) where
 irrefl x _:=by rw [sf];omega
 trans x y z _ _ _ h1 h2:=by rw [qa] at *; omega
 total x y _ _ h:=by
  rw [qa,qa];by_cases e:x.2=y.2
  ·have:x.1≠y.1:=λe2=>h (Prod.ext e2 e);omega
  ·omega
theorem SH(a b:Int):M.ng [a,b]=some (if a=0 then b else a):=by
 unfold M.ng;by_cases ha:a=0
 ·subst ha;by_cases hb:b=0
  ·subst hb;rw [bA];have e0:decide ((0:Int)<(([0,0]:List Int).length:Int))=true:=rfl;have g0:bF ([0,0]:List Int) 0=some 0:=rfl;have w0:av ((0:Int)+1)=1:=rfl;have e1:decide ((1:Int)<(([0,0]:List Int).length:Int))=true:=rfl;have g1:bF ([0,0]:List Int) 1=some 0:=rfl;have w1:av ((1:Int)+1)=2:=rfl;have e2:decide ((2:Int)<(([0,0]:List Int).length:Int))=false:=rfl;simp only [e0,cond_true,g0,qa0,bne_self_eq_false,cond_false,w0,bz];rw [bA];simp only [e1,cond_true,g1,qa0,bne_self_eq_false,cond_false,w1,bz];rw [bA];simp only [e2,cond_false,qa0,bz,if_true]
  ·rw [bA];have e0:decide ((0:Int)<(([0,b]:List Int).length:Int))=true:=rfl;have g0:bF ([0,b]:List Int) 0=some 0:=rfl;have w0:av ((0:Int)+1)=1:=rfl;have e1:decide ((1:Int)<(([0,b]:List Int).length:Int))=true:=rfl;have g1:bF ([0,b]:List Int) 1=some b:=rfl;simp only [e0,cond_true,g0,qa0,bne_self_eq_false,cond_false,w0,bz];rw [bA];have eT:(b != 0)=true:=by simpa using hb
   simp only [e1,cond_true,g1,qa0,eT,bz,if_true]
 ·rw [bA];have e0:decide ((0:Int)<(([a,b]:List Int).length:Int))=true:=rfl;have g0:bF ([a,b]:List Int) 0=some a:=rfl;have ha':(a != 0)=true:=by simpa using ha
  simp only [e0,cond_true,g0,qa0,ha',bz,if_neg ha]
theorem nB(x y:cK): ∃r,M.cX (x.1,x.2) (y.1,y.2)=some r/\decide (r<0)=jF x y/\decide (0<r)=jF y x:=by
 unfold M.cX;simp only [Ly,qa0,SH];refine ⟨_,rfl, ?_, ?_⟩
 ·unfold jF;apply decide_eq_decide.2;by_cases h:A7 x.2 y.2=0
  ·rw [if_pos h,IS];rw [se] at h;omega
  ·rw [if_neg h,IS];rw [se] at h;omega
 ·unfold jF;apply decide_eq_decide.2;by_cases h:A7 x.2 y.2=0
  ·rw [if_pos h,IT];rw [se] at h;omega
  ·rw [if_neg h,IT];rw [se] at h;omega
theorem zw:Nb FU jF (λ_=>True):=λx y _ _=>by
 obtain ⟨r,h1,h2,_⟩:=nB x y;exact ⟨r,h1,h2⟩
theorem yb{h:List cK}{i j:Nat}(hi:i<h.length)(hj:j<h.length):M.dA h (i:Int) (j:Int)=some (jF (el h j) (el h i)):=by
 unfold M.dA;obtain ⟨r,h1,_,h3⟩:=nB (el h i) (el h j);simp only [oh hi,oh hj,qa0,h1,h3]
theorem FW{h:List cK}{i j:Nat}(hi:i<h.length)(hj:j<h.length):M.ew h (i:Int) (j:Int)=some (swp h i j):=by
 unfold M.ew;simp only [oh hi,oh hj,qa0,qaz,IY (d:=h) (i:=i) (j:=j) hj]
 rfl
def HP(n:Nat)(h:List cK):Prop:= ∀i,0<i->i<n->jF (el h ((i - 1) / 2)) (el h i)=false
theorem O1{h0:List cK}(hn:h0.length<1000000000): ∀(m:Nat) (h:List cK) (j:Nat),j=m->j<h0.length->jY 0 h0.length h0 h->
  (∀i,0<i->i<h0.length->i≠j->jF (el h ((i - 1) / 2)) (el h i)=false)->(∀i,0<i->i<h0.length->0<j->(i - 1) / 2=j->jF (el h ((j - 1) / 2)) (el h i)=false)->
  ∃h',M.bB h (j:Int)=some h'/\jY 0 h0.length h0 h'/\HP h0.length h':=by
 intro m
 induction m using Nat.strongRecOn with
 | _ m ih=>
  intro h j hjm hj hP h1 h2;have hlen:=hP.len;by_cases hj0:j=0
  ·subst hj0;unfold M.bB;rw [bA];have e:(av ((av (((0:Nat):Int) - 1)).tdiv 2)==((0:Nat):Int))=true:=rfl;simp only [e,cond_true,qa0,bz];exact ⟨h,rfl,hP,λi rQ xK=>h1 i rQ xK (by omega)⟩
  ·have ep:av ((av ((j:Int) - 1)).tdiv 2)=(((j - 1) / 2:Nat):Int):=by
    rw [zv (by omega) (by omega),Int.tdiv_eq_ediv_of_nonneg (by omega),bj (by omega) (by omega)];omega
   have ene:((((j - 1) / 2:Nat):Int)==(j:Int))=false:=beq_eq_false_iff_ne.2 (by omega);have hlp:(j - 1) / 2<h.length:=by omega
   cases bJ:jF (el h ((j - 1) / 2)) (el h j) with
   | false=>
    unfold M.bB;rw [bA];simp only [ep,ene,cond_false,yb (h:=h) (i:=j) (j:=(j - 1) / 2) (by omega) hlp,qa0,bJ,Bool.not_false,cond_true,bz];refine ⟨h,rfl,hP,λi rQ xK=> ?_⟩;by_cases nT:i=j
    ·subst nT;exact bJ
    ·exact h1 i rQ xK nT
   | true=>
    have sw: ∀k,el (swp h ((j - 1) / 2) j) k=if k=j then el h ((j - 1) / 2) else if k=(j - 1) / 2 then el h j else el h k:=λk=>zu hlp (by omega)
    have iA:M.bB h (j:Int)=M.bB (swp h ((j - 1) / 2) j) (((j - 1) / 2:Nat):Int):=by
     conv=>lhs;unfold M.bB
     rw [bA];simp only [ep,ene,cond_false,yb (h:=h) (i:=j) (j:=(j - 1) / 2) (by omega) hlp,qa0,bJ,qah,cond_false,FW (h:=h) (i:=(j - 1) / 2) (j:=j) hlp (by omega),bz]
     rfl
    rw [iA];have asy:=nA.asymm trivial trivial bJ;refine ih ((j - 1) / 2) (by omega) _ _ rfl (by omega) (hP.trans (jY.swp (by omega) (by omega) (by omega) (by omega) (by omega))) ?_ ?_
    ·intro i rQ xK hip;rw [sw,sw];by_cases nT:i=j
     ·subst nT;rw [if_pos rfl,if_neg (by omega),if_pos rfl];exact asy
     ·rw [if_neg nT,if_neg hip];by_cases hpj:(i - 1) / 2=j
      ·rw [if_pos hpj];exact h2 i rQ xK (by omega) hpj
      ·rw [if_neg hpj];by_cases YK:(i - 1) / 2=(j - 1) / 2
       ·rw [if_pos YK];have:=h1 i rQ xK nT;rw [YK] at this;exact nA.ntrans trivial trivial trivial asy this
       ·rw [if_neg YK];exact h1 i rQ xK nT
    ·intro i rQ xK hp0 hpi;have aer:=h1 ((j - 1) / 2) hp0 (by omega) (by omega);rw [sw,sw,if_neg (by omega),if_neg (by omega)];by_cases nT:i=j
     ·subst nT;rw [if_pos rfl];exact aer
     ·rw [if_neg nT,if_neg (by omega)];have:=h1 i rQ xK nT;rw [hpi] at this;exact nA.ntrans trivial trivial trivial aer this
theorem V9{h:List cK}(hn:h.length<1000000)(hh:HP h.length h)(x:cK): ∃h',M.bN h (x.1,x.2)=some h'/\h'.Perm (x::h)/\HP h'.length h':=by
 unfold M.bN M.ef M.fM;rw [gH (by simp;omega)];have hl:(h++[(x.1,x.2)]).length=h.length+1:=by simp
 have e:av (((h++[(x.1,x.2)]).length:Int) - 1)=(h.length:Int):=by rw [hl,bj (by omega) (by omega)];omega
 simp only [qa0,e];have ea: ∀k,k<h.length->el (h++[(x.1,x.2)]) k=el h k:=λk hk=>by
  rw [lU (by omega),lU hk,qb3 hk]
 obtain ⟨h',h1,h2,h3⟩:=O1 (h0:=h++[(x.1,x.2)]) (by omega) h.length _ h.length rfl (by omega) (jY.refl _)
  (λi rQ xK iH=>by rw [ea _ (by omega),ea _ (by omega)];exact hh i rQ (by omega)) (λi rQ xK _ hpi=>by omega)
 rw [h1];refine ⟨h',rfl,h2.perm.trans ?_,by rw [h2.len];exact h3⟩;exact qc2 (l₁:=h) (l₂:=[x])
theorem HP.top{n:Nat}{h:List cK}(hh:HP n h): ∀i,i<n->jF (el h 0) (el h i)=false:=by
 intro i
 induction i using Nat.strongRecOn with
 | _ i ih=>
  intro hi;by_cases h0:i=0
  ·subst h0;exact nA.irrefl _ trivial
  ·exact nA.ntrans trivial trivial trivial (ih ((i - 1) / 2) (by omega) (by omega)) (hh i (by omega) hi)
theorem IZ{h0:List cK}{n:Nat}(hn:h0.length<1000000)(YX:n<=h0.length): ∃r,M.cI h0 0 (n:Int)=some r/\
  ((∀k,0<k->k<n->(k - 1) / 2≠0->jF (el h0 ((k - 1) / 2)) (el h0 k)=false)->jY 0 n h0 r.2/\HP n r.2):=by
 unfold M.cI;refine V8 (λs=> ∃(h:List cK) (i:Nat),s=(h,(i:Int))/\i<=h0.length/\h.length=h0.length/\((∀k,0<k->k<n->(k - 1) / 2≠0->jF (el h0 ((k - 1) / 2)) (el h0 k)=false)->jY 0 n h0 h/\
   (∀k,0<k->k<n->(k - 1) / 2≠i->jF (el h ((k - 1) / 2)) (el h k)=false)/\(∀k,0<k->k<n->0<i->(k - 1) / 2=i->jF (el h ((i - 1) / 2)) (el h k)=false))) (λs=>((h0.length:Int) - s.2).toNat)
  (λr=>(∀k,0<k->k<n->(k - 1) / 2≠0->jF (el h0 ((k - 1) / 2)) (el h0 k)=false)->jY 0 n h0 r.1/\HP n r.1) ?_
  ⟨h0,0,rfl,by omega,rfl,λhh=>⟨jY.refl _,λk h1 h2 h3=>hh k h1 h2 h3,λk _ _ h=>absurd h (qby _)⟩⟩ (λr hr=>⟨_,rfl,hr⟩)
 rintro _ ⟨h,i,rfl,hi,hlen,hJ⟩;have e1:av ((av (2*(i:Int)))+1)=((2*i+1:Nat):Int):=by rw [bj (n:=2*(i:Int)) (by omega) (by omega),bj (by omega) (by omega)];omega
 have e2:av (((2*i+1:Nat):Int)+1)=((2*i+2:Nat):Int):=by rw [bj (by omega) (by omega)];omega
 simp only [e1,e2];by_cases hc:n<=2*i+1
 ·right;have e3:decide ((n:Int)<=((2*i+1:Nat):Int))=true:=decide_eq_true (by omega);refine ⟨(h,(i:Int)),by simp only [e3,cond_true,qa0],λhh=> ?_⟩;obtain ⟨j1,j2,j3⟩:=hJ hh;exact ⟨j1,λk k1 k2=>j2 k k1 k2 (by omega)⟩
 ·have e3:decide ((n:Int)<=((2*i+1:Nat):Int))=false:=decide_eq_false (by omega);have e4:decide (((2*i+1:Nat):Int)<0)=false:=decide_eq_false (by omega);obtain ⟨j,hj1,YP,hj3,hj4⟩: ∃j:Nat,(Option.bind ((bif decide (((2*i+2:Nat):Int)<(n:Int)) then (M.dA h ((2*i+2:Nat):Int) ((2*i+1:Nat):Int)).bind λlg=>some lg else some false)) λnM=>(bif nM then some ((2*i+2:Nat):Int) else some ((2*i+1:Nat):Int)))=some (j:Int)/\(j - 1) / 2=i/\(0<j/\j<n)/\(∀k,0<k->k<n->(k - 1) / 2=i->jF (el h j) (el h k)=false):=by
   by_cases TX:2*i+2<n
   ·have e5:decide (((2*i+2:Nat):Int)<(n:Int))=true:=decide_eq_true (by omega);simp only [e5,cond_true,yb (h:=h) (i:=2*i+2) (j:=2*i+1) (by omega) (by omega),qa0];cases bJ:jF (el h (2*i+1)) (el h (2*i+2)) with
    | true=>
     refine ⟨2*i+2,rfl,by omega,by omega,λk k1 k2 k3=> ?_⟩;rcases (show k=2*i+1\/k=2*i+2 by omega) with rfl | rfl
     ·exact nA.asymm trivial trivial bJ
     ·exact nA.irrefl _ trivial
    | false=>
     refine ⟨2*i+1,rfl,by omega,by omega,λk k1 k2 k3=> ?_⟩;rcases (show k=2*i+1\/k=2*i+2 by omega) with rfl | rfl
     ·exact nA.irrefl _ trivial
     ·exact bJ
   ·have e5:decide (((2*i+2:Nat):Int)<(n:Int))=false:=decide_eq_false (by omega);simp only [e5,cond_false,qa0];refine ⟨2*i+1,rfl,by omega,by omega,λk k1 k2 k3=> ?_⟩;have:k=2*i+1:=by omega
    subst this;exact nA.irrefl _ trivial
  have hrw: ∀{β:Type} (g:Int->Option β),(Option.bind ((bif decide (((2*i+2:Nat):Int)<(n:Int)) then (M.dA h ((2*i+2:Nat):Int) ((2*i+1:Nat):Int)).bind λlg=>some lg else some false)) λnM=>Option.bind (bif nM then some ((2*i+2:Nat):Int) else some ((2*i+1:Nat):Int)) g)=g (j:Int):=by
   intro β g;rw [←Option.bind_assoc,hj1];rfl
  simp only [e3,cond_false,e4,qa0];rw [hrw];simp only [yb (h:=h) (i:=j) (j:=i) (by omega) (by omega),qa0];cases bJ:jF (el h i) (el h j) with
  | false=>
   right;refine ⟨(h,(i:Int)),by simp only [Bool.not_false,cond_true],λhh=> ?_⟩;obtain ⟨j1,j2,j3⟩:=hJ hh;refine ⟨j1,λk k1 k2=> ?_⟩;by_cases hk:(k - 1) / 2=i
   ·rw [hk];exact nA.ntrans trivial trivial trivial bJ (hj4 k k1 k2 hk)
   ·exact j2 k k1 k2 hk
  | true=>
   left;have sw: ∀k,el (swp h i j) k=if k=j then el h i else if k=i then el h j else el h k:=λk=>zu (by omega) (by omega)
   refine ⟨(swp h i j,(j:Int)),by simp only [qah,cond_false,FW (h:=h) (i:=i) (j:=j) (by omega) (by omega),qa0],⟨swp h i j,j,rfl,by omega,by rw [FV];exact hlen,λhh=> ?_⟩,by simp only;omega⟩;obtain ⟨j1,j2,j3⟩:=hJ hh;have asy:=nA.asymm trivial trivial bJ;refine ⟨j1.trans (jY.swp (by omega) (by omega) (by omega) (by omega) (by omega)),λk k1 k2 k3=> ?_,λk k1 k2 k3 k4=> ?_⟩
   ·rw [sw,sw,if_neg k3];by_cases hkj:k=j
    ·subst hkj;rw [if_pos rfl,if_pos YP];exact asy
    ·rw [if_neg hkj];by_cases hki:k=i
     ·subst hki;rw [if_pos rfl,if_neg (by omega)];exact j3 j (by omega) (by omega) (by omega) YP
     ·rw [if_neg hki];by_cases hp:(k - 1) / 2=i
      ·rw [if_pos hp];exact hj4 k k1 k2 hp
      ·rw [if_neg hp];exact j2 k k1 k2 hp
   ·rw [sw,sw,if_neg (by omega),if_pos YP,if_neg (by omega),if_neg (by omega)];have:=j2 k k1 k2 (by omega);rw [k4] at this;exact this
end Go.Vs
namespace Go.Vs
def jK(x:cK):List cK->List cK
 | []=>[x]
 | y::r=>if jF x y then x::y::r else y::jK x r
def uZ(l:List cK):Prop:=l.Pairwise λx y=>jF y x=false
theorem pd(x:cK)(l:List cK):(jK x l).Perm (x::l):=by
 induction l with
 | nil=>exact List.Perm.refl _
 | cons y r ih=>
  unfold jK;split
  ·exact List.Perm.refl _
  ·exact (List.Perm.cons y ih).trans (List.Perm.swap x y r)
theorem zx{x:cK}{l:List cK}(h:uZ l):uZ (jK x l):=by
 induction l with
 | nil=>exact List.pairwise_singleton _ _
 | cons y r ih=>
  obtain ⟨h1,h2⟩:=qc5.1 h;unfold jK;split
  ·rename_i bJ;refine qc5.2 ⟨λz hz=> ?_,h⟩;rcases qab.1 hz with rfl | hz
   ·exact nA.asymm trivial trivial bJ
   ·exact nA.ntrans trivial trivial trivial (h1 z hz) (nA.asymm trivial trivial bJ)
  ·rename_i bJ;refine qc5.2 ⟨λz hz=> ?_,ih h2⟩;rcases qab.1 ((pd x r).mem_iff.1 hz) with rfl | hz
   ·simpa using bJ
   ·exact h1 z hz
theorem qb{x y:cK}(h1:jF x y=false)(h2:jF y x=false):x=y:=by
 rcases Classical.em (x=y) with h | h
 ·exact h
 ·rcases nA.total x y trivial trivial h with h' | h'
  ·rw [h1] at h';cases h'
  ·rw [h2] at h';cases h'
theorem u0{l m:List cK}(hl:uZ l)(hm:uZ m)(h:l.Perm m):l=m:=
 List.Perm.eq_of_pairwise (le:=λx y=>jF y x=false) (λ_ _ _ _ h1 h2=>qb h2 h1) hl hm h
theorem I0(x:cK)(l:List cK):(jK x l).length=l.length+1:=by rw [(pd x l).length_eq];rfl
theorem CS(x:cK): ∀(k:Nat) (l:List cK),(jK x (l.take k)).take k=(jK x l).take k
 | 0,l=>by simp
 | k+1,[]=>by simp
 | k+1,y::r=>by
  rw [qcc];unfold jK;split
  ·rw [qcc,qcc];cases k with
   | zero=>simp
   | succ k=>simp [List.take_take]
  ·rw [qcc,qcc,CS x k r]
def fW(l:List cK):List cK:=l.foldl (λS x=>jK x S) []
theorem dW(l:List cK):uZ (fW l)/\(fW l).Perm l:=by
 have key: ∀(l S:List cK),uZ S->uZ (l.foldl (λS x=>jK x S) S)/\(l.foldl (λS x=>jK x S) S).Perm (S++l):=by
  intro l
  induction l with
  | nil=>intro S h;exact ⟨h,by simp⟩
  | cons x r ih=>
   intro S h;obtain ⟨h1,h2⟩:=ih (jK x S) (zx h);refine ⟨h1,h2.trans ?_⟩;have:=List.Perm.append_right r (pd x S);exact this.trans (List.perm_middle.symm)
 exact key l [] List.Pairwise.nil
theorem LG(l:List cK)(x:cK):fW (l++[x])=jK x (fW l):=by simp [fW]
theorem CU(l:List cK):(fW l).length=l.length:=(dW l).2.length_eq
theorem tQ{l m:List cK}(hm:uZ m)(h:m.Perm l):fW l=m:=u0 (dW l).1 hm ((dW l).2.trans h.symm)
def cS(k:Nat)(l:List cK):List cK:=(fW l).take k
theorem mW(k:Nat)(l:List cK)(x:cK):cS k (l++[x])=(jK x (cS k l)).take k:=by
 unfold cS;rw [LG,CS]
theorem nD(k:Nat)(l:List cK):uZ (cS k l):=(dW l).1.sublist (List.take_sublist _ _)
theorem jm(k:Nat)(l:List cK):(cS k l).length=min k l.length:=by simp [cS,CU]
theorem zy(k:Nat)(l:List cK): ∀x∈cS k l,x∈l:=λx hx=>(dW l).2.mem_iff.1 (List.mem_of_mem_take hx)
theorem aaD{h:List cK}(hn:h.length<1000000)(h1:0<h.length)(hh:HP h.length h): ∃x h',M.cQ h=some (x,h')/\(h'++[x]).Perm h/\HP h'.length h'/\ ∀y∈h,jF x y=false:=by
 unfold M.cQ M.fM;have el1:av ((h.length:Int) - 1)=((h.length - 1:Nat):Int):=zv h1 (by omega);have e0:(0:Int)=((0:Nat):Int):=rfl;simp only [qa0,el1];rw [e0,FW h1 (by omega)];simp only [qa0];have hs:(swp h 0 (h.length - 1)).length=h.length:=FV;obtain ⟨r,hr,hJ⟩:=IZ (h0:=swp h 0 (h.length - 1)) (n:=h.length - 1) (by omega) (by omega);have sw: ∀k,el (swp h 0 (h.length - 1)) k=if k=h.length - 1 then el h 0 else if k=0 then el h (h.length - 1) else el h k:=λk=>zu h1 (by omega)
 obtain ⟨j1,j2⟩:=hJ (λk k1 k2 k3=>by
  rw [sw,sw,if_neg (by omega),if_neg k3,if_neg (by omega),if_neg (by omega)];exact hh k k1 (by omega))
 rw [←e0,hr];simp only [qa0];unfold M.jw;have de:r.2.length=h.length:=by rw [j1.len,hs]
 have el2:av ((r.2.length:Int) - 1)=((h.length - 1:Nat):Int):=by rw [de];exact el1
 have Ym:el r.2 (h.length - 1)=el h 0:=by rw [j1.out _ (by omega),sw,if_pos rfl]
 rw [el2,oh (by omega),kt (by omega) (by omega) (by omega)];simp only [qa0,qaz,Ym,Int.toNat_zero,List.drop_zero];refine ⟨_,_,rfl, ?_, ?_, ?_⟩
 ·have:r.2.take (h.length - 1)++[el h 0]=r.2:=by
   have:=qb1 (l:=r.2) (i:=h.length - 1) (by omega);rw [←lU (by omega),Ym,show h.length - 1+1=r.2.length by omega,qc9] at this;exact this.symm
  show (r.2.take (h.length - 1)++[el h 0]).Perm h;rw [this];exact j1.perm.trans (IX h1 (by omega))
 ·have ht:(r.2.take (h.length - 1)).length=h.length - 1:=by simp;omega
  rw [ht];intro i i1 i2;have e: ∀k,k<h.length - 1->el (r.2.take (h.length - 1)) k=el r.2 k:=λk hk=>by
   rw [lU (by omega),lU (by omega),qca]
  rw [e _ (by omega),e _ (by omega)];exact j2 i i1 i2
 ·intro y hy;obtain ⟨i,hi,rfl⟩:=qam.1 hy;rw [←lU hi];exact hh.top i hi
theorem SI{T kept:List cK}{k:Nat}(hk:k<=1000)(hT:uZ T)(hTk:T.length<=k)(hh:HP kept.length kept)(hp:kept.Perm T)(x:cK):
  ∃pg,M.dq ((k:Int),kept) (x.1,x.2)=some ((k:Int),pg)/\HP pg.length pg/\pg.Perm ((jK x T).take k):=by
 unfold M.dq;have J1:=hp.length_eq;obtain ⟨k1,h1,h2,h3⟩:=V9 (h:=kept) (by omega) hh x;simp only [h1,qa0];have tk:k1.length=T.length+1:=by rw [h2.length_eq];simp [J1]
 have hp1:k1.Perm (jK x T):=h2.trans ((List.Perm.cons x hp).trans (pd x T).symm);have hil:=I0 x T;by_cases hc:k<k1.length
 ·have e1:decide ((k:Int)<(k1.length:Int))=true:=decide_eq_true (by omega);obtain ⟨mx,k2,g1,g2,g3,g4⟩:=aaD (h:=k1) (by omega) (by omega) h3;simp only [e1,cond_true,g1,qa0];refine ⟨k2,rfl,g3, ?_⟩;have hI:=zx (x:=x) hT;have iH:jK x T≠[]:=by intro e;rw [e] at hil;simp at hil
  have hdl:jK x T=(jK x T).take k++[(jK x T).getLast iH]:=by
   have h:=List.dropLast_concat_getLast iH;rw [List.dropLast_eq_take,show (jK x T).length - 1=k by omega] at h;exact h.symm
  have QY:mx=(jK x T).getLast iH:=by
   refine qb (g4 _ (hp1.mem_iff.2 (List.getLast_mem iH))) ?_;have NL:mx∈jK x T:=hp1.mem_iff.1 (g2.mem_iff.1 (by simp));rw [hdl] at NL hI;rcases qaj.1 NL with h | h
   ·exact (List.pairwise_append.1 hI).2.2 _ h _ (by simp)
   ·rw [qbc.1 h];exact nA.irrefl _ trivial
  have:=(g2.trans hp1);rw [hdl, ←QY] at this;exact (List.perm_append_right_iff _).1 this
 ·have e1:decide ((k:Int)<(k1.length:Int))=false:=decide_eq_false (by omega);simp only [e1,cond_false];refine ⟨k1,rfl,h3, ?_⟩;rw [qbw (by omega)];exact hp1
theorem LI{T kept:List cK}(hT:uZ T)(hp:kept.Perm T)(Jx:T.Nodup)(hl:T.length<=16)(k:Int):M.dT (k,kept)=some T:=by
 unfold M.dT M.aW M.bu M.bD M.da M.bo;have J1:=hp.length_eq;have Rf:M.vE kept=some kept:=by unfold M.vE;rw [if_pos (by omega)]
 simp only [qa0,Rf];obtain ⟨d',h1,h2,h3⟩:=Hy (cmp:=FU) (lt:=jF) (xs:=kept) (by omega) (λx _ y _=>zw x y trivial trivial) (λx _=>nA.irrefl x trivial) (λx _ y _ z _=>nA.trans x y z trivial trivial trivial) (λx _ y _=>nA.total x y trivial trivial);rw [h1];simp only [qa0];exact congrArg some (u0 h3 hT (h2.trans hp))
theorem CV(x y:cK):M.gT (x.1,x.2) (y.1,y.2)=some (jF x y):=by
 unfold M.gT jF;by_cases h1:x.2<y.2
 ·simp [h1]
 ·by_cases h2:x.2=y.2
  ·simp [h2]
  ·have h3:(x.2==y.2)=false:=beq_eq_false_iff_ne.2 h2;simp [h1,h2,h3]
def aaE:cK->cK->Option Int:=λx y=>some (if jF x y then -1 else 0)
theorem Nc:Nb aaE jF (λ_=>True):=λx y _ _=>⟨_,rfl,by cases h:jF x y <;> simp⟩
theorem wB{S:List cK}{k:Nat}(hS:uZ S)(hl:S.length<=1000)(hk:k<=1000)(x:cK):M.iZ S (x.1,x.2) (k:Int)=some ((jK x S).take k):=by
  unfold M.iZ;rw [gH (by simp;omega)];simp only [qa0,qb7];rw [gH (by simp;omega)];simp only [qa0];have hlen:(S++[(x.1,x.2)]).length=S.length+1:=by simp
  have e1:av (((S++[(x.1,x.2)]).length:Int) - 1)=(S.length:Int):=by rw [hlen,bj (by omega) (by omega)];omega
  have hf:(fun (fh:(List (Int×Int))×(Int))=>Option.bind ((bif decide (0<fh.2) then
  (bF fh.1 fh.2).bind λvD=>
  (bF fh.1 (av (fh.2 - 1))).bind λtX=>
  (M.gT (vD.1,vD.2) (tX.1,tX.2)).bind λPu=>
  some Pu
 else
  some false)) λlO=>
  (bif lO then
  (bF fh.1 fh.2).bind λZa=>
  (bF fh.1 (av (fh.2 - 1))).bind λMv=>
  (bF fh.1 fh.2).bind λXz=>
  (bF (fh.1.set fh.2.toNat (Mv.1,Mv.2)) (av (fh.2 - 1))).bind λx68=>
  some (.inl (((fh.1.set fh.2.toNat (Mv.1,Mv.2)).set (av (fh.2 - 1)).toNat (Za.1,Za.2)),av (fh.2 - 1)))
 else
  some (.inr fh.1):Option ((List cK×Int)⊕List cK)))=(fun (s7:(List cK)×(Int))=>Option.bind ((bif decide (((0:Nat):Int)<s7.2) then
  (bF s7.1 s7.2).bind λJ7=>
  (bF s7.1 (av (s7.2 - 1))).bind λx19=>
  (aaE J7 x19).bind λqk=>
  some (decide (qk<0))
 else
  some false)) λnM=>
  (bif nM then
  (bF s7.1 (av (s7.2 - 1))).bind λvW=>
  (bF s7.1 s7.2).bind λQz=>
  (bF s7.1 s7.2).bind λx48=>
  (bF (s7.1.set s7.2.toNat vW) (av (s7.2 - 1))).bind λMv=>
  some (.inl (((s7.1.set s7.2.toNat vW).set (av (s7.2 - 1)).toNat Qz),av (s7.2 - 1)))
 else
  some (.inr s7.1))):=by
   funext s;have ec: ∀a b:cK,((M.gT (a.1,a.2) (b.1,b.2)).bind λPu=>some Pu)=((aaE a b).bind λqk=>some (decide (qk<0))):=by
    intro a b;rw [CV,SG Nc trivial trivial];rfl
   have ec2: ∀(a:Option cK) (b:Option cK) (c:Option cK) (g:cK->Option cK) (F:cK->cK->Option ((List cK×Int)⊕List cK)),(a.bind λZa=>b.bind λMv=>c.bind λXz=>(g Mv).bind λ_=>F Mv Za)=(b.bind λvW=>a.bind λQz=>c.bind λx48=>(g vW).bind λ_=>F vW Qz):=by
    intro a b c g F;cases a <;> cases b <;> rfl
   simp only [ec,Int.cast_ofNat_Int];congr 1;funext o;cases o with
   | false=>rfl
   | true=>exact ec2 (bF s.1 s.2) (bF s.1 (av (s.2 - 1))) (bF s.1 s.2) (λy=>bF (s.1.set s.2.toNat y) (av (s.2 - 1))) (λy z=>some (.inl (((s.1.set s.2.toNat y).set (av (s.2 - 1)).toNat z),av (s.2 - 1))))
  rw [hf,e1];have ea: ∀i,i<S.length->el (S++[(x.1,x.2)]) i=el S i:=λi hi=>by rw [lU (by omega),lU hi,qb3 hi]
  obtain ⟨d',h1,h2,h3⟩:=O0 Nc nA (a:=0) (i:=S.length) (d0:=S++[(x.1,x.2)]) (by omega) (by omega) (λ_ _=>trivial) (S++[(x.1,x.2)]) S.length (qa9 _) (qa3 _) (jY.refl _)
   (λu v _ huv hv qT GX=>by
    rw [ea u (by omega),ea v (by omega),lU (by omega),lU (by omega)];exact qay.1 hS u v _ _ huv) (λy h h'=>by omega)
  rw [h1];have hdl:d'.length=S.length+1:=by rw [h2.len,hlen]
  have aiq:uZ d':=by
   refine qay.2 λi j hi hj nT=> ?_;have:=h3 i j (qa9 _) nT (by omega);rwa [lU hi,lU hj] at this
  have hd:d'=jK x S:=u0 aiq (zx hS) (h2.perm.trans ((qc2 (l₁:=S) (l₂:=[x])).trans (pd x S).symm));have hil:=I0 x S;simp only [qa0];rw [hd,kt (by omega) (by omega) (by omega)];simp only [qa0,Int.toNat_zero,List.drop_zero,qaf];by_cases hc:k<=(jK x S).length
  ·rw [show (min (k:Int) ((jK x S).length:Int)).toNat=k by omega]
  ·rw [show (min (k:Int) ((jK x S).length:Int)).toNat=(jK x S).length by omega,qc9,qbw (by omega)]
def cn(l:List Item)(kind:Int)(at_:List Int):List cK:=l.map λx=>(x.1,tP kind x.2.1 at_)
theorem LJ{l:List Item}{kind:Int}{at_:List Int}:(cn l kind at_).length=l.length:=by simp [cn]
theorem FY{l:List Item}{kind:Int}{at_:List Int}(hp:l.Pairwise (λx y=>x.1<y.1)):(cn l kind at_).Nodup:=by
 unfold cn List.Nodup;rw [List.pairwise_map];refine hp.imp λh e=> ?_;have:=congrArg Prod.fst e;simp only at this;omega
theorem qd{k:Nat}{l:List cK}(h:l.Nodup):(cS k l).Nodup:=by
 unfold cS;exact (List.take_sublist _ _).nodup ((dW l).2.nodup_iff.2 h)
theorem I1{l:List Item}{kind:Int}{at_:List Int}{i:Nat}(hi:i<l.length):cn (l.take (i+1)) kind at_=cn (l.take i) kind at_++[(l[i].1,tP kind l[i].2.1 at_)]:=by
 unfold cn;rw [qb1 hi,qc3];rfl
def eF(l:List Item)(kind:Int)(at_:List Int):Bool:=cV l&&isKind kind&&eo at_
def lV(l:List Item)(kind:Int)(at_:List Int)(k:Int):List cK:=if eF l kind at_=true/\1<=k/\k<=16 then cS k.toNat (cn l kind at_) else []
theorem gU{l:List Item}{kind:Int}{at_:List Int}:eF l kind at_=true↔cV l=true/\isKind kind=true/\eo at_=true:=by simp [eF,and_assoc]
theorem FZ{l:List Item}{kind:Int}{at_:List Int}{k:Nat}(aaF: ∀x∈l,eo x.2.1=true)(oi:isKind kind=true)(hv:eo at_=true)(hlen:l.length<=1000)(hk:k<=1000):M.jy l kind at_ (k:Int)=some (cS k (cn l kind at_)):=by
 unfold M.jy;refine kv (xs:=l) (fun (s:List cK) i=>(s,i)) (λs x=>(jK (x.1,tP kind x.2.1 at_) s).take k) (λi s=>s=cS k (cn (l.take i) kind at_)) (λs=>s) (s0:=[]) (by simp [cn,cS,fW]) ?_ ?_ ?_
 ·rintro s i hi rfl;have e1:decide ((i:Int)<(l.length:Int))=true:=decide_eq_true (by omega);have hx:=aaF _ (qai hi);have hL:=jm k (cn (l.take i) kind at_);simp only [e1,cond_true,cr hi,qa0,FP oi hx hv,fz (i:=i) (by omega)];have:=wB (k:=k) (nD k (cn (l.take i) kind at_)) (by rw [hL];omega) hk (l[i].1,tP kind l[i].2.1 at_);simp only at this;rw [this];refine ⟨rfl, ?_⟩;rw [←mW,I1 hi]
 ·intro s _;simp
 ·intro hs;rw [hs,qc9]
theorem xG{l:List Item}{kind:Int}{at_:List Int}{k:Nat}(hq:eF l kind at_=true)(hk:k<=1000):M.jy l kind at_ (k:Int)=some (cS k (cn l kind at_)):=by
 obtain ⟨ho,oi,hv⟩:=gU.1 hq;obtain ⟨hlen,hit,_⟩:=dG.1 ho;exact FZ (λx hx=>zr (hit x hx)) oi hv (by omega) hk
theorem tR(n a b:Int):M.dp n a b=some (decide (a<=n/\n<=b)):=by
 unfold M.dp;by_cases h:a<=n <;> simp [h]
theorem A8{l:List Item}{kind:Int}{at_:List Int}(h:fY l)(ha:at_.length<2000000):M.ir l kind at_=some (eF l kind at_):=by
 unfold M.ir eF;simp only [h.Yl,IW,zn at_ ha,qa0];cases cV l <;> cases isKind kind <;> simp
theorem I2(k:Int):M.gh k=some (decide (1<=k/\k<=16)):=by
 unfold M.gh;by_cases h1:1<=k <;> simp [h1]
theorem nE{l:List Item}{kind:Int}{at_:List Int}{k:Int}(h:fY l)(ha:at_.length<2000000):M.fe l kind at_ k=some (decide (eF l kind at_=true/\1<=k/\k<=16)):=by
 unfold M.fe eF;simp only [h.impl,IV,pZ at_ ha,I2,qa0];cases cV l <;> cases isKind kind <;> cases eo at_ <;> simp
theorem Wa{l:List Item}{D:Item->Int}{n:Nat}(hn:n<=1000){f:((Int)×(List (Int×Int)))×(Int)->Option ((((Int)×(List (Int×Int)))×(Int))⊕((Int)×(List (Int×Int))))}(hlen:l.length<=16)
  (hs: ∀i (h:i<l.length) (kept:List cK),f (((n:Int),kept),(i:Int))=(M.dq ((n:Int),kept) (l[i].1,D l[i])).bind λr=>some (.inl ((r.1,r.2),((i+1:Nat):Int))))
  (he: ∀kept:List cK,f (((n:Int),kept),(l.length:Int))=some (.inr ((n:Int),kept))):
  ∃pg,cA f (((n:Int),[]),0)=some ((n:Int),pg)/\pg.Perm (cS n (l.map λx=>(x.1,D x))):=by
 have key: ∀m i:Nat,i+m=l.length-> ∀kept:List cK,HP kept.length kept->kept.Perm (cS n ((l.take i).map λx=>(x.1,D x)))->
   ∃pg,cA f (((n:Int),kept),(i:Int))=some ((n:Int),pg)/\pg.Perm (cS n (l.map λx=>(x.1,D x))):=by
  intro m
  induction m with
  | zero=>
   intro i hi kept hh hp;have:i=l.length:=by omega
   subst this;rw [qc9] at hp;rw [bA,he];exact ⟨kept,rfl,hp⟩
  | succ m ih=>
   intro i hi kept hh hp;have hil:i<l.length:=by omega
   have hL:=jm n ((l.take i).map λx=>(x.1,D x));obtain ⟨pg,g1,g2,g3⟩:=SI (k:=n) hn (nD n ((l.take i).map λx=>(x.1,D x))) (by omega) hh hp (l[i].1,D l[i]);simp only at g1;rw [bA,hs i hil,g1];simp only [qa0,bz];refine ih (i+1) (by omega) pg g2 ?_;rw [←mW] at g3;rw [qb1 hil,qc3];exact g3
 have:=key l.length 0 (by omega) [] (λi h1 h2=>by simp at h2) (by simp [cS,fW]);rw [show ((0:Nat):Int)=0 from rfl] at this;exact this
theorem F0{l:List Item}{kind:Int}{at_:List Int}{n:Nat}(aaF: ∀x∈l,eo x.2.1=true)(hv:eo at_=true)(Jx:(cn l kind at_).Nodup)(hlen:l.length<=16)(hn:n<=1000):M.gm l kind at_ (n:Int)=some (cS n (cn l kind at_)):=by
  unfold M.gm M.db;obtain ⟨pg,g1,g2⟩:=Wa (l:=l) (D:=λx=>tP kind x.2.1 at_) (n:=n) hn (f:=fun (s5:((Int)×(List (Int×Int)))×(Int))=>(bif decide (s5.2<(l.length:Int)) then
  (bF l s5.2).bind λjP=>
  (M.du (jP.1,jP.2.1,jP.2.2) kind at_).bind λvC=>
  (M.dq (s5.1.1,s5.1.2) (jP.1,vC)).bind λJy=>
  some (.inl ((Jy.1,Jy.2),av (s5.2+1)))
 else
  some (.inr (s5.1.1,s5.1.2)))) hlen (λi hi kept=>by
   have e1:decide ((i:Int)<(l.length:Int))=true:=decide_eq_true (by omega);unfold M.du;simp only [e1,cond_true,cr hi,qa0,FR (aaF _ (qai hi)) hv,fz (i:=i) (by omega)]) (λkept=>by simp)
  rw [g1];have hL:=jm n (cn l kind at_);have de:=LJ (l:=l) (kind:=kind) (at_:=at_);simp only [qa0,LI (nD n (cn l kind at_)) g2 (qd Jx) (by omega)]
theorem rI{l:List Item}{kind:Int}{at_:List Int}{k:Int}(h:fY l)(ha:at_.length<2000000):M.fC l kind at_ k=some (lV l kind at_ k):=by
 unfold M.fC lV;simp only [nE h ha,qa0];by_cases hk:eF l kind at_=true/\1<=k/\k<=16
 ·obtain ⟨n,rfl⟩:=qax (show 0<=k by omega);obtain ⟨ho,oi,hv⟩:=gU.1 hk.1;obtain ⟨hlen,hit,hpw⟩:=dG.1 ho;have oC:(1:Int)<=(n:Int)/\(n:Int)<=16:=hk.2;have aaG:decide (eF l kind at_=true/\(1:Int)<=(n:Int)/\(n:Int)<=16)=true:=decide_eq_true hk;rw [aaG,if_pos (show eF l kind at_=true/\(1:Int)<=(n:Int)/\(n:Int)<=16 from hk)];simp only [qah,cond_false,F0 (n:=n) (λx hx=>zr (hit x hx)) hv (FY hpw) hlen (by omega),qa0,qaz]
 ·have aaG:decide (eF l kind at_=true/\1<=k/\k<=16)=false:=decide_eq_false hk;rw [aaG,if_neg hk];rfl
end Go.Vs
namespace Go.Vs
theorem aaH(x y:cK):(([x.1,x.2]:List Int)==([y.1,y.2]:List Int))=(x==y):=by
 rw [Bool.eq_iff_iff];simp only [beq_iff_eq,List.cons.injEq,and_true];exact Prod.ext_iff.symm
theorem u5{a b:List cK}(ha:a.length<2000000):M.fQ a b=some (decide (a=b)):=by
 unfold M.fQ;simp only [aaH];by_cases hl:a.length=b.length
 ·have e:((a.length:Int) != (b.length:Int))=false:=by simp;omega
  simp only [e,cond_false];rw [pa (xs:=a.zip b) (P:=λp=>p.1==p.2) (r:=false)]
  ·by_cases h:a=b
   ·subst h;have:(a.zip a).all (λp=>p.1==p.2)=true:=by
     rw [qad];intro p hp;obtain ⟨i,hi,rfl⟩:=qam.1 hp;simp
    rw [if_pos this];simp [bz]
   ·have: ¬(a.zip b).all (λp=>p.1==p.2)=true:=by
     intro hh;apply h;apply List.ext_getElem hl;intro i h1 h2;rw [qad] at hh;have:=hh (a[i],b[i]) (qam.2 ⟨i,by simp;omega,by simp⟩);simpa using this
    rw [if_neg this];simp [bz,h]
  ·intro i hi;have rQ:i<a.length:=by simp at hi;omega
   have xK:i<b.length:=by simp at hi;omega
   have e1:decide ((i:Int)<(a.length:Int))=true:=by simpa using rQ
   have e2:av ((i:Int)+1)=(i:Int)+1:=bj (by omega) (by omega);simp only [e1,cond_true,cr rQ,cr xK,qa0,e2,List.getElem_zip];cases hc:(a[i]==b[i]) <;> simp
  ·have:(a.zip b).length=a.length:=by simp;omega
   rw [this];simp
 ·have e:((a.length:Int) != (b.length:Int))=true:=by simp;omega
  have:a≠b:=λh=>hl (by rw [h]);simp [e,this]
theorem rJ{l:List Item}{kind:Int}{at_:List Int}{k:Int}:(lV l kind at_ k).length<=16:=by
 unfold lV;split
 ·rename_i h;have:=jm k.toNat (cn l kind at_);omega
 ·simp
theorem I3{l:List Item}{kind:Int}{at_:List Int}{k:Int}(h:eF l kind at_=true)(h1:1<=k)(h2:k<=16):lV l kind at_ k=cS k.toNat (cn l kind at_):=if_pos ⟨h,h1,h2⟩
theorem LK{l:List Item}{kind:Int}{at_:List Int}{h:cK}:h∈cn l kind at_↔ ∃x∈l,h=(x.1,tP kind x.2.1 at_):=by
 unfold cn;rw [qce]
 constructor
 ·rintro ⟨x,hx,rfl⟩;exact ⟨x,hx,rfl⟩
 ·rintro ⟨x,hx,rfl⟩;exact ⟨x,hx,rfl⟩
end Go.Vs
namespace Go.Vs
end Go.Vs
namespace Go.Vs
end Go.Vs
namespace Go.Vs
end Go.Vs
namespace Go.Vs
end Go.Vs
namespace Go.Vs
end Go.Vs
namespace Go.Vs
end Go.Vs
namespace Go.Vs
end Go.Vs
namespace Go.Vs
end Go.Vs
namespace Go.Vs
end Go.Vs
namespace Go.Vs
end Go.Vs
namespace Go.Vs
end Go.Vs
namespace Go.Vs
end Go.Vs
namespace Go.Vs
end Go.Vs
namespace Go.Vs
end Go.Vs
namespace Go.Vs
end Go.Vs
namespace Go.Vs
end Go.Vs
namespace Go.Vs
end Go.Vs
namespace Go.Vs
end Go.Vs
namespace Go.Vs
end Go.Vs
namespace Go.Vs
theorem zz{α:Type}(p q:α->Bool)(l:List α)(h: ∀x∈l,p x=true->q x=false):(l.filter p++l.filter q).Perm (l.filter λx=>p x || q x):=by
 induction l with
 | nil=>simp
 | cons x r ih=>
  have ih:=ih (λy hy=>h y (by simp [hy]));by_cases hp:p x=true
  ·have hq:=h x (by simp) hp;rw [List.filter_cons_of_pos hp,List.filter_cons_of_neg (by simp [hq]),List.filter_cons_of_pos (by simp [hp])];exact List.Perm.cons x ih
  ·simp only [qbd] at hp;by_cases hq:q x=true
   ·rw [List.filter_cons_of_neg (by simp [hp]),List.filter_cons_of_pos hq,List.filter_cons_of_pos (by simp [hq])];exact List.perm_middle.trans (List.Perm.cons x ih)
   ·simp only [qbd] at hq;rw [List.filter_cons_of_neg (by simp [hp]),List.filter_cons_of_neg (by simp [hq]),List.filter_cons_of_neg (by simp [hp,hq])];exact ih
end Go.Vs
namespace Go.Vs
end Go.Vs
namespace Go.Vs
end Go.Vs
namespace Go.Vs
end Go.Vs
namespace Go.Vs
end Go.Vs
namespace Go.Vs
end Go.Vs
namespace Go.Vs
end Go.Vs
namespace Go.Vs
end Go.Vs
namespace Go.Vs
end Go.Vs
namespace Go.Vs
end Go.Vs
namespace Go.Vs
end Go.Vs
namespace Go.Vs
end Go.Vs
namespace Go.Vs
end Go.Vs
namespace Go.Vs
end Go.Vs
namespace Go.Vs
end Go.Vs
namespace Go.Vs
theorem sg{k:Nat}{l m:List cK}(h:l.Perm m):cS k l=cS k m:=by
 unfold cS;rw [tQ (dW m).1 ((dW m).2.trans h.symm)]
theorem SJ{k:Nat}(hk:k<=500000){r:List UInt8×Int}(hr:Good k r): ∃x r',M.nf (r.1,r.2)=some (x,(r'.1,r'.2))/\Good (k+1) r'/\0<=x/\x<=17:=by
 obtain ⟨x,⟨p,q⟩,h1,g1,m1⟩:=rH (by omega) hr (list:=[1,2,3,5,16,4,0,17]) (by simp);have QI:M.cO (r.1,r.2) [1,2,3,5,16,4,0,17]=some (x,(p,q)):=h1;refine ⟨x,(p,q),by unfold M.nf;simp only [QI,qa0],g1, ?_⟩;simp only [qab,qap,or_false] at m1;omega
end Go.Vs
namespace Go.Vs
theorem Wb(h:cK):jF h h=false:=by rw [sf];omega
theorem sh{a b c:cK}(h1:jF a b=true)(h2:jF b c=true):jF a c=true:=by
 rw [qa] at *; omega
theorem SK{a b:cK}(h:jF a b=true):jF b a=false:=by
 rw [qa] at h;rw [sf];omega
end Go.Vs
namespace Go.Vs
end Go.Vs
namespace Go.Vs
end Go.Vs
namespace Go.Vs
theorem O2{S T R:Type}(st:S->Int->T)(g:S->Nat->S)(Inv:Nat->S->Prop){fin:S->R}{f:T->Option (T⊕R)}(n:Nat)
  (hs: ∀s i,i<n->Inv i s->f (st s (i:Int))=some (.inl (st (g s i) ((i+1:Nat):Int)))/\Inv (i+1) (g s i)) (he: ∀s,Inv n s->f (st s (n:Int))=some (.inr (fin s))):
  ∀(m a:Nat) (s:S),a+m=n->Inv a s->cA f (st s (a:Int))=some (fin ((List.range' a m).foldl g s))/\Inv n ((List.range' a m).foldl g s):=by
 intro m
 induction m with
 | zero=>
  intro a s h hi;have:a=n:=by omega
  subst this;rw [bA,he s hi];simpa [bz] using hi
 | succ m ih=>
  intro a s h hi;obtain ⟨h1,h2⟩:=hs s a (by omega) hi;rw [bA,h1,List.range'_succ];exact ih (a+1) _ (by omega) h2
theorem O3{S T R U:Type}(st:S->Int->T)(g:S->Nat->S)(Inv:Nat->S->Prop)(fin:S->R){f:T->Option (T⊕R)}(a n:Nat){s0:S}{k:R->Option U}{r:Option U}(ha:a<=n)(h0:Inv a s0)
  (hs: ∀s i,i<n->Inv i s->f (st s (i:Int))=some (.inl (st (g s i) ((i+1:Nat):Int)))/\Inv (i+1) (g s i)) (he: ∀s,Inv n s->f (st s (n:Int))=some (.inr (fin s)))
  (hk:Inv n ((List.range' a (n - a)).foldl g s0)->k (fin ((List.range' a (n - a)).foldl g s0))=r):(cA f (st s0 (a:Int))).bind k=r:=by
 obtain ⟨h1,h2⟩:=O2 st g Inv (fin:=fin) n hs he (n - a) a s0 (by omega) h0;rw [h1];exact hk h2
end Go.Vs
namespace Go.Vs
end Go.Vs
namespace Go.Vs
def Yn(x:cK):Bool:=decide (1<=x.1/\x.1<=99)&&decide (0<=x.2/\x.2<=1000000)
def PI(l:List cK)(i:Nat):cK:=l.getD i (0,0)
theorem k8{l:List cK}{i:Nat}(h:i<l.length):PI l i=l[i]:=by unfold PI;simp [List.getD,h]
def u6(l:List cK)(i:Nat):Bool:=Yn (PI l i)&&(decide (i=0) || jF (PI l (i - 1)) (PI l i))&&(l.take i).all λy=> !(y.1==(PI l i).1)
def qB(l:List cK):Bool:=(List.range l.length).all (u6 l)&&decide (l.length<=16)
theorem nF{l:List cK}:qB l=true↔(∀x∈l,Yn x=true)/\l.Pairwise (λx y=>jF x y=true)/\(l.map (·.1)).Nodup/\l.length<=16:=by
 unfold qB;rw [qa5,qad,decide_eq_true_eq]
 constructor
 ·rintro ⟨h,hl⟩;have hh: ∀i (hi:i<l.length),u6 l i=true:=λi hi=>h i (qat.2 hi);simp only [u6,qa5,qc1,decide_eq_true_eq,qad,qbh,beq_eq_false_iff_ne] at hh;refine ⟨?_, ?_, ?_,hl⟩
  ·intro x hx;obtain ⟨i,hi,rfl⟩:=qam.1 hx;have:=(hh i hi).1.1;rwa [k8 hi] at this
  ·rw [qay];have adj: ∀i (hi:i+1<l.length),jF l[i] l[i+1]=true:=by
    intro i hi;have:=(hh (i+1) hi).1.2;rcases this with h0 | h1
    ·omega
    ·rw [k8 hi] at h1;rw [show i+1 - 1=i by omega,k8 (by omega:i<l.length)] at h1;exact h1
   intro i j hi hj nT;have key: ∀m, ∀(h:i+m+1<l.length),jF l[i] l[i+m+1]=true:=by
    intro m
    induction m with
    | zero=>intro h;exact adj i h
    | succ m ih=>intro h;exact sh (ih (by omega)) (adj (i+m+1) h)
   have:=key (j - i - 1) (by omega);simpa [show i+(j - i - 1)+1=j by omega] using this
  ·rw [List.nodup_iff_pairwise_ne,qay];intro i j hi hj nT;simp only [qbs] at hi hj;have:=(hh j hj).2 l[i] (qam.2 ⟨i,by rw [qar];omega,by simp⟩);rw [k8 hj] at this;simpa using this
 ·rintro ⟨h1,h2,h3,h4⟩;refine ⟨λi hi=> ?_,h4⟩;have hi:=qat.1 hi;simp only [u6,qa5,qc1,decide_eq_true_eq,qad,qbh,beq_eq_false_iff_ne,k8 hi];refine ⟨⟨h1 _ (qai hi), ?_⟩, ?_⟩
  ·by_cases h0:i=0
   ·exact .inl h0
   ·refine .inr ?_;rw [k8 (by omega:i - 1<l.length)];exact (qay.1 h2) (i - 1) i (by omega) hi (by omega)
  ·intro y hy;obtain ⟨k,hk,rfl⟩:=qam.1 hy;rw [qar] at hk;rw [List.nodup_iff_pairwise_ne,qay] at h3;have:=h3 k i (by simp;omega) (by simp;omega) (by omega);simpa using this
theorem O4{l:List cK}{i:Nat}(hi:i<l.length)(hl:l.length<=2000000){R:Type}(r:R):
  (cA (fun (HA:(Int))=>(bif decide (HA<(i:Int)) then
    (bF l HA).bind λZb=>
    (bif Zb.1==l[i].1 then
    some (Sum.inr (Sum.inr r):Int⊕(Unit⊕R))
   else
    some (Sum.inl (av (HA+1))))
   else
    some (Sum.inr (Sum.inl ())))) 0)=some (if (l.take i).all (λy=> !(y.1==(l[i]).1)) then Sum.inl () else Sum.inr r):=by
 refine pa (xs:=l.take i) (P:=λy=> !(y.1==(l[i]).1)) (r:=r) ?_ ?_
 ·intro k hk;have oC:k<i:=by rw [qar] at hk;omega
  have e1:decide ((k:Int)<(i:Int))=true:=decide_eq_true (by omega);simp only [e1,cond_true,cr (show k<l.length by omega),qa0,fz (i:=k) (by omega),qca];cases l[k].1==l[i].1 <;> simp
 ·rw [qar,Nat.min_eq_left (by omega)];simp
theorem pj{l:List cK}(hl:l.length<=2000000):M.gM l=some (qB l):=by
 unfold M.gM;have key: ∀i (h:i<(List.range l.length).length),u6 l (List.range l.length)[i]=u6 l i:=by intro i h;simp
 rw [pa (xs:=List.range l.length) (P:=u6 l) (r:=false) ?_ ?_]
 ·unfold qB;cases (List.range l.length).all (u6 l) with
  | true=>simp [bz];omega
  | false=>simp [bz]
 ·intro i h;have hi:i<l.length:=by simpa using h
  have e1:decide ((i:Int)<(l.length:Int))=true:=decide_eq_true (by omega);rw [key i h];simp only [e1,cond_true,cr hi,qa0,tR,O4 hi hl false,fz (i:=i) (show i<4000000000000000000 by omega)];unfold u6;rw [k8 hi];unfold Yn;cases hk:decide (1<=l[i].1/\l[i].1<=99) with
  | false=>simp
  | true=>
   cases hd:decide (0<=l[i].2/\l[i].2<=1000000) with
   | false=>simp
   | true=>
    simp only [qah,cond_false,qbm,qa0];by_cases h0:i=0
    ·subst h0;simp [bz]
    ·have e2:decide ((0:Int)<(i:Int))=true:=decide_eq_true (by omega);have e3:av ((i:Int) - 1)=((i - 1:Nat):Int):=by rw [bj (by omega) (by omega)];omega
     have e4:decide (i=0)=false:=decide_eq_false h0;simp only [e2,e3,e4,cond_true,cr (show i - 1<l.length by omega),qa0,CV,Bool.false_or,k8 (show i - 1<l.length by omega)];cases hn:jF l[i - 1] l[i] with
     | false=>simp
     | true=>
      simp only [qah,cond_false,qbm];cases (l.take i).all (λy=> !(y.1==l[i].1)) <;> simp [bz]
 ·simp
def qC(l:List cK)(key:Int):Option Nat:=l.findIdx? λy=>y.1==key
def F1(l:List cK)(key:Int):Int:=match qC l key with | some i=>(i:Int) | none=> -1
theorem u7{l:List cK}{key:Int}(hl:l.length<=2000000):M.lu l key=some (F1 l key):=by
 unfold M.lu F1 qC;rw [zp (xs:=l) (λy=>y.1==key) (λi=>(i:Int)) ?_ ?_]
 ·cases l.findIdx? (λy=>y.1==key) <;> simp [bz]
 ·intro i hi;have e1:decide ((i:Int)<(l.length:Int))=true:=decide_eq_true (by omega);simp only [e1,cond_true,cr hi,qa0,fz (i:=i) (by omega)];cases l[i].1==key <;> simp
 ·simp
theorem pk{l:List cK}{key:Int}{i:Nat}(h:qC l key=some i): ∃hi:i<l.length,l[i].1=key:=by
 unfold qC at h;rw [List.findIdx?_eq_some_iff_getElem] at h;obtain ⟨hi,h1,_⟩:=h;exact ⟨hi,by simpa using h1⟩
theorem wC{l:List cK}{key:Int}:qC l key=none↔ ∀x∈l,x.1≠key:=by
 unfold qC;rw [List.findIdx?_eq_none_iff];simp
theorem Nd{l:List cK}(hn:(l.map (·.1)).Nodup){i:Nat}(hi:i<l.length):qC l l[i].1=some i:=by
 unfold qC;rw [List.findIdx?_eq_some_iff_getElem];refine ⟨hi,by simp,λj hj=> ?_⟩;rw [List.nodup_iff_pairwise_ne,qay] at hn;have:=hn j i (by simp;omega) (by simp;omega) hj;simpa using this
end Go.Vs
namespace Go.Vs
def rK(b:List cK)(x:cK):Bool:=match qC b x.1 with | none=>true | some n=>decide (x.2<=(PI b n).2)
def jU(a:List cK)(x:cK):Bool:=match qC a x.1 with | none=>true | some n=>decide (x.2<(PI a n).2)
def mrg(a b:List cK):List cK:=a.filter (rK b)++b.filter (jU a)
def zA(a b:List cK)(k:Int):List cK:=if qB a=true/\qB b=true/\1<=k/\k<=16 then cS k.toNat (mrg a b) else []
theorem F2{a b:List cK}{k:Int}(ha:a.length<=2000000)(hb:b.length<=2000000):M.ja a b k=some (zA a b k):=by
 unfold M.ja zA;simp only [pj ha,pj hb,tR,qa0];cases hoa:qB a with
 | false=>simp
 | true=>
  cases hob:qB b with
  | false=>simp
  | true=>
   by_cases hk:1<=k/\k<=16
   rotate_left
   ·have:=decide_eq_false hk;simp [this,hk]
   have hd:=decide_eq_true hk;obtain ⟨n,rfl⟩:=qax (show 0<=k by omega);obtain ⟨_,_,_,hal⟩:=nF.1 hoa;obtain ⟨_,_,_,hbl⟩:=nF.1 hob;simp only [hd,qah,cond_false,qa0,true_and];rw [if_pos hk,qaz];have len: ∀l:List cK,(cS n l).length<=1000:=λl=>by rw [jm];omega
   refine kv (xs:=a) (fun (s:List cK) i=>(s,i)) (λs x=>if rK b x=true then (jK x s).take n else s) (λi s=>s=cS n ((a.take i).filter (rK b))) (λs=>s) (s0:=[]) (by simp [cS,fW]) ?_ ?_ ?_
   ·rintro s i hi rfl;have e1:decide ((i:Int)<(a.length:Int))=true:=decide_eq_true (by omega);simp only [e1,cond_true,cr hi,qa0,u7 hb,fz (i:=i) (show i<4000000000000000000 by omega),wB (nD _ _) (len _) (show n<=1000 by omega)];rw [qb1 hi,List.filter_append];unfold F1;have hkA:rK b a[i]=match qC b a[i].1 with | none=>true | some n=>decide (a[i].2<=(PI b n).2):=rfl
    cases hp:qC b a[i].1 with
    | none=>
     rw [hp] at hkA;have e2:rK b a[i]=true:=hkA;simp [e2,mW]
    | some m=>
     rw [hp] at hkA;obtain ⟨hm,_⟩:=pk hp;have e3:decide ((m:Int)<0)=false:=decide_eq_false (by omega);simp only [e3,cond_false,cr hm,qa0];rw [←k8 hm];cases hc:decide (a[i].2<=(PI b m).2) with
     | true=>
      have e2:rK b a[i]=true:=by rw [hkA];exact hc
      simp [e2,mW]
     | false=>
      have e2:rK b a[i]=false:=by rw [hkA];exact hc
      simp [e2]
   ·intro s _;simp
   ·intro hs;rw [hs,qc9];refine kv (xs:=b) (fun (s:List cK) i=>(s,i)) (λs x=>if jU a x=true then (jK x s).take n else s) (λi s=>s=cS n (a.filter (rK b)++(b.take i).filter (jU a))) (λs=>s) (s0:=cS n (a.filter (rK b))) (by simp) ?_ ?_ ?_
    ·rintro s i hi rfl;have e1:decide ((i:Int)<(b.length:Int))=true:=decide_eq_true (by omega);simp only [e1,cond_true,cr hi,qa0,u7 ha,fz (i:=i) (show i<4000000000000000000 by omega),wB (nD _ _) (len _) (show n<=1000 by omega)];rw [qb1 hi,List.filter_append, ←List.append_assoc];unfold F1;have hkB:jU a b[i]=match qC a b[i].1 with | none=>true | some n=>decide (b[i].2<(PI a n).2):=rfl
     cases hp:qC a b[i].1 with
     | none=>
      rw [hp] at hkB;have e2:jU a b[i]=true:=hkB;simp [e2,mW, ←List.append_assoc]
     | some m=>
      rw [hp] at hkB;obtain ⟨hm,_⟩:=pk hp;have e3:decide ((m:Int)<0)=false:=decide_eq_false (by omega);simp only [e3,cond_false,cr hm,qa0];rw [←k8 hm];cases hc:decide (b[i].2<(PI a m).2) with
      | true=>
       have e2:jU a b[i]=true:=by rw [hkB];exact hc
       simp [e2,mW, ←List.append_assoc]
      | false=>
       have e2:jU a b[i]=false:=by rw [hkB];exact hc
       simp [e2]
    ·intro s _;simp
    ·intro hs2;rw [hs2,qc9]
     rfl
end Go.Vs
namespace Go.Vs
end Go.Vs
namespace Go.Vs
theorem F3(x y:cK): ∃r,M.cX (x.1,x.2) (y.1,y.2)=some r/\decide (0<=r)= !jF x y:=by
 obtain ⟨r,h1,h2,_⟩:=nB x y;refine ⟨r,h1, ?_⟩;rw [←h2,Bool.eq_iff_iff];simp
end Go.Vs
namespace Go.Vs
theorem u9{l:List cK}{key:Int}(hl:l.length<=2000000):M.jA l key=some (F1 l key):=by
 unfold M.jA M.bO F1 qC;rw [zp (xs:=l) (λy=>y.1==key) (λi=>(i:Int)) ?_ ?_]
 ·cases l.findIdx? (λy=>y.1==key) <;> simp [bz]
 ·intro i hi;have e1:decide ((i:Int)<(l.length:Int))=true:=decide_eq_true (by omega);simp only [e1,cond_true,cr hi,qa0,M.gY,fz (i:=i) (by omega)];cases l[i].1==key <;> simp
 ·simp
theorem I4{l:List cK}{key:Int}:decide (F1 l key<0)=l.all λy=> !(y.1==key):=by
 unfold F1;cases h:qC l key with
 | none=>
  have:=wC.1 h;rw [Bool.eq_iff_iff];simp only [qad,qbh,beq_eq_false_iff_ne,decide_eq_true_eq];exact ⟨λ_=>this,λ_=>by omega⟩
 | some i=>
  obtain ⟨hi,e⟩:=pk h;have h1:decide ((i:Int)<0)=false:=decide_eq_false (by omega);have h2:(l.all λy=> !(y.1==key))=false:=by
   rw [List.all_eq_false];exact ⟨l[i],qai hi,by simp [e]⟩
  rw [h2];exact h1
theorem Wc{l:List cK}{key:Int}:decide (0<=F1 l key)= !(l.all λy=> !(y.1==key)):=by
 rw [←I4,Bool.eq_iff_iff];simp
theorem wZ(k:Int):M.fH k=some (decide (1<=k/\k<=99)):=by
 unfold M.fH;by_cases h1:1<=k
 ·by_cases h2:k<=99 <;> simp [h1,h2]
 ·simp [h1]
theorem xH(h:cK):M.jQ (h.1,h.2)=some (Yn h):=by
 unfold M.jQ Yn;simp only [wZ,qa0];by_cases h1:1<=h.1/\h.1<=99
 ·have e1:decide (1<=h.1/\h.1<=99)=true:=decide_eq_true h1;simp only [e1,cond_true,qbm];by_cases h2:0<=h.2
  ·simp [h2]
  ·simp [h2]
 ·have e1:decide (1<=h.1/\h.1<=99)=false:=decide_eq_false h1;simp only [e1,cond_false,Bool.false_and]
theorem CW{l:List cK}(hl:l.length<=2000000):M.gN l=some (qB l):=by
 unfold M.gN;by_cases h16:(16:Int)<(l.length:Int)
 ·have:qB l=false:=by
   unfold qB;rw [show decide (l.length<=16)=false from decide_eq_false (by omega),Bool.and_false]
  simp [h16,this]
 simp only [h16,decide_false,cond_false];have key: ∀i (h:i<(List.range l.length).length),u6 l (List.range l.length)[i]=u6 l i:=by intro i h;simp
 rw [pa (xs:=List.range l.length) (P:=u6 l) (r:=false) ?_ ?_]
 ·unfold qB;rw [show decide (l.length<=16)=true from decide_eq_true (by omega),Bool.and_true];cases (List.range l.length).all (u6 l) <;> simp [bz]
 ·intro i h;have hi:i<l.length:=by simpa using h
  have e1:decide ((i:Int)<(l.length:Int))=true:=decide_eq_true (by omega);rw [key i h];have hgs:fN l 0 (i:Int)=some (l.take i):=by
   rw [kt (xs:=l) (show (0:Int)<=0 by omega) (show (0:Int)<=(i:Int) by omega) (by omega)];simp
  have htl:(l.take i).length<=2000000:=by rw [qar];omega
  simp only [e1,cond_true,cr hi,qa0,xH,hgs,u9 htl,Wc,fz (i:=i) (show i<4000000000000000000 by omega)];unfold u6;rw [k8 hi];cases hv:Yn l[i] with
  | false=>simp
  | true=>
   simp only [qah,cond_false,qbm];by_cases h0:i=0
   ·subst h0;simp
   ·have e2:decide ((0:Int)<(i:Int))=true:=decide_eq_true (by omega);have e3:av ((i:Int) - 1)=((i - 1:Nat):Int):=by rw [bj (by omega) (by omega)];omega
    have e4:decide (i=0)=false:=decide_eq_false h0;obtain ⟨r,hr1,hr2⟩:=F3 l[i - 1] l[i];simp only [e2,e3,e4,cond_true,cr (show i - 1<l.length by omega),qa0,hr1,hr2,Bool.false_or,k8 (show i - 1<l.length by omega)];cases hn:jF l[i - 1] l[i] with
    | false=>simp
    | true=>
     simp only [qah,cond_false,qbm];cases (l.take i).all (λy=> !(y.1==l[i].1)) <;> simp
 ·simp
end Go.Vs
namespace Go.Vs
theorem I5{l:List cK}(h:(l.map (·.1)).Nodup):l.Nodup:=List.Pairwise.of_map (·.1) (λa b h e=>h (congrArg _ e)) h
theorem key_inj{l:List cK}(h:(l.map (·.1)).Nodup){x y:cK}(hx:x∈l)(hy:y∈l)(e:x.1=y.1):x=y:=by
 obtain ⟨i,hi,rfl⟩:=qam.1 hx;obtain ⟨j,hj,rfl⟩:=qam.1 hy;have h1:=Nd h hi;rw [e,Nd h hj] at h1;cases qaa h1;rfl
end Go.Vs
namespace Go.Vs
theorem vd{α:Type}[DecidableEq α]: ∀{l m:List α},l.Nodup->(∀x∈l,x∈m)->l.length<=m.length
 | [],m,_,_=>qa9 _
 | x::t,m,hn,hs=>by
  obtain ⟨h1,h2⟩:=List.nodup_cons.1 hn;have hx:x∈m:=hs x (by simp);have:=vd (m:=m.erase x) h2 (λy hy=>(List.mem_erase_of_ne (by rintro rfl;exact h1 hy)).2 (hs y (by simp [hy])));rw [List.length_erase_of_mem hx] at this;have:0<m.length:=List.length_pos_of_mem hx;simp only [qb6];omega
theorem F4{x y:cK}(h:x≠y)(h2:jF y x=false):jF x y=true:=by
 cases h1:jF x y with
 | true=>rfl
 | false=>exact absurd (qb h1 h2) h
theorem ve{L:List cK}(hn:L.Nodup):(fW L).Pairwise (λx y=>jF x y=true):=by
 have h1:=(dW L).1;have h2:(fW L).Nodup:=(dW L).2.nodup_iff.2 hn;exact (List.Pairwise.and h2 h1).imp λh=>F4 h.1 h.2
theorem sW{A:List cK}(h:A.Pairwise (λx y=>jF x y=true)){i:Nat}(hi:i<A.length):A.filter (λy=>jF y A[i])=A.take i:=by
 rw [qay] at h;generalize hx:A[i]=x
 conv=>lhs;rw [←List.take_append_drop i A,List.filter_append]
 have e1:(A.take i).filter (λy=>jF y x)=A.take i:=by
  rw [List.filter_eq_self];intro y hy;obtain ⟨j,hj,rfl⟩:=qam.1 hy;rw [qar] at hj;rw [qca, ←hx];exact h j i (by omega) hi (by omega)
 have e2:(A.drop i).filter (λy=>jF y x)=[]:=by
  rw [List.filter_eq_nil_iff];intro y hy;obtain ⟨j,hj,rfl⟩:=qam.1 hy;rw [List.length_drop] at hj;rw [List.getElem_drop, ←hx];by_cases h0:j=0
  ·subst h0;simp [Wb]
  ·rw [SK (h i (i+j) hi (by omega) (by omega))];simp
 rw [e1,e2,List.append_nil]
def CX(L:List cK)(x:cK):Nat:=(L.filter λy=>jF y x).length
theorem si{k:Nat}{L:List cK}(hn:L.Nodup){x:cK}:x∈cS k L↔x∈L/\CX L x<k:=by
 have hs:=ve hn;have hp:=(dW L).2;have hc:CX L x=((fW L).filter λy=>jF y x).length:=(hp.filter _).length_eq.symm;unfold cS;rw [hc]
 constructor
 ·intro h;obtain ⟨i,hi,rfl⟩:=qam.1 h;rw [qar] at hi;rw [qca];refine ⟨hp.mem_iff.1 (qai (by omega)), ?_⟩;rw [sW hs (by omega),qar];omega
 ·rintro ⟨h1,h2⟩;obtain ⟨i,hi,rfl⟩:=qam.1 (hp.mem_iff.2 h1);rw [sW hs hi,qar] at h2;exact qam.2 ⟨i,by rw [qar];omega,by simp⟩
theorem We{k:Nat}{L M:List cK}(hl:L.Nodup)(hm:M.Nodup)(h: ∀x,x∈cS k L↔x∈cS k M):cS k L=cS k M:=
 u0 (nD _ _) (nD _ _) ((List.perm_ext_iff_of_nodup (qd hl) (qd hm)).2 h)
def Bst(S:List cK)(x:cK):Prop:=x∈S/\ ∀y∈S,y.1=x.1->x.2<=y.2
structure BL(S L:List cK):Prop where
 keys:(L.map (·.1)).Nodup
 mem: ∀x,x∈L↔Bst S x
theorem BL.nodup{S L:List cK}(h:BL S L):L.Nodup:=I5 h.keys
theorem LL: ∀{S:List cK} {y:cK},y∈S-> ∃z,Bst S z/\z.1=y.1
 | h::t,y,hy=>by
  by_cases hw: ∃w∈t,w.1=y.1
  ·obtain ⟨w,hw,e⟩:=hw;obtain ⟨z,⟨hz,hz2⟩,ez⟩:=LL hw;by_cases hh:h.1=y.1/\h.2<z.2
   ·refine ⟨h,⟨by simp, ?_⟩,hh.1⟩;intro u hu eu;rcases qab.1 hu with rfl | hu
    ·exact Int.le_refl _
    ·have:=hz2 u hu (by rw [eu,hh.1,ez,e]);omega
   ·refine ⟨z,⟨by simp [hz], ?_⟩,by rw [ez,e]⟩;intro u hu eu;rcases qab.1 hu with rfl | hu
    ·have: ¬u.2<z.2:=λbJ=>hh ⟨by rw [eu,ez,e],bJ⟩;omega
    ·exact hz2 u hu eu
  ·rcases qab.1 hy with rfl | hy
   ·refine ⟨y,⟨by simp, ?_⟩,rfl⟩;intro u hu eu;rcases qab.1 hu with rfl | hu
    ·exact Int.le_refl _
    ·exact absurd ⟨u,hu,eu⟩ hw
   ·exact absurd ⟨y,hy,rfl⟩ hw
theorem F5{S S' L L':List cK}(h:BL S L)(h':BL S' L')(hs: ∀x∈S,x∈S')(x:cK):CX L x<=CX L' x:=by
 unfold CX;have:=vd (l:=(L.filter λy=>jF y x).map (·.1)) (m:=(L'.filter λy=>jF y x).map (·.1)) (h.keys.sublist (qba.map _)) ?_
 ·simpa using this
 ·intro k hk;obtain ⟨y,hy,rfl⟩:=qce.1 hk;obtain ⟨hy,bJ⟩:=qb8.1 hy;have hyS:=((h.mem y).1 hy).1;obtain ⟨z,hz,ez⟩:=LL (hs y hyS);refine qce.2 ⟨z,qb8.2 ⟨(h'.mem z).2 hz, ?_⟩,ez⟩;have hle:=hz.2 y (hs y hyS) ez.symm;simp only [qa] at bJ ⊢;rcases bJ with bJ | ⟨h1,h2⟩
  ·left;omega
  ·rcases Int.lt_or_eq_of_le hle with h3 | h3
   ·left;omega
   ·right;exact ⟨by omega,by omega⟩
theorem Nf{S C L M N:List cK}{k:Nat}(hL:BL S L)(hM:BL (cS k L++C) M)(hN:BL (S++C) N):cS k M=cS k N:=by
 have hnL:=hL.nodup;have hT:BL (cS k L) (cS k L):=by
  have hk:((cS k L).map (·.1)).Nodup:=by
   unfold cS;have:=((dW L).2.map (·.1)).nodup_iff.2 hL.keys;exact this.sublist ((List.take_sublist _ _).map _)
  refine ⟨hk,λx=>⟨λhx=>⟨hx,λy hy e=> ?_⟩,λh=>h.1⟩⟩;rw [key_inj hk hy hx e];exact Int.le_refl _
 have hTS: ∀x∈cS k L,x∈S:=λx hx=>((hL.mem x).1 (zy _ _ x hx)).1;have hTC: ∀x∈cS k L++C,x∈S++C:=λx hx=>by
  rcases qaj.1 hx with h | h
  ·exact qaj.2 (.inl (hTS x h))
  ·exact qaj.2 (.inr h)
 have fwd: ∀x,x∈N->CX N x<k->x∈M/\CX M x<k:=by
  intro x hx hc;have hb:=(hN.mem x).1 hx;have nN:x∈cS k L++C:=by
   rcases qaj.1 hb.1 with h | h
   ·have hxL:x∈L:=(hL.mem x).2 ⟨h,λy hy=>hb.2 y (qaj.2 (.inl hy))⟩;have:=F5 hL hN (λz hz=>qaj.2 (.inl hz)) x;exact qaj.2 (.inl ((si hnL).2 ⟨hxL,by omega⟩))
   ·exact qaj.2 (.inr h)
  refine ⟨(hM.mem x).2 ⟨nN,λy hy=>hb.2 y (hTC y hy)⟩, ?_⟩;have:=F5 hM hN hTC x;omega
 refine We hM.nodup hN.nodup λx=> ?_;rw [si hM.nodup,si hN.nodup]
 constructor
 rotate_left
 ·rintro ⟨h1,h2⟩;exact fwd x h1 h2
 rintro ⟨hx,hc⟩;have hb:=(hM.mem x).1 hx;have hxN:x∈N:=by
  refine (hN.mem x).2 ⟨hTC x hb.1,λy hy e=> ?_⟩;rcases qaj.1 hy with h | h
  ·obtain ⟨z,hz,ez⟩:=LL h;have hzy:=hz.2 y h ez.symm;by_cases bJ:y.2<x.2
   ·exfalso;have hzL:=(hL.mem z).2 hz;have hzT:z∉cS k L:=λhzT=>by
     have:=hb.2 z (qaj.2 (.inl hzT)) (by rw [ez,e]);omega
    have hck:k<=CX L z:=by
     apply Nat.le_of_not_lt;intro h';exact hzT ((si hnL).2 ⟨hzL,h'⟩)
    have hlen:(cS k L).length=k:=by
     rw [jm];have:CX L z<=L.length:=List.length_filter_le _ _;omega
    have j8: ∀t∈cS k L,jF t x=true:=by
     intro t ht;obtain ⟨htL,htc⟩:=(si hnL).1 ht;have iH:t≠z:=by rintro rfl;exact hzT ht
     have htz:jF t z=true:=by
      cases h1:jF t z with
      | true=>rfl
      | false=>
       exfalso;have h2:jF z t=true:=F4 (qbp iH) h1;have:CX L z<=CX L t:=by
        unfold CX;refine vd (hnL.sublist qba) λu hu=> ?_;obtain ⟨tq,hu2⟩:=qb8.1 hu;exact qb8.2 ⟨tq,sh hu2 h2⟩
       omega
     refine sh htz (qa.2 (.inl (by omega)))
    have h3:CX (cS k L) x=k:=by
     unfold CX;rw [List.filter_eq_self.2 j8,hlen]
    have:=F5 hT hM (λz hz=>qaj.2 (.inl hz)) x;omega
   ·omega
  ·exact hb.2 y (qaj.2 (.inr h)) e
 refine ⟨hxN, ?_⟩;apply Nat.lt_of_not_le;intro hk;have hlen:(cS k N).length=k:=by
  rw [jm];have:CX N x<=N.length:=List.length_filter_le _ _;omega
 have:(cS k N).length<=CX M x:=by
  unfold CX;refine vd (qd hN.nodup) λu hu=> ?_;obtain ⟨tq,hu2⟩:=(si hN.nodup).1 hu;refine qb8.2 ⟨(fwd u tq hu2).1, ?_⟩;cases h1:jF u x with
  | true=>rfl
  | false=>
   exfalso;have hcx:CX N x<=CX N u:=by
    unfold CX;refine vd (hN.nodup.sublist qba) λw hw=> ?_;obtain ⟨wQ,qF⟩:=qb8.1 hw;refine qb8.2 ⟨wQ, ?_⟩;by_cases ZF:x=u
    ·rw [←ZF];exact qF
    ·exact sh qF (F4 ZF h1)
   omega
 omega
theorem CY{b:List cK}(hn:(b.map (·.1)).Nodup){x:cK}:rK b x=true↔ ∀y∈b,y.1=x.1->x.2<=y.2:=by
 unfold rK;cases h:qC b x.1 with
 | none=>simp only [true_iff];exact λy hy e=>absurd e (wC.1 h y hy)
 | some i=>
  obtain ⟨hi,e⟩:=pk h;simp only [decide_eq_true_eq,k8 hi]
  constructor
  ·intro hle y hy ey;rw [key_inj hn hy (qai hi) (by rw [ey,e])];exact hle
  ·intro hh;exact hh _ (qai hi) e
theorem CZ{b:List cK}(hn:(b.map (·.1)).Nodup){x:cK}:jU b x=true↔ ∀y∈b,y.1=x.1->x.2<y.2:=by
 unfold jU;cases h:qC b x.1 with
 | none=>simp only [true_iff];exact λy hy e=>absurd e (wC.1 h y hy)
 | some i=>
  obtain ⟨hi,e⟩:=pk h;simp only [decide_eq_true_eq,k8 hi]
  constructor
  ·intro hle y hy ey;rw [key_inj hn hy (qai hi) (by rw [ey,e])];exact hle
  ·intro hh;exact hh _ (qai hi) e
theorem SL{a b:List cK}(ha:(a.map (·.1)).Nodup)(hb:(b.map (·.1)).Nodup):BL (a++b) (mrg a b):=by
 constructor
 ·unfold mrg;rw [qc3,List.nodup_append];refine ⟨ha.sublist (qba.map _),hb.sublist (qba.map _), ?_⟩;intro p hp q hq e;obtain ⟨x,hx,rfl⟩:=qce.1 hp;obtain ⟨y,hy,rfl⟩:=qce.1 hq;obtain ⟨hx1,nN⟩:=qb8.1 hx;obtain ⟨hy1,hy2⟩:=qb8.1 hy;have h1:=(CY hb).1 nN y hy1 e.symm;have h2:=(CZ ha).1 hy2 x hx1 e;omega
 ·intro x;unfold mrg Bst;rw [qaj,qb8,qb8,CY hb,CZ ha,qaj]
  constructor
  ·rintro (⟨h1,h2⟩ | ⟨h1,h2⟩)
   ·refine ⟨.inl h1,λy hy e=> ?_⟩;rcases qaj.1 hy with h | h
    ·rw [key_inj ha h h1 e];exact Int.le_refl _
    ·exact h2 y h e
   ·refine ⟨.inr h1,λy hy e=> ?_⟩;rcases qaj.1 hy with h | h
    ·exact Int.le_of_lt (h2 y h e)
    ·rw [key_inj hb h h1 e];exact Int.le_refl _
  ·rintro ⟨h1,h2⟩;by_cases KT:x∈a
   ·exact .inl ⟨KT,λy hy=>h2 y (qaj.2 (.inr hy))⟩
   ·have hxb:x∈b:=h1.resolve_left KT;refine .inr ⟨hxb,λy hy e=> ?_⟩;have hle:=h2 y (qaj.2 (.inl hy)) e;rcases Int.lt_or_eq_of_le hle with h | h
    ·exact h
    ·exact absurd (show x∈a by rw [show x=y from Prod.ext e.symm h];exact hy) KT
theorem BL.same{S S' L L':List cK}{k:Nat}(h:BL S L)(h':BL S' L')(hs: ∀x,x∈S↔x∈S'):cS k L=cS k L':=by
 refine sg ((List.perm_ext_iff_of_nodup h.nodup h'.nodup).2 λx=> ?_);rw [h.mem,h'.mem];unfold Bst
 constructor
 ·rintro ⟨h1,h2⟩;exact ⟨(hs x).1 h1,λy hy=>h2 y ((hs y).2 hy)⟩
 ·rintro ⟨h1,h2⟩;exact ⟨(hs x).2 h1,λy hy=>h2 y ((hs y).1 hy)⟩
theorem SM{L:List cK}{k:Nat}(hk:k<=16)(h1: ∀x∈L,Yn x=true)(h2:(L.map (·.1)).Nodup):qB (cS k L)=true:=by
 have hn:=I5 h2;refine nF.2 ⟨λx hx=>h1 x (zy _ _ x hx),(ve hn).sublist (List.take_sublist _ _), ?_,by rw [jm];omega⟩;have:=((dW L).2.map (·.1)).nodup_iff.2 h2;exact this.sublist ((List.take_sublist _ _).map _)
end Go.Vs
namespace Go.Vs
theorem F6{n:Nat}(hn:n<=1000000):M.di [] (n:Int)=some []:=by
 unfold M.di;have e0:decide ((n:Int)<0)=false:=decide_eq_false (by omega);have e1:av ((n:Int) - av ((([]:List cK).length:Int) - (([]:List cK).length:Int)))=(n:Int):=by
  have:av ((([]:List cK).length:Int) - (([]:List cK).length:Int))=0:=by decide
  rw [this,bj (by omega) (by omega)];omega
 have g0:fN ([]:List cK) 0 (([]:List cK).length:Int)=some []:=by
  rw [kt (by omega) (by simp) (by simp)];rfl
 simp only [e0,cond_false,e1];by_cases h:0<n
 ·have e2:decide (0<(n:Int))=true:=decide_eq_true (by omega);have g1:BZ ([]:List cK) (n:Int) (0,0)=some (List.replicate n (0,0)):=by
   unfold BZ;rw [if_pos ⟨by omega,by simp;omega⟩];simp
  have g2:fN (List.replicate n ((0,0):cK)) 0 (([]:List cK).length:Int)=some []:=by
   rw [kt (by omega) (by simp) (by simp)];simp
  simp only [e2,cond_true,g0,qa0,g1,g2]
 ·have e2:decide (0<(n:Int))=false:=decide_eq_false (by omega);simp only [e2,cond_false,qa0]
theorem BA{a b:List cK}(ha:a.length<=100000)(hb:b.length<=100000):M.cT [a,b]=some (a++b):=by
 unfold M.cT;have c0:decide ((0:Int)<(([a,b]:List (List cK)).length:Int))=true:=rfl;have c1:decide ((1:Int)<(([a,b]:List (List cK)).length:Int))=true:=rfl;have c2:decide ((2:Int)<(([a,b]:List (List cK)).length:Int))=false:=rfl;have i0:bF ([a,b]:List (List cK)) 0=some a:=rfl;have i1:bF ([a,b]:List (List cK)) 1=some b:=rfl;have w0:av ((0:Int)+1)=1:=rfl;have w1:av ((1:Int)+1)=2:=rfl;have s0:av ((0:Int)+(a.length:Int))=(a.length:Int):=by rw [bj (by omega) (by omega)];omega
 have s1:av ((a.length:Int)+(b.length:Int))=((a.length+b.length:Nat):Int):=by rw [bj (by omega) (by omega)];omega
 have n0:decide ((a.length:Int)<0)=false:=decide_eq_false (by omega);have n1:decide (((a.length+b.length:Nat):Int)<0)=false:=decide_eq_false (by omega);rw [bA];simp only [c0,cond_true,i0,qa0,s0,n0,cond_false,w0,bz];rw [bA];simp only [c1,cond_true,i1,qa0,s1,n1,cond_false,w1,bz];rw [bA];simp only [c2,cond_false,qa0,bz,F6 (show a.length+b.length<=1000000 by omega)];rw [bA];simp only [c0,cond_true,i0,qa0,gH (show ([]:List cK).length+a.length<=2147483648 by simp;omega),w0,qb7,bz];rw [bA];simp only [c1,cond_true,i1,qa0,gH (show a.length+b.length<=2147483648 by omega),w1,bz];rw [bA];simp only [c2,cond_false,qa0,bz]
theorem F7{l:List cK}(hl:l.length<=1000000):M.bo l=some (fW l):=by
 unfold M.bo;obtain ⟨d',h1,h2,h3⟩:=Hy (cmp:=FU) (lt:=jF) (xs:=l) (by omega) (λx _ y _=>zw x y trivial trivial) (λx _=>nA.irrefl x trivial) (λx _ y _ z _=>nA.trans x y z trivial trivial trivial) (λx _ y _=>nA.total x y trivial trivial);rw [tQ h3 h2];exact h1
def O5(s:List cK)(x:cK):List cK:=if s.all (λy=> !(y.1==x.1))=true then s++[x] else s
def Yo(L:List cK):List cK:=L.foldl O5 []
structure Wh(P s:List cK):Prop where
 sub:s.Sublist P
 keys:(s.map (·.1)).Nodup
 all: ∀y∈P, ∃z∈s,z.1=y.1/\z.2<=y.2
theorem Wh.nil:Wh [] []:=⟨List.Sublist.refl _,by simp,by simp⟩
theorem Wh.snoc{P s:List cK}{x:cK}(h:Wh P s)(hx: ∀y∈P,jF x y=false):Wh (P++[x]) (O5 s x):=by
 unfold O5;by_cases hc:s.all (λy=> !(y.1==x.1))=true
 ·rw [if_pos hc];simp only [qad,qbh,beq_eq_false_iff_ne] at hc;refine ⟨List.Sublist.append h.sub (List.Sublist.refl _), ?_, ?_⟩
  ·rw [qc3,List.nodup_append];refine ⟨h.keys,by simp, ?_⟩;intro k hk k' oC e;obtain ⟨y,hy,rfl⟩:=qce.1 hk;simp only [qbj,qbt,qbc] at oC;exact hc y hy (e.trans oC)
  ·intro y hy;rcases qaj.1 hy with hy | hy
   ·obtain ⟨z,hz,h1,h2⟩:=h.all y hy;exact ⟨z,by simp [hz],h1,h2⟩
   ·rw [qbc.1 hy];exact ⟨x,by simp,rfl,Int.le_refl _⟩
 ·rw [if_neg hc];refine ⟨h.sub.trans (List.sublist_append_left _ _),h.keys, ?_⟩;intro y hy;rcases qaj.1 hy with hy | hy
  ·exact h.all y hy
  ·rw [qbc.1 hy];simp only [qad,qbh,beq_eq_false_iff_ne] at hc;have: ∃z∈s,z.1=x.1:=qa8 λhn=>hc λz hz e=>hn ⟨z,hz,e⟩;obtain ⟨z,hz,e⟩:=this;refine ⟨z,hz,e, ?_⟩;have:=sf.1 (hx z (h.sub.subset hz));omega
theorem I6: ∀{Q P s:List cK},Wh P s->(P++Q).Pairwise (λx y=>jF y x=false)->Wh (P++Q) (Q.foldl O5 s)
 | [],P,s,h,_=>by simpa using h
 | x::Q,P,s,h,hp=>by
  have e:P++x::Q=(P++[x])++Q:=by simp
  rw [e] at hp ⊢;rw [List.foldl_cons];refine I6 (h.snoc ?_) hp;intro y hy;have:=(List.pairwise_append.1 ((List.pairwise_append.1 hp).1)).2.2 y hy x (by simp);exact this
theorem aaI{S:List cK}:BL S (Yo (fW S))/\uZ (Yo (fW S)):=by
 obtain ⟨h1,h2⟩:=dW S;have h:=I6 (Q:=fW S) Wh.nil (by rw [qb7];exact h1);rw [qb7] at h;change Wh (fW S) (Yo (fW S)) at h;refine ⟨⟨h.keys,λx=>⟨λhx=> ?_,λhx=> ?_⟩⟩,h1.sublist h.sub⟩
 ·refine ⟨h2.mem_iff.1 (h.sub.subset hx),λy hy e=> ?_⟩;obtain ⟨z,hz,e1,e2⟩:=h.all y (h2.mem_iff.2 hy);have:z=x:=key_inj h.keys hz hx (e1.trans e);rw [←this];exact e2
 ·obtain ⟨z,hz,e1,e2⟩:=h.all x (h2.mem_iff.2 hx.1);have h3:=hx.2 z (h2.mem_iff.1 (h.sub.subset hz)) e1;have:z=x:=Prod.ext e1 (by omega);rw [←this];exact hz
theorem Wi{a b:List cK}{k:Nat}(ha:(a.map (·.1)).Nodup)(hb:(b.map (·.1)).Nodup):(Yo (fW (a++b))).take k=cS k (mrg a b):=by
 obtain ⟨h1,h2⟩:=aaI (S:=a++b);have h3:=SL ha hb;rw [←h1.same (k:=k) h3 (λx=>Iff.rfl)];unfold cS;rw [tQ h2 (List.Perm.refl _)]
theorem BB{a b:List cK}(ha:a.length<=100000)(hb:b.length<=100000):M.iy a b=some (Yo (fW (a++b))):=by
 unfold M.iy;have hl:(fW (a++b)).length<=200000:=by rw [CU];simp;omega
 simp only [BA ha hb,qa0,F7 (show (a++b).length<=1000000 by simp;omega)];generalize fW (a++b)=L at hl;refine kv (xs:=L) (fun (s:List cK) i=>(s,i)) O5 (λi s=>s.length<=i) (λs=>s) (s0:=[]) (by simp) ?_ ?_ ?_
 ·intro s i hi hs;have e1:decide ((i:Int)<(L.length:Int))=true:=decide_eq_true (by omega);simp only [e1,cond_true,cr hi,qa0,u9 (show s.length<=2000000 by omega),I4,fz (i:=i) (show i<4000000000000000000 by omega)];unfold O5;by_cases hc:s.all (λy=> !(y.1==L[i].1))=true
  ·rw [hc,if_pos rfl];simp only [cond_true,gH (show s.length+[(L[i].1,L[i].2)].length<=2147483648 by simp;omega),qa0,true_and];simp;omega
  ·rw [if_neg hc,qbd] at*;rw [hc];simp only [cond_false,qa0,true_and];omega
 ·intro s _;simp
 ·intro _;rfl
theorem F8{a b:List cK}{k:Int}(ha:a.length<=2000000)(hb:b.length<=2000000):M.gO a b k=some (zA a b k):=by
 unfold M.gO zA;simp only [CW (show a.length<=2000000 by omega),CW (show b.length<=2000000 by omega),I2,qa0];cases hoa:qB a with
 | false=>simp
 | true=>
  cases hob:qB b with
  | false=>simp
  | true=>
   by_cases hk:1<=k/\k<=16
   rotate_left
   ·have:=decide_eq_false hk;simp [this,hk]
   have hd:=decide_eq_true hk;obtain ⟨n,rfl⟩:=qax (show 0<=k by omega);have hm:min (n:Int) ((Yo (fW (a++b))).length:Int)=((min n (Yo (fW (a++b))).length:Nat):Int):=by omega
   have hal:=(nF.1 hoa).2.2.2;have hbl:=(nF.1 hob).2.2.2;simp only [hd,qah,cond_false,qa0,true_and,BB (show a.length<=100000 by omega) (show b.length<=100000 by omega),hm];rw [if_pos hk,qaz, ←Wi (nF.1 hoa).2.2.1 (nF.1 hob).2.2.1];rw [kt (by omega) (by omega) (by omega)];simp only [qa0,qaz,Int.toNat_zero,List.drop_zero];congr 1;rcases Nat.le_total n (Yo (fW (a++b))).length with h | h
   ·rw [Nat.min_eq_left h]
   ·rw [Nat.min_eq_right h,qc9,qbw h]
end Go.Vs
namespace Go.Vs
theorem SN{a b:List cK}{k:Int}:(zA a b k).length<=16:=by
 unfold zA;split
 ·rename_i h;rw [jm];omega
 ·simp
theorem Wj{a b:List cK}{k:Nat}(ha:qB a=true)(hb:qB b=true)(h1:1<=k)(h2:k<=16):zA a b (k:Int)=cS k (mrg a b):=by
 unfold zA;rw [if_pos ⟨ha,hb,by omega,by omega⟩,qaz]
end Go.Vs
namespace Go.Vs
theorem xa{l:List Item}{kind:Int}{v:List Int}:(cn l kind v).map (·.1)=l.map (·.1):=by
 unfold cn;rw [List.map_map];rfl
theorem I7{l:List Item}(h:l.Pairwise (λx y=>x.1<y.1)):(l.map (·.1)).Nodup:=by
 unfold List.Nodup;rw [List.pairwise_map];exact h.imp λh=>by omega
theorem BL.self{S:List cK}(h:(S.map (·.1)).Nodup):BL S S:=⟨h,λx=>⟨λhx=>⟨hx,λy hy e=>by rw [key_inj h hy hx e];exact Int.le_refl _⟩,λh=>h.1⟩⟩
theorem C0{L:List cK}{k:Nat}(h:(L.map (·.1)).Nodup):((cS k L).map (·.1)).Nodup:=by
 unfold cS;have:=((dW L).2.map (·.1)).nodup_iff.2 h;exact this.sublist ((List.take_sublist _ _).map _)
theorem O6{A B:List cK}{k:Nat}(h:((A++B).map (·.1)).Nodup):cS k (mrg (cS k A) (cS k B))=cS k (A++B):=by
 have hA:(A.map (·.1)).Nodup:=h.sublist ((List.sublist_append_left A B).map _);have hB:(B.map (·.1)).Nodup:=h.sublist ((List.sublist_append_right A B).map _);have tA:=C0 (k:=k) hA;have tB:=C0 (k:=k) hB;have hAB:=List.nodup_append.1 (by rw [qc3] at h;exact h);have hd:((A++cS k B).map (·.1)).Nodup:=by
  rw [qc3,List.nodup_append];refine ⟨hA,tB,λa ha b hb=>hAB.2.2 a ha b ?_⟩;obtain ⟨x,hx,rfl⟩:=qce.1 hb;exact qce.2 ⟨x,zy _ _ x hx,rfl⟩
 have e1:=Nf (k:=k) (BL.self hA) (SL tA tB) (BL.self hd);rw [e1];have hd2:((cS k B++A).map (·.1)).Nodup:=((qc2 (l₁:=A) (l₂:=cS k B)).map (·.1)).nodup_iff.1 hd;have hd3:((B++A).map (·.1)).Nodup:=((qc2 (l₁:=A) (l₂:=B)).map (·.1)).nodup_iff.1 h;have e2:=Nf (k:=k) (BL.self hB) (BL.self hd2) (BL.self hd3);rw [sg (qc2 (l₁:=A) (l₂:=cS k B)),e2];exact sg qc2
theorem sX(l m:List Item)(kind:Int)(v:List Int):cn (l++m) kind v=cn l kind v++cn m kind v:=by unfold cn;rw [qc3]
end Go.Vs
namespace Go.Vs
end Go.Vs
namespace Go.Vs
theorem C1{L:List Item}{kind:Int}{v:List Int}{k:Nat}(hk:k<=16)(oi:isKind kind=true)(hv:eo v=true)(h1: ∀x∈L,fS x=true)(h2:(L.map (·.1)).Nodup):qB (cS k (cn L kind v))=true:=by
 refine SM hk ?_ (by rw [xa];exact h2);intro x hx;obtain ⟨y,hy,rfl⟩:=LK.1 hx;obtain ⟨q1,q2,_⟩:=jl.1 (h1 y hy);have:=LC oi q2 hv;unfold Yn;simp only [qa5,decide_eq_true_eq];omega
end Go.Vs
namespace Go.Vs
def LM(k s:Int):Int:=389*k % 1009*s / 1009
theorem pn{k s:Int}(h:1<=s):0<=LM k s/\LM k s<s:=by
 unfold LM;have h1:0<=389*k % 1009:=Int.emod_nonneg _ (by omega);have h2:389*k % 1009<1009:=Int.emod_lt_of_pos _ (by omega);refine ⟨Int.ediv_nonneg (Int.mul_nonneg h1 (by omega)) (by omega), ?_⟩;rw [Int.ediv_lt_iff_lt_mul (by omega),Int.mul_comm s 1009];exact Int.mul_lt_mul_of_pos_right h2 (by omega)
def An(l:List Item)(s n:Int):List Item:=l.filter λx=>LM x.1 s==n
theorem yc{l:List Item}{s n:Int}:(An l s n).Sublist l:=qba
def il(l:List Item)(s n:Int):List Item:=l.filter λx=>decide (LM x.1 s<n)
theorem xb{l:List Item}{s:Int}(h:1<=s):il l s 0=[]:=by
 unfold il;rw [List.filter_eq_nil_iff];intro x _;have:=(pn (k:=x.1) h).1;simp;omega
theorem LN{l:List Item}{s:Int}(h:1<=s):il l s s=l:=by
 unfold il;rw [List.filter_eq_self];intro x _;have:=(pn (k:=x.1) h).2;simpa using this
theorem xd(l:List Item)(s n:Int):(il l s n++An l s n).Perm (il l s (n+1)):=by
 have:=zz (λx:Item=>decide (LM x.1 s<n)) (λx=>LM x.1 s==n) l (λx _ h=>by simp at h ⊢;omega);refine this.trans (List.Perm.of_eq ?_);unfold il;refine List.filter_congr λx _=> ?_;rw [Bool.eq_iff_iff];simp;omega
theorem I8{l m:List Item}{kind:Int}{v:List Int}(h:l.Perm m):(cn l kind v).Perm (cn m kind v):=h.map _
theorem zC{l:List Item}{kind:Int}{v:List Int}{k:Nat}{s n:Int}(hq:eF l kind v=true)(h1:1<=k)(h2:k<=16):
  zA (cS k (cn (il l s n) kind v)) (cS k (cn (An l s n) kind v)) (k:Int)=cS k (cn (il l s (n+1)) kind v):=by
 obtain ⟨ho,oi,hv⟩:=gU.1 hq;obtain ⟨_,hit,hp⟩:=dG.1 ho;have sA:(il l s n).Sublist l:=qba;have sB:(An l s n).Sublist l:=qba;have kn: ∀m:List Item,m.Sublist l->(m.map (·.1)).Nodup:=λm hm=>(I7 hp).sublist (hm.map _);have oA:=C1 (k:=k) h2 oi hv (λx hx=>hit x (sA.subset hx)) (kn _ sA);have oB:=C1 (k:=k) h2 oi hv (λx hx=>hit x (sB.subset hx)) (kn _ sB);have QR:=I8 (kind:=kind) (v:=v) (xd l s n);have hn:((cn (il l s n) kind v++cn (An l s n) kind v).map (·.1)).Nodup:=by
  rw [←sX,xa];exact ((xd l s n).map (·.1)).nodup_iff.2 (kn _ qba)
 rw [Wj oA oB h1 h2,O6 hn, ←sX];exact sg QR
def sn(l:List Item)(s:Nat)(kind:Int)(v:List Int)(k:Nat)(n:Nat):List cK:=(List.range n).foldl (fun (out:List cK) (i:Nat)=>zA out (cS k (cn (An l (s:Int) (i:Int)) kind v)) (k:Int)) []
theorem zD{l:List Item}{kind:Int}{v:List Int}{k s:Nat}(hq:eF l kind v=true)(h1:1<=k)(h2:k<=16)(hs:1<=s):sn l s kind v k s=cS k (cn l kind v):=by
 have key: ∀n:Nat,sn l s kind v k n=cS k (cn (il l s n) kind v):=by
  intro n
  induction n with
  | zero=>
   have:=xb (l:=l) (s:=(s:Int)) (by omega);unfold sn;rw [Int.natCast_zero,this];simp [cn,cS,fW]
  | succ n ih=>
   have:=zC (s:=(s:Int)) (n:=(n:Int)) hq h1 h2;unfold sn at ih ⊢;rw [List.range_succ,List.foldl_append,ih,List.foldl_cons,List.foldl_nil,this]
   rfl
 rw [key,LN (by omega)]
end Go.Vs
namespace Go.Vs
end Go.Vs
namespace Go.Vs
theorem zF{k s:Int}(hk:1<=k/\k<=99)(hs:1<=s/\s<=8):M.jz k s=some (LM k s):=by
 unfold M.jz;have h1:0<=389*k % 1009:=Int.emod_nonneg _ (by omega);have h2:389*k % 1009<1009:=Int.emod_lt_of_pos _ (by omega);have e1:av (389*k)=389*k:=bj (by omega) (by omega);have e2:(389*k).tmod 1009=389*k % 1009:=Int.tmod_eq_emod_of_nonneg (by omega);have h3:0<=389*k % 1009*s:=Int.mul_nonneg h1 (by omega);have h4:389*k % 1009*s<=1009*8:=Int.mul_le_mul (by omega) hs.2 (by omega) (by omega);have e3:av (389*k % 1009*s)=389*k % 1009*s:=bj (by omega) (by omega);have e4:(389*k % 1009*s).tdiv 1009=389*k % 1009*s / 1009:=Int.tdiv_eq_ediv_of_nonneg h3;have hr:=pn (k:=k) hs.1;rw [e1,e2,e3,e4];unfold LM at*;rw [bj (by omega) (by omega)]
def shV(k s:Int):Int:=if (1<=k/\k<=99)/\1<=s/\s<=8 then LM k s else -1
theorem LO(k s:Int):M.kN k s=some (shV k s):=by
 unfold M.kN M.dK shV;simp only [wZ,qa0];by_cases hk:1<=k/\k<=99
 rotate_left
 ·rw [if_neg λh=>hk h.1];simp [decide_eq_false hk]
 by_cases hs:1<=s/\s<=8
 rotate_left
 ·rw [if_neg λh=>hs h.2];by_cases h1:1<=s
  ·have: ¬s<=8:=λh=>hs ⟨h1,h⟩;simp [decide_eq_true hk,h1,this]
  ·simp [decide_eq_true hk,h1]
 rw [if_pos ⟨hk,hs⟩];have h:=zF hk hs;unfold M.jz at h;simp only [decide_eq_true hk,decide_eq_true hs.1,decide_eq_true hs.2,qah,cond_true,cond_false,qa0];exact h
theorem BC{k:Nat}(hk:k<=500000){r:List UInt8×Int}(hr:Good k r): ∃x r',M.iu (r.1,r.2)=some (x,(r'.1,r'.2))/\Good (k+1) r'/\0<=x/\x<=9:=by
 obtain ⟨x,r1,h1,g1,m1⟩:=rH (by omega) hr (list:=[1,2,3,4,8,0,9,5]) (by simp);refine ⟨x,r1,by unfold M.iu;simp only [h1,qa0],g1, ?_⟩;simp only [qab,qap,or_false] at m1;omega
theorem C2{l:List Item}(h:cV l=true){x:Item}(hx:x∈l):1<=x.1/\x.1<=99:=(jl.1 ((dG.1 h).2.1 x hx)).1
theorem LP{l:List Item}{s n:Int}(h:cV l=true)(hs:1<=s/\s<=8):M.iw l s n=some (An l s n):=by
 unfold M.iw;obtain ⟨hlen,hit,_⟩:=dG.1 h;refine kv (xs:=l) (fun (s:List Item) i=>(s,i)) (λt x=>if (LM x.1 s==n)=true then t++[x] else t) (λi t=>t.length<=i) (λt=>t) (s0:=[]) (by simp) ?_ ?_ ?_
 ·intro t i hi ht;have e1:decide ((i:Int)<(l.length:Int))=true:=decide_eq_true (by omega);have hx:=qai hi;have h4:=nz (hit _ hx);simp only [e1,cond_true,cr hi,qa0,zF (C2 h hx) hs,lI (show l[i].2.1.length<=1000000 by omega),fz (i:=i) (by omega)];cases (LM l[i].1 s==n) with
  | true=>
   simp only [cond_true,if_true];rw [gH (by simp;omega)];exact ⟨rfl,by simp;omega⟩
  | false=>exact ⟨by simp,by simpa using Nat.le_succ_of_le ht⟩
 ·intro t _;simp
 ·intro _;rw [foldl_filter];rfl
def aaJ(l:List Item)(s n:Int):List Item:=if cV l=true/\1<=s/\s<=8 then An l s n else []
theorem Wl{l:List Item}{s n:Int}(h:cV l=true)(hs:1<=s/\s<=8):aaJ l s n=An l s n:=if_pos ⟨h,hs⟩
theorem I9{l:List Item}{s n:Int}(h:cV l=true)(hs:1<=s/\s<=8):M.cJ l s n=some (An l s n):=by
 unfold M.cJ M.eN;obtain ⟨hlen,hit,_⟩:=dG.1 h;refine kv (xs:=l) (fun (s:List Item) i=>(s,i)) (λt x=>if (LM x.1 s==n)=true then t++[x] else t) (λi t=>t.length<=i) (λt=>t) (s0:=[]) (by simp) ?_ ?_ ?_
 ·intro t i hi ht;have e1:decide ((i:Int)<(l.length:Int))=true:=decide_eq_true (by omega);have hx:=qai hi;have hV:shV l[i].1 s=LM l[i].1 s:=if_pos ⟨C2 h hx,hs⟩;simp only [e1,cond_true,cr hi,qa0,LO,hV,fz (i:=i) (by omega)];cases (LM l[i].1 s==n) with
  | true=>
   simp only [cond_true,if_true];rw [gH (by simp;omega)];exact ⟨rfl,by simp;omega⟩
  | false=>exact ⟨by simp,by simpa using Nat.le_succ_of_le ht⟩
 ·intro t _;simp
 ·intro _;rw [foldl_filter];rfl
theorem zG(s:Int):M.dK s=some (decide (1<=s/\s<=8)):=by
 unfold M.dK;by_cases h1:1<=s <;> by_cases h2:s<=8 <;> simp [h1,h2]
theorem Ja{l:List Item}{s n:Int}(sl:fY l):M.eI l s n=some (aaJ l s n):=by
 unfold M.eI aaJ;simp only [sl.impl,zG,qa0];cases ho:cV l with
 | false=>simp
 | true=>
  by_cases hs:1<=s/\s<=8
  ·rw [if_pos ⟨rfl,hs⟩];have hsm:fY (An l s n):=⟨qac yc.length_le sl.1,λx hx=>sl.2 x (yc.subset hx)⟩;simp only [decide_eq_true hs,qah,cond_false,qa0,I9 ho hs,FT hsm]
  ·rw [if_neg λh=>hs h.2];simp [decide_eq_false hs]
end Go.Vs
namespace Go.Vs
end Go.Vs
namespace Go.Vs
end Go.Vs
namespace Go.Vs
end Go.Vs
namespace Go.Vs
end Go.Vs
namespace Go.Vs
end Go.Vs
namespace Go.Vs
def mL(l:List Item)(s kind:Int)(v:List Int)(k:Int):List cK:=if eF l kind v=true/\(1<=s/\s<=8)/\1<=k/\k<=16 then sn l s.toNat kind v k.toNat s.toNat else []
theorem vf{l:List Item}{s kind:Int}{v:List Int}{k:Int}(hs:1<=s/\s<=8):mL l s kind v k=lV l kind v k:=by
 unfold mL lV;by_cases h:eF l kind v=true/\1<=k/\k<=16
 ·rw [if_pos ⟨h.1,hs,h.2⟩,if_pos h,zD h.1 (by omega) (by omega) (by omega)]
 ·rw [if_neg λq=>h ⟨q.1,q.2.2⟩,if_neg h]
theorem BD{l:List Item}{s kind:Int}{v:List Int}{k:Int}(sl:fY l)(hv:v.length<2000000):M.fi l s kind v k=some (mL l s kind v k):=by
 unfold M.fi mL;simp only [A8 sl hv,tR,qa0];cases hq:eF l kind v with
 | false=>simp
 | true=>
  by_cases hs:1<=s/\s<=8
  rotate_left
  ·rw [if_neg λh=>hs h.2.1];simp [decide_eq_false hs]
  by_cases hk:1<=k/\k<=16
  rotate_left
  ·rw [if_neg λh=>hk h.2.2];simp [decide_eq_true hs,decide_eq_false hk]
  obtain ⟨n,rfl⟩:=qax (show 0<=k by omega);obtain ⟨m,rfl⟩:=qax (show 0<=s by omega);obtain ⟨ho,oi,hvv⟩:=gU.1 hq;rw [if_pos ⟨rfl,hs,hk⟩];simp only [decide_eq_true hs,decide_eq_true hk,qah,cond_false,qa0,qaz];refine O3 (fun (t:List cK) i=>(t,i)) (λt i=>zA t (cS n (cn (An l (m:Int) (i:Int)) kind v)) (n:Int)) (λi t=>t.length<=16) (λt=>t) 0 m (s0:=[]) (by omega) (by simp) ?_ ?_ ?_
  ·intro t i hi ht;have e1:decide ((i:Int)<(m:Int))=true:=decide_eq_true (by omega);have q1:eF (An l (m:Int) (i:Int)) kind v=true:=gU.2 ⟨wY ho yc,oi,hvv⟩;have l1:(cS n (cn (An l (m:Int) (i:Int)) kind v)).length<=16:=by rw [jm];omega
   simp only [e1,cond_true,LP ho hs,qa0,xG q1 (show n<=1000 by omega),F2 (show t.length<=2000000 by omega) (show (cS n (cn (An l (m:Int) (i:Int)) kind v)).length<=2000000 by omega),fz (i:=i) (by omega)];exact ⟨trivial,SN⟩
  ·intro t _;simp
  ·intro _;unfold sn;rw [Nat.sub_zero,List.range_eq_range']
theorem zH(code:List UInt8): ∃(l:List Item) (s kind:Int) (v:List Int) (k:Int),M.dQ code=some (l,s,kind,v,k)/\IP l/\Sv v/\(0<=s/\s<=9)/\0<=k/\k<=17:=by
 obtain ⟨⟨r1,r2⟩,h,g⟩:=FM code;obtain ⟨l,⟨q1,q2⟩,h1,g1,nl⟩:=IQ (by omega) g;obtain ⟨s,⟨c1,c2⟩,h2,g2,m2⟩:=BC (by omega) g1;obtain ⟨kind,⟨u1,u2⟩,h3,g3⟩:=V5 (by omega) g2;obtain ⟨v,⟨t1,t2⟩,h4,g4,nv⟩:=Ls (by omega) g3;obtain ⟨k,⟨s1,s2⟩,h5,g5,m5⟩:=SJ (by omega) g4;exact ⟨l,s,kind,v,k,by unfold M.dQ;simp only [h,h1,h2,h3,h4,h5,qa0],nl,nv,m2,m5⟩
theorem Jb{l:List Item}{s kind:Int}{v:List Int}{k:Int}:(mL l s kind v k).length<=16:=by
 by_cases hs:1<=s/\s<=8
 ·rw [vf hs];exact rJ
 ·unfold mL;rw [if_neg λh=>hs h.2.1];simp
end Go.Vs
namespace Go.Vs
end Go.Vs
namespace Go.Vs
end Go.Vs
namespace Go.Vs
end Go.Vs
namespace Go.Vs
end Go.Vs
namespace Go.Vs
end Go.Vs
namespace Go.Vs
theorem Jc{β:Type}{f:Nat->Option β}{g:Nat->β}: ∀{n:Nat},(∀i,i<n->f i=some (g i))->B5 f n=some ((List.range n).map g)
 | 0,_=>rfl
 | n+1,h=>by
  rw [B5,Jc (λi hi=>h i (by omega)),qa0,h n (by omega),qa0,List.range_succ,qc3]
  rfl
theorem BE{l:List Item}{s kind:Int}{v:List Int}{k:Int}(sl:fY l)(hv:v.length<2000000):M.gn l s kind v k=some (mL l s kind v k):=by
  unfold M.gn mL;simp only [zG,qa0];by_cases hs:1<=s/\s<=8
  rotate_left
  ·rw [if_neg λh=>hs h.2.1];simp [decide_eq_false hs]
  simp only [decide_eq_true hs,qah,cond_false,nE sl hv,qa0];by_cases hq:eF l kind v=true/\1<=k/\k<=16
  rotate_left
  ·rw [if_neg λh=>hq ⟨h.1,h.2.2⟩];simp [decide_eq_false hq]
  obtain ⟨hq,hk⟩:=hq;obtain ⟨n,rfl⟩:=qax (show 0<=k by omega);obtain ⟨m,rfl⟩:=qax (show 0<=s by omega);obtain ⟨ho,oi,hvv⟩:=gU.1 hq;rw [if_pos ⟨hq,hs,hk⟩];simp only [decide_eq_true (show eF l kind v=true/\1<=(n:Int)/\(n:Int)<=16 from ⟨hq,hk⟩),qah,cond_false,qaz]
  let g:Nat->List cK:=λi=>cS n (cn (An l (m:Int) (i:Int)) kind v)
  have aes: ∀i:Nat,cV (An l (m:Int) (i:Int))=true:=λi=>wY ho yc;have hf:M.fj l (m:Int) kind v (n:Int)=some ((List.range m).map g++List.replicate (8 - m) []):=by
   unfold M.fj;rw [Jc (g:=g) (λi hi=> ?_)]
   ·simp
   ·have q1:eF (An l (m:Int) (i:Int)) kind v=true:=gU.2 ⟨aes i,oi,hvv⟩;rw [Ja sl,qa0,Wl ho hs,rI (sV (aes i)) hv,I3 q1 hk.1 hk.2];simp [g]
  rw [hf,qa0];have TY: ∀i:Nat,i<8->bF ((List.range m).map g++List.replicate (8 - m) []) (i:Int)=some (g i):=by
   intro i hi;rw [cr (by simp;omega)];congr 1;by_cases him:i<m
   ·rw [qb3 (by simpa using him)];simp
   ·rw [qbe (by simp;omega)];have:An l (m:Int) (i:Int)=[]:=by
     unfold An;rw [List.filter_eq_nil_iff];intro x _;have:=(pn (k:=x.1) (s:=(m:Int)) hs.1).2;simp;omega
    simp [g,this,cn,cS,fW]
  have hb0:([]:List cK)=cS n (cn (il l (m:Int) ((0:Nat):Int)) kind v):=by
   rw [Int.natCast_zero,xb hs.1];simp [cn,cS,fW]
  have gS:il l (m:Int) ((8:Nat):Int)=l:=by
   unfold il;rw [List.filter_eq_self];intro x _;have:=(pn (k:=x.1) (s:=(m:Int)) hs.1).2;simp;omega
  have hlen: ∀x:List Item,(cS n (cn x kind v)).length<=16:=λx=>by rw [jm];omega
  have bP:=IJ (R:=List cK) (r:=cS n (cn l kind v)) (f:=fun (xQ:(List (Int×Int))×(Int))=>(bif decide (xQ.2<8) then
  (bF ((List.range m).map g++List.replicate (8 - m) []) xQ.2).bind λUJ=>
  (M.gO xQ.1 UJ (n:Int)).bind λxm=>
  some (.inl (xm,av (xQ.2+1)))
 else
  some (.inr xQ.1))) 8 (λi=>(cS n (cn (il l (m:Int) (i:Int)) kind v),(i:Int))) ?_ ?_
  ·have hz:(([]:List cK),(0:Int))=(cS n (cn (il l (m:Int) ((0:Nat):Int)) kind v),((0:Nat):Int)):=by rw [←hb0];rfl
   rw [hz,bP,qa0,zD hq (by omega) (by omega) (by omega)]
  ·intro i hi;have d1:decide ((i:Int)<8)=true:=decide_eq_true (by omega);have e6:av ((i:Int)+1)=((i+1:Nat):Int):=bj (by omega) (by omega);have h1:=hlen (il l (m:Int) (i:Int));have h2:=hlen (An l (m:Int) (i:Int));have en:=zC (s:=(m:Int)) (n:=(i:Int)) (k:=n) hq (by omega) (by omega);simp only [d1,cond_true,TY i hi,qa0,g,F8 (show (cS n (cn (il l (m:Int) (i:Int)) kind v)).length<=2000000 by omega) (show (cS n (cn (An l (m:Int) (i:Int)) kind v)).length<=2000000 by omega),en,e6]
   rfl
  ·have d1:decide (((8:Nat):Int)<8)=false:=by decide
   simp only [d1,cond_false,gS]
theorem wD(code:List UInt8):M.gG code=some true:=by
 unfold M.gG;by_cases hc:1048576<(code.length:Int)
 ·simp [hc]
 obtain ⟨l,s,kind,v,k,h,nl,nv,hs,hk⟩:=zH code;have sl:=nl.small;have la:v.length<2000000:=by have:=nv.1;omega
 have hlen:=Jb (l:=l) (s:=s) (kind:=kind) (v:=v) (k:=k);simp only [hc,decide_false,cond_false,h,qa0,BD sl la,BE sl la,u5 (show (mL l s kind v k).length<2000000 by omega),decide_true,qah];by_cases h1:s<1
 ·simp [h1]
 by_cases h8:8<s
 ·simp [h1,h8]
 have e:=vf (l:=l) (s:=s) (kind:=kind) (v:=v) (k:=k) ⟨by omega,by omega⟩;have de:=rJ (l:=l) (kind:=kind) (at_:=v) (k:=k);simp only [h1,h8,decide_false,cond_false,qa0,rI sl la,e,u5 (show (lV l kind v k).length<2000000 by omega),decide_true]
end Go.Vs

/- Plain facts of what the functions compute. -/
import Derived.Test.YtbpbncjammigdaaGreatAl
import Derived.Test.YtbpbncjammigdaaGreatEng1
import Derived.Test.YtbpbncjammigdaaGreatLib1
set_option linter.unusedVariables false
set_option linter.unusedSimpArgs false
namespace Go.Vs
theorem HM{S R:Type}{f:S->Option (S⊕R)}{r:R}(k:Nat)(st:Nat->S)(hs: ∀i,i<k->f (st i)=some (.inl (st (i+1))))(he:f (st k)=some (.inr r)):cr f (st 0)=some r:=by
 induction k generalizing st with
 | zero=>rw [bm,he];rfl
 | succ k ih=>
  rw [bm,hs 0 (by omega)];exact ih (λi=>st (i+1)) (λi hi=>hs (i+1) (by omega)) he
theorem LX{n:Nat}(h:n<9223372036854775808):an (n:Int)=n:=aT (by omega) (by omega)
theorem ck{α:Type}{xs:List α}{i:Nat}(h:i<xs.length):bz xs (i:Int)=some xs[i]:=by
 unfold bz;rw [if_pos (by omega)];simp [h]
theorem rI{α:Type}{xs:List α}{a:Int}(h0:0<=a)(h:a<xs.length): ∃e,bz xs a=some e/\e∈xs:=by
 obtain ⟨n,rfl⟩:=qax h0;have hn:n<xs.length:=by omega
 exact ⟨xs[n],ck hn,qai _⟩
theorem iW{α:Type}{xs ys:List α}(h:xs.length+ys.length<=2147483648):oO xs ys=some (xs++ys):=by unfold oO;rw [if_pos h]
theorem Fv{a b:Int}(h:b≠0):EO a b=some (a.tmod b):=by unfold EO;rw [if_neg h]
theorem Va{a b:Int}(h:b≠0):M7 a b=some (an (a.tdiv b)):=by unfold M7;rw [if_neg h]
theorem mh{α:Type}{xs:List α}{l h:Int}(h0:0<=l)(h1:l<=h)(h2:h<=xs.length):gV xs l h=some ((xs.take h.toNat).drop l.toNat):=by
 unfold gV;rw [if_pos ⟨h0,h1,h2⟩]
theorem Re{α:Type}{k:Int}{z:α}(h0:0<=k)(h1:k<=2147483648):zr k z=some (List.replicate k.toNat z):=by unfold zr;rw [if_pos ⟨h0,h1⟩]
theorem LY{α:Type}{k:Nat}{xs:List α}(h:k<=xs.length):Na k xs=some (xs.take k):=by unfold Na;rw [if_pos h]
theorem sH{a b:Int}(ha:0<=a)(hb:0<b):0<=a.tmod b/\a.tmod b<b:=by
 rw [Int.tmod_eq_emod_of_nonneg ha];exact ⟨Int.emod_nonneg _ (by omega),Int.emod_lt_of_pos _ hb⟩
theorem BH{a b:Int}(ha:0<=a)(hb:0<b):0<=a.tdiv b/\a.tdiv b<=a:=by
 rw [Int.tdiv_eq_ediv_of_nonneg ha];exact ⟨Int.ediv_nonneg ha (by omega),Int.ediv_le_self _ ha⟩
theorem Kj{a b:Int}(ha:0<=a)(ha':a<4611686018427387904)(hb:0<=b)(fT:b<4611686018427387904):0<=EF a b/\EF a b<4611686018427387904:=by
 obtain ⟨m,rfl⟩:=qax ha;obtain ⟨n,rfl⟩:=qax hb;have h1:(BitVec.ofInt 64 (m:Int) ^^^ BitVec.ofInt 64 (n:Int)).toNat=m ^^^ n:=by
  rw [BitVec.toNat_xor];have e: ∀k:Nat,k<4611686018427387904->(BitVec.ofInt 64 (k:Int)).toNat=k:=by
   intro k hk;simp only [BitVec.toNat_ofInt];omega
  rw [e m (by omega),e n (by omega)]
 have h2:m ^^^ n<2^62:=Nat.xor_lt_two_pow (by omega) (by omega);have h3:(2:Nat)^62=4611686018427387904:=by decide
 unfold EF;rw [h1];have:an ((m ^^^ n:Nat):Int)=(m ^^^ n:Nat):=LX (by omega);show 0<=an _/\an _<_;rw [this];omega
theorem rJ{α R:Type}{xs:List α}{P:α->Bool}{r:R}{f:Int->Option (Int⊕(Unit⊕R))}(hs: ∀i (h:i<xs.length),f (i:Int)=some (if P xs[i] then .inl ((i:Int)+1) else .inr (.inr r)))(he:f (xs.length:Int)=some (.inr (.inl ()))):
  cr f 0=some (if xs.all P then .inl () else .inr r):=by
 have key: ∀m k:Nat,k+m=xs.length->cr f (k:Int)=some (if (xs.drop k).all P then .inl () else .inr r):=by
  intro m
  induction m with
  | zero=>
   intro k hk;have:k=xs.length:=by omega
   subst this;rw [bm,he];simp [bk]
  | succ m ih=>
   intro k hk;have bG:k<xs.length:=by omega
   rw [bm,hs k bG,qb9 bG];by_cases hp:P xs[k]=true
   ·rw [if_pos hp];have:=ih (k+1) (by omega);simp only [Int.natCast_add,Int.cast_ofNat_Int] at this;simp only [List.all_cons,hp,qbl,bk,this,qa0]
   ·rw [if_neg hp];simp only [List.all_cons,qbd] at hp ⊢;simp only [hp,Bool.false_and,bk,qa0];rfl
 have:=key xs.length 0 (by omega);simpa using this
end Go.Vs
namespace Go.Vs
def Good(k:Nat)(r:List UInt8×Int):Prop:=r.1.length<=2000/\0<=r.2/\r.2<=k
theorem Good.mono{k m:Nat}{r:List UInt8×Int}(h:Good k r)(hm:k<=m):Good m r:=⟨h.1,h.2.1,by have:=h.2.2;omega⟩
theorem mY{k:Nat}(hk:k<=1000000){r:List UInt8×Int}(hr:Good k r)(n:Int):
  ∃x r',M.bR r n=some (x,r')/\Good (k+1) r'/\0<=x/\(1<=n->x<n)/\(n<1->x=0):=by
 obtain ⟨b,p⟩:=r;obtain ⟨h1,h2,h3⟩:=hr;simp only at h1 h2 h3;have e1:an (p+1)=p+1:=aT (by omega) (by omega);have e2:an (p+1 - 1)=p:=by rw [aT (by omega) (by omega)];omega
 have LZ:Good (k+1) (b,p+1):=⟨h1,by simp only;omega,by simp only;omega⟩;unfold M.bR;simp only [e1,e2];by_cases hn:n<1
 ·refine ⟨0,(b,p+1), ?_,LZ,by omega,λh=>by omega,λ_=>rfl⟩;simp [hn]
 ·by_cases hb:b.length=0
  ·refine ⟨0,(b,p+1), ?_,LZ,by omega,λh=>by omega,λ_=>rfl⟩;simp [hn,hb]
  ·have hbl:(b.length:Int)≠0:=by omega
   have hbb:((b.length:Int)==0)=false:=by simpa using hb
   simp only [hn,decide_false,cond_false,hbb,qa0];by_cases hp:p<(b.length:Int)
   ·obtain ⟨e,he,_⟩:=rI (xs:=b) h2 hp;have hE:an (e.toNat:Int)=e.toNat:=LX (by have:=e.toNat_lt;omega);have hr:=sH (a:=(e.toNat:Int)) (b:=n) (by omega) (by omega);refine ⟨_,(b,p+1), ?_,LZ,hr.1,λ_=>hr.2,λh=>h.elim⟩;simp only [hp,decide_true,cond_true,he,qa0,hE,Fv (show n≠0 by omega)]
   ·simp only [hp,decide_false,cond_false];have hbp:0<(b.length:Int):=by omega
    have r1:=sH (a:=p) h2 hbp;have e7:an (an (p*7)+3)=p*7+3:=by rw [aT (n:=p*7) (by omega) (by omega),aT (by omega) (by omega)]
    have r2:=sH (a:=p*7+3) (b:=(b.length:Int)) (by omega) hbp;obtain ⟨x,hx,_⟩:=rI (xs:=b) r1.1 r1.2;obtain ⟨y,hy,_⟩:=rI (xs:=b) r2.1 r2.2;have hX:(x.toNat:Int)<256:=by have:=x.toNat_lt;omega
    have hY:(y.toNat:Int)<256:=by have:=y.toNat_lt;omega
    have r3:=BH (a:=p) (b:=(b.length:Int)) h2 hbp;simp only [Fv hbl,qa0,hx,e7,hy,Va hbl];generalize hq:an (p.tdiv (b.length:Int))=q;have TU:0<=q/\q<=1000000:=by rw [←hq,aT (by omega) (by omega)];omega
    have eX:an (x.toNat:Int)=x.toNat:=aT (by omega) (by omega);have eY:an (y.toNat:Int)=y.toNat:=aT (by omega) (by omega);simp only [eX,eY];have eX':an ((x.toNat:Int)*131)=x.toNat*131:=aT (by omega) (by omega);have eY':an ((y.toNat:Int)*1117)=y.toNat*1117:=aT (by omega) (by omega);have eP:an (p*29)=p*29:=aT (by omega) (by omega);have eQ:an (q*53)=q*53:=aT (by omega) (by omega);simp only [eX',eY',eP,eQ];have eA:an ((x.toNat:Int)*131+y.toNat*1117)=x.toNat*131+y.toNat*1117:=aT (by omega) (by omega);simp only [eA];have eB:an ((x.toNat:Int)*131+y.toNat*1117+p*29)=x.toNat*131+y.toNat*1117+p*29:=aT (by omega) (by omega);simp only [eB];have eC:an ((x.toNat:Int)*131+y.toNat*1117+p*29+q*53)=x.toNat*131+y.toNat*1117+p*29+q*53:=aT (by omega) (by omega);simp only [eC];generalize hZ:(x.toNat:Int)*131+y.toNat*1117+p*29+q*53=Z;have hZ':0<=Z/\Z<=1000000000:=by omega
    have r4:=BH (a:=Z) (b:=64) hZ'.1 (by omega);have eD:an (Z.tdiv 64)=Z.tdiv 64:=aT (by omega) (by omega);rw [eD];have r5:=Kj (a:=Z) (b:=Z.tdiv 64) (by omega) (by omega) (by omega) (by omega);have r6:=sH (a:=EF Z (Z.tdiv 64)) (b:=n) r5.1 (by omega);refine ⟨_,(b,p+1), ?_,LZ,r6.1,λ_=>r6.2,λh=>h.elim⟩;simp only [Fv (show n≠0 by omega),qa0]
theorem uv{k:Nat}(hk:k<=1000000){r:List UInt8×Int}(hr:Good k r){list:List Int}(hl:list≠[]):
  ∃x r',M.cP r list=some (x,r')/\Good (k+1) r'/\x∈list:=by
 obtain ⟨x,r',h1,h2,h3,h4,_⟩:=mY hk hr (list.length:Int);have hlen:1<=(list.length:Int):=by
  have:list.length≠0:=by simpa using hl
  omega
 obtain ⟨e,he,hm⟩:=rI h3 (h4 hlen);refine ⟨e,r', ?_,h2,hm⟩;unfold M.cP;simp only [h1,qa0,he]
theorem xB{k:Nat}(hk:k<=900000){r:List UInt8×Int}(hr:Good k r):
  ∃x r',M.kv r=some (x,r')/\Good (k+3) r'/\ -100<=x/\x<=100:=by
 obtain ⟨x1,r1,h1,g1,a1,b1,_⟩:=mY (by omega) hr 201;obtain ⟨x2,r2,h2,g2,a2,b2,_⟩:=mY (by omega) g1 21;have b1:=b1 (by omega);have b2:=b2 (by omega);have e1:an (x1 - 100)=x1 - 100:=aT (by omega) (by omega);have e2:an (x2 - 10)=x2 - 10:=aT (by omega) (by omega);obtain ⟨x3,r3,h3,g3,m3⟩:=uv (by omega) g2 (list:=[0,1, -1,5, -7,10,3,100, -100,x1 - 100,x2 - 10]) (by simp);refine ⟨x3,r3, ?_,g3, ?_⟩
 ·unfold M.kv;simp only [h1,qa0,h2,e1,e2,h3]
 ·simp only [qa9,qao,or_false] at m3;omega
def fe(v:List Int):Bool:=decide (v.length=4)&&v.all λx=>decide (-100<=x)&&decide (x<=100)
theorem mi{v:List Int}:fe v=true↔v.length=4/\ ∀x∈v, -100<=x/\x<=100:=by
 unfold fe;simp
theorem Kk{v:List Int}(h:fe v=true): ∃a b c d,v=[a,b,c,d]/\(-100<=a/\a<=100)/\(-100<=b/\b<=100)/\(-100<=c/\c<=100)/\(-100<=d/\d<=100):=by
 obtain ⟨h1,h2⟩:=mi.1 h
 match v,h1 with
 | [a,b,c,d],_=>exact ⟨a,b,c,d,rfl,h2 a (by simp),h2 b (by simp),h2 c (by simp),h2 d (by simp)⟩
theorem DV{k:Nat}(hk:k<=800000){r:List UInt8×Int}(hr:Good k r):
  ∃v r',M.gu r=some (v,r')/\Good (k+12) r'/\fe v=true:=by
 obtain ⟨x1,r1,h1,g1,a1,b1⟩:=xB (by omega) hr;obtain ⟨x2,r2,h2,g2,a2,b2⟩:=xB (by omega) g1;obtain ⟨x3,r3,h3,g3,a3,b3⟩:=xB (by omega) g2;obtain ⟨x4,r4,h4,g4,a4,b4⟩:=xB (by omega) g3;refine ⟨[x1,x2,x3,x4],r4, ?_,g4,mi.2 ⟨rfl,by simp only [qa9,qao,or_false];rintro x (rfl | rfl | rfl | rfl) <;> omega⟩⟩;have e: ∀n:Nat,n<10->an ((n:Int)+1)=(n:Int)+1:=λn hn=>aT (by omega) (by omega);have e0:an ((0:Int)+1)=1:=e 0 (by omega);have e1:an ((1:Int)+1)=2:=e 1 (by omega);have e2:an ((2:Int)+1)=3:=e 2 (by omega);have e3:an ((3:Int)+1)=4:=e 3 (by omega);have ga: ∀(xs:List Int) (x:Int),xs.length<10->oO xs [x]=some (xs++[x]):=λxs x hx=>iW (by simp;omega);unfold M.gu;rw [bm];simp only [show decide ((0:Int)<4)=true from rfl,cond_true,h1,qa0,ga [] x1 (by simp),bk,e0,qb7];rw [bm];simp only [show decide ((1:Int)<4)=true from rfl,cond_true,h2,qa0,ga [x1] x2 (by simp),bk,e1,qbp,qb7];rw [bm];simp only [show decide ((2:Int)<4)=true from rfl,cond_true,h3,qa0,ga [x1,x2] x3 (by simp),bk,e2,qbp,qb7];rw [bm];simp only [show decide ((3:Int)<4)=true from rfl,cond_true,h4,qa0,ga [x1,x2,x3] x4 (by simp),bk,e3,qbp,qb7];rw [bm];simp only [show decide ((4:Int)<4)=false from rfl,cond_false,qa0,bk]
end Go.Vs
namespace Go.Vs
def Rf(v:List Int):Prop:=v.length<=5/\ ∀x∈v, -101<=x/\x<=101
theorem xC{v:List Int}(h:fe v=true):Rf v:=by
 obtain ⟨h1,h2⟩:=mi.1 h;exact ⟨by omega,λx hx=>by have:=h2 x hx;omega⟩
theorem L0{v:List Int}(h:v.length<=1000000):M.jP v=some v:=by
 unfold M.jP;rw [iW (by simp;omega)];rfl
theorem Rg{k:Nat}(hk:k<=700000){r:List UInt8×Int}(hr:Good k r){v:List Int}(hv:fe v=true):
  ∃u r',M.iC r v 101=some (u,r')/\Good (k+3) r'/\Rf u:=by
 obtain ⟨hl,hb⟩:=mi.1 hv;obtain ⟨x1,r1,h1,g1,a1,b1,_⟩:=mY (by omega) hr 20;unfold M.iC;simp only [L0 (v:=v) (by omega),qa0,h1];by_cases c0:x1=0
 ·refine ⟨v++[101],r1, ?_,g1.mono (by omega), ?_⟩
  ·simp [c0,iW (xs:=v) (ys:=[101]) (by simp;omega)]
  ·refine ⟨by simp;omega,λx hx=> ?_⟩;rcases qag.1 hx with h | h
   ·have:=hb x h;omega
   ·simp at h;omega
 ·have e0:(x1==0)=false:=by simpa using c0
  simp only [e0,cond_false];have Cz:decide (0<(v.length:Int))=true:=by simp;omega
  have Qd:0<v.length:=by omega
  by_cases c1:x1=1
  ·refine ⟨v.drop 1,r1, ?_,g1.mono (by omega),by simp;omega,λx hx=> ?_⟩
   ·have:gV v 1 (v.length:Int)=some (v.drop 1):=by
     rw [mh (by omega) (by omega) (by omega)];simp
    simp [c1,Qd,this]
   ·have:=hb x (List.mem_of_mem_drop hx);omega
  ·have e1:(x1==1)=false:=by simpa using c1
   simp only [e1,cond_false];by_cases c2:x1=2
   ·obtain ⟨i,r2,h2,g2,a2,b2,_⟩:=mY (by omega) g1 (v.length:Int);obtain ⟨y,r3,h3,g3,m3⟩:=uv (by omega) g2 (list:=[-1,101,0,1]) (by simp);have b2:=b2 (by omega);obtain ⟨z,hz,_⟩:=rI (xs:=v) a2 b2;refine ⟨v.set i.toNat y,r3, ?_,g3,by simp;omega,λx hx=> ?_⟩
    ·simp [c2,Qd,h2,h3,hz]
    ·rcases List.mem_or_eq_of_mem_set hx with h | h
     ·have:=hb x h;omega
     ·subst h;simp only [qa9,qao,or_false] at m3;omega
   ·have e2:(x1==2)=false:=by simpa using c2
    exact ⟨v,r1,by simp [e2],g1.mono (by omega),xC hv⟩
theorem Kl{k:Nat}(hk:k<=600000){r:List UInt8×Int}(hr:Good k r):
  ∃v r',M.gW r=some (v,r')/\Good (k+16) r'/\Rf v:=by
 obtain ⟨x1,r1,h1,g1,a1,b1,_⟩:=mY (by omega) hr 10;obtain ⟨v,r2,h2,g2,hv⟩:=DV (by omega) g1;unfold M.gW;simp only [h1,qa0];by_cases c0:x1=0
 ·obtain ⟨u,r3,h3,g3,hu⟩:=Rg (by omega) g2 hv;exact ⟨u,r3,by simp [c0,h2,h3],g3,hu⟩
 ·have e0:(x1==0)=false:=by simpa using c0
  exact ⟨v,r2,by simp [e0,h2],g2.mono (by omega),xC hv⟩
theorem Fy(code:List UInt8): ∃r,M.kz code=some r/\Good 0 r:=by
 unfold M.kz;by_cases h:2000<(code.length:Int)
 ·refine ⟨(code.take 2000,0), ?_,by simp;omega,by simp,by simp⟩;have:gV code 0 2000=some (code.take 2000):=by
   rw [mh (by omega) (by omega) (by omega)];simp
  simp [h,this]
 ·exact ⟨(code,0),by simp [h],by simp only;omega,by simp,by simp⟩
theorem CS(v:List Int)(hb:v.length<2000000):M.iZ v=some (v.all λx=>decide (-100<=x)&&decide (x<=100)):=by
 unfold M.iZ;rw [rJ (xs:=v) (P:=λx=>decide (-100<=x)&&decide (x<=100)) (r:=false)]
 ·by_cases ha:(v.all λx=>decide (-100<=x)&&decide (x<=100))=true
  ·simp only [ha,if_true,qa0,bk]
  ·simp only [qbd] at ha;simp only [ha];simp [bk]
 ·intro i h;have e1:decide ((i:Int)<(v.length:Int))=true:=by simpa using h
  have e2:an ((i:Int)+1)=(i:Int)+1:=aT (by omega) (by omega);simp only [e1,cond_true,ck h,qa0,e2];by_cases c1:v[i]< -100
  ·have c2: ¬(-100<=v[i]):=by omega
   simp [c1,c2]
  ·by_cases c3:100<v[i]
   ·have c4: ¬(v[i]<=100):=by omega
    simp [c1,c3,c4]
   ·simp [c1,c3,show -100<=v[i] by omega,show v[i]<=100 by omega]
 ·simp
theorem sI(v:List Int)(hb:v.length<2000000):M.eT v=some (fe v):=by
 unfold M.eT;simp only [CS v hb,qa0];unfold fe;by_cases hl:v.length=4
 ·have e:((v.length:Int)==4)=true:=by simp;omega
  rw [e,cond_true,decide_eq_true hl,qbl]
 ·have e:((v.length:Int)==4)=false:=by simp;omega
  rw [e,cond_false,decide_eq_false hl,Bool.false_and]
theorem BI(n l h:Int):M.dt n l h=some (decide (l<=n)&&decide (n<=h)):=by
 unfold M.dt;by_cases h1:l<=n <;> simp [h1]
theorem Rh(v:List Int)(l h:Int)(hb:v.length<2000000):M.pE v l h=some (v.all λx=>decide (l<=x)&&decide (x<=h)):=by
 unfold M.pE;rw [rJ (xs:=v) (P:=λx=>decide (l<=x)&&decide (x<=h)) (r:=false)]
 ·by_cases ha:(v.all λx=>decide (l<=x)&&decide (x<=h))=true
  ·simp only [ha,if_true,qa0,bk]
  ·simp only [qbd] at ha;simp [ha,bk]
 ·intro i hi;have e1:decide ((i:Int)<(v.length:Int))=true:=by simpa using hi
  have e2:an ((i:Int)+1)=(i:Int)+1:=aT (by omega) (by omega);simp only [e1,cond_true,ck hi,qa0,e2,BI];cases (decide (l<=v[i])&&decide (v[i]<=h)) <;> rfl
 ·simp
theorem BJ(v:List Int)(hb:v.length<2000000):M.jQ v=some (fe v):=by
 unfold M.jQ;by_cases hl:v.length=4
 ·have e:((v.length:Int)==4)=true:=by simp;omega
  simp [e,Rh v _ _ hb,fe,hl]
 ·have e:((v.length:Int)==4)=false:=by simp;omega
  simp [e,fe,hl]
end Go.Vs
namespace Go.Vs
end Go.Vs
namespace Go.Vs
theorem xD{S R:Type}{f:S->Option (S⊕R)}{s0 s1 s2 s3 s4:S}{r:R}(h0:f s0=some (.inl s1))(h1:f s1=some (.inl s2))(h2:f s2=some (.inl s3))(h3:f s3=some (.inl s4))(h4:f s4=some (.inr r)):cr f s0=some r:=by
 rw [bm,h0,qa0,bk,bm,h1,qa0,bk,bm,h2,qa0,bk,bm,h3,qa0,bk,bm,h4];rfl
theorem Te{α:Type}{a:α}{l:List α}:bz (a::l) 0=some a:=ck (i:=0) (by simp)
theorem Vb{α:Type}{a b:α}{l:List α}:bz (a::b::l) 1=some b:=ck (i:=1) (by simp)
theorem Vd{α:Type}{a b c:α}{l:List α}:bz (a::b::c::l) 2=some c:=ck (i:=2) (by simp)
theorem Ve{α:Type}{a b c d:α}{l:List α}:bz (a::b::c::d::l) 3=some d:=ck (i:=3) (by simp)
theorem Vf:an ((0:Int)+1)=1:=aT (by omega) (by omega)
theorem i12:an ((1:Int)+1)=2:=aT (by omega) (by omega)
theorem i23:an ((2:Int)+1)=3:=aT (by omega) (by omega)
theorem i34:an ((3:Int)+1)=4:=aT (by omega) (by omega)
theorem Tf:decide ((0:Int)<4)=true:=rfl
theorem d14:decide ((1:Int)<4)=true:=rfl
theorem d24:decide ((2:Int)<4)=true:=rfl
theorem d34:decide ((3:Int)<4)=true:=rfl
theorem d44:decide ((4:Int)<4)=false:=rfl
theorem l4{α:Type}{a b c d:α}:(([a,b,c,d]:List α).length:Int)=4:=rfl
def qo(x y:Int):Int:=max (x - y) (y - x)
theorem gz(x y:Int):0<=qo x y:=by unfold qo;omega
def Co(x:Int):Prop:= -100<=x/\x<=100
theorem oy{x y:Int}(hx:Co x)(hy:Co y):qo x y<=200:=by unfold qo;unfold Co at hx hy;omega
theorem fy{g:Int}(h0:0<=g)(h:g<=200):0<=g*g/\g<=g*g/\g*g<=40000:=by
 refine ⟨Int.mul_nonneg h0 h0, ?_, ?_⟩
 ·by_cases h1:g=0
  ·subst h1;simp
  ·have:=Int.mul_le_mul_of_nonneg_right (show (1:Int)<=g by omega) h0;omega
 ·have:=Int.mul_le_mul h h h0 (by omega);omega
def dk(k g0 g1 g2 g3:Int):Int:=
 if k=1 then g0+g1+g2+g3 else if k=2 then max (max (max (max 0 g0) g1) g2) g3 else if k=3 then g0*g0+g1*g1+g2*g2+g3*g3 else if k=4 then min g0 1+min g1 1+min g2 1+min g3 1 else -1
theorem CU(k:Int){g0 g1 g2 g3:Int}(h0:0<=g0)(Gg:g0<=200)(h1:0<=g1)(O1:g1<=200)(h2:0<=g2)(II:g2<=200)(h3:0<=g3)(h3':g3<=200):
  M.jH k [g0,g1,g2,g3]=some (dk k g0 g1 g2 g3):=by
 unfold M.jH;have s0:=fy h0 Gg;have s1:=fy h1 O1;have s2:=fy h2 II;have s3:=fy h3 h3';by_cases k1:k=1
 ·subst k1;have e0:an (0+g0)=g0:=by rw [aT (by omega) (by omega)];omega
  have e1:an (g0+g1)=g0+g1:=aT (by omega) (by omega);have e2:an (g0+g1+g2)=g0+g1+g2:=aT (by omega) (by omega);have e3:an (g0+g1+g2+g3)=g0+g1+g2+g3:=aT (by omega) (by omega);rw [xD (s1:=(g0,1)) (s2:=(g0+g1,2)) (s3:=(g0+g1+g2,3)) (s4:=(g0+g1+g2+g3,4)) (r:= .inl (g0+g1+g2+g3))]
  ·rfl
  ·simp only [Tf,Te,Vf,e0,bk,cond_true,qa0];rfl
  ·simp only [d14,Vb,i12,e1,bk,cond_true,qa0];rfl
  ·simp only [d24,Vd,i23,e2,bk,cond_true,qa0];rfl
  ·simp only [d34,Ve,i34,e3,bk,cond_true,qa0];rfl
  ·simp [d44]
 by_cases k2:k=2
 ·subst k2;rw [xD (s1:=(max 0 g0,1)) (s2:=(max (max 0 g0) g1,2)) (s3:=(max (max (max 0 g0) g1) g2,3)) (s4:=(max (max (max (max 0 g0) g1) g2) g3,4)) (r:= .inl (max (max (max (max 0 g0) g1) g2) g3))]
  ·rfl
  ·simp only [Tf,Te,Vf,bk,cond_true,qa0];rfl
  ·simp only [d14,Vb,i12,bk,cond_true,qa0];rfl
  ·simp only [d24,Vd,i23,bk,cond_true,qa0];rfl
  ·simp only [d34,Ve,i34,bk,cond_true,qa0];rfl
  ·simp [d44]
 by_cases k3:k=3
 ·subst k3;have q0:an (g0*g0)=g0*g0:=aT (by omega) (by omega);have q1:an (g1*g1)=g1*g1:=aT (by omega) (by omega);have q2:an (g2*g2)=g2*g2:=aT (by omega) (by omega);have q3:an (g3*g3)=g3*g3:=aT (by omega) (by omega);have e0:an (0+g0*g0)=g0*g0:=by rw [aT (by omega) (by omega)];omega
  have e1:an (g0*g0+g1*g1)=g0*g0+g1*g1:=aT (by omega) (by omega);have e2:an (g0*g0+g1*g1+g2*g2)=g0*g0+g1*g1+g2*g2:=aT (by omega) (by omega);have e3:an (g0*g0+g1*g1+g2*g2+g3*g3)=g0*g0+g1*g1+g2*g2+g3*g3:=aT (by omega) (by omega);rw [xD (s1:=(g0*g0,1)) (s2:=(g0*g0+g1*g1,2)) (s3:=(g0*g0+g1*g1+g2*g2,3)) (s4:=(g0*g0+g1*g1+g2*g2+g3*g3,4)) (r:= .inl (g0*g0+g1*g1+g2*g2+g3*g3))]
  ·rfl
  ·simp only [Tf,Te,Vf,e0,q0,bk,cond_true,qa0];rfl
  ·simp only [d14,Vb,i12,e1,q1,bk,cond_true,qa0];rfl
  ·simp only [d24,Vd,i23,e2,q2,bk,cond_true,qa0];rfl
  ·simp only [d34,Ve,i34,e3,q3,bk,cond_true,qa0];rfl
  ·simp [d44]
 by_cases k4:k=4
 ·subst k4;have e0:an (0+min g0 1)=min g0 1:=by rw [aT (by omega) (by omega)];omega
  have e1:an (min g0 1+min g1 1)=min g0 1+min g1 1:=aT (by omega) (by omega);have e2:an (min g0 1+min g1 1+min g2 1)=min g0 1+min g1 1+min g2 1:=aT (by omega) (by omega);have e3:an (min g0 1+min g1 1+min g2 1+min g3 1)=min g0 1+min g1 1+min g2 1+min g3 1:=aT (by omega) (by omega);rw [xD (s1:=(min g0 1,1)) (s2:=(min g0 1+min g1 1,2)) (s3:=(min g0 1+min g1 1+min g2 1,3)) (s4:=(min g0 1+min g1 1+min g2 1+min g3 1,4)) (r:= .inl (min g0 1+min g1 1+min g2 1+min g3 1))]
  ·rfl
  ·simp only [Tf,Te,Vf,e0,bk,cond_true,qa0];rfl
  ·simp only [d14,Vb,i12,e1,bk,cond_true,qa0];rfl
  ·simp only [d24,Vd,i23,e2,bk,cond_true,qa0];rfl
  ·simp only [d34,Ve,i34,e3,bk,cond_true,qa0];rfl
  ·simp [d44]
 have b1:(k==1)=false:=by simpa using k1
 have b2:(k==2)=false:=by simpa using k2
 have b3:(k==3)=false:=by simpa using k3
 have b4:(k==4)=false:=by simpa using k4
 rw [bm];simp [Tf,Te,b1,b2,b3,b4,bk,dk,k1,k2,k3,k4]
theorem NQ{a b c d x y z w:Int}(ha:Co a)(hb:Co b)(hc:Co c)(hd:Co d)(hx:Co x)(hy:Co y)(hz:Co z)(hw:Co w):
  M.nS [a,b,c,d] [x,y,z,w]=some [qo a x,qo b y,qo c z,qo d w]:=by
 have e: ∀p q,Co p->Co q->max (an (p - q)) (an (q - p))=qo p q:=by
  intro p q hp hq;unfold Co at hp hq;rw [aT (n:=p - q) (by omega) (by omega),aT (n:=q - p) (by omega) (by omega)];rfl
 unfold M.nS;rw [xD (s1:=([qo a x,0,0,0],1)) (s2:=([qo a x,qo b y,0,0],2)) (s3:=([qo a x,qo b y,qo c z,0],3)) (s4:=([qo a x,qo b y,qo c z,qo d w],4)) (r:=[qo a x,qo b y,qo c z,qo d w])]
 ·rfl
 ·simp only [show List.replicate 4 (0:Int)=[0,0,0,0] from rfl,Tf,Te,Vf,cond_true,qa0,e a x ha hx];rfl
 ·simp only [d14,Vb,i12,cond_true,qa0,e b y hb hy];rfl
 ·simp only [d24,Vd,i23,cond_true,qa0,e c z hc hz];rfl
 ·simp only [d34,Ve,i34,cond_true,qa0,e d w hd hw];rfl
 ·simp only [d44,cond_false]
theorem HN{k:Int}(hk:1<=k/\k<=4){a b c d x y z w:Int}(ha:Co a)(hb:Co b)(hc:Co c)(hd:Co d)(hx:Co x)(hy:Co y)(hz:Co z)(hw:Co w):
  M.oY k [a,b,c,d] [x,y,z,w]=some (dk k (qo a x) (qo b y) (qo c z) (qo d w)):=by
 have e: ∀p q,Co p->Co q->M.rm (an (p - q))=some (qo p q):=by
  intro p q hp hq;unfold Co at hp hq;unfold M.rm;rw [aT (n:=p - q) (by omega) (by omega),aT (n:=0 - (p - q)) (by omega) (by omega)];unfold qo;congr 1;omega
 have t: ∀g:Int,0<=g->M.pF (decide (0<g))=some (min g 1):=by
  intro g hg;unfold M.pF;by_cases h:0<g
  ·simp [h];omega
  ·simp [h];omega
 have ea:=e a x ha hx;have eb:=e b y hb hy;have ec:=e c z hc hz;have ed:=e d w hd hw;have h0:=gz a x;have h1:=gz b y;have h2:=gz c z;have h3:=gz d w;have Gg:=oy ha hx;have O1:=oy hb hy;have II:=oy hc hz;have h3':=oy hd hw;generalize qo a x=g0 at*;generalize qo b y=g1 at*;generalize qo c z=g2 at*;generalize qo d w=g3 at*;have s0:=fy h0 Gg;have s1:=fy h1 O1;have s2:=fy h2 II;have s3:=fy h3 h3';unfold M.oY;by_cases k1:k=1
 ·subst k1;have e0:an (0+g0)=g0:=by rw [aT (by omega) (by omega)];omega
  have e1:an (g0+g1)=g0+g1:=aT (by omega) (by omega);have e2:an (g0+g1+g2)=g0+g1+g2:=aT (by omega) (by omega);have e3:an (g0+g1+g2+g3)=g0+g1+g2+g3:=aT (by omega) (by omega);rw [xD (s1:=(g0,1)) (s2:=(g0+g1,2)) (s3:=(g0+g1+g2,3)) (s4:=(g0+g1+g2+g3,4)) (r:=g0+g1+g2+g3)]
  ·rfl
  ·simp only [l4,Tf,Te,Vf,e0,ea,cond_true,qa0];rfl
  ·simp only [l4,d14,Vb,i12,e1,eb,cond_true,qa0];rfl
  ·simp only [l4,d24,Vd,i23,e2,ec,cond_true,qa0];rfl
  ·simp only [l4,d34,Ve,i34,e3,ed,cond_true,qa0];rfl
  ·simp [l4,d44]
 by_cases k2:k=2
 ·subst k2;rw [xD (s1:=(max 0 g0,1)) (s2:=(max (max 0 g0) g1,2)) (s3:=(max (max (max 0 g0) g1) g2,3)) (s4:=(max (max (max (max 0 g0) g1) g2) g3,4)) (r:=max (max (max (max 0 g0) g1) g2) g3)]
  ·rfl
  ·simp only [l4,Tf,Te,Vf,ea,cond_true,qa0];rfl
  ·simp only [l4,d14,Vb,i12,eb,cond_true,qa0];rfl
  ·simp only [l4,d24,Vd,i23,ec,cond_true,qa0];rfl
  ·simp only [l4,d34,Ve,i34,ed,cond_true,qa0];rfl
  ·simp [l4,d44]
 by_cases k3:k=3
 ·subst k3;have q0:an (g0*g0)=g0*g0:=aT (by omega) (by omega);have q1:an (g1*g1)=g1*g1:=aT (by omega) (by omega);have q2:an (g2*g2)=g2*g2:=aT (by omega) (by omega);have q3:an (g3*g3)=g3*g3:=aT (by omega) (by omega);have e0:an (0+g0*g0)=g0*g0:=by rw [aT (by omega) (by omega)];omega
  have e1:an (g0*g0+g1*g1)=g0*g0+g1*g1:=aT (by omega) (by omega);have e2:an (g0*g0+g1*g1+g2*g2)=g0*g0+g1*g1+g2*g2:=aT (by omega) (by omega);have e3:an (g0*g0+g1*g1+g2*g2+g3*g3)=g0*g0+g1*g1+g2*g2+g3*g3:=aT (by omega) (by omega);rw [xD (s1:=(g0*g0,1)) (s2:=(g0*g0+g1*g1,2)) (s3:=(g0*g0+g1*g1+g2*g2,3)) (s4:=(g0*g0+g1*g1+g2*g2+g3*g3,4)) (r:=g0*g0+g1*g1+g2*g2+g3*g3)]
  ·rfl
  ·simp only [l4,Tf,Te,Vf,e0,q0,ea,cond_true,qa0];rfl
  ·simp only [l4,d14,Vb,i12,e1,q1,eb,cond_true,qa0];rfl
  ·simp only [l4,d24,Vd,i23,e2,q2,ec,cond_true,qa0];rfl
  ·simp only [l4,d34,Ve,i34,e3,q3,ed,cond_true,qa0];rfl
  ·simp [l4,d44]
 ·have k4:k=4:=by omega
  subst k4;have e0:an (0+min g0 1)=min g0 1:=by rw [aT (by omega) (by omega)];omega
  have e1:an (min g0 1+min g1 1)=min g0 1+min g1 1:=aT (by omega) (by omega);have e2:an (min g0 1+min g1 1+min g2 1)=min g0 1+min g1 1+min g2 1:=aT (by omega) (by omega);have e3:an (min g0 1+min g1 1+min g2 1+min g3 1)=min g0 1+min g1 1+min g2 1+min g3 1:=aT (by omega) (by omega);rw [xD (s1:=(min g0 1,1)) (s2:=(min g0 1+min g1 1,2)) (s3:=(min g0 1+min g1 1+min g2 1,3)) (s4:=(min g0 1+min g1 1+min g2 1+min g3 1,4)) (r:=min g0 1+min g1 1+min g2 1+min g3 1)]
  ·rfl
  ·simp only [l4,Tf,Te,Vf,e0,ea,t g0 h0,cond_true,qa0];simp only [show ((4:Int)==1)=false from rfl,show ((4:Int)==2)=false from rfl,show ((4:Int)==3)=false from rfl,cond_false,qa0,t g0 h0,e0]
  ·simp only [l4,d14,Vb,i12,e1,eb,t g1 h1,cond_true,qa0];simp only [show ((4:Int)==1)=false from rfl,show ((4:Int)==2)=false from rfl,show ((4:Int)==3)=false from rfl,cond_false,qa0,t g1 h1,e1]
  ·simp only [l4,d24,Vd,i23,e2,ec,t g2 h2,cond_true,qa0];simp only [show ((4:Int)==1)=false from rfl,show ((4:Int)==2)=false from rfl,show ((4:Int)==3)=false from rfl,cond_false,qa0,t g2 h2,e2]
  ·simp only [l4,d34,Ve,i34,e3,ed,t g3 h3,cond_true,qa0];simp only [show ((4:Int)==1)=false from rfl,show ((4:Int)==2)=false from rfl,show ((4:Int)==3)=false from rfl,cond_false,qa0,t g3 h3,e3]
  ·simp [l4,d44]
end Go.Vs
namespace Go.Vs
def wm(k:Int)(a b:List Int):Int:=
 if fe a=true/\fe b=true then dk k (qo (a.getD 0 0) (b.getD 0 0)) (qo (a.getD 1 0) (b.getD 1 0)) (qo (a.getD 2 0) (b.getD 2 0)) (qo (a.getD 3 0) (b.getD 3 0)) else -1
theorem BK{k:Int}{a b c d x y z w:Int}(ha:fe [a,b,c,d]=true)(hb:fe [x,y,z,w]=true):wm k [a,b,c,d] [x,y,z,w]=dk k (qo a x) (qo b y) (qo c z) (qo d w):=by
 unfold wm;rw [if_pos ⟨ha,hb⟩];rfl
theorem pa{v:List Int}(h:fe v=true): ∃a b c d,v=[a,b,c,d]/\Co a/\Co b/\Co c/\Co d:=Kk h
theorem z8(k:Int){a b:List Int}(ha:a.length<2000000)(hb:b.length<2000000):M.jR k a b=some (wm k a b):=by
 unfold M.jR;simp only [sI a ha,qa0];by_cases va:fe a=true
 ·simp only [va,qah,cond_false,sI b hb,qa0];by_cases vb:fe b=true
  ·simp only [vb,qah,cond_false];obtain ⟨x0,x1,x2,x3,rfl,c0,c1,c2,c3⟩:=pa va;obtain ⟨y0,y1,y2,y3,rfl,e0,e1,e2,e3⟩:=pa vb;rw [BK va vb,LY (by simp),LY (by simp)];simp only [qa0,qcb,List.take_zero,NQ c0 c1 c2 c3 e0 e1 e2 e3];rw [CU k (gz _ _) (oy c0 e0) (gz _ _) (oy c1 e1) (gz _ _) (oy c2 e2) (gz _ _) (oy c3 e3)]
   rfl
  ·have vb':fe b=false:=by simpa using vb
   simp [vb',wm]
 ·have va':fe a=false:=by simpa using va
  simp [va',wm]
theorem Vg{k:Nat}(hk:k<=900000){r:List UInt8×Int}(hr:Good k r):
  ∃x r',M.mL r=some (x,r')/\Good (k+1) r':=by
 obtain ⟨x3,r3,h3,g3,m3⟩:=uv (by omega) hr (list:=[1,2,3,4,1,2,3,4,1,2,0,5]) (by simp);exact ⟨x3,r3,by unfold M.mL;simp only [h3,qa0],g3⟩
structure ZG(g0 g1 g2 g3:Int):Prop where
 n0:0<=g0
 n1:0<=g1
 n2:0<=g2
 n3:0<=g3
 m0:g0<=200
 m1:g1<=200
 m2:g2<=200
 m3:g3<=200
theorem Vh{a b c d x y z w:Int}(c0:Co a)(c1:Co b)(c2:Co c)(c3:Co d)(e0:Co x)(e1:Co y)(e2:Co z)(e3:Co w):ZG (qo a x) (qo b y) (qo c z) (qo d w):=
 ⟨gz _ _,gz _ _,gz _ _,gz _ _,oy c0 e0,oy c1 e1,oy c2 e2,oy c3 e3⟩
theorem Ri{k g0 g1 g2 g3:Int}(h:ZG g0 g1 g2 g3): -1<=dk k g0 g1 g2 g3/\dk k g0 g1 g2 g3<1000000:=by
 obtain ⟨n0,n1,n2,n3,m0,m1,m2,m3⟩:=h;have s0:=fy n0 m0;have s1:=fy n1 m1;have s2:=fy n2 m2;have s3:=fy n3 m3;unfold dk;split
 ·omega
 split
 ·omega
 split
 ·generalize g0*g0=q0 at*;generalize g1*g1=q1 at*;generalize g2*g2=q2 at*;generalize g3*g3=q3 at*;omega
 split <;> omega
end Go.Vs
namespace Go.Vs
end Go.Vs
namespace Go.Vs
end Go.Vs
namespace Go.Vs
end Go.Vs
namespace Go.Vs
end Go.Vs
namespace Go.Vs
end Go.Vs
namespace Go.Vs
end Go.Vs
namespace Go.Vs
abbrev Item:=Int×(List Int)×Int
def ig(x:Item):Bool:=(decide (1<=x.1)&&decide (x.1<=99))&&(fe x.2.1&&(decide (0<=x.2.2)&&decide (x.2.2<=15)))
def mb:Int->List Item->Bool
 | _,[]=>true
 | p,x::l=>(ig x&&decide (p<x.1))&&mb x.1 l
def cW(l:List Item):Bool:=decide (l.length<=16)&&mb 0 l
theorem HQ{x:Item}(h:x.2.1.length<2000000):M.ja (x.1,x.2.1,x.2.2)=some (ig x):=by
 unfold M.ja M.gR M.mN ig;simp only [sI x.2.1 h,qa0];by_cases h1:1<=x.1
 ·by_cases h2:x.1<=99
  ·by_cases h3:fe x.2.1=true
   ·by_cases h4:0<=x.2.2
    ·simp [h1,h2,h3,h4]
    ·simp [h1,h2,h3,h4]
   ·simp only [qbd] at h3;simp [h1,h2,h3]
  ·simp [h1,h2]
 ·simp [h1]
theorem zx{x:Item}(h:x.2.1.length<2000000):M.gY (x.1,x.2.1,x.2.2)=some (ig x):=by
 unfold M.gY ig;simp only [BI,BJ x.2.1 h,qa0];cases (decide (1<=x.1)&&decide (x.1<=99)) <;> cases fe x.2.1 <;> simp
theorem FA{l:List Item}(hb: ∀x∈l,x.2.1.length<2000000):M.gv l=some (cW l):=by
  unfold M.gv cW;by_cases hl:16<(l.length:Int)
  ·have: ¬l.length<=16:=by omega
   simp [hl,this]
  have qI:l.length<=16:=by omega
  simp only [hl,decide_false,cond_false,qI,decide_true,qbl];have key: ∀m k:Nat, ∀p:Int,k+m=l.length->cr (fun (s3:(Int)×(Int))=>(bif decide (s3.2<(l.length:Int)) then
  (bz l s3.2).bind λx8=>
  Option.bind ((M.ja (x8.1,x8.2.1,x8.2.2)).bind λJY=>
  (bif !JY then
  some true
 else
  some (decide (x8.1<=s3.1)))) λo29=>
  (bif o29 then
  some (.inr (.inr false))
 else
  some (.inl (x8.1,an (s3.2+1))))
 else
  some (.inr (.inl ())))) (p,(k:Int))=some (if mb p (l.drop k) then (.inl ():Unit⊕Bool) else .inr false):=by
   intro m
   induction m with
   | zero=>
    intro k p hk;have:k=l.length:=by omega
    subst this;rw [bm];simp [bk,mb]
   | succ m ih=>
    intro k p hk;have bG:k<l.length:=by omega
    rw [bm,qb9 bG];have e1:decide ((k:Int)<(l.length:Int))=true:=by simpa using bG
    have e2:an ((k:Int)+1)=((k+1:Nat):Int):=aT (by omega) (by omega);simp only [e1,cond_true,ck bG,qa0,HQ (hb _ (qai bG)),e2,mb];by_cases h1:ig l[k]=true
    ·by_cases h2:p<l[k].1
     ·have II: ¬l[k].1<=p:=by omega
      simp only [h1,h2,II,qah,cond_false,qa0,decide_false,decide_true,Bool.and_self,qbl,bk];exact ih (k+1) l[k].1 (by omega)
     ·have II:l[k].1<=p:=by omega
      simp [h1,h2,II,bk]
    ·simp only [qbd] at h1;simp [h1,bk]
  have:=key l.length 0 0 (by omega);simp only [Int.cast_ofNat_Int,List.drop_zero] at this;rw [this];cases mb 0 l <;> rfl
def nH(l:List Item):Nat->Int
 | 0=>0
 | k+1=>(l.getD k (0,[],0)).1
theorem xE{l:List Item}(hb: ∀x∈l,x.2.1.length<2000000)(hL:l.length<2000000):M.fC l=some (cW l):=by
  unfold M.fC cW;have key: ∀m k:Nat,k+m=l.length->cr (fun (s2:(Int))=>(bif decide (s2<(l.length:Int)) then
  Option.bind ((bz l s2).bind λx8=>
  (M.gY (x8.1,x8.2.1,x8.2.2)).bind λr19=>
  (bif !r19 then
  some true
 else
  (bif decide (0<s2) then
  (bz l s2).bind λvy=>
  (bz l (an (s2 - 1))).bind λwC=>
  some (decide (vy.1<=wC.1))
 else
  some false))) λo7=>
  (bif o7 then
  some (.inr (.inr false))
 else
  some (.inl (an (s2+1))))
 else
  some (.inr (.inl ())))) (k:Int)=some (if mb (nH l k) (l.drop k) then (.inl ():Unit⊕Bool) else .inr false):=by
   intro m
   induction m with
   | zero=>
    intro k hk;have:k=l.length:=by omega
    subst this;rw [bm];simp [bk,mb]
   | succ m ih=>
    intro k hk;have bG:k<l.length:=by omega
    rw [bm,qb9 bG];have e1:decide ((k:Int)<(l.length:Int))=true:=by simpa using bG
    have e2:an ((k:Int)+1)=((k+1:Nat):Int):=aT (by omega) (by omega);have AU:nH l (k+1)=l[k].1:=by simp [nH,List.getD,bG]
    have ih':=ih (k+1) (by omega);rw [AU] at ih';simp only [e1,cond_true,ck bG,qa0,zx (hb _ (qai bG)),e2,mb];by_cases h1:ig l[k]=true
    ·simp only [h1,qah,cond_false,qbl]
     match k,bG with
     | 0,bG=>
      have Cz:nH l 0<l[0].1:=by
       have:1<=l[0].1:=by
        unfold ig at h1;simp at h1;exact h1.1.1
       show 0<_;omega
      have e3:decide ((0:Int)<((0:Nat):Int))=false:=rfl;simp only [e3,cond_false,qa0,Cz,decide_true,qbl,bk];exact ih'
     | j+1,bG=>
      have e3:decide ((0:Int)<((j+1:Nat):Int))=true:=by simp
      have e4:an (((j+1:Nat):Int) - 1)=(j:Int):=by rw [aT (by omega) (by omega)];omega
      have hj:j<l.length:=by omega
      have hk:nH l (j+1)=l[j].1:=by simp [nH,List.getD,hj]
      simp only [e3,cond_true,e4,ck hj,qa0,hk];by_cases h2:l[j].1<l[j+1].1
      ·have II: ¬l[j+1].1<=l[j].1:=by omega
       simp only [h2,II,decide_false,decide_true,cond_false,qbl,bk,qa0];exact ih'
      ·have II:l[j+1].1<=l[j].1:=by omega
       simp [h2,II,bk]
    ·simp only [qbd] at h1;simp [h1,bk]
  have:=key l.length 0 (by omega);simp only [Int.cast_ofNat_Int,List.drop_zero] at this;rw [this];show _=some (decide (l.length<=16)&&mb 0 l);have e:nH l 0=0:=rfl;rw [e];by_cases ZH:l.length<=16
  ·have:decide ((l.length:Int)<=16)=true:=by simp;omega
   cases mb 0 l <;> simp [bk,this,ZH]
  ·have:decide ((l.length:Int)<=16)=false:=by simp;omega
   cases mb 0 l <;> simp [bk,this,ZH]
end Go.Vs
namespace Go.Vs
theorem NR{α:Type}{a:List α}{z:α}{g:α->Option α}(ha:a.length<=1048576)(hg: ∀x∈a,g x=some x){f:List α×Int->Option ((List α×Int)⊕List α)}
  (hs: ∀(s:List α) (i:Nat) (h:i<a.length) (h':i<s.length),g a[i]=some a[i]->f (s,(i:Int))=some (.inl (s.set i a[i],((i+1:Nat):Int)))) (he: ∀s,f (s,(a.length:Int))=some (.inr s)):
  cr f (List.replicate a.length z,0)=some a:=by
 have adx:=HM (R:=List α) (f:=f) (r:=a) a.length (λi=>(a.take i++List.replicate (a.length - i) z,(i:Int))) (by
  intro i hi;have hl:i<(a.take i++List.replicate (a.length - i) z).length:=by simp;omega
  rw [hs _ i hi hl (hg _ (qai hi))];have hr:List.replicate (a.length - i) z=z::List.replicate (a.length - (i+1)) z:=by
   rw [show a.length - i=(a.length - (i+1))+1 by omega,List.replicate_succ]
  rw [qb0 hi,hr,List.set_append_right _ _ (by simp;omega)];have:i - (a.take i).length=0:=by simp;omega
  rw [this];simp only [List.set_cons_zero,List.append_assoc,qbp,qb7]) (by
  rw [he];simp)
 simpa using adx
end Go.Vs
namespace Go.Vs
theorem gG{i:Nat}(h:i<4000000000000000000):an ((i:Int)+1)=((i+1:Nat):Int):=aT (by omega) (by omega)
section
variable{α S T R U:Type}{xs:List α}
theorem NS(st:S->Int->T)(g:S->α->S)(Inv:Nat->S->Prop){fin:S->R}{f:T->Option (T⊕R)}{s0:S}(h0:Inv 0 s0)
  (hs: ∀s i (h:i<xs.length),Inv i s->f (st s (i:Int))=some (.inl (st (g s xs[i]) ((i+1:Nat):Int)))/\Inv (i+1) (g s xs[i]))
  (he: ∀s,Inv xs.length s->f (st s (xs.length:Int))=some (.inr (fin s))):
  cr f (st s0 0)=some (fin (xs.foldl g s0))/\Inv xs.length (xs.foldl g s0):=by
 have key: ∀m k:Nat, ∀s,k+m=xs.length->Inv k s->cr f (st s (k:Int))=some (fin ((xs.drop k).foldl g s))/\Inv xs.length ((xs.drop k).foldl g s):=by
  intro m
  induction m with
  | zero=>
   intro k s hk hi;have:k=xs.length:=by omega
   subst this;rw [bm,he s hi];simpa [bk] using hi
  | succ m ih=>
   intro k s hk hi;have bG:k<xs.length:=by omega
   obtain ⟨h1,h2⟩:=hs s k bG hi;rw [bm,h1,qb9 bG];exact ih (k+1) _ (by omega) h2
 have:=key xs.length 0 s0 (by omega) h0;simpa using this
theorem mj(st:S->Int->T)(g:S->α->S)(Inv:Nat->S->Prop)(fin:S->R){f:T->Option (T⊕R)}{s0:S}{k:R->Option U}{r:Option U}(h0:Inv 0 s0)
  (hs: ∀s i (h:i<xs.length),Inv i s->f (st s (i:Int))=some (.inl (st (g s xs[i]) ((i+1:Nat):Int)))/\Inv (i+1) (g s xs[i]))
  (he: ∀s,Inv xs.length s->f (st s (xs.length:Int))=some (.inr (fin s)))
  (hk:Inv xs.length (xs.foldl g s0)->k (fin (xs.foldl g s0))=r):(cr f (st s0 0)).bind k=r:=by
 obtain ⟨h1,h2⟩:=NS st g Inv (fin:=fin) h0 hs he;rw [h1];exact hk h2
theorem BM(p:α->Bool)(r:Nat->R){f:Int->Option (Int⊕(Unit⊕R))}
  (hs: ∀i (h:i<xs.length),f (i:Int)=some (if p xs[i]=true then .inr (.inr (r i)) else .inl ((i+1:Nat):Int))) (he:f (xs.length:Int)=some (.inr (.inl ()))):
  cr f 0=some (match xs.findIdx? p with | some i=> .inr (r i) | none=> .inl ()):=by
 have key: ∀m k:Nat,k+m=xs.length->cr f (k:Int)=some (match (xs.drop k).findIdx? p with | some i=> .inr (r (k+i)) | none=> .inl ()):=by
  intro m
  induction m with
  | zero=>
   intro k hk;have:k=xs.length:=by omega
   subst this;rw [bm,he];simp [bk]
  | succ m ih=>
   intro k hk;have bG:k<xs.length:=by omega
   rw [bm,hs k bG,qb9 bG,List.findIdx?_cons];by_cases hp:p xs[k]=true
   ·simp [hp,bk]
   ·simp only [hp,if_false,bk,qa0,qa6];rw [ih (k+1) (by omega)];cases h:List.findIdx? p (List.drop (k+1) xs) with
    | none=>rfl
    | some i=>simp only [qac];rw [show k+1+i=k+(i+1) by omega]
 have:=key xs.length 0 (by omega);simpa using this
end
theorem foldl_filter{α:Type}(p:α->Bool)(l:List α): ∀s:List α,l.foldl (λs x=>if p x=true then s++[x] else s) s=s++l.filter p:=by
 induction l with
 | nil=>intro s;simp
 | cons x l ih=>
  intro s;rw [List.foldl_cons,ih,List.filter_cons];by_cases h:p x=true <;> simp [h]
theorem Km{l:List Item}: ∀{p:Int},mb p l=true↔(∀x∈l,ig x=true/\p<x.1)/\l.Pairwise (λx y=>x.1<y.1):=by
 induction l with
 | nil=>intro p;simp [mb]
 | cons x l ih=>
  intro p;simp only [mb,qa4,decide_eq_true_eq,ih,qc5,qa9,forall_eq_or_imp]
  constructor
  ·rintro ⟨⟨h1,h2⟩,h3,h4⟩;exact ⟨⟨⟨h1,h2⟩,λy hy=>⟨(h3 y hy).1,by have:=(h3 y hy).2;omega⟩⟩,λy hy=>(h3 y hy).2,h4⟩
  ·rintro ⟨⟨⟨h1,h2⟩,h3⟩,h4,h5⟩;exact ⟨⟨h1,h2⟩,λy hy=>⟨(h3 y hy).1,h4 y hy⟩,h5⟩
theorem kN{x:Item}:ig x=true↔(1<=x.1/\x.1<=99)/\fe x.2.1=true/\0<=x.2.2/\x.2.2<=15:=by
 unfold ig;simp only [qa4,decide_eq_true_eq]
theorem dT{l:List Item}:cW l=true↔l.length<=16/\(∀x∈l,ig x=true)/\l.Pairwise (λx y=>x.1<y.1):=by
 unfold cW;simp only [qa4,decide_eq_true_eq,Km]
 constructor
 ·rintro ⟨h1,h2,h3⟩;exact ⟨h1,λx hx=>(h2 x hx).1,h3⟩
 ·rintro ⟨h1,h2,h3⟩;exact ⟨h1,λx hx=>⟨h2 x hx,by have:=(kN.1 (h2 x hx)).1.1;omega⟩,h3⟩
theorem zy{l m:List Item}(h:cW l=true)(hs:m.Sublist l):cW m=true:=by
 obtain ⟨h1,h2,h3⟩:=dT.1 h;exact dT.2 ⟨qaa hs.length_le h1,λx hx=>h2 x (hs.subset hx),h3.sublist hs⟩
theorem pX{x:Item}(h:ig x=true):x.2.1.length=4:=(mi.1 (kN.1 h).2.1).1
def im(l:List Item):Prop:=l.length<=1048576/\ ∀x∈l,x.2.1.length<=1048576
theorem im.hb{l:List Item}(h:im l): ∀x∈l,x.2.1.length<2000000:=λx hx=>by have:=h.2 x hx;omega
theorem im.hL{l:List Item}(h:im l):l.length<2000000:=by have:=h.1;omega
theorem vC{l:List Item}(h:cW l=true):im l:=by
 obtain ⟨h1,h2,h3⟩:=dT.1 h;exact ⟨by omega,λx hx=>by have:=pX (h2 x hx);omega⟩
theorem im.impl{l:List Item}(h:im l):M.gv l=some (cW l):=FA h.hb
theorem im.Xo{l:List Item}(h:im l):M.fC l=some (cW l):=xE h.hb h.hL
def y8(l:List Item)(x:Item):List Item:=l.filter (λy=>decide (y.1<x.1))++x::l.filter (λy=>decide (x.1<y.1))
theorem nK{x:Item}(h:x.2.1.length<=1000000):M.gQ (x.1,x.2.1,x.2.2)=some x:=by
 unfold M.gQ;simp only [L0 h,qa0]
theorem Ko{l:List Item}{x:Item}(hl:l.length<=1000)(hx: ∀y∈l,y.2.1.length<=1000000)(hxx:x.2.1.length<=1000000):M.uj l (x.1,x.2.1,x.2.2)=some (y8 l x):=by
 unfold M.uj;simp only [];refine mj (xs:=l) (λs i=>(s,i)) (λs y=>if (decide (y.1<x.1))=true then s++[y] else s) (λi s=>s.length<=i) (λs=>s) (by simp) ?_ ?_ ?_
 ·intro s i h hs;have e1:decide ((i:Int)<(l.length:Int))=true:=by simpa using h
  simp only [e1,cond_true,ck h,qa0,gG (i:=i) (by omega)];by_cases hk:l[i].1<x.1
  ·simp only [hk,decide_true,cond_true,nK (hx _ (qai h)),qa0,if_true];rw [iW (by simp;omega)];exact ⟨by first | rfl | trivial,by simp;omega⟩
  ·simp only [hk,decide_false,cond_false,qa0,if_false,qa6];exact ⟨by first | rfl | trivial,by omega⟩
 ·intro s _;simp
 ·intro hs;rw [foldl_filter] at hs ⊢;simp only [qb7] at hs ⊢;simp only [nK hxx,qa0];rw [iW (by simp;omega)];simp only [qa0];refine mj (xs:=l) (λs i=>(s,i)) (λs y=>if (decide (x.1<y.1))=true then s++[y] else s) (λi s=>s.length<=1001+i) (λs=>s) (by simp;omega) ?_ ?_ ?_
  ·intro s i h hs;have e1:decide ((i:Int)<(l.length:Int))=true:=by simpa using h
   simp only [e1,cond_true,ck h,qa0,gG (i:=i) (by omega)];by_cases hk:x.1<l[i].1
   ·simp only [hk,decide_true,cond_true,nK (hx _ (qai h)),qa0,if_true];rw [iW (by simp;omega)];exact ⟨by first | rfl | trivial,by simp;omega⟩
   ·simp only [hk,decide_false,cond_false,qa0,if_false,qa6];exact ⟨by first | rfl | trivial,by omega⟩
  ·intro s _;simp
  ·intro _;rw [foldl_filter];simp [y8]
theorem Rj{l:List Item}{x:Item}(h:l.Pairwise (λx y=>x.1<y.1)):(y8 l x).length<=l.length+1:=by
 unfold y8;simp only [qat,qb5];have: ∀l:List Item,(l.filter (λy=>decide (y.1<x.1))).length+(l.filter (λy=>decide (x.1<y.1))).length<=l.length:=by
  intro l
  induction l with
  | nil=>simp
  | cons y l ih=>
   rw [List.filter_cons,List.filter_cons];by_cases h1:y.1<x.1
   ·have h2: ¬x.1<y.1:=by omega
    simp [h1,h2];omega
   ·by_cases h2:x.1<y.1
    ·simp [h1,h2];omega
    ·simp [h1,h2];omega
 have:=this l;omega
theorem L4{l:List Item}{x:Item}(h:cW l=true)(hx:ig x=true):(∀y∈y8 l x,ig y=true)/\(y8 l x).Pairwise (λx y=>x.1<y.1):=by
 obtain ⟨_,h2,h3⟩:=dT.1 h;unfold y8;refine ⟨?_, ?_⟩
 ·intro y hy;simp only [qag,qa9,qb8] at hy;rcases hy with hy | rfl | hy
  ·exact h2 y hy.1
  ·exact hx
  ·exact h2 y hy.1
 ·rw [List.pairwise_append,qc5];refine ⟨h3.sublist qba,⟨λy hy=> ?_,h3.sublist qba⟩,λy hy z hz=> ?_⟩
  ·simpa using (qb8.1 hy).2
  ·have h4:y.1<x.1:=by simpa using (qb8.1 hy).2
   rcases qa9.1 hz with rfl | hz
   ·exact h4
   ·have:x.1<z.1:=by simpa using (qb8.1 hz).2
    omega
theorem xF{l:List Item}{x:Item}(h:cW l=true)(hx:ig x=true):cW (y8 l x)=decide ((y8 l x).length<=16):=by
 obtain ⟨h1,h2⟩:=L4 h hx;rw [Bool.eq_iff_iff,dT,decide_eq_true_eq];exact ⟨λh=>h.1,λh=>⟨h,h1,h2⟩⟩
def uV(l:List Item)(x:Item):List Item×Bool:=if cW l=true/\ig x=true/\(y8 l x).length<=16 then (y8 l x,true) else ([],false)
theorem BN{l:List Item}{x:Item}(h:im l)(hx:x.2.1.length<=1000000):M.kW l (x.1,x.2.1,x.2.2)=some (uV l x):=by
 unfold M.kW uV;simp only [h.Xo,zx (x:=x) (by omega),qa0];cases h1:cW l with
 | false=>simp
 | true=>
  cases h2:ig x with
  | false=>simp
  | true=>
   obtain ⟨hl,hi,hp⟩:=dT.1 h1;simp only [qah,cond_false,qa0];rw [Ko (by omega) (λy hy=>by have:=pX (hi y hy);omega) hx];have hs:=L4 h1 h2;have hn:=Rj (x:=x) hp;simp only [qa0,xE (l:=y8 l x) (λy hy=>by have:=pX (hs.1 y hy);omega) (by omega),xF h1 h2];by_cases ZH:(y8 l x).length<=16 <;> simp [ZH]
theorem L6{k:Nat}(hk:k<=700000){r:List UInt8×Int}(hr:Good k r):
  ∃x r',M.iP (r.1,r.2)=some (x,(r'.1,r'.2))/\Good (k+14) r'/\ig x=true/\x.1<=30:=by
 obtain ⟨x1,r1,h1,g1,a1,b1,_⟩:=mY (by omega) hr 30;obtain ⟨v,r2,h2,g2,hv⟩:=DV (by omega) g1;obtain ⟨x3,r3,h3,g3,a3,b3,_⟩:=mY (by omega) g2 16;have b1:=b1 (by omega);have b3:=b3 (by omega);refine ⟨(1+x1,v,x3),r3, ?_,g3.mono (by omega),kN.2 ⟨⟨by simp only;omega,by simp only;omega⟩,hv,by simp only;omega,by simp only;omega⟩,by simp only;omega⟩;unfold M.iP;simp only [h1,h2,h3,qa0,aT (n:=1+x1) (by omega) (by omega)]
def Rm(x:Item):Prop:=(0<=x.1/\x.1<=100)/\Rf x.2.1/\ -1<=x.2.2/\x.2.2<=16
theorem HR{x:Item}(h:ig x=true):Rm x:=by
 obtain ⟨h1,h2,h3⟩:=kN.1 h;exact ⟨by omega,xC h2,by omega⟩
theorem Kq{k:Nat}(hk:k<=500000){r:List UInt8×Int}(hr:Good k r):
  ∃x r',M.mM (r.1,r.2)=some (x,(r'.1,r'.2))/\Good (k+40) r'/\Rm x:=by
 obtain ⟨x,r1,h1,g1,hx,_⟩:=L6 (by omega) hr;obtain ⟨c,r2,h2,g2,_,_,_⟩:=mY (by omega) g1 16;obtain ⟨GD,hv,ht⟩:=kN.1 hx;unfold M.mM;simp only [h1,h2,qa0];by_cases c0:c=0
 ·obtain ⟨y,r3,h3,g3,m3⟩:=uv (by omega) g2 (list:=[0,99,100]) (by simp);refine ⟨(y,x.2.1,x.2.2),r3,by simp [c0,h3],g3.mono (by omega),⟨?_,xC hv,by simp only;omega⟩⟩;simp only [qa9,qao,or_false] at m3;simp only;omega
 ·have e0:(c==0)=false:=by simpa using c0
  simp only [e0,cond_false];by_cases c1:c=1
  ·obtain ⟨v,r3,h3,g3,n3⟩:=Kl (by omega) g2;exact ⟨(x.1,v,x.2.2),r3,by simp [c1,h3],g3.mono (by omega),⟨by simp only;omega,n3,by simp only;omega⟩⟩
  ·have e1:(c==1)=false:=by simpa using c1
   simp only [e1,cond_false];by_cases c2:c=2
   ·obtain ⟨y,r3,h3,g3,m3⟩:=uv (by omega) g2 (list:=[-1,16]) (by simp);refine ⟨(x.1,x.2.1,y),r3,by simp [c2,h3],g3.mono (by omega),⟨by simp only;omega,xC hv, ?_⟩⟩;simp only [qa9,qao,or_false] at m3;simp only;omega
   ·have e2:(c==2)=false:=by simpa using c2
    exact ⟨x,r2,by simp [e2],g2.mono (by omega),HR hx⟩
theorem HS:cW []=true:=rfl
theorem Kr{n:Nat}: ∀{k:Nat} {r:List UInt8×Int} {l:List Item},k+14*n<=400000->n<=100->Good k r->cW l=true->
   ∃l' r',cr (fun (Bl:((List UInt8)×(Int))×(List (Int×(List Int)×Int))×(Int))=>(bif decide (0<Bl.2.2) then
  Option.bind ((M.iP (Bl.1.1,Bl.1.2)).bind λJ0=>
  (M.kW Bl.2.1 (J0.1.1,J0.1.2.1,J0.1.2.2)).bind λW5=>
  (bif W5.2 then
  some ((J0.2.1,J0.2.2),W5.1)
 else
  some ((J0.2.1,J0.2.2),Bl.2.1))) λUv=>
  some (.inl ((Uv.1.1,Uv.1.2),Uv.2,an (Bl.2.2 - 1)))
 else
  some (.inr ((Bl.1.1,Bl.1.2),Bl.2.1)))) (r,l,(n:Int))=some (r',l')/\Good (k+14*n) r'/\cW l'=true:=by
  induction n with
  | zero=>intro k r l _ _ hr hl;exact ⟨l,r,by rw [bm];simp [bk],hr.mono (by omega),hl⟩
  | succ n ih=>
   intro k r l hk hn hr hl;obtain ⟨x,r1,h1,g1,hx,_⟩:=L6 (by omega) hr;rw [bm];have e1:decide ((0:Int)<((n+1:Nat):Int))=true:=decide_eq_true (by omega);have e2:an (((n+1:Nat):Int) - 1)=(n:Int):=by rw [aT (by omega) (by omega)];omega
   simp only [e1,cond_true,h1,qa0,BN (x:=x) (vC hl) (by have:=pX hx;omega),e2];by_cases hp:(uV l x).2=true
   ·have tk:cW (uV l x).1=true:=by
     unfold uV at hp ⊢;split
     ·rename_i h;simp only;rw [xF hl hx];simpa using h.2.2
     ·rename_i h;rw [if_neg h] at hp;cases hp
    obtain ⟨l',r',h2,h3,h4⟩:=ih (k:=k+14) (r:=r1) (l:=(uV l x).1) (by omega) (by omega) g1 tk;refine ⟨l',r', ?_,h3.mono (by omega),h4⟩;simp only [hp,cond_true,qa0,bk];exact h2
   ·simp only [qbd] at hp;obtain ⟨l',r',h2,h3,h4⟩:=ih (k:=k+14) (r:=r1) (l:=l) (by omega) (by omega) g1 hl;refine ⟨l',r', ?_,h3.mono (by omega),h4⟩;simp only [hp,cond_false,qa0,bk];exact h2
theorem FB{k:Nat}(hk:k<=300000){r:List UInt8×Int}(hr:Good k r):
  ∃l r',M.kD (r.1,r.2)=some (l,(r'.1,r'.2))/\Good (k+281) r'/\cW l=true:=by
 obtain ⟨x,r1,h1,g1,m1⟩:=uv (by omega) hr (list:=[4,6,8,3,1,0,20,12]) (by simp);obtain ⟨n,rfl,hn⟩: ∃n:Nat,x=(n:Int)/\n<=20:=⟨x.toNat,by simp only [qa9,qao,or_false] at m1;omega,by simp only [qa9,qao,or_false] at m1;omega⟩;obtain ⟨l,r2,h2,g2,hl⟩:=Kr (n:=n) (k:=k+1) (r:=r1) (l:=[]) (by omega) (by omega) g1 HS;refine ⟨l,r2, ?_,g2.mono (by omega),hl⟩;unfold M.kD;simp only [h1,qa0];rw [show ((r1.1,r1.2),([]:List Item),(n:Int))=(r1,[],(n:Int)) from rfl,h2];rfl
def HT(l:List Item):Prop:=l.length<=17/\ ∀x∈l,Rm x
theorem HT.small{l:List Item}(h:HT l):im l:=⟨by have:=h.1;omega,λx hx=>by have:=(h.2 x hx).2.1.1;omega⟩
theorem Rn{l:List Item}(h:cW l=true):HT l:=by
 obtain ⟨h1,h2,_⟩:=dT.1 h;exact ⟨by omega,λx hx=>HR (h2 x hx)⟩
theorem HU{k:Nat}(hk:k<=200000){r:List UInt8×Int}(hr:Good k r):
  ∃l r',M.lF (r.1,r.2)=some (l,(r'.1,r'.2))/\Good (k+400) r'/\HT l:=by
 obtain ⟨l,r1,h1,g1,hl⟩:=FB (by omega) hr;obtain ⟨c,r2,h2,g2,_,_,_⟩:=mY (by omega) g1 20;have hN:=Rn hl;obtain ⟨hlen,hit,_⟩:=dT.1 hl;unfold M.lF;simp only [h1,h2,qa0];by_cases c0:c=0
 ·obtain ⟨x,r3,h3,g3,hx⟩:=Kq (by omega) g2;refine ⟨l++[x],r3, ?_,g3.mono (by omega),by simp;omega, ?_⟩
  ·simp only [c0,show ((0:Int)==0)=true from rfl,cond_true,h3,qa0];rw [iW (by simp;omega)];rfl
  ·intro y hy;rcases qag.1 hy with h | h
   ·exact hN.2 y h
   ·simp only [qbc] at h;subst h;exact hx
 ·have e0:(c==0)=false:=by simpa using c0
  simp only [e0,cond_false];by_cases c1:c=1
  ·by_cases Cz:0<l.length
   ·have e1:decide (0<(l.length:Int))=true:=by simp;omega
    obtain ⟨i,r3,h3,g3,a3,b3,_⟩:=mY (by omega) g2 (l.length:Int);have b3:=b3 (by omega);obtain ⟨v,r4,h4,g4,n4⟩:=Kl (by omega) g3;obtain ⟨y,hy,my⟩:=rI (xs:=l) a3 b3;refine ⟨l.set i.toNat (y.1,v,y.2.2),r4, ?_,g4.mono (by omega),by simp;omega, ?_⟩
    ·simp only [c1,show ((1:Int)==1)=true from rfl,cond_true,e1,h3,h4,hy,qa0]
    ·intro z hz;rcases List.mem_or_eq_of_mem_set hz with h | h
     ·exact hN.2 z h
     ·subst h;exact ⟨(hN.2 y my).1,n4,(hN.2 y my).2.2⟩
   ·have e1:decide (0<(l.length:Int))=false:=decide_eq_false (by omega);exact ⟨l,r2,by simp only [c1,show ((1:Int)==1)=true from rfl,cond_true,e1,cond_false,qa0],g2.mono (by omega),hN⟩
  ·have e1:(c==1)=false:=by simpa using c1
   exact ⟨l,r2,by simp [e1],g2.mono (by omega),hN⟩
end Go.Vs
namespace Go.Vs
def CV(x y:Int):Int:=if x<y then -1 else if y<x then 1 else 0
theorem Ks(x y:Int):M.iu x y=some (CV x y):=by
 unfold M.iu M.cmp_isNaN_int CV;simp only [bne_self_eq_false,qa0,cond_false];by_cases h1:x<y
 ·simp [h1]
 ·by_cases h2:y<x <;> simp [h1,h2]
theorem HV{x y:Int}:CV x y<0↔x<y:=by unfold CV;split <;> (try split) <;> omega
theorem uW{x y:Int}:CV x y=0↔x=y:=by unfold CV;split <;> (try split) <;> omega
theorem HW{x y:Int}:0<CV x y↔y<x:=by unfold CV;split <;> (try split) <;> omega
theorem Rq{v:List Int}(h:v.length<=1048576):M.gi v=some v:=by
 unfold M.gi;rw [iW (by simp;omega)];rfl
theorem HX{x:Item}(h:x.2.1.length<=1048576):M.jS (x.1,x.2.1,x.2.2)=some x:=by
 unfold M.jS;simp only [Rq h,qa0]
end Go.Vs
namespace Go.Vs
theorem BO{x:Item}(h:ig x=true):fe x.2.1=true:=(kN.1 h).2.1
end Go.Vs
namespace Go.Vs
end Go.Vs
namespace Go.Vs
def isKind(k:Int):Bool:=decide (1<=k)&&decide (k<=4)
theorem BP{k:Int}:isKind k=true↔1<=k/\k<=4:=by unfold isKind;simp
theorem HY(k:Int):M.kF k=some (isKind k):=by
 unfold M.kF isKind;by_cases h:1<=k <;> simp [h]
theorem HZ(k:Int):M.kC k=some (isKind k):=by
 unfold M.kC;simp only [BI,qa0];rfl
theorem NT{k g0 g1 g2 g3:Int}(h:ZG g0 g1 g2 g3)(hk:1<=k/\k<=4):0<=dk k g0 g1 g2 g3:=by
 obtain ⟨n0,n1,n2,n3,m0,m1,m2,m3⟩:=h;have s0:=fy n0 m0;have s1:=fy n1 m1;have s2:=fy n2 m2;have s3:=fy n3 m3;by_cases k1:k=1
 ·subst k1;simp only [dk,if_true];omega
 by_cases k2:k=2
 ·subst k2;rw [dk,if_neg (by omega),if_pos rfl];omega
 by_cases k3:k=3
 ·subst k3;rw [dk,if_neg (by omega),if_neg (by omega),if_pos rfl];omega
 ·have k4:k=4:=by omega
  subst k4;rw [dk,if_neg (by omega),if_neg (by omega),if_neg (by omega),if_pos rfl];omega
theorem Kt{k:Int}{a b:List Int}(hk:isKind k=true)(ha:fe a=true)(hb:fe b=true):0<=wm k a b/\wm k a b<1000000:=by
 obtain ⟨x0,x1,x2,x3,rfl,c0,c1,c2,c3⟩:=pa ha;obtain ⟨y0,y1,y2,y3,rfl,e0,e1,e2,e3⟩:=pa hb;rw [BK ha hb];have G:=Vh c0 c1 c2 c3 e0 e1 e2 e3;exact ⟨NT G (BP.1 hk),(Ri G).2⟩
theorem FC{k:Int}{a b:List Int}(hk:isKind k=true)(ha:fe a=true)(hb:fe b=true):M.oY k a b=some (wm k a b):=by
 obtain ⟨x0,x1,x2,x3,rfl,c0,c1,c2,c3⟩:=pa ha;obtain ⟨y0,y1,y2,y3,rfl,e0,e1,e2,e3⟩:=pa hb;rw [BK ha hb];exact HN (BP.1 hk) c0 c1 c2 c3 e0 e1 e2 e3
theorem FD{k:Int}{a b:List Int}(ha:fe a=true)(hb:fe b=true):M.jR k a b=some (wm k a b):=
 z8 k (by rw [(mi.1 ha).1];omega) (by rw [(mi.1 hb).1];omega)
end Go.Vs
namespace Go.Vs
theorem FE{l:List Item}(h:im l):M.kE l=some l:=by
 unfold M.kE;rw [Re (by omega) (by have:=h.1;omega)];simp only [qa0,qay];rw [NR (a:=l) (g:=λx=>M.jS (x.1,x.2.1,x.2.2)) h.1 (λx wV=>HX (h.2 x wV))]
 ·rfl
 ·intro s i hi fU hg;have e1:decide ((i:Int)<(l.length:Int))=true:=decide_eq_true (by omega);simp only [e1,cond_true,ck hi,ck fU,qa0,hg,gG (i:=i) (by have:=h.1;omega),qay]
 ·intro s;simp
end Go.Vs
namespace Go.Vs
end Go.Vs
namespace Go.Vs
end Go.Vs
namespace Go.Vs
end Go.Vs
namespace Go.Vs
section
noncomputable abbrev FF:Int×Int->Int×Int->Option Int:=λx y=>M.cZ (x.1,x.2) (y.1,y.2)
end
end Go.Vs
namespace Go.Vs
section
variable{α:Type}[Inhabited α]
def el(d:List α)(i:Nat):α:=d.getD i default
theorem nW{d:List α}{i:Nat}(h:i<d.length):el d i=d[i]:=by simp [el,List.getD,h]
theorem qG{d:List α}{i:Nat}(h:i<d.length):bz d (i:Int)=some (el d i):=by rw [ck h,nW h]
theorem Rr{d:List α}{i k:Nat}{x:α}(h:i<d.length):el (d.set i x) k=if k=i then x else el d k:=by
 unfold el;simp only [List.getD_eq_getElem?_getD,List.getElem?_set];by_cases e:i=k
 ·subst e;simp [h]
 ·simp [e,qbo e]
def swp(d:List α)(i j:Nat):List α:=(d.set i (el d j)).set j (el d i)
theorem FG{d:List α}{i j:Nat}:(swp d i j).length=d.length:=by simp [swp]
theorem BQ{d:List α}{i j k:Nat}(hi:i<d.length)(hj:j<d.length):el (swp d i j) k=if k=j then el d i else if k=i then el d j else el d k:=by
 unfold swp;rw [Rr (by simpa using hj),Rr hi]
theorem H0{d:List α}{i j:Nat}(hi:i<d.length)(hj:j<d.length):(swp d i j).Perm d:=by
 unfold swp;rw [nW hi,nW hj];exact List.set_set_perm hi hj
structure lM(a b:Nat)(d d':List α):Prop where
 len:d'.length=d.length
 out: ∀i,i<a\/b<=i->el d' i=el d i
 perm:d'.Perm d
theorem lM.refl{a b:Nat}(d:List α):lM a b d d:=⟨rfl,λ_ _=>rfl,List.Perm.refl _⟩
theorem lM.trans{a b:Nat}{d d' d'':List α}(h:lM a b d d')(k:lM a b d' d''):lM a b d d'':=
 ⟨k.len.trans h.len,λi hi=>(k.out i hi).trans (h.out i hi),k.perm.trans h.perm⟩
theorem lM.swp{a b i j:Nat}{d:List α}(h1:a<=i)(h2:i<b)(h3:a<=j)(h4:j<b)(h5:b<=d.length):lM a b d (swp d i j):=
 ⟨FG,λk hk=>by rw [BQ (by omega) (by omega),if_neg (by omega),if_neg (by omega)],H0 (by omega) (by omega)⟩
end
structure u9{α:Type}(lt:α->α->Bool)(p:α->Prop):Prop where
 irrefl: ∀x,p x->lt x x=false
 trans: ∀x y z,p x->p y->p z->lt x y=true->lt y z=true->lt x z=true
 total: ∀x y,p x->p y->x≠y->lt x y=true\/lt y x=true
theorem u9.asymm{α:Type}{lt:α->α->Bool}{p:α->Prop}(h:u9 lt p){x y:α}(hx:p x)(hy:p y)(hl:lt x y=true):lt y x=false:=by
 cases e:lt y x with
 | false=>rfl
 | true=>have:=h.trans x y x hx hy hx hl e;rw [h.irrefl x hx] at this;cases this
theorem u9.ntrans{α:Type}{lt:α->α->Bool}{p:α->Prop}(h:u9 lt p){x y z:α}(hx:p x)(hy:p y)(hz:p z)(h1:lt x y=false)(h2:lt y z=false):lt x z=false:=by
 cases e:lt x z with
 | false=>rfl
 | true=>
  rcases Classical.em (x=y) with rfl | j0
  ·rw [h2] at e;cases e
  ·rcases h.total x y hx hy j0 with h' | h'
   ·rw [h1] at h';cases h'
   ·have:=h.trans y x z hy hx hz h' e;rw [h2] at this;cases this
def L8{α:Type}(cmp:α->α->Option Int)(lt:α->α->Bool)(p:α->Prop):Prop:= ∀x y,p x->p y-> ∃r,cmp x y=some r/\decide (r<0)=lt x y
def Ku{α:Type}[Inhabited α](p:α->Prop)(d:List α):Prop:= ∀i,i<d.length->p (el d i)
theorem Ku.of{α:Type}[Inhabited α]{p:α->Prop}{d:List α}(h: ∀x∈d,p x):Ku p d:=λi hi=>h _ (by rw [nW hi];exact qai _)
theorem Ku.perm{α:Type}[Inhabited α]{p:α->Prop}{d d':List α}(h:Ku p d)(hp:d'.Perm d):Ku p d':=by
 refine Ku.of λx hx=> ?_;obtain ⟨i,hi,e⟩:=qal.1 (hp.mem_iff.1 hx);rw [←e, ←nW hi];exact h i hi
def Asc{α:Type}[Inhabited α](lt:α->α->Bool)(a b:Nat)(d:List α):Prop:= ∀i j,a<=i->i<j->j<b->lt (el d j) (el d i)=false
end Go.Vs
namespace Go.Vs
theorem BR{j:Nat}(h:1<=j)(h2:j<4000000000000000000):an ((j:Int) - 1)=((j - 1:Nat):Int):=by rw [aT (by omega) (by omega)];omega
section
variable{α:Type}{cmp:α->α->Option Int}{lt:α->α->Bool}{p:α->Prop}
theorem Rt(hc:L8 cmp lt p){x y:α}(hx:p x)(hy:p y):(cmp x y).bind (λr=>some (decide (r<0)))=some (lt x y):=by
 obtain ⟨r,h1,h2⟩:=hc x y hx hy;rw [h1,qa0,h2]
end
section
variable{α:Type}[Inhabited α]{cmp:α->α->Option Int}{lt:α->α->Bool}{p:α->Prop}
theorem H6{d:List α}{i j:Nat}{x:α}(hj:j<d.length):bz (d.set i x) (j:Int)=some (el (d.set i x) j):=qG (by simpa using hj)
theorem Vi(d:List α)(i j:Nat):(d.set i (el d j)).set j (el d i)=swp d i j:=rfl
theorem NU(hc:L8 cmp lt p)(hl:u9 lt p){a i:Nat}{d0:List α}(hi:i<d0.length)(hn:d0.length<1000000000)(hp:Ku p d0): ∀(d:List α) (j:Nat),a<=j->j<=i->lM a (i+1) d0 d->
   (∀x y,a<=x->x<y->y<=i->x≠j->y≠j->lt (el d y) (el d x)=false)->(∀y,j<y->y<=i->lt (el d y) (el d j)=false)->
   ∃d',cr (fun (s7:(List α)×(Int))=>Option.bind ((bif decide ((a:Int)<s7.2) then
  (bz s7.1 s7.2).bind λLJ=>
  (bz s7.1 (an (s7.2 - 1))).bind λx19=>
  (cmp LJ x19).bind λtn=>
  some (decide (tn<0))
 else
  some false)) λvA=>
  (bif vA then
  (bz s7.1 (an (s7.2 - 1))).bind λyG=>
  (bz s7.1 s7.2).bind λQH=>
  (bz s7.1 s7.2).bind λx48=>
  (bz (s7.1.set s7.2.toNat yG) (an (s7.2 - 1))).bind λLL=>
  some (.inl (((s7.1.set s7.2.toNat yG).set (an (s7.2 - 1)).toNat QH),an (s7.2 - 1)))
 else
  some (.inr s7.1))) (d,(j:Int))=some d'/\lM a (i+1) d0 d'/\Asc lt a (i+1) d':=by
  intro d j
  induction j generalizing d with
  | zero=>
   intro ha _ hP h1 h2;have e1:decide ((a:Int)<((0:Nat):Int))=false:=decide_eq_false (by omega);rw [bm];simp only [e1,cond_false,qa0,bk];refine ⟨d,rfl,hP,λx y hx KY hy=> ?_⟩;by_cases hx0:x=0
   ·subst hx0;exact h2 y KY (by omega)
   ·exact h1 x y hx KY (by omega) hx0 (by omega)
  | succ j ih=>
   intro ha hji hP h1 h2;have hlen:=hP.len;have ZI:=hp.perm hP.perm;have ej:an (((j+1:Nat):Int) - 1)=(j:Int):=BR (by omega) (by omega);rw [bm];by_cases haj:a<j+1
   ·have e1:decide ((a:Int)<((j+1:Nat):Int))=true:=decide_eq_true (by omega);simp only [e1,cond_true,ej,qG (d:=d) (i:=j+1) (by omega),qG (d:=d) (i:=j) (by omega),qa0,Rt hc (ZI (j+1) (by omega)) (ZI j (by omega))];cases bG:lt (el d (j+1)) (el d j) with
    | true=>
     simp only [cond_true,H6 (d:=d) (i:=j+1) (j:=j) (x:=el d j) (by omega),qa0,qay,Vi,bk];have sw: ∀k,el (swp d (j+1) j) k=if k=j then el d (j+1) else if k=j+1 then el d j else el d k:=λk=>BQ (by omega) (by omega)
     refine ih (swp d (j+1) j) (by omega) (by omega) (hP.trans (lM.swp (by omega) (by omega) (by omega) (by omega) (by omega))) ?_ ?_
     ·intro x y hx KY hy hxj hyj;rw [sw,sw,if_neg hyj,if_neg hxj];by_cases Kv:y=j+1
      ·subst Kv;rw [if_pos rfl,if_neg (by omega)];exact h1 x j hx (by omega) (by omega) (by omega) (by omega)
      ·rw [if_neg Kv];by_cases ZJ:x=j+1
       ·subst ZJ;rw [if_pos rfl];exact h1 j y (by omega) (by omega) hy (by omega) Kv
       ·rw [if_neg ZJ];exact h1 x y hx KY hy ZJ Kv
     ·intro y hy hyi;rw [sw,sw,if_neg (by omega),if_pos rfl];by_cases Kv:y=j+1
      ·subst Kv;rw [if_pos rfl];exact hl.asymm (ZI _ (by omega)) (ZI _ (by omega)) bG
      ·rw [if_neg Kv];exact h2 y (by omega) hyi
    | false=>
     simp only [cond_false,bk];refine ⟨d,rfl,hP,λx y hx KY hy=> ?_⟩;by_cases hxj:x=j+1
     ·subst hxj;exact h2 y KY (by omega)
     ·by_cases hyj:y=j+1
      ·subst hyj;by_cases ahN:x=j
       ·subst ahN;exact bG
       ·exact hl.ntrans (ZI _ (by omega)) (ZI j (by omega)) (ZI _ (by omega)) bG (h1 x j hx (by omega) (by omega) hxj (by omega))
      ·exact h1 x y hx KY (by omega) hxj hyj
   ·have e1:decide ((a:Int)<((j+1:Nat):Int))=false:=decide_eq_false (by omega);have:a=j+1:=by omega
    simp only [e1,cond_false,qa0,bk];refine ⟨d,rfl,hP,λx y hx KY hy=> ?_⟩;by_cases hx0:x=j+1
    ·subst hx0;exact h2 y KY (by omega)
    ·exact h1 x y hx KY (by omega) hx0 (by omega)
end
end Go.Vs
namespace Go.Vs
end Go.Vs
namespace Go.Vs
theorem Vj{S R U:Type}{f:S->Option (S⊕R)}(J:S->Prop)(μ:S->Nat)(Z:R->Prop)(step: ∀s,J s->(∃s',f s=some (.inl s')/\J s'/\μ s'<μ s)\/ ∃r,f s=some (.inr r)/\Z r){s:S}(hs:J s){c:R->Option U}{P:U->Prop}
  (hk: ∀r,Z r-> ∃u,c r=some u/\P u): ∃u,(cr f s).bind c=some u/\P u:=by
 obtain ⟨r,h1,h2⟩:=Nb J μ Z step s hs;obtain ⟨u,h3,h4⟩:=hk r h2;exact ⟨u,by rw [h1];exact h3,h4⟩
end Go.Vs
namespace Go.Vs
end Go.Vs
namespace Go.Vs
abbrev cK:=Int×Int
def lj(x y:cK):Bool:=decide (x.2<y.2\/x.2=y.2/\x.1<y.1)
theorem sJ{x y:cK}:lj x y=true↔x.2<y.2\/x.2=y.2/\x.1<y.1:=by simp [lj]
theorem uX{x y:cK}:lj x y=false↔ ¬(x.2<y.2\/x.2=y.2/\x.1<y.1):=by simp [lj]
theorem pY:u9 lj (λ_=>True) where
 irrefl x _:=by rw [uX];omega
 trans x y z _ _ _ h1 h2:=by rw [sJ] at *; omega
 total x y _ _ h:=by
  rw [sJ,sJ];by_cases e:x.2=y.2
  ·have:x.1≠y.1:=λe2=>h (Prod.ext e2 e);omega
  ·omega
theorem Ru(a b:Int):M.pH [a,b]=some (if a=0 then b else a):=by
 unfold M.pH;by_cases ha:a=0
 ·subst ha;by_cases hb:b=0
  ·subst hb;rw [bm];have e0:decide ((0:Int)<(([0,0]:List Int).length:Int))=true:=rfl;have g0:bz ([0,0]:List Int) 0=some 0:=rfl;have w0:an ((0:Int)+1)=1:=rfl;have e1:decide ((1:Int)<(([0,0]:List Int).length:Int))=true:=rfl;have g1:bz ([0,0]:List Int) 1=some 0:=rfl;have w1:an ((1:Int)+1)=2:=rfl;have e2:decide ((2:Int)<(([0,0]:List Int).length:Int))=false:=rfl;simp only [e0,cond_true,g0,qa0,bne_self_eq_false,cond_false,w0,bk];rw [bm];simp only [e1,cond_true,g1,qa0,bne_self_eq_false,cond_false,w1,bk];rw [bm];simp only [e2,cond_false,qa0,bk,if_true]
  ·rw [bm];have e0:decide ((0:Int)<(([0,b]:List Int).length:Int))=true:=rfl;have g0:bz ([0,b]:List Int) 0=some 0:=rfl;have w0:an ((0:Int)+1)=1:=rfl;have e1:decide ((1:Int)<(([0,b]:List Int).length:Int))=true:=rfl;have g1:bz ([0,b]:List Int) 1=some b:=rfl;simp only [e0,cond_true,g0,qa0,bne_self_eq_false,cond_false,w0,bk];rw [bm];have fT:(b != 0)=true:=by simpa using hb
   simp only [e1,cond_true,g1,qa0,fT,bk,if_true]
 ·rw [bm];have e0:decide ((0:Int)<(([a,b]:List Int).length:Int))=true:=rfl;have g0:bz ([a,b]:List Int) 0=some a:=rfl;have ha':(a != 0)=true:=by simpa using ha
  simp only [e0,cond_true,g0,qa0,ha',bk,if_neg ha]
theorem pZ(x y:cK): ∃r,M.cZ (x.1,x.2) (y.1,y.2)=some r/\decide (r<0)=lj x y/\decide (0<r)=lj y x:=by
 unfold M.cZ;simp only [Ks,qa0,Ru];refine ⟨_,rfl, ?_, ?_⟩
 ·unfold lj;apply decide_eq_decide.2;by_cases h:CV x.2 y.2=0
  ·rw [if_pos h,HV];rw [uW] at h;omega
  ·rw [if_neg h,HV];rw [uW] at h;omega
 ·unfold lj;apply decide_eq_decide.2;by_cases h:CV x.2 y.2=0
  ·rw [if_pos h,HW];rw [uW] at h;omega
  ·rw [if_neg h,HW];rw [uW] at h;omega
theorem BT:L8 FF lj (λ_=>True):=λx y _ _=>by
 obtain ⟨r,h1,h2,_⟩:=pZ x y;exact ⟨r,h1,h2⟩
theorem Az{h:List cK}{i j:Nat}(hi:i<h.length)(hj:j<h.length):M.dM h (i:Int) (j:Int)=some (lj (el h j) (el h i)):=by
 unfold M.dM;obtain ⟨r,h1,_,h3⟩:=pZ (el h i) (el h j);simp only [qG hi,qG hj,qa0,h1,h3]
theorem FH{h:List cK}{i j:Nat}(hi:i<h.length)(hj:j<h.length):M.fh h (i:Int) (j:Int)=some (swp h i j):=by
 unfold M.fh;simp only [qG hi,qG hj,qa0,qay,H6 (d:=h) (i:=i) (j:=j) hj]
 rfl
def HP(n:Nat)(h:List cK):Prop:= ∀i,0<i->i<n->lj (el h ((i - 1) / 2)) (el h i)=false
theorem NV{h0:List cK}(hn:h0.length<1000000000): ∀(m:Nat) (h:List cK) (j:Nat),j=m->j<h0.length->lM 0 h0.length h0 h->
  (∀i,0<i->i<h0.length->i≠j->lj (el h ((i - 1) / 2)) (el h i)=false)->(∀i,0<i->i<h0.length->0<j->(i - 1) / 2=j->lj (el h ((j - 1) / 2)) (el h i)=false)->
  ∃h',M.bp h (j:Int)=some h'/\lM 0 h0.length h0 h'/\HP h0.length h':=by
 intro m
 induction m using Nat.strongRecOn with
 | _ m ih=>
  intro h j hjm hj hP h1 h2;have hlen:=hP.len;by_cases hj0:j=0
  ·subst hj0;unfold M.bp;rw [bm];have e:(an ((an (((0:Nat):Int) - 1)).tdiv 2)==((0:Nat):Int))=true:=rfl;simp only [e,cond_true,qa0,bk];exact ⟨h,rfl,hP,λi uO Ap=>h1 i uO Ap (by omega)⟩
  ·have ep:an ((an ((j:Int) - 1)).tdiv 2)=(((j - 1) / 2:Nat):Int):=by
    rw [BR (by omega) (by omega),Int.tdiv_eq_ediv_of_nonneg (by omega),aT (by omega) (by omega)];omega
   have ene:((((j - 1) / 2:Nat):Int)==(j:Int))=false:=beq_eq_false_iff_ne.2 (by omega);have hlp:(j - 1) / 2<h.length:=by omega
   cases bG:lj (el h ((j - 1) / 2)) (el h j) with
   | false=>
    unfold M.bp;rw [bm];simp only [ep,ene,cond_false,Az (h:=h) (i:=j) (j:=(j - 1) / 2) (by omega) hlp,qa0,bG,Bool.not_false,cond_true,bk];refine ⟨h,rfl,hP,λi uO Ap=> ?_⟩;by_cases qx:i=j
    ·subst qx;exact bG
    ·exact h1 i uO Ap qx
   | true=>
    have sw: ∀k,el (swp h ((j - 1) / 2) j) k=if k=j then el h ((j - 1) / 2) else if k=(j - 1) / 2 then el h j else el h k:=λk=>BQ hlp (by omega)
    have jF:M.bp h (j:Int)=M.bp (swp h ((j - 1) / 2) j) (((j - 1) / 2:Nat):Int):=by
     conv=>lhs;unfold M.bp
     rw [bm];simp only [ep,ene,cond_false,Az (h:=h) (i:=j) (j:=(j - 1) / 2) (by omega) hlp,qa0,bG,qah,cond_false,FH (h:=h) (i:=(j - 1) / 2) (j:=j) hlp (by omega),bk]
     rfl
    rw [jF];have asy:=pY.asymm trivial trivial bG;refine ih ((j - 1) / 2) (by omega) _ _ rfl (by omega) (hP.trans (lM.swp (by omega) (by omega) (by omega) (by omega) (by omega))) ?_ ?_
    ·intro i uO Ap hip;rw [sw,sw];by_cases qx:i=j
     ·subst qx;rw [if_pos rfl,if_neg (by omega),if_pos rfl];exact asy
     ·rw [if_neg qx,if_neg hip];by_cases hpj:(i - 1) / 2=j
      ·rw [if_pos hpj];exact h2 i uO Ap (by omega) hpj
      ·rw [if_neg hpj];by_cases Yn:(i - 1) / 2=(j - 1) / 2
       ·rw [if_pos Yn];have:=h1 i uO Ap qx;rw [Yn] at this;exact pY.ntrans trivial trivial trivial asy this
       ·rw [if_neg Yn];exact h1 i uO Ap qx
    ·intro i uO Ap hp0 hpi;have ady:=h1 ((j - 1) / 2) hp0 (by omega) (by omega);rw [sw,sw,if_neg (by omega),if_neg (by omega)];by_cases qx:i=j
     ·subst qx;rw [if_pos rfl];exact ady
     ·rw [if_neg qx,if_neg (by omega)];have:=h1 i uO Ap qx;rw [hpi] at this;exact pY.ntrans trivial trivial trivial ady this
theorem Vk{h:List cK}(hn:h.length<1000000)(hh:HP h.length h)(x:cK): ∃h',M.bK h (x.1,x.2)=some h'/\h'.Perm (x::h)/\HP h'.length h':=by
 unfold M.bK M.eU M.gU;rw [iW (by simp;omega)];have hl:(h++[(x.1,x.2)]).length=h.length+1:=by simp
 have e:an (((h++[(x.1,x.2)]).length:Int) - 1)=(h.length:Int):=by rw [hl,aT (by omega) (by omega)];omega
 simp only [qa0,e];have ea: ∀k,k<h.length->el (h++[(x.1,x.2)]) k=el h k:=λk hk=>by
  rw [nW (by omega),nW hk,qb4 hk]
 obtain ⟨h',h1,h2,h3⟩:=NV (h0:=h++[(x.1,x.2)]) (by omega) h.length _ h.length rfl (by omega) (lM.refl _)
  (λi uO Ap j0=>by rw [ea _ (by omega),ea _ (by omega)];exact hh i uO (by omega)) (λi uO Ap _ hpi=>by omega)
 rw [h1];refine ⟨h',rfl,h2.perm.trans ?_,by rw [h2.len];exact h3⟩;exact qc1 (l₁:=h) (l₂:=[x])
theorem HP.top{n:Nat}{h:List cK}(hh:HP n h): ∀i,i<n->lj (el h 0) (el h i)=false:=by
 intro i
 induction i using Nat.strongRecOn with
 | _ i ih=>
  intro hi;by_cases h0:i=0
  ·subst h0;exact pY.irrefl _ trivial
  ·exact pY.ntrans trivial trivial trivial (ih ((i - 1) / 2) (by omega) (by omega)) (hh i (by omega) hi)
theorem H7{h0:List cK}{n:Nat}(hn:h0.length<1000000)(XM:n<=h0.length): ∃r,M.cI h0 0 (n:Int)=some r/\
  ((∀k,0<k->k<n->(k - 1) / 2≠0->lj (el h0 ((k - 1) / 2)) (el h0 k)=false)->lM 0 n h0 r.2/\HP n r.2):=by
 unfold M.cI;refine Vj (λs=> ∃(h:List cK) (i:Nat),s=(h,(i:Int))/\i<=h0.length/\h.length=h0.length/\((∀k,0<k->k<n->(k - 1) / 2≠0->lj (el h0 ((k - 1) / 2)) (el h0 k)=false)->lM 0 n h0 h/\
   (∀k,0<k->k<n->(k - 1) / 2≠i->lj (el h ((k - 1) / 2)) (el h k)=false)/\(∀k,0<k->k<n->0<i->(k - 1) / 2=i->lj (el h ((i - 1) / 2)) (el h k)=false))) (λs=>((h0.length:Int) - s.2).toNat)
  (λr=>(∀k,0<k->k<n->(k - 1) / 2≠0->lj (el h0 ((k - 1) / 2)) (el h0 k)=false)->lM 0 n h0 r.1/\HP n r.1) ?_
  ⟨h0,0,rfl,by omega,rfl,λhh=>⟨lM.refl _,λk h1 h2 h3=>hh k h1 h2 h3,λk _ _ h=>absurd h (qbx _)⟩⟩ (λr hr=>⟨_,rfl,hr⟩)
 rintro _ ⟨h,i,rfl,hi,hlen,hJ⟩;have e1:an ((an (2*(i:Int)))+1)=((2*i+1:Nat):Int):=by rw [aT (n:=2*(i:Int)) (by omega) (by omega),aT (by omega) (by omega)];omega
 have e2:an (((2*i+1:Nat):Int)+1)=((2*i+2:Nat):Int):=by rw [aT (by omega) (by omega)];omega
 simp only [e1,e2];by_cases hc:n<=2*i+1
 ·right;have e3:decide ((n:Int)<=((2*i+1:Nat):Int))=true:=decide_eq_true (by omega);refine ⟨(h,(i:Int)),by simp only [e3,cond_true,qa0],λhh=> ?_⟩;obtain ⟨j1,j2,j3⟩:=hJ hh;exact ⟨j1,λk k1 k2=>j2 k k1 k2 (by omega)⟩
 ·have e3:decide ((n:Int)<=((2*i+1:Nat):Int))=false:=decide_eq_false (by omega);have e4:decide (((2*i+1:Nat):Int)<0)=false:=decide_eq_false (by omega);obtain ⟨j,hj1,Yc,hj3,hj4⟩: ∃j:Nat,(Option.bind ((bif decide (((2*i+2:Nat):Int)<(n:Int)) then (M.dM h ((2*i+2:Nat):Int) ((2*i+1:Nat):Int)).bind λqB=>some qB else some false)) λvA=>(bif vA then some ((2*i+2:Nat):Int) else some ((2*i+1:Nat):Int)))=some (j:Int)/\(j - 1) / 2=i/\(0<j/\j<n)/\(∀k,0<k->k<n->(k - 1) / 2=i->lj (el h j) (el h k)=false):=by
   by_cases SQ:2*i+2<n
   ·have e5:decide (((2*i+2:Nat):Int)<(n:Int))=true:=decide_eq_true (by omega);simp only [e5,cond_true,Az (h:=h) (i:=2*i+2) (j:=2*i+1) (by omega) (by omega),qa0];cases bG:lj (el h (2*i+1)) (el h (2*i+2)) with
    | true=>
     refine ⟨2*i+2,rfl,by omega,by omega,λk k1 k2 k3=> ?_⟩;rcases (show k=2*i+1\/k=2*i+2 by omega) with rfl | rfl
     ·exact pY.asymm trivial trivial bG
     ·exact pY.irrefl _ trivial
    | false=>
     refine ⟨2*i+1,rfl,by omega,by omega,λk k1 k2 k3=> ?_⟩;rcases (show k=2*i+1\/k=2*i+2 by omega) with rfl | rfl
     ·exact pY.irrefl _ trivial
     ·exact bG
   ·have e5:decide (((2*i+2:Nat):Int)<(n:Int))=false:=decide_eq_false (by omega);simp only [e5,cond_false,qa0];refine ⟨2*i+1,rfl,by omega,by omega,λk k1 k2 k3=> ?_⟩;have:k=2*i+1:=by omega
    subst this;exact pY.irrefl _ trivial
  have hrw: ∀{β:Type} (g:Int->Option β),(Option.bind ((bif decide (((2*i+2:Nat):Int)<(n:Int)) then (M.dM h ((2*i+2:Nat):Int) ((2*i+1:Nat):Int)).bind λqB=>some qB else some false)) λvA=>Option.bind (bif vA then some ((2*i+2:Nat):Int) else some ((2*i+1:Nat):Int)) g)=g (j:Int):=by
   intro β g;rw [←Option.bind_assoc,hj1];rfl
  simp only [e3,cond_false,e4,qa0];rw [hrw];simp only [Az (h:=h) (i:=j) (j:=i) (by omega) (by omega),qa0];cases bG:lj (el h i) (el h j) with
  | false=>
   right;refine ⟨(h,(i:Int)),by simp only [Bool.not_false,cond_true],λhh=> ?_⟩;obtain ⟨j1,j2,j3⟩:=hJ hh;refine ⟨j1,λk k1 k2=> ?_⟩;by_cases hk:(k - 1) / 2=i
   ·rw [hk];exact pY.ntrans trivial trivial trivial bG (hj4 k k1 k2 hk)
   ·exact j2 k k1 k2 hk
  | true=>
   left;have sw: ∀k,el (swp h i j) k=if k=j then el h i else if k=i then el h j else el h k:=λk=>BQ (by omega) (by omega)
   refine ⟨(swp h i j,(j:Int)),by simp only [qah,cond_false,FH (h:=h) (i:=i) (j:=j) (by omega) (by omega),qa0],⟨swp h i j,j,rfl,by omega,by rw [FG];exact hlen,λhh=> ?_⟩,by simp only;omega⟩;obtain ⟨j1,j2,j3⟩:=hJ hh;have asy:=pY.asymm trivial trivial bG;refine ⟨j1.trans (lM.swp (by omega) (by omega) (by omega) (by omega) (by omega)),λk k1 k2 k3=> ?_,λk k1 k2 k3 k4=> ?_⟩
   ·rw [sw,sw,if_neg k3];by_cases hkj:k=j
    ·subst hkj;rw [if_pos rfl,if_pos Yc];exact asy
    ·rw [if_neg hkj];by_cases hki:k=i
     ·subst hki;rw [if_pos rfl,if_neg (by omega)];exact j3 j (by omega) (by omega) (by omega) Yc
     ·rw [if_neg hki];by_cases hp:(k - 1) / 2=i
      ·rw [if_pos hp];exact hj4 k k1 k2 hp
      ·rw [if_neg hp];exact j2 k k1 k2 hp
   ·rw [sw,sw,if_neg (by omega),if_pos Yc,if_neg (by omega),if_neg (by omega)];have:=j2 k k1 k2 (by omega);rw [k4] at this;exact this
end Go.Vs
namespace Go.Vs
def lr(x:cK):List cK->List cK
 | []=>[x]
 | y::r=>if lj x y then x::y::r else y::lr x r
def xG(l:List cK):Prop:=l.Pairwise λx y=>lj y x=false
theorem rK(x:cK)(l:List cK):(lr x l).Perm (x::l):=by
 induction l with
 | nil=>exact List.Perm.refl _
 | cons y r ih=>
  unfold lr;split
  ·exact List.Perm.refl _
  ·exact (List.Perm.cons y ih).trans (List.Perm.swap x y r)
theorem BU{x:cK}{l:List cK}(h:xG l):xG (lr x l):=by
 induction l with
 | nil=>exact List.pairwise_singleton _ _
 | cons y r ih=>
  obtain ⟨h1,h2⟩:=qc5.1 h;unfold lr;split
  ·rename_i bG;refine qc5.2 ⟨λz hz=> ?_,h⟩;rcases qa9.1 hz with rfl | hz
   ·exact pY.asymm trivial trivial bG
   ·exact pY.ntrans trivial trivial trivial (h1 z hz) (pY.asymm trivial trivial bG)
  ·rename_i bG;refine qc5.2 ⟨λz hz=> ?_,ih h2⟩;rcases qa9.1 ((rK x r).mem_iff.1 hz) with rfl | hz
   ·simpa using bG
   ·exact h1 z hz
theorem sK{x y:cK}(h1:lj x y=false)(h2:lj y x=false):x=y:=by
 rcases Classical.em (x=y) with h | h
 ·exact h
 ·rcases pY.total x y trivial trivial h with h' | h'
  ·rw [h1] at h';cases h'
  ·rw [h2] at h';cases h'
theorem xH{l m:List cK}(hl:xG l)(hm:xG m)(h:l.Perm m):l=m:=
 List.Perm.eq_of_pairwise (le:=λx y=>lj y x=false) (λ_ _ _ _ h1 h2=>sK h2 h1) hl hm h
theorem H8(x:cK)(l:List cK):(lr x l).length=l.length+1:=by rw [(rK x l).length_eq];rfl
theorem DW(x:cK): ∀(k:Nat) (l:List cK),(lr x (l.take k)).take k=(lr x l).take k
 | 0,l=>by simp
 | k+1,[]=>by simp
 | k+1,y::r=>by
  rw [qcb];unfold lr;split
  ·rw [qcb,qcb];cases k with
   | zero=>simp
   | succ k=>simp [List.take_take]
  ·rw [qcb,qcb,DW x k r]
def ik(l:List cK):List cK:=l.foldl (λS x=>lr x S) []
theorem eO(l:List cK):xG (ik l)/\(ik l).Perm l:=by
 have key: ∀(l S:List cK),xG S->xG (l.foldl (λS x=>lr x S) S)/\(l.foldl (λS x=>lr x S) S).Perm (S++l):=by
  intro l
  induction l with
  | nil=>intro S h;exact ⟨h,by simp⟩
  | cons x r ih=>
   intro S h;obtain ⟨h1,h2⟩:=ih (lr x S) (BU h);refine ⟨h1,h2.trans ?_⟩;have:=List.Perm.append_right r (rK x S);exact this.trans (List.perm_middle.symm)
 exact key l [] List.Pairwise.nil
theorem Kw(l:List cK)(x:cK):ik (l++[x])=lr x (ik l):=by simp [ik]
theorem DX(l:List cK):(ik l).length=l.length:=(eO l).2.length_eq
theorem wo{l m:List cK}(hm:xG m)(h:m.Perm l):ik l=m:=xH (eO l).1 hm ((eO l).2.trans h.symm)
def cR(k:Nat)(l:List cK):List cK:=(ik l).take k
theorem pd(k:Nat)(l:List cK)(x:cK):cR k (l++[x])=(lr x (cR k l)).take k:=by
 unfold cR;rw [Kw,DW]
theorem qa(k:Nat)(l:List cK):xG (cR k l):=(eO l).1.sublist (List.take_sublist _ _)
theorem kO(k:Nat)(l:List cK):(cR k l).length=min k l.length:=by simp [cR,DX]
theorem BV(k:Nat)(l:List cK): ∀x∈cR k l,x∈l:=λx hx=>(eO l).2.mem_iff.1 (List.mem_of_mem_take hx)
theorem ZK{h:List cK}(hn:h.length<1000000)(h1:0<h.length)(hh:HP h.length h): ∃x h',M.cQ h=some (x,h')/\(h'++[x]).Perm h/\HP h'.length h'/\ ∀y∈h,lj x y=false:=by
 unfold M.cQ M.gU;have el1:an ((h.length:Int) - 1)=((h.length - 1:Nat):Int):=BR h1 (by omega);have e0:(0:Int)=((0:Nat):Int):=rfl;simp only [qa0,el1];rw [e0,FH h1 (by omega)];simp only [qa0];have hs:(swp h 0 (h.length - 1)).length=h.length:=FG;obtain ⟨r,hr,hJ⟩:=H7 (h0:=swp h 0 (h.length - 1)) (n:=h.length - 1) (by omega) (by omega);have sw: ∀k,el (swp h 0 (h.length - 1)) k=if k=h.length - 1 then el h 0 else if k=0 then el h (h.length - 1) else el h k:=λk=>BQ h1 (by omega)
 obtain ⟨j1,j2⟩:=hJ (λk k1 k2 k3=>by
  rw [sw,sw,if_neg (by omega),if_neg k3,if_neg (by omega),if_neg (by omega)];exact hh k k1 (by omega))
 rw [←e0,hr];simp only [qa0];unfold M.kX;have cU:r.2.length=h.length:=by rw [j1.len,hs]
 have el2:an ((r.2.length:Int) - 1)=((h.length - 1:Nat):Int):=by rw [cU];exact el1
 have Xp:el r.2 (h.length - 1)=el h 0:=by rw [j1.out _ (by omega),sw,if_pos rfl]
 rw [el2,qG (by omega),mh (by omega) (by omega) (by omega)];simp only [qa0,qay,Xp,Int.toNat_zero,List.drop_zero];refine ⟨_,_,rfl, ?_, ?_, ?_⟩
 ·have:r.2.take (h.length - 1)++[el h 0]=r.2:=by
   have:=qb0 (l:=r.2) (i:=h.length - 1) (by omega);rw [←nW (by omega),Xp,show h.length - 1+1=r.2.length by omega,qc8] at this;exact this.symm
  show (r.2.take (h.length - 1)++[el h 0]).Perm h;rw [this];exact j1.perm.trans (H0 h1 (by omega))
 ·have ht:(r.2.take (h.length - 1)).length=h.length - 1:=by simp;omega
  rw [ht];intro i i1 i2;have e: ∀k,k<h.length - 1->el (r.2.take (h.length - 1)) k=el r.2 k:=λk hk=>by
   rw [nW (by omega),nW (by omega),qc9]
  rw [e _ (by omega),e _ (by omega)];exact j2 i i1 i2
 ·intro y hy;obtain ⟨i,hi,rfl⟩:=qal.1 hy;rw [←nW hi];exact hh.top i hi
theorem Rv{T kept:List cK}{k:Nat}(hk:k<=1000)(hT:xG T)(hTk:T.length<=k)(hh:HP kept.length kept)(hp:kept.Perm T)(x:cK):
  ∃rL,M.du ((k:Int),kept) (x.1,x.2)=some ((k:Int),rL)/\HP rL.length rL/\rL.Perm ((lr x T).take k):=by
 unfold M.du;have JJ:=hp.length_eq;obtain ⟨k1,h1,h2,h3⟩:=Vk (h:=kept) (by omega) hh x;simp only [h1,qa0];have vJ:k1.length=T.length+1:=by rw [h2.length_eq];simp [JJ]
 have hp1:k1.Perm (lr x T):=h2.trans ((List.Perm.cons x hp).trans (rK x T).symm);have hil:=H8 x T;by_cases hc:k<k1.length
 ·have e1:decide ((k:Int)<(k1.length:Int))=true:=decide_eq_true (by omega);obtain ⟨mx,k2,g1,g2,g3,g4⟩:=ZK (h:=k1) (by omega) (by omega) h3;simp only [e1,cond_true,g1,qa0];refine ⟨k2,rfl,g3, ?_⟩;have hI:=BU (x:=x) hT;have j0:lr x T≠[]:=by intro e;rw [e] at hil;simp at hil
  have hdl:lr x T=(lr x T).take k++[(lr x T).getLast j0]:=by
   have h:=List.dropLast_concat_getLast j0;rw [List.dropLast_eq_take,show (lr x T).length - 1=k by omega] at h;exact h.symm
  have Ou:mx=(lr x T).getLast j0:=by
   refine sK (g4 _ (hp1.mem_iff.2 (List.getLast_mem j0))) ?_;have Nf:mx∈lr x T:=hp1.mem_iff.1 (g2.mem_iff.1 (by simp));rw [hdl] at Nf hI;rcases qag.1 Nf with h | h
   ·exact (List.pairwise_append.1 hI).2.2 _ h _ (by simp)
   ·rw [qbc.1 h];exact pY.irrefl _ trivial
  have:=(g2.trans hp1);rw [hdl, ←Ou] at this;exact (List.perm_append_right_iff _).1 this
 ·have e1:decide ((k:Int)<(k1.length:Int))=false:=decide_eq_false (by omega);simp only [e1,cond_false];refine ⟨k1,rfl,h3, ?_⟩;rw [qbv (by omega)];exact hp1
theorem Kx{T kept:List cK}(hT:xG T)(hp:kept.Perm T)(IM:T.Nodup)(hl:T.length<=16)(k:Int):M.eJ (k,kept)=some T:=by
 unfold M.eJ M.aK M.bj M.bs M.dc M.aZ;have JJ:=hp.length_eq;have Pn:M.yr kept=some kept:=by unfold M.yr;rw [if_pos (by omega)]
 simp only [qa0,Pn];obtain ⟨d',h1,h2,h3⟩:=Hc (cmp:=FF) (lt:=lj) (xs:=kept) (by omega) (λx _ y _=>BT x y trivial trivial) (λx _=>pY.irrefl x trivial) (λx _ y _ z _=>pY.trans x y z trivial trivial trivial) (λx _ y _=>pY.total x y trivial trivial);rw [h1];simp only [qa0];exact congrArg some (xH h3 hT (h2.trans hp))
theorem DY(x y:cK):M.jm (x.1,x.2) (y.1,y.2)=some (lj x y):=by
 unfold M.jm lj;by_cases h1:x.2<y.2
 ·simp [h1]
 ·by_cases h2:x.2=y.2
  ·simp [h2]
  ·have h3:(x.2==y.2)=false:=beq_eq_false_iff_ne.2 h2;simp [h1,h2,h3]
def ZL:cK->cK->Option Int:=λx y=>some (if lj x y then -1 else 0)
theorem L9:L8 ZL lj (λ_=>True):=λx y _ _=>⟨_,rfl,by cases h:lj x y <;> simp⟩
theorem y9{S:List cK}{k:Nat}(hS:xG S)(hl:S.length<=1000)(hk:k<=1000)(x:cK):M.kG S (x.1,x.2) (k:Int)=some ((lr x S).take k):=by
  unfold M.kG;rw [iW (by simp;omega)];simp only [qa0,qb7];rw [iW (by simp;omega)];simp only [qa0];have hlen:(S++[(x.1,x.2)]).length=S.length+1:=by simp
  have e1:an (((S++[(x.1,x.2)]).length:Int) - 1)=(S.length:Int):=by rw [hlen,aT (by omega) (by omega)];omega
  have hf:(fun (gA:(List (Int×Int))×(Int))=>Option.bind ((bif decide (0<gA.2) then
  (bz gA.1 gA.2).bind λyC=>
  (bz gA.1 (an (gA.2 - 1))).bind λwC=>
  (M.jm (yC.1,yC.2) (wC.1,wC.2)).bind λOB=>
  some OB
 else
  some false)) λpI=>
  (bif pI then
  (bz gA.1 gA.2).bind λYP=>
  (bz gA.1 (an (gA.2 - 1))).bind λLL=>
  (bz gA.1 gA.2).bind λYQ=>
  (bz (gA.1.set gA.2.toNat (LL.1,LL.2)) (an (gA.2 - 1))).bind λx68=>
  some (.inl (((gA.1.set gA.2.toNat (LL.1,LL.2)).set (an (gA.2 - 1)).toNat (YP.1,YP.2)),an (gA.2 - 1)))
 else
  some (.inr gA.1):Option ((List cK×Int)⊕List cK)))=(fun (s7:(List cK)×(Int))=>Option.bind ((bif decide (((0:Nat):Int)<s7.2) then
  (bz s7.1 s7.2).bind λLJ=>
  (bz s7.1 (an (s7.2 - 1))).bind λx19=>
  (ZL LJ x19).bind λtn=>
  some (decide (tn<0))
 else
  some false)) λvA=>
  (bif vA then
  (bz s7.1 (an (s7.2 - 1))).bind λyG=>
  (bz s7.1 s7.2).bind λQH=>
  (bz s7.1 s7.2).bind λx48=>
  (bz (s7.1.set s7.2.toNat yG) (an (s7.2 - 1))).bind λLL=>
  some (.inl (((s7.1.set s7.2.toNat yG).set (an (s7.2 - 1)).toNat QH),an (s7.2 - 1)))
 else
  some (.inr s7.1))):=by
   funext s;have ec: ∀a b:cK,((M.jm (a.1,a.2) (b.1,b.2)).bind λOB=>some OB)=((ZL a b).bind λtn=>some (decide (tn<0))):=by
    intro a b;rw [DY,Rt L9 trivial trivial];rfl
   have ec2: ∀(a:Option cK) (b:Option cK) (c:Option cK) (g:cK->Option cK) (F:cK->cK->Option ((List cK×Int)⊕List cK)),(a.bind λYP=>b.bind λLL=>c.bind λYQ=>(g LL).bind λ_=>F LL YP)=(b.bind λyG=>a.bind λQH=>c.bind λx48=>(g yG).bind λ_=>F yG QH):=by
    intro a b c g F;cases a <;> cases b <;> rfl
   simp only [ec,Int.cast_ofNat_Int];congr 1;funext o;cases o with
   | false=>rfl
   | true=>exact ec2 (bz s.1 s.2) (bz s.1 (an (s.2 - 1))) (bz s.1 s.2) (λy=>bz (s.1.set s.2.toNat y) (an (s.2 - 1))) (λy z=>some (.inl (((s.1.set s.2.toNat y).set (an (s.2 - 1)).toNat z),an (s.2 - 1))))
  rw [hf,e1];have ea: ∀i,i<S.length->el (S++[(x.1,x.2)]) i=el S i:=λi hi=>by rw [nW (by omega),nW hi,qb4 hi]
  obtain ⟨d',h1,h2,h3⟩:=NU L9 pY (a:=0) (i:=S.length) (d0:=S++[(x.1,x.2)]) (by omega) (by omega) (λ_ _=>trivial) (S++[(x.1,x.2)]) S.length (qa8 _) (qa3 _) (lM.refl _)
   (λu v _ huv hv tO Gf=>by
    rw [ea u (by omega),ea v (by omega),nW (by omega),nW (by omega)];exact qaw.1 hS u v _ _ huv) (λy h h'=>by omega)
  rw [h1];have hdl:d'.length=S.length+1:=by rw [h2.len,hlen]
  have ahO:xG d':=by
   refine qaw.2 λi j hi hj qx=> ?_;have:=h3 i j (qa8 _) qx (by omega);rwa [nW hi,nW hj] at this
  have hd:d'=lr x S:=xH ahO (BU hS) (h2.perm.trans ((qc1 (l₁:=S) (l₂:=[x])).trans (rK x S).symm));have hil:=H8 x S;simp only [qa0];rw [hd,mh (by omega) (by omega) (by omega)];simp only [qa0,Int.toNat_zero,List.drop_zero,qae];by_cases hc:k<=(lr x S).length
  ·rw [show (min (k:Int) ((lr x S).length:Int)).toNat=k by omega]
  ·rw [show (min (k:Int) ((lr x S).length:Int)).toNat=(lr x S).length by omega,qc8,qbv (by omega)]
def bY(l:List Item)(kind:Int)(at_:List Int):List cK:=l.map λx=>(x.1,wm kind x.2.1 at_)
theorem Ky{l:List Item}{kind:Int}{at_:List Int}:(bY l kind at_).length=l.length:=by simp [bY]
theorem FI{l:List Item}{kind:Int}{at_:List Int}(hp:l.Pairwise (λx y=>x.1<y.1)):(bY l kind at_).Nodup:=by
 unfold bY List.Nodup;rw [List.pairwise_map];refine hp.imp λh e=> ?_;have:=congrArg Prod.fst e;simp only at this;omega
theorem sM{k:Nat}{l:List cK}(h:l.Nodup):(cR k l).Nodup:=by
 unfold cR;exact (List.take_sublist _ _).nodup ((eO l).2.nodup_iff.2 h)
theorem H9{l:List Item}{kind:Int}{at_:List Int}{i:Nat}(hi:i<l.length):bY (l.take (i+1)) kind at_=bY (l.take i) kind at_++[(l[i].1,wm kind l[i].2.1 at_)]:=by
 unfold bY;rw [qb0 hi,qc2];rfl
def fj(l:List Item)(kind:Int)(at_:List Int):Bool:=cW l&&isKind kind&&fe at_
def nX(l:List Item)(kind:Int)(at_:List Int)(k:Int):List cK:=if fj l kind at_=true/\1<=k/\k<=16 then cR k.toNat (bY l kind at_) else []
theorem jo{l:List Item}{kind:Int}{at_:List Int}:fj l kind at_=true↔cW l=true/\isKind kind=true/\fe at_=true:=by simp [fj,and_assoc]
theorem FJ{l:List Item}{kind:Int}{at_:List Int}{k:Nat}(ZM: ∀x∈l,fe x.2.1=true)(qH:isKind kind=true)(hv:fe at_=true)(hlen:l.length<=1000)(hk:k<=1000):M.kY l kind at_ (k:Int)=some (cR k (bY l kind at_)):=by
 unfold M.kY;refine mj (xs:=l) (fun (s:List cK) i=>(s,i)) (λs x=>(lr (x.1,wm kind x.2.1 at_) s).take k) (λi s=>s=cR k (bY (l.take i) kind at_)) (λs=>s) (s0:=[]) (by simp [bY,cR,ik]) ?_ ?_ ?_
 ·rintro s i hi rfl;have e1:decide ((i:Int)<(l.length:Int))=true:=decide_eq_true (by omega);have hx:=ZM _ (qai hi);have hL:=kO k (bY (l.take i) kind at_);simp only [e1,cond_true,ck hi,qa0,FC qH hx hv,gG (i:=i) (by omega)];have:=y9 (k:=k) (qa k (bY (l.take i) kind at_)) (by rw [hL];omega) hk (l[i].1,wm kind l[i].2.1 at_);simp only at this;rw [this];refine ⟨rfl, ?_⟩;rw [←pd,H9 hi]
 ·intro s _;simp
 ·intro hs;rw [hs,qc8]
theorem Aa{l:List Item}{kind:Int}{at_:List Int}{k:Nat}(hq:fj l kind at_=true)(hk:k<=1000):M.kY l kind at_ (k:Int)=some (cR k (bY l kind at_)):=by
 obtain ⟨ho,qH,hv⟩:=jo.1 hq;obtain ⟨hlen,hit,_⟩:=dT.1 ho;exact FJ (λx hx=>BO (hit x hx)) qH hv (by omega) hk
theorem wu(n a b:Int):M.dt n a b=some (decide (a<=n/\n<=b)):=by
 unfold M.dt;by_cases h:a<=n <;> simp [h]
theorem CW{l:List Item}{kind:Int}{at_:List Int}(h:im l)(ha:at_.length<2000000):M.jI l kind at_=some (fj l kind at_):=by
 unfold M.jI fj;simp only [h.Xo,HZ,BJ at_ ha,qa0];cases cW l <;> cases isKind kind <;> simp
theorem Ia(k:Int):M.iw k=some (decide (1<=k/\k<=16)):=by
 unfold M.iw;by_cases h1:1<=k <;> simp [h1]
theorem qb{l:List Item}{kind:Int}{at_:List Int}{k:Int}(h:im l)(ha:at_.length<2000000):M.fZ l kind at_ k=some (decide (fj l kind at_=true/\1<=k/\k<=16)):=by
 unfold M.fZ fj;simp only [h.impl,HY,sI at_ ha,Ia,qa0];cases cW l <;> cases isKind kind <;> cases fe at_ <;> simp
theorem Vm{l:List Item}{D:Item->Int}{n:Nat}(hn:n<=1000){f:((Int)×(List (Int×Int)))×(Int)->Option ((((Int)×(List (Int×Int)))×(Int))⊕((Int)×(List (Int×Int))))}(hlen:l.length<=16)
  (hs: ∀i (h:i<l.length) (kept:List cK),f (((n:Int),kept),(i:Int))=(M.du ((n:Int),kept) (l[i].1,D l[i])).bind λr=>some (.inl ((r.1,r.2),((i+1:Nat):Int))))
  (he: ∀kept:List cK,f (((n:Int),kept),(l.length:Int))=some (.inr ((n:Int),kept))):
  ∃rL,cr f (((n:Int),[]),0)=some ((n:Int),rL)/\rL.Perm (cR n (l.map λx=>(x.1,D x))):=by
 have key: ∀m i:Nat,i+m=l.length-> ∀kept:List cK,HP kept.length kept->kept.Perm (cR n ((l.take i).map λx=>(x.1,D x)))->
   ∃rL,cr f (((n:Int),kept),(i:Int))=some ((n:Int),rL)/\rL.Perm (cR n (l.map λx=>(x.1,D x))):=by
  intro m
  induction m with
  | zero=>
   intro i hi kept hh hp;have:i=l.length:=by omega
   subst this;rw [qc8] at hp;rw [bm,he];exact ⟨kept,rfl,hp⟩
  | succ m ih=>
   intro i hi kept hh hp;have hil:i<l.length:=by omega
   have hL:=kO n ((l.take i).map λx=>(x.1,D x));obtain ⟨rL,g1,g2,g3⟩:=Rv (k:=n) hn (qa n ((l.take i).map λx=>(x.1,D x))) (by omega) hh hp (l[i].1,D l[i]);simp only at g1;rw [bm,hs i hil,g1];simp only [qa0,bk];refine ih (i+1) (by omega) rL g2 ?_;rw [←pd] at g3;rw [qb0 hil,qc2];exact g3
 have:=key l.length 0 (by omega) [] (λi h1 h2=>by simp at h2) (by simp [cR,ik]);rw [show ((0:Nat):Int)=0 from rfl] at this;exact this
theorem FK{l:List Item}{kind:Int}{at_:List Int}{n:Nat}(ZM: ∀x∈l,fe x.2.1=true)(hv:fe at_=true)(IM:(bY l kind at_).Nodup)(hlen:l.length<=16)(hn:n<=1000):M.iD l kind at_ (n:Int)=some (cR n (bY l kind at_)):=by
  unfold M.iD M.de;obtain ⟨rL,g1,g2⟩:=Vm (l:=l) (D:=λx=>wm kind x.2.1 at_) (n:=n) hn (f:=fun (s5:((Int)×(List (Int×Int)))×(Int))=>(bif decide (s5.2<(l.length:Int)) then
  (bz l s5.2).bind λnT=>
  (M.dz (nT.1,nT.2.1,nT.2.2) kind at_).bind λzt=>
  (M.du (s5.1.1,s5.1.2) (nT.1,zt)).bind λIN=>
  some (.inl ((IN.1,IN.2),an (s5.2+1)))
 else
  some (.inr (s5.1.1,s5.1.2)))) hlen (λi hi kept=>by
   have e1:decide ((i:Int)<(l.length:Int))=true:=decide_eq_true (by omega);unfold M.dz;simp only [e1,cond_true,ck hi,qa0,FD (ZM _ (qai hi)) hv,gG (i:=i) (by omega)]) (λkept=>by simp)
  rw [g1];have hL:=kO n (bY l kind at_);have cU:=Ky (l:=l) (kind:=kind) (at_:=at_);simp only [qa0,Kx (qa n (bY l kind at_)) g2 (sM IM) (by omega)]
theorem uw{l:List Item}{kind:Int}{at_:List Int}{k:Int}(h:im l)(ha:at_.length<2000000):M.gO l kind at_ k=some (nX l kind at_ k):=by
 unfold M.gO nX;simp only [qb h ha,qa0];by_cases hk:fj l kind at_=true/\1<=k/\k<=16
 ·obtain ⟨n,rfl⟩:=qax (show 0<=k by omega);obtain ⟨ho,qH,hv⟩:=jo.1 hk.1;obtain ⟨hlen,hit,hpw⟩:=dT.1 ho;have qM:(1:Int)<=(n:Int)/\(n:Int)<=16:=hk.2;have ZN:decide (fj l kind at_=true/\(1:Int)<=(n:Int)/\(n:Int)<=16)=true:=decide_eq_true hk;rw [ZN,if_pos (show fj l kind at_=true/\(1:Int)<=(n:Int)/\(n:Int)<=16 from hk)];simp only [qah,cond_false,FK (n:=n) (λx hx=>BO (hit x hx)) hv (FI hpw) hlen (by omega),qa0,qay]
 ·have ZN:decide (fj l kind at_=true/\1<=k/\k<=16)=false:=decide_eq_false hk;rw [ZN,if_neg hk];rfl
end Go.Vs
namespace Go.Vs
theorem ZO(x y:cK):(([x.1,x.2]:List Int)==([y.1,y.2]:List Int))=(x==y):=by
 rw [Bool.eq_iff_iff];simp only [beq_iff_eq,List.cons.injEq,and_true];exact Prod.ext_iff.symm
theorem xI{a b:List cK}(ha:a.length<2000000):M.gZ a b=some (decide (a=b)):=by
 unfold M.gZ;simp only [ZO];by_cases hl:a.length=b.length
 ·have e:((a.length:Int) != (b.length:Int))=false:=by simp;omega
  simp only [e,cond_false];rw [rJ (xs:=a.zip b) (P:=λp=>p.1==p.2) (r:=false)]
  ·by_cases h:a=b
   ·subst h;have:(a.zip a).all (λp=>p.1==p.2)=true:=by
     rw [qab];intro p hp;obtain ⟨i,hi,rfl⟩:=qal.1 hp;simp
    rw [if_pos this];simp [bk]
   ·have: ¬(a.zip b).all (λp=>p.1==p.2)=true:=by
     intro hh;apply h;apply List.ext_getElem hl;intro i h1 h2;rw [qab] at hh;have:=hh (a[i],b[i]) (qal.2 ⟨i,by simp;omega,by simp⟩);simpa using this
    rw [if_neg this];simp [bk,h]
  ·intro i hi;have uO:i<a.length:=by simp at hi;omega
   have Ap:i<b.length:=by simp at hi;omega
   have e1:decide ((i:Int)<(a.length:Int))=true:=by simpa using uO
   have e2:an ((i:Int)+1)=(i:Int)+1:=aT (by omega) (by omega);simp only [e1,cond_true,ck uO,ck Ap,qa0,e2,List.getElem_zip];cases hc:(a[i]==b[i]) <;> simp
  ·have:(a.zip b).length=a.length:=by simp;omega
   rw [this];simp
 ·have e:((a.length:Int) != (b.length:Int))=true:=by simp;omega
  have:a≠b:=λh=>hl (by rw [h]);simp [e,this]
theorem ux{l:List Item}{kind:Int}{at_:List Int}{k:Int}:(nX l kind at_ k).length<=16:=by
 unfold nX;split
 ·rename_i h;have:=kO k.toNat (bY l kind at_);omega
 ·simp
theorem Ib{l:List Item}{kind:Int}{at_:List Int}{k:Int}(h:fj l kind at_=true)(h1:1<=k)(h2:k<=16):nX l kind at_ k=cR k.toNat (bY l kind at_):=if_pos ⟨h,h1,h2⟩
theorem Kz{l:List Item}{kind:Int}{at_:List Int}{h:cK}:h∈bY l kind at_↔ ∃x∈l,h=(x.1,wm kind x.2.1 at_):=by
 unfold bY;rw [qcd]
 constructor
 ·rintro ⟨x,hx,rfl⟩;exact ⟨x,hx,rfl⟩
 ·rintro ⟨x,hx,rfl⟩;exact ⟨x,hx,rfl⟩
end Go.Vs
namespace Go.Vs
end Go.Vs
namespace Go.Vs
end Go.Vs
namespace Go.Vs
end Go.Vs
namespace Go.Vs
end Go.Vs
namespace Go.Vs
end Go.Vs
namespace Go.Vs
end Go.Vs
namespace Go.Vs
end Go.Vs
namespace Go.Vs
end Go.Vs
namespace Go.Vs
end Go.Vs
namespace Go.Vs
end Go.Vs
namespace Go.Vs
end Go.Vs
namespace Go.Vs
end Go.Vs
namespace Go.Vs
end Go.Vs
namespace Go.Vs
end Go.Vs
namespace Go.Vs
end Go.Vs
namespace Go.Vs
end Go.Vs
namespace Go.Vs
end Go.Vs
namespace Go.Vs
end Go.Vs
namespace Go.Vs
end Go.Vs
namespace Go.Vs
theorem BW{α:Type}(p q:α->Bool)(l:List α)(h: ∀x∈l,p x=true->q x=false):(l.filter p++l.filter q).Perm (l.filter λx=>p x || q x):=by
 induction l with
 | nil=>simp
 | cons x r ih=>
  have ih:=ih (λy hy=>h y (by simp [hy]));by_cases hp:p x=true
  ·have hq:=h x (by simp) hp;rw [List.filter_cons_of_pos hp,List.filter_cons_of_neg (by simp [hq]),List.filter_cons_of_pos (by simp [hp])];exact List.Perm.cons x ih
  ·simp only [qbd] at hp;by_cases hq:q x=true
   ·rw [List.filter_cons_of_neg (by simp [hp]),List.filter_cons_of_pos hq,List.filter_cons_of_pos (by simp [hq])];exact List.perm_middle.trans (List.Perm.cons x ih)
   ·simp only [qbd] at hq;rw [List.filter_cons_of_neg (by simp [hp]),List.filter_cons_of_neg (by simp [hq]),List.filter_cons_of_neg (by simp [hp,hq])];exact ih
end Go.Vs
namespace Go.Vs
end Go.Vs
namespace Go.Vs
end Go.Vs
namespace Go.Vs
end Go.Vs
namespace Go.Vs
end Go.Vs
namespace Go.Vs
end Go.Vs
namespace Go.Vs
end Go.Vs
namespace Go.Vs
end Go.Vs
namespace Go.Vs
end Go.Vs
namespace Go.Vs
end Go.Vs
namespace Go.Vs
end Go.Vs
namespace Go.Vs
end Go.Vs
namespace Go.Vs
end Go.Vs
namespace Go.Vs
end Go.Vs
namespace Go.Vs
end Go.Vs
namespace Go.Vs
theorem uY{k:Nat}{l m:List cK}(h:l.Perm m):cR k l=cR k m:=by
 unfold cR;rw [wo (eO m).1 ((eO m).2.trans h.symm)]
theorem Rw{k:Nat}(hk:k<=500000){r:List UInt8×Int}(hr:Good k r): ∃x r',M.pG (r.1,r.2)=some (x,(r'.1,r'.2))/\Good (k+1) r'/\0<=x/\x<=17:=by
 obtain ⟨x,⟨p,q⟩,h1,g1,m1⟩:=uv (by omega) hr (list:=[1,2,3,5,16,4,0,17]) (by simp);have O1:M.cP (r.1,r.2) [1,2,3,5,16,4,0,17]=some (x,(p,q)):=h1;refine ⟨x,(p,q),by unfold M.pG;simp only [O1,qa0],g1, ?_⟩;simp only [qa9,qao,or_false] at m1;omega
end Go.Vs
namespace Go.Vs
theorem Vn(h:cK):lj h h=false:=by rw [uX];omega
theorem uZ{a b c:cK}(h1:lj a b=true)(h2:lj b c=true):lj a c=true:=by
 rw [sJ] at *; omega
theorem Rx{a b:cK}(h:lj a b=true):lj b a=false:=by
 rw [sJ] at h;rw [uX];omega
end Go.Vs
namespace Go.Vs
end Go.Vs
namespace Go.Vs
end Go.Vs
namespace Go.Vs
theorem NW{S T R:Type}(st:S->Int->T)(g:S->Nat->S)(Inv:Nat->S->Prop){fin:S->R}{f:T->Option (T⊕R)}(n:Nat)
  (hs: ∀s i,i<n->Inv i s->f (st s (i:Int))=some (.inl (st (g s i) ((i+1:Nat):Int)))/\Inv (i+1) (g s i)) (he: ∀s,Inv n s->f (st s (n:Int))=some (.inr (fin s))):
  ∀(m a:Nat) (s:S),a+m=n->Inv a s->cr f (st s (a:Int))=some (fin ((List.range' a m).foldl g s))/\Inv n ((List.range' a m).foldl g s):=by
 intro m
 induction m with
 | zero=>
  intro a s h hi;have:a=n:=by omega
  subst this;rw [bm,he s hi];simpa [bk] using hi
 | succ m ih=>
  intro a s h hi;obtain ⟨h1,h2⟩:=hs s a (by omega) hi;rw [bm,h1,List.range'_succ];exact ih (a+1) _ (by omega) h2
theorem NX{S T R U:Type}(st:S->Int->T)(g:S->Nat->S)(Inv:Nat->S->Prop)(fin:S->R){f:T->Option (T⊕R)}(a n:Nat){s0:S}{k:R->Option U}{r:Option U}(ha:a<=n)(h0:Inv a s0)
  (hs: ∀s i,i<n->Inv i s->f (st s (i:Int))=some (.inl (st (g s i) ((i+1:Nat):Int)))/\Inv (i+1) (g s i)) (he: ∀s,Inv n s->f (st s (n:Int))=some (.inr (fin s)))
  (hk:Inv n ((List.range' a (n - a)).foldl g s0)->k (fin ((List.range' a (n - a)).foldl g s0))=r):(cr f (st s0 (a:Int))).bind k=r:=by
 obtain ⟨h1,h2⟩:=NW st g Inv (fin:=fin) n hs he (n - a) a s0 (by omega) h0;rw [h1];exact hk h2
end Go.Vs
namespace Go.Vs
end Go.Vs
namespace Go.Vs
def Xq(x:cK):Bool:=decide (1<=x.1/\x.1<=99)&&decide (0<=x.2/\x.2<=1000000)
def OJ(l:List cK)(i:Nat):cK:=l.getD i (0,0)
theorem mZ{l:List cK}{i:Nat}(h:i<l.length):OJ l i=l[i]:=by unfold OJ;simp [List.getD,h]
def xJ(l:List cK)(i:Nat):Bool:=Xq (OJ l i)&&(decide (i=0) || lj (OJ l (i - 1)) (OJ l i))&&(l.take i).all λy=> !(y.1==(OJ l i).1)
def tF(l:List cK):Bool:=(List.range l.length).all (xJ l)&&decide (l.length<=16)
theorem qd{l:List cK}:tF l=true↔(∀x∈l,Xq x=true)/\l.Pairwise (λx y=>lj x y=true)/\(l.map (·.1)).Nodup/\l.length<=16:=by
 unfold tF;rw [qa4,qab,decide_eq_true_eq]
 constructor
 ·rintro ⟨h,hl⟩;have hh: ∀i (hi:i<l.length),xJ l i=true:=λi hi=>h i (qas.2 hi);simp only [xJ,qa4,qbz,decide_eq_true_eq,qab,qbe,beq_eq_false_iff_ne] at hh;refine ⟨?_, ?_, ?_,hl⟩
  ·intro x hx;obtain ⟨i,hi,rfl⟩:=qal.1 hx;have:=(hh i hi).1.1;rwa [mZ hi] at this
  ·rw [qaw];have adj: ∀i (hi:i+1<l.length),lj l[i] l[i+1]=true:=by
    intro i hi;have:=(hh (i+1) hi).1.2;rcases this with h0 | h1
    ·omega
    ·rw [mZ hi] at h1;rw [show i+1 - 1=i by omega,mZ (by omega:i<l.length)] at h1;exact h1
   intro i j hi hj qx;have key: ∀m, ∀(h:i+m+1<l.length),lj l[i] l[i+m+1]=true:=by
    intro m
    induction m with
    | zero=>intro h;exact adj i h
    | succ m ih=>intro h;exact uZ (ih (by omega)) (adj (i+m+1) h)
   have:=key (j - i - 1) (by omega);simpa [show i+(j - i - 1)+1=j by omega] using this
  ·rw [List.nodup_iff_pairwise_ne,qaw];intro i j hi hj qx;simp only [qbr] at hi hj;have:=(hh j hj).2 l[i] (qal.2 ⟨i,by rw [qaq];omega,by simp⟩);rw [mZ hj] at this;simpa using this
 ·rintro ⟨h1,h2,h3,h4⟩;refine ⟨λi hi=> ?_,h4⟩;have hi:=qas.1 hi;simp only [xJ,qa4,qbz,decide_eq_true_eq,qab,qbe,beq_eq_false_iff_ne,mZ hi];refine ⟨⟨h1 _ (qai hi), ?_⟩, ?_⟩
  ·by_cases h0:i=0
   ·exact .inl h0
   ·refine .inr ?_;rw [mZ (by omega:i - 1<l.length)];exact (qaw.1 h2) (i - 1) i (by omega) hi (by omega)
  ·intro y hy;obtain ⟨k,hk,rfl⟩:=qal.1 hy;rw [qaq] at hk;rw [List.nodup_iff_pairwise_ne,qaw] at h3;have:=h3 k i (by simp;omega) (by simp;omega) (by omega);simpa using this
theorem NY{l:List cK}{i:Nat}(hi:i<l.length)(hl:l.length<=2000000){R:Type}(r:R):
  (cr (fun (IT:(Int))=>(bif decide (IT<(i:Int)) then
    (bz l IT).bind λx55=>
    (bif x55.1==l[i].1 then
    some (Sum.inr (Sum.inr r):Int⊕(Unit⊕R))
   else
    some (Sum.inl (an (IT+1))))
   else
    some (Sum.inr (Sum.inl ())))) 0)=some (if (l.take i).all (λy=> !(y.1==(l[i]).1)) then Sum.inl () else Sum.inr r):=by
 refine rJ (xs:=l.take i) (P:=λy=> !(y.1==(l[i]).1)) (r:=r) ?_ ?_
 ·intro k hk;have qM:k<i:=by rw [qaq] at hk;omega
  have e1:decide ((k:Int)<(i:Int))=true:=decide_eq_true (by omega);simp only [e1,cond_true,ck (show k<l.length by omega),qa0,gG (i:=k) (by omega),qc9];cases l[k].1==l[i].1 <;> simp
 ·rw [qaq,Nat.min_eq_left (by omega)];simp
theorem rM{l:List cK}(hl:l.length<=2000000):M.jb l=some (tF l):=by
 unfold M.jb;have key: ∀i (h:i<(List.range l.length).length),xJ l (List.range l.length)[i]=xJ l i:=by intro i h;simp
 rw [rJ (xs:=List.range l.length) (P:=xJ l) (r:=false) ?_ ?_]
 ·unfold tF;cases (List.range l.length).all (xJ l) with
  | true=>simp [bk];omega
  | false=>simp [bk]
 ·intro i h;have hi:i<l.length:=by simpa using h
  have e1:decide ((i:Int)<(l.length:Int))=true:=decide_eq_true (by omega);rw [key i h];simp only [e1,cond_true,ck hi,qa0,wu,NY hi hl false,gG (i:=i) (show i<4000000000000000000 by omega)];unfold xJ;rw [mZ hi];unfold Xq;cases hk:decide (1<=l[i].1/\l[i].1<=99) with
  | false=>simp
  | true=>
   cases hd:decide (0<=l[i].2/\l[i].2<=1000000) with
   | false=>simp
   | true=>
    simp only [qah,cond_false,qbl,qa0];by_cases h0:i=0
    ·subst h0;simp [bk]
    ·have e2:decide ((0:Int)<(i:Int))=true:=decide_eq_true (by omega);have e3:an ((i:Int) - 1)=((i - 1:Nat):Int):=by rw [aT (by omega) (by omega)];omega
     have e4:decide (i=0)=false:=decide_eq_false h0;simp only [e2,e3,e4,cond_true,ck (show i - 1<l.length by omega),qa0,DY,Bool.false_or,mZ (show i - 1<l.length by omega)];cases hn:lj l[i - 1] l[i] with
     | false=>simp
     | true=>
      simp only [qah,cond_false,qbl];cases (l.take i).all (λy=> !(y.1==l[i].1)) <;> simp [bk]
 ·simp
def tG(l:List cK)(key:Int):Option Nat:=l.findIdx? λy=>y.1==key
def FL(l:List cK)(key:Int):Int:=match tG l key with | some i=>(i:Int) | none=> -1
theorem xK{l:List cK}{key:Int}(hl:l.length<=2000000):M.nq l key=some (FL l key):=by
 unfold M.nq FL tG;rw [BM (xs:=l) (λy=>y.1==key) (λi=>(i:Int)) ?_ ?_]
 ·cases l.findIdx? (λy=>y.1==key) <;> simp [bk]
 ·intro i hi;have e1:decide ((i:Int)<(l.length:Int))=true:=decide_eq_true (by omega);simp only [e1,cond_true,ck hi,qa0,gG (i:=i) (by omega)];cases l[i].1==key <;> simp
 ·simp
theorem rN{l:List cK}{key:Int}{i:Nat}(h:tG l key=some i): ∃hi:i<l.length,l[i].1=key:=by
 unfold tG at h;rw [List.findIdx?_eq_some_iff_getElem] at h;obtain ⟨hi,h1,_⟩:=h;exact ⟨hi,by simpa using h1⟩
theorem za{l:List cK}{key:Int}:tG l key=none↔ ∀x∈l,x.1≠key:=by
 unfold tG;rw [List.findIdx?_eq_none_iff];simp
theorem Ma{l:List cK}(hn:(l.map (·.1)).Nodup){i:Nat}(hi:i<l.length):tG l l[i].1=some i:=by
 unfold tG;rw [List.findIdx?_eq_some_iff_getElem];refine ⟨hi,by simp,λj hj=> ?_⟩;rw [List.nodup_iff_pairwise_ne,qaw] at hn;have:=hn j i (by simp;omega) (by simp;omega) hj;simpa using this
end Go.Vs
namespace Go.Vs
def uy(b:List cK)(x:cK):Bool:=match tG b x.1 with | none=>true | some n=>decide (x.2<=(OJ b n).2)
def lC(a:List cK)(x:cK):Bool:=match tG a x.1 with | none=>true | some n=>decide (x.2<(OJ a n).2)
def ZP(a b:List cK):List cK:=a.filter (uy b)++b.filter (lC a)
def BX(a b:List cK)(k:Int):List cK:=if tF a=true/\tF b=true/\1<=k/\k<=16 then cR k.toNat (ZP a b) else []
theorem FM{a b:List cK}{k:Int}(ha:a.length<=2000000)(hb:b.length<=2000000):M.kI a b k=some (BX a b k):=by
 unfold M.kI BX;simp only [rM ha,rM hb,wu,qa0];cases hoa:tF a with
 | false=>simp
 | true=>
  cases hob:tF b with
  | false=>simp
  | true=>
   by_cases hk:1<=k/\k<=16
   rotate_left
   ·have:=decide_eq_false hk;simp [this,hk]
   have hd:=decide_eq_true hk;obtain ⟨n,rfl⟩:=qax (show 0<=k by omega);obtain ⟨_,_,_,hal⟩:=qd.1 hoa;obtain ⟨_,_,_,hbl⟩:=qd.1 hob;simp only [hd,qah,cond_false,qa0,true_and];rw [if_pos hk,qay];have len: ∀l:List cK,(cR n l).length<=1000:=λl=>by rw [kO];omega
   refine mj (xs:=a) (fun (s:List cK) i=>(s,i)) (λs x=>if uy b x=true then (lr x s).take n else s) (λi s=>s=cR n ((a.take i).filter (uy b))) (λs=>s) (s0:=[]) (by simp [cR,ik]) ?_ ?_ ?_
   ·rintro s i hi rfl;have e1:decide ((i:Int)<(a.length:Int))=true:=decide_eq_true (by omega);simp only [e1,cond_true,ck hi,qa0,xK hb,gG (i:=i) (show i<4000000000000000000 by omega),y9 (qa _ _) (len _) (show n<=1000 by omega)];rw [qb0 hi,List.filter_append];unfold FL;have hkA:uy b a[i]=match tG b a[i].1 with | none=>true | some n=>decide (a[i].2<=(OJ b n).2):=rfl
    cases hp:tG b a[i].1 with
    | none=>
     rw [hp] at hkA;have e2:uy b a[i]=true:=hkA;simp [e2,pd]
    | some m=>
     rw [hp] at hkA;obtain ⟨hm,_⟩:=rN hp;have e3:decide ((m:Int)<0)=false:=decide_eq_false (by omega);simp only [e3,cond_false,ck hm,qa0];rw [←mZ hm];cases hc:decide (a[i].2<=(OJ b m).2) with
     | true=>
      have e2:uy b a[i]=true:=by rw [hkA];exact hc
      simp [e2,pd]
     | false=>
      have e2:uy b a[i]=false:=by rw [hkA];exact hc
      simp [e2]
   ·intro s _;simp
   ·intro hs;rw [hs,qc8];refine mj (xs:=b) (fun (s:List cK) i=>(s,i)) (λs x=>if lC a x=true then (lr x s).take n else s) (λi s=>s=cR n (a.filter (uy b)++(b.take i).filter (lC a))) (λs=>s) (s0:=cR n (a.filter (uy b))) (by simp) ?_ ?_ ?_
    ·rintro s i hi rfl;have e1:decide ((i:Int)<(b.length:Int))=true:=decide_eq_true (by omega);simp only [e1,cond_true,ck hi,qa0,xK ha,gG (i:=i) (show i<4000000000000000000 by omega),y9 (qa _ _) (len _) (show n<=1000 by omega)];rw [qb0 hi,List.filter_append, ←List.append_assoc];unfold FL;have hkB:lC a b[i]=match tG a b[i].1 with | none=>true | some n=>decide (b[i].2<(OJ a n).2):=rfl
     cases hp:tG a b[i].1 with
     | none=>
      rw [hp] at hkB;have e2:lC a b[i]=true:=hkB;simp [e2,pd, ←List.append_assoc]
     | some m=>
      rw [hp] at hkB;obtain ⟨hm,_⟩:=rN hp;have e3:decide ((m:Int)<0)=false:=decide_eq_false (by omega);simp only [e3,cond_false,ck hm,qa0];rw [←mZ hm];cases hc:decide (b[i].2<(OJ a m).2) with
      | true=>
       have e2:lC a b[i]=true:=by rw [hkB];exact hc
       simp [e2,pd, ←List.append_assoc]
      | false=>
       have e2:lC a b[i]=false:=by rw [hkB];exact hc
       simp [e2]
    ·intro s _;simp
    ·intro hs2;rw [hs2,qc8]
     rfl
end Go.Vs
namespace Go.Vs
end Go.Vs
namespace Go.Vs
theorem FN(x y:cK): ∃r,M.cZ (x.1,x.2) (y.1,y.2)=some r/\decide (0<=r)= !lj x y:=by
 obtain ⟨r,h1,h2,_⟩:=pZ x y;refine ⟨r,h1, ?_⟩;rw [←h2,Bool.eq_iff_iff];simp
end Go.Vs
namespace Go.Vs
theorem xL{l:List cK}{key:Int}(hl:l.length<=2000000):M.k8 l key=some (FL l key):=by
 unfold M.k8 M.bL FL tG;rw [BM (xs:=l) (λy=>y.1==key) (λi=>(i:Int)) ?_ ?_]
 ·cases l.findIdx? (λy=>y.1==key) <;> simp [bk]
 ·intro i hi;have e1:decide ((i:Int)<(l.length:Int))=true:=decide_eq_true (by omega);simp only [e1,cond_true,ck hi,qa0,M.jy,gG (i:=i) (by omega)];cases l[i].1==key <;> simp
 ·simp
theorem Ic{l:List cK}{key:Int}:decide (FL l key<0)=l.all λy=> !(y.1==key):=by
 unfold FL;cases h:tG l key with
 | none=>
  have:=za.1 h;rw [Bool.eq_iff_iff];simp only [qab,qbe,beq_eq_false_iff_ne,decide_eq_true_eq];exact ⟨λ_=>this,λ_=>by omega⟩
 | some i=>
  obtain ⟨hi,e⟩:=rN h;have h1:decide ((i:Int)<0)=false:=decide_eq_false (by omega);have h2:(l.all λy=> !(y.1==key))=false:=by
   rw [List.all_eq_false];exact ⟨l[i],qai hi,by simp [e]⟩
  rw [h2];exact h1
theorem Vo{l:List cK}{key:Int}:decide (0<=FL l key)= !(l.all λy=> !(y.1==key)):=by
 rw [←Ic,Bool.eq_iff_iff];simp
theorem zz(k:Int):M.gR k=some (decide (1<=k/\k<=99)):=by
 unfold M.gR;by_cases h1:1<=k
 ·by_cases h2:k<=99 <;> simp [h1,h2]
 ·simp [h1]
theorem Ac(h:cK):M.lG (h.1,h.2)=some (Xq h):=by
 unfold M.lG Xq;simp only [zz,qa0];by_cases h1:1<=h.1/\h.1<=99
 ·have e1:decide (1<=h.1/\h.1<=99)=true:=decide_eq_true h1;simp only [e1,cond_true,qbl];by_cases h2:0<=h.2
  ·simp [h2]
  ·simp [h2]
 ·have e1:decide (1<=h.1/\h.1<=99)=false:=decide_eq_false h1;simp only [e1,cond_false,Bool.false_and]
theorem DZ{l:List cK}(hl:l.length<=2000000):M.jc l=some (tF l):=by
 unfold M.jc;by_cases ZH:(16:Int)<(l.length:Int)
 ·have:tF l=false:=by
   unfold tF;rw [show decide (l.length<=16)=false from decide_eq_false (by omega),Bool.and_false]
  simp [ZH,this]
 simp only [ZH,decide_false,cond_false];have key: ∀i (h:i<(List.range l.length).length),xJ l (List.range l.length)[i]=xJ l i:=by intro i h;simp
 rw [rJ (xs:=List.range l.length) (P:=xJ l) (r:=false) ?_ ?_]
 ·unfold tF;rw [show decide (l.length<=16)=true from decide_eq_true (by omega),Bool.and_true];cases (List.range l.length).all (xJ l) <;> simp [bk]
 ·intro i h;have hi:i<l.length:=by simpa using h
  have e1:decide ((i:Int)<(l.length:Int))=true:=decide_eq_true (by omega);rw [key i h];have hgs:gV l 0 (i:Int)=some (l.take i):=by
   rw [mh (xs:=l) (show (0:Int)<=0 by omega) (show (0:Int)<=(i:Int) by omega) (by omega)];simp
  have htl:(l.take i).length<=2000000:=by rw [qaq];omega
  simp only [e1,cond_true,ck hi,qa0,Ac,hgs,xL htl,Vo,gG (i:=i) (show i<4000000000000000000 by omega)];unfold xJ;rw [mZ hi];cases hv:Xq l[i] with
  | false=>simp
  | true=>
   simp only [qah,cond_false,qbl];by_cases h0:i=0
   ·subst h0;simp
   ·have e2:decide ((0:Int)<(i:Int))=true:=decide_eq_true (by omega);have e3:an ((i:Int) - 1)=((i - 1:Nat):Int):=by rw [aT (by omega) (by omega)];omega
    have e4:decide (i=0)=false:=decide_eq_false h0;obtain ⟨r,hr1,hr2⟩:=FN l[i - 1] l[i];simp only [e2,e3,e4,cond_true,ck (show i - 1<l.length by omega),qa0,hr1,hr2,Bool.false_or,mZ (show i - 1<l.length by omega)];cases hn:lj l[i - 1] l[i] with
    | false=>simp
    | true=>
     simp only [qah,cond_false,qbl];cases (l.take i).all (λy=> !(y.1==l[i].1)) <;> simp
 ·simp
end Go.Vs
namespace Go.Vs
theorem Ie{l:List cK}(h:(l.map (·.1)).Nodup):l.Nodup:=List.Pairwise.of_map (·.1) (λa b h e=>h (congrArg _ e)) h
theorem key_inj{l:List cK}(h:(l.map (·.1)).Nodup){x y:cK}(hx:x∈l)(hy:y∈l)(e:x.1=y.1):x=y:=by
 obtain ⟨i,hi,rfl⟩:=qal.1 hx;obtain ⟨j,hj,rfl⟩:=qal.1 hy;have h1:=Ma h hi;rw [e,Ma h hj] at h1;cases qaf h1;rfl
end Go.Vs
namespace Go.Vs
theorem xM{α:Type}[DecidableEq α]: ∀{l m:List α},l.Nodup->(∀x∈l,x∈m)->l.length<=m.length
 | [],m,_,_=>qa8 _
 | x::t,m,hn,hs=>by
  obtain ⟨h1,h2⟩:=List.nodup_cons.1 hn;have hx:x∈m:=hs x (by simp);have:=xM (m:=m.erase x) h2 (λy hy=>(List.mem_erase_of_ne (by rintro rfl;exact h1 hy)).2 (hs y (by simp [hy])));rw [List.length_erase_of_mem hx] at this;have:0<m.length:=List.length_pos_of_mem hx;simp only [qb5];omega
theorem FO{x y:cK}(h:x≠y)(h2:lj y x=false):lj x y=true:=by
 cases h1:lj x y with
 | true=>rfl
 | false=>exact absurd (sK h1 h2) h
theorem xN{L:List cK}(hn:L.Nodup):(ik L).Pairwise (λx y=>lj x y=true):=by
 have h1:=(eO L).1;have h2:(ik L).Nodup:=(eO L).2.nodup_iff.2 hn;exact (List.Pairwise.and h2 h1).imp λh=>FO h.1 h.2
theorem vD{A:List cK}(h:A.Pairwise (λx y=>lj x y=true)){i:Nat}(hi:i<A.length):A.filter (λy=>lj y A[i])=A.take i:=by
 rw [qaw] at h;generalize hx:A[i]=x
 conv=>lhs;rw [←List.take_append_drop i A,List.filter_append]
 have e1:(A.take i).filter (λy=>lj y x)=A.take i:=by
  rw [List.filter_eq_self];intro y hy;obtain ⟨j,hj,rfl⟩:=qal.1 hy;rw [qaq] at hj;rw [qc9, ←hx];exact h j i (by omega) hi (by omega)
 have e2:(A.drop i).filter (λy=>lj y x)=[]:=by
  rw [List.filter_eq_nil_iff];intro y hy;obtain ⟨j,hj,rfl⟩:=qal.1 hy;rw [List.length_drop] at hj;rw [List.getElem_drop, ←hx];by_cases h0:j=0
  ·subst h0;simp [Vn]
  ·rw [Rx (h i (i+j) hi (by omega) (by omega))];simp
 rw [e1,e2,List.append_nil]
def D1(L:List cK)(x:cK):Nat:=(L.filter λy=>lj y x).length
theorem u0{k:Nat}{L:List cK}(hn:L.Nodup){x:cK}:x∈cR k L↔x∈L/\D1 L x<k:=by
 have hs:=xN hn;have hp:=(eO L).2;have hc:D1 L x=((ik L).filter λy=>lj y x).length:=(hp.filter _).length_eq.symm;unfold cR;rw [hc]
 constructor
 ·intro h;obtain ⟨i,hi,rfl⟩:=qal.1 h;rw [qaq] at hi;rw [qc9];refine ⟨hp.mem_iff.1 (qai (by omega)), ?_⟩;rw [vD hs (by omega),qaq];omega
 ·rintro ⟨h1,h2⟩;obtain ⟨i,hi,rfl⟩:=qal.1 (hp.mem_iff.2 h1);rw [vD hs hi,qaq] at h2;exact qal.2 ⟨i,by rw [qaq];omega,by simp⟩
theorem Vp{k:Nat}{L M:List cK}(hl:L.Nodup)(hm:M.Nodup)(h: ∀x,x∈cR k L↔x∈cR k M):cR k L=cR k M:=
 xH (qa _ _) (qa _ _) ((List.perm_ext_iff_of_nodup (sM hl) (sM hm)).2 h)
def Bst(S:List cK)(x:cK):Prop:=x∈S/\ ∀y∈S,y.1=x.1->x.2<=y.2
structure BL(S L:List cK):Prop where
 keys:(L.map (·.1)).Nodup
 mem: ∀x,x∈L↔Bst S x
theorem BL.nodup{S L:List cK}(h:BL S L):L.Nodup:=Ie h.keys
theorem KA: ∀{S:List cK} {y:cK},y∈S-> ∃z,Bst S z/\z.1=y.1
 | h::t,y,hy=>by
  by_cases hw: ∃w∈t,w.1=y.1
  ·obtain ⟨w,hw,e⟩:=hw;obtain ⟨z,⟨hz,hz2⟩,ez⟩:=KA hw;by_cases hh:h.1=y.1/\h.2<z.2
   ·refine ⟨h,⟨by simp, ?_⟩,hh.1⟩;intro u hu eu;rcases qa9.1 hu with rfl | hu
    ·exact Int.le_refl _
    ·have:=hz2 u hu (by rw [eu,hh.1,ez,e]);omega
   ·refine ⟨z,⟨by simp [hz], ?_⟩,by rw [ez,e]⟩;intro u hu eu;rcases qa9.1 hu with rfl | hu
    ·have: ¬u.2<z.2:=λbG=>hh ⟨by rw [eu,ez,e],bG⟩;omega
    ·exact hz2 u hu eu
  ·rcases qa9.1 hy with rfl | hy
   ·refine ⟨y,⟨by simp, ?_⟩,rfl⟩;intro u hu eu;rcases qa9.1 hu with rfl | hu
    ·exact Int.le_refl _
    ·exact absurd ⟨u,hu,eu⟩ hw
   ·exact absurd ⟨y,hy,rfl⟩ hw
theorem FP{S S' L L':List cK}(h:BL S L)(h':BL S' L')(hs: ∀x∈S,x∈S')(x:cK):D1 L x<=D1 L' x:=by
 unfold D1;have:=xM (l:=(L.filter λy=>lj y x).map (·.1)) (m:=(L'.filter λy=>lj y x).map (·.1)) (h.keys.sublist (qba.map _)) ?_
 ·simpa using this
 ·intro k hk;obtain ⟨y,hy,rfl⟩:=qcd.1 hk;obtain ⟨hy,bG⟩:=qb8.1 hy;have hyS:=((h.mem y).1 hy).1;obtain ⟨z,hz,ez⟩:=KA (hs y hyS);refine qcd.2 ⟨z,qb8.2 ⟨(h'.mem z).2 hz, ?_⟩,ez⟩;have hle:=hz.2 y (hs y hyS) ez.symm;simp only [sJ] at bG ⊢;rcases bG with bG | ⟨h1,h2⟩
  ·left;omega
  ·rcases Int.lt_or_eq_of_le hle with h3 | h3
   ·left;omega
   ·right;exact ⟨by omega,by omega⟩
theorem Mb{S C L M N:List cK}{k:Nat}(hL:BL S L)(hM:BL (cR k L++C) M)(hN:BL (S++C) N):cR k M=cR k N:=by
 have hnL:=hL.nodup;have hT:BL (cR k L) (cR k L):=by
  have hk:((cR k L).map (·.1)).Nodup:=by
   unfold cR;have:=((eO L).2.map (·.1)).nodup_iff.2 hL.keys;exact this.sublist ((List.take_sublist _ _).map _)
  refine ⟨hk,λx=>⟨λhx=>⟨hx,λy hy e=> ?_⟩,λh=>h.1⟩⟩;rw [key_inj hk hy hx e];exact Int.le_refl _
 have hTS: ∀x∈cR k L,x∈S:=λx hx=>((hL.mem x).1 (BV _ _ x hx)).1;have hTC: ∀x∈cR k L++C,x∈S++C:=λx hx=>by
  rcases qag.1 hx with h | h
  ·exact qag.2 (.inl (hTS x h))
  ·exact qag.2 (.inr h)
 have fwd: ∀x,x∈N->D1 N x<k->x∈M/\D1 M x<k:=by
  intro x hx hc;have hb:=(hN.mem x).1 hx;have ql:x∈cR k L++C:=by
   rcases qag.1 hb.1 with h | h
   ·have hxL:x∈L:=(hL.mem x).2 ⟨h,λy hy=>hb.2 y (qag.2 (.inl hy))⟩;have:=FP hL hN (λz hz=>qag.2 (.inl hz)) x;exact qag.2 (.inl ((u0 hnL).2 ⟨hxL,by omega⟩))
   ·exact qag.2 (.inr h)
  refine ⟨(hM.mem x).2 ⟨ql,λy hy=>hb.2 y (hTC y hy)⟩, ?_⟩;have:=FP hM hN hTC x;omega
 refine Vp hM.nodup hN.nodup λx=> ?_;rw [u0 hM.nodup,u0 hN.nodup]
 constructor
 rotate_left
 ·rintro ⟨h1,h2⟩;exact fwd x h1 h2
 rintro ⟨hx,hc⟩;have hb:=(hM.mem x).1 hx;have hxN:x∈N:=by
  refine (hN.mem x).2 ⟨hTC x hb.1,λy hy e=> ?_⟩;rcases qag.1 hy with h | h
  ·obtain ⟨z,hz,ez⟩:=KA h;have hzy:=hz.2 y h ez.symm;by_cases bG:y.2<x.2
   ·exfalso;have hzL:=(hL.mem z).2 hz;have hzT:z∉cR k L:=λhzT=>by
     have:=hb.2 z (qag.2 (.inl hzT)) (by rw [ez,e]);omega
    have hck:k<=D1 L z:=by
     apply Nat.le_of_not_lt;intro h';exact hzT ((u0 hnL).2 ⟨hzL,h'⟩)
    have hlen:(cR k L).length=k:=by
     rw [kO];have:D1 L z<=L.length:=List.length_filter_le _ _;omega
    have lS: ∀t∈cR k L,lj t x=true:=by
     intro t ht;obtain ⟨htL,htc⟩:=(u0 hnL).1 ht;have j0:t≠z:=by rintro rfl;exact hzT ht
     have htz:lj t z=true:=by
      cases h1:lj t z with
      | true=>rfl
      | false=>
       exfalso;have h2:lj z t=true:=FO (qbo j0) h1;have:D1 L z<=D1 L t:=by
        unfold D1;refine xM (hnL.sublist qba) λu hu=> ?_;obtain ⟨rT,hu2⟩:=qb8.1 hu;exact qb8.2 ⟨rT,uZ hu2 h2⟩
       omega
     refine uZ htz (sJ.2 (.inl (by omega)))
    have h3:D1 (cR k L) x=k:=by
     unfold D1;rw [List.filter_eq_self.2 lS,hlen]
    have:=FP hT hM (λz hz=>qag.2 (.inl hz)) x;omega
   ·omega
  ·exact hb.2 y (qag.2 (.inr h)) e
 refine ⟨hxN, ?_⟩;apply Nat.lt_of_not_le;intro hk;have hlen:(cR k N).length=k:=by
  rw [kO];have:D1 N x<=N.length:=List.length_filter_le _ _;omega
 have:(cR k N).length<=D1 M x:=by
  unfold D1;refine xM (sM hN.nodup) λu hu=> ?_;obtain ⟨rT,hu2⟩:=(u0 hN.nodup).1 hu;refine qb8.2 ⟨(fwd u rT hu2).1, ?_⟩;cases h1:lj u x with
  | true=>rfl
  | false=>
   exfalso;have hcx:D1 N x<=D1 N u:=by
    unfold D1;refine xM (hN.nodup.sublist qba) λw hw=> ?_;obtain ⟨zl,tK⟩:=qb8.1 hw;refine qb8.2 ⟨zl, ?_⟩;by_cases X7:x=u
    ·rw [←X7];exact tK
    ·exact uZ tK (FO X7 h1)
   omega
 omega
theorem D2{b:List cK}(hn:(b.map (·.1)).Nodup){x:cK}:uy b x=true↔ ∀y∈b,y.1=x.1->x.2<=y.2:=by
 unfold uy;cases h:tG b x.1 with
 | none=>simp only [true_iff];exact λy hy e=>absurd e (za.1 h y hy)
 | some i=>
  obtain ⟨hi,e⟩:=rN h;simp only [decide_eq_true_eq,mZ hi]
  constructor
  ·intro hle y hy ey;rw [key_inj hn hy (qai hi) (by rw [ey,e])];exact hle
  ·intro hh;exact hh _ (qai hi) e
theorem D3{b:List cK}(hn:(b.map (·.1)).Nodup){x:cK}:lC b x=true↔ ∀y∈b,y.1=x.1->x.2<y.2:=by
 unfold lC;cases h:tG b x.1 with
 | none=>simp only [true_iff];exact λy hy e=>absurd e (za.1 h y hy)
 | some i=>
  obtain ⟨hi,e⟩:=rN h;simp only [decide_eq_true_eq,mZ hi]
  constructor
  ·intro hle y hy ey;rw [key_inj hn hy (qai hi) (by rw [ey,e])];exact hle
  ·intro hh;exact hh _ (qai hi) e
theorem RD{a b:List cK}(ha:(a.map (·.1)).Nodup)(hb:(b.map (·.1)).Nodup):BL (a++b) (ZP a b):=by
 constructor
 ·unfold ZP;rw [qc2,List.nodup_append];refine ⟨ha.sublist (qba.map _),hb.sublist (qba.map _), ?_⟩;intro p hp q hq e;obtain ⟨x,hx,rfl⟩:=qcd.1 hp;obtain ⟨y,hy,rfl⟩:=qcd.1 hq;obtain ⟨hx1,ql⟩:=qb8.1 hx;obtain ⟨hy1,hy2⟩:=qb8.1 hy;have h1:=(D2 hb).1 ql y hy1 e.symm;have h2:=(D3 ha).1 hy2 x hx1 e;omega
 ·intro x;unfold ZP Bst;rw [qag,qb8,qb8,D2 hb,D3 ha,qag]
  constructor
  ·rintro (⟨h1,h2⟩ | ⟨h1,h2⟩)
   ·refine ⟨.inl h1,λy hy e=> ?_⟩;rcases qag.1 hy with h | h
    ·rw [key_inj ha h h1 e];exact Int.le_refl _
    ·exact h2 y h e
   ·refine ⟨.inr h1,λy hy e=> ?_⟩;rcases qag.1 hy with h | h
    ·exact Int.le_of_lt (h2 y h e)
    ·rw [key_inj hb h h1 e];exact Int.le_refl _
  ·rintro ⟨h1,h2⟩;by_cases Jv:x∈a
   ·exact .inl ⟨Jv,λy hy=>h2 y (qag.2 (.inr hy))⟩
   ·have hxb:x∈b:=h1.resolve_left Jv;refine .inr ⟨hxb,λy hy e=> ?_⟩;have hle:=h2 y (qag.2 (.inl hy)) e;rcases Int.lt_or_eq_of_le hle with h | h
    ·exact h
    ·exact absurd (show x∈a by rw [show x=y from Prod.ext e.symm h];exact hy) Jv
theorem BL.same{S S' L L':List cK}{k:Nat}(h:BL S L)(h':BL S' L')(hs: ∀x,x∈S↔x∈S'):cR k L=cR k L':=by
 refine uY ((List.perm_ext_iff_of_nodup h.nodup h'.nodup).2 λx=> ?_);rw [h.mem,h'.mem];unfold Bst
 constructor
 ·rintro ⟨h1,h2⟩;exact ⟨(hs x).1 h1,λy hy=>h2 y ((hs y).2 hy)⟩
 ·rintro ⟨h1,h2⟩;exact ⟨(hs x).2 h1,λy hy=>h2 y ((hs y).1 hy)⟩
theorem RE{L:List cK}{k:Nat}(hk:k<=16)(h1: ∀x∈L,Xq x=true)(h2:(L.map (·.1)).Nodup):tF (cR k L)=true:=by
 have hn:=Ie h2;refine qd.2 ⟨λx hx=>h1 x (BV _ _ x hx),(xN hn).sublist (List.take_sublist _ _), ?_,by rw [kO];omega⟩;have:=((eO L).2.map (·.1)).nodup_iff.2 h2;exact this.sublist ((List.take_sublist _ _).map _)
end Go.Vs
namespace Go.Vs
theorem FR{n:Nat}(hn:n<=1000000):M.di [] (n:Int)=some []:=by
 unfold M.di;have e0:decide ((n:Int)<0)=false:=decide_eq_false (by omega);have e1:an ((n:Int) - an ((([]:List cK).length:Int) - (([]:List cK).length:Int)))=(n:Int):=by
  have:an ((([]:List cK).length:Int) - (([]:List cK).length:Int))=0:=by decide
  rw [this,aT (by omega) (by omega)];omega
 have g0:gV ([]:List cK) 0 (([]:List cK).length:Int)=some []:=by
  rw [mh (by omega) (by simp) (by simp)];rfl
 simp only [e0,cond_false,e1];by_cases h:0<n
 ·have e2:decide (0<(n:Int))=true:=decide_eq_true (by omega);have g1:DK ([]:List cK) (n:Int) (0,0)=some (List.replicate n (0,0)):=by
   unfold DK;rw [if_pos ⟨by omega,by simp;omega⟩];simp
  have g2:gV (List.replicate n ((0,0):cK)) 0 (([]:List cK).length:Int)=some []:=by
   rw [mh (by omega) (by simp) (by simp)];simp
  simp only [e2,cond_true,g0,qa0,g1,g2]
 ·have e2:decide (0<(n:Int))=false:=decide_eq_false (by omega);simp only [e2,cond_false,qa0]
theorem CX{a b:List cK}(ha:a.length<=100000)(hb:b.length<=100000):M.cS [a,b]=some (a++b):=by
 unfold M.cS;have c0:decide ((0:Int)<(([a,b]:List (List cK)).length:Int))=true:=rfl;have c1:decide ((1:Int)<(([a,b]:List (List cK)).length:Int))=true:=rfl;have c2:decide ((2:Int)<(([a,b]:List (List cK)).length:Int))=false:=rfl;have i0:bz ([a,b]:List (List cK)) 0=some a:=rfl;have i1:bz ([a,b]:List (List cK)) 1=some b:=rfl;have w0:an ((0:Int)+1)=1:=rfl;have w1:an ((1:Int)+1)=2:=rfl;have s0:an ((0:Int)+(a.length:Int))=(a.length:Int):=by rw [aT (by omega) (by omega)];omega
 have s1:an ((a.length:Int)+(b.length:Int))=((a.length+b.length:Nat):Int):=by rw [aT (by omega) (by omega)];omega
 have n0:decide ((a.length:Int)<0)=false:=decide_eq_false (by omega);have n1:decide (((a.length+b.length:Nat):Int)<0)=false:=decide_eq_false (by omega);rw [bm];simp only [c0,cond_true,i0,qa0,s0,n0,cond_false,w0,bk];rw [bm];simp only [c1,cond_true,i1,qa0,s1,n1,cond_false,w1,bk];rw [bm];simp only [c2,cond_false,qa0,bk,FR (show a.length+b.length<=1000000 by omega)];rw [bm];simp only [c0,cond_true,i0,qa0,iW (show ([]:List cK).length+a.length<=2147483648 by simp;omega),w0,qb7,bk];rw [bm];simp only [c1,cond_true,i1,qa0,iW (show a.length+b.length<=2147483648 by omega),w1,bk];rw [bm];simp only [c2,cond_false,qa0,bk]
theorem FT{l:List cK}(hl:l.length<=1000000):M.aZ l=some (ik l):=by
 unfold M.aZ;obtain ⟨d',h1,h2,h3⟩:=Hc (cmp:=FF) (lt:=lj) (xs:=l) (by omega) (λx _ y _=>BT x y trivial trivial) (λx _=>pY.irrefl x trivial) (λx _ y _ z _=>pY.trans x y z trivial trivial trivial) (λx _ y _=>pY.total x y trivial trivial);rw [wo h3 h2];exact h1
def NZ(s:List cK)(x:cK):List cK:=if s.all (λy=> !(y.1==x.1))=true then s++[x] else s
def Xr(L:List cK):List cK:=L.foldl NZ []
structure Vq(P s:List cK):Prop where
 sub:s.Sublist P
 keys:(s.map (·.1)).Nodup
 all: ∀y∈P, ∃z∈s,z.1=y.1/\z.2<=y.2
theorem Vq.nil:Vq [] []:=⟨List.Sublist.refl _,by simp,by simp⟩
theorem Vq.snoc{P s:List cK}{x:cK}(h:Vq P s)(hx: ∀y∈P,lj x y=false):Vq (P++[x]) (NZ s x):=by
 unfold NZ;by_cases hc:s.all (λy=> !(y.1==x.1))=true
 ·rw [if_pos hc];simp only [qab,qbe,beq_eq_false_iff_ne] at hc;refine ⟨List.Sublist.append h.sub (List.Sublist.refl _), ?_, ?_⟩
  ·rw [qc2,List.nodup_append];refine ⟨h.keys,by simp, ?_⟩;intro k hk k' qM e;obtain ⟨y,hy,rfl⟩:=qcd.1 hk;simp only [qb2,qbs,qbc] at qM;exact hc y hy (e.trans qM)
  ·intro y hy;rcases qag.1 hy with hy | hy
   ·obtain ⟨z,hz,h1,h2⟩:=h.all y hy;exact ⟨z,by simp [hz],h1,h2⟩
   ·rw [qbc.1 hy];exact ⟨x,by simp,rfl,Int.le_refl _⟩
 ·rw [if_neg hc];refine ⟨h.sub.trans (List.sublist_append_left _ _),h.keys, ?_⟩;intro y hy;rcases qag.1 hy with hy | hy
  ·exact h.all y hy
  ·rw [qbc.1 hy];simp only [qab,qbe,beq_eq_false_iff_ne] at hc;have: ∃z∈s,z.1=x.1:=qa7 λhn=>hc λz hz e=>hn ⟨z,hz,e⟩;obtain ⟨z,hz,e⟩:=this;refine ⟨z,hz,e, ?_⟩;have:=uX.1 (hx z (h.sub.subset hz));omega
theorem Ig: ∀{Q P s:List cK},Vq P s->(P++Q).Pairwise (λx y=>lj y x=false)->Vq (P++Q) (Q.foldl NZ s)
 | [],P,s,h,_=>by simpa using h
 | x::Q,P,s,h,hp=>by
  have e:P++x::Q=(P++[x])++Q:=by simp
  rw [e] at hp ⊢;rw [List.foldl_cons];refine Ig (h.snoc ?_) hp;intro y hy;have:=(List.pairwise_append.1 ((List.pairwise_append.1 hp).1)).2.2 y hy x (by simp);exact this
theorem ZQ{S:List cK}:BL S (Xr (ik S))/\xG (Xr (ik S)):=by
 obtain ⟨h1,h2⟩:=eO S;have h:=Ig (Q:=ik S) Vq.nil (by rw [qb7];exact h1);rw [qb7] at h;change Vq (ik S) (Xr (ik S)) at h;refine ⟨⟨h.keys,λx=>⟨λhx=> ?_,λhx=> ?_⟩⟩,h1.sublist h.sub⟩
 ·refine ⟨h2.mem_iff.1 (h.sub.subset hx),λy hy e=> ?_⟩;obtain ⟨z,hz,e1,e2⟩:=h.all y (h2.mem_iff.2 hy);have:z=x:=key_inj h.keys hz hx (e1.trans e);rw [←this];exact e2
 ·obtain ⟨z,hz,e1,e2⟩:=h.all x (h2.mem_iff.2 hx.1);have h3:=hx.2 z (h2.mem_iff.1 (h.sub.subset hz)) e1;have:z=x:=Prod.ext e1 (by omega);rw [←this];exact hz
theorem Vr{a b:List cK}{k:Nat}(ha:(a.map (·.1)).Nodup)(hb:(b.map (·.1)).Nodup):(Xr (ik (a++b))).take k=cR k (ZP a b):=by
 obtain ⟨h1,h2⟩:=ZQ (S:=a++b);have h3:=RD ha hb;rw [←h1.same (k:=k) h3 (λx=>Iff.rfl)];unfold cR;rw [wo h2 (List.Perm.refl _)]
theorem CY{a b:List cK}(ha:a.length<=100000)(hb:b.length<=100000):M.jL a b=some (Xr (ik (a++b))):=by
 unfold M.jL;have hl:(ik (a++b)).length<=200000:=by rw [DX];simp;omega
 simp only [CX ha hb,qa0,FT (show (a++b).length<=1000000 by simp;omega)];generalize ik (a++b)=L at hl;refine mj (xs:=L) (fun (s:List cK) i=>(s,i)) NZ (λi s=>s.length<=i) (λs=>s) (s0:=[]) (by simp) ?_ ?_ ?_
 ·intro s i hi hs;have e1:decide ((i:Int)<(L.length:Int))=true:=decide_eq_true (by omega);simp only [e1,cond_true,ck hi,qa0,xL (show s.length<=2000000 by omega),Ic,gG (i:=i) (show i<4000000000000000000 by omega)];unfold NZ;by_cases hc:s.all (λy=> !(y.1==L[i].1))=true
  ·rw [hc,if_pos rfl];simp only [cond_true,iW (show s.length+[(L[i].1,L[i].2)].length<=2147483648 by simp;omega),qa0,true_and];simp;omega
  ·rw [if_neg hc,qbd] at*;rw [hc];simp only [cond_false,qa0,true_and];omega
 ·intro s _;simp
 ·intro _;rfl
theorem FU{a b:List cK}{k:Int}(ha:a.length<=2000000)(hb:b.length<=2000000):M.jd a b k=some (BX a b k):=by
 unfold M.jd BX;simp only [DZ (show a.length<=2000000 by omega),DZ (show b.length<=2000000 by omega),Ia,qa0];cases hoa:tF a with
 | false=>simp
 | true=>
  cases hob:tF b with
  | false=>simp
  | true=>
   by_cases hk:1<=k/\k<=16
   rotate_left
   ·have:=decide_eq_false hk;simp [this,hk]
   have hd:=decide_eq_true hk;obtain ⟨n,rfl⟩:=qax (show 0<=k by omega);have hm:min (n:Int) ((Xr (ik (a++b))).length:Int)=((min n (Xr (ik (a++b))).length:Nat):Int):=by omega
   have hal:=(qd.1 hoa).2.2.2;have hbl:=(qd.1 hob).2.2.2;simp only [hd,qah,cond_false,qa0,true_and,CY (show a.length<=100000 by omega) (show b.length<=100000 by omega),hm];rw [if_pos hk,qay, ←Vr (qd.1 hoa).2.2.1 (qd.1 hob).2.2.1];rw [mh (by omega) (by omega) (by omega)];simp only [qa0,qay,Int.toNat_zero,List.drop_zero];congr 1;rcases Nat.le_total n (Xr (ik (a++b))).length with h | h
   ·rw [Nat.min_eq_left h]
   ·rw [Nat.min_eq_right h,qc8,qbv h]
end Go.Vs
namespace Go.Vs
theorem RF{a b:List cK}{k:Int}:(BX a b k).length<=16:=by
 unfold BX;split
 ·rename_i h;rw [kO];omega
 ·simp
theorem Vt{a b:List cK}{k:Nat}(ha:tF a=true)(hb:tF b=true)(h1:1<=k)(h2:k<=16):BX a b (k:Int)=cR k (ZP a b):=by
 unfold BX;rw [if_pos ⟨ha,hb,by omega,by omega⟩,qay]
end Go.Vs
namespace Go.Vs
theorem zA{l:List Item}{kind:Int}{v:List Int}:(bY l kind v).map (·.1)=l.map (·.1):=by
 unfold bY;rw [List.map_map];rfl
theorem Ih{l:List Item}(h:l.Pairwise (λx y=>x.1<y.1)):(l.map (·.1)).Nodup:=by
 unfold List.Nodup;rw [List.pairwise_map];exact h.imp λh=>by omega
theorem BL.self{S:List cK}(h:(S.map (·.1)).Nodup):BL S S:=⟨h,λx=>⟨λhx=>⟨hx,λy hy e=>by rw [key_inj h hy hx e];exact Int.le_refl _⟩,λh=>h.1⟩⟩
theorem D4{L:List cK}{k:Nat}(h:(L.map (·.1)).Nodup):((cR k L).map (·.1)).Nodup:=by
 unfold cR;have:=((eO L).2.map (·.1)).nodup_iff.2 h;exact this.sublist ((List.take_sublist _ _).map _)
theorem N0{A B:List cK}{k:Nat}(h:((A++B).map (·.1)).Nodup):cR k (ZP (cR k A) (cR k B))=cR k (A++B):=by
 have hA:(A.map (·.1)).Nodup:=h.sublist ((List.sublist_append_left A B).map _);have hB:(B.map (·.1)).Nodup:=h.sublist ((List.sublist_append_right A B).map _);have tA:=D4 (k:=k) hA;have tB:=D4 (k:=k) hB;have hAB:=List.nodup_append.1 (by rw [qc2] at h;exact h);have hd:((A++cR k B).map (·.1)).Nodup:=by
  rw [qc2,List.nodup_append];refine ⟨hA,tB,λa ha b hb=>hAB.2.2 a ha b ?_⟩;obtain ⟨x,hx,rfl⟩:=qcd.1 hb;exact qcd.2 ⟨x,BV _ _ x hx,rfl⟩
 have e1:=Mb (k:=k) (BL.self hA) (RD tA tB) (BL.self hd);rw [e1];have hd2:((cR k B++A).map (·.1)).Nodup:=((qc1 (l₁:=A) (l₂:=cR k B)).map (·.1)).nodup_iff.1 hd;have hd3:((B++A).map (·.1)).Nodup:=((qc1 (l₁:=A) (l₂:=B)).map (·.1)).nodup_iff.1 h;have e2:=Mb (k:=k) (BL.self hB) (BL.self hd2) (BL.self hd3);rw [uY (qc1 (l₁:=A) (l₂:=cR k B)),e2];exact uY qc1
theorem vE(l m:List Item)(kind:Int)(v:List Int):bY (l++m) kind v=bY l kind v++bY m kind v:=by unfold bY;rw [qc2]
end Go.Vs
namespace Go.Vs
end Go.Vs
namespace Go.Vs
theorem D5{L:List Item}{kind:Int}{v:List Int}{k:Nat}(hk:k<=16)(qH:isKind kind=true)(hv:fe v=true)(h1: ∀x∈L,ig x=true)(h2:(L.map (·.1)).Nodup):tF (cR k (bY L kind v))=true:=by
 refine RE hk ?_ (by rw [zA];exact h2);intro x hx;obtain ⟨y,hy,rfl⟩:=Kz.1 hx;obtain ⟨q1,q2,_⟩:=kN.1 (h1 y hy);have:=Kt qH q2 hv;unfold Xq;simp only [qa4,decide_eq_true_eq];omega
end Go.Vs
namespace Go.Vs
def KB(k s:Int):Int:=389*k % 1009*s / 1009
theorem rO{k s:Int}(h:1<=s):0<=KB k s/\KB k s<s:=by
 unfold KB;have h1:0<=389*k % 1009:=Int.emod_nonneg _ (by omega);have h2:389*k % 1009<1009:=Int.emod_lt_of_pos _ (by omega);refine ⟨Int.ediv_nonneg (Int.mul_nonneg h1 (by omega)) (by omega), ?_⟩;rw [Int.ediv_lt_iff_lt_mul (by omega),Int.mul_comm s 1009];exact Int.mul_lt_mul_of_pos_right h2 (by omega)
def Ct(l:List Item)(s n:Int):List Item:=l.filter λx=>KB x.1 s==n
theorem AA{l:List Item}{s n:Int}:(Ct l s n).Sublist l:=qba
def jD(l:List Item)(s n:Int):List Item:=l.filter λx=>decide (KB x.1 s<n)
theorem zC{l:List Item}{s:Int}(h:1<=s):jD l s 0=[]:=by
 unfold jD;rw [List.filter_eq_nil_iff];intro x _;have:=(rO (k:=x.1) h).1;simp;omega
theorem KC{l:List Item}{s:Int}(h:1<=s):jD l s s=l:=by
 unfold jD;rw [List.filter_eq_self];intro x _;have:=(rO (k:=x.1) h).2;simpa using this
theorem zD(l:List Item)(s n:Int):(jD l s n++Ct l s n).Perm (jD l s (n+1)):=by
 have:=BW (λx:Item=>decide (KB x.1 s<n)) (λx=>KB x.1 s==n) l (λx _ h=>by simp at h ⊢;omega);refine this.trans (List.Perm.of_eq ?_);unfold jD;refine List.filter_congr λx _=> ?_;rw [Bool.eq_iff_iff];simp;omega
theorem Ii{l m:List Item}{kind:Int}{v:List Int}(h:l.Perm m):(bY l kind v).Perm (bY m kind v):=h.map _
theorem BY{l:List Item}{kind:Int}{v:List Int}{k:Nat}{s n:Int}(hq:fj l kind v=true)(h1:1<=k)(h2:k<=16):
  BX (cR k (bY (jD l s n) kind v)) (cR k (bY (Ct l s n) kind v)) (k:Int)=cR k (bY (jD l s (n+1)) kind v):=by
 obtain ⟨ho,qH,hv⟩:=jo.1 hq;obtain ⟨_,hit,hp⟩:=dT.1 ho;have sA:(jD l s n).Sublist l:=qba;have sB:(Ct l s n).Sublist l:=qba;have kn: ∀m:List Item,m.Sublist l->(m.map (·.1)).Nodup:=λm hm=>(Ih hp).sublist (hm.map _);have oA:=D5 (k:=k) h2 qH hv (λx hx=>hit x (sA.subset hx)) (kn _ sA);have oB:=D5 (k:=k) h2 qH hv (λx hx=>hit x (sB.subset hx)) (kn _ sB);have Qp:=Ii (kind:=kind) (v:=v) (zD l s n);have hn:((bY (jD l s n) kind v++bY (Ct l s n) kind v).map (·.1)).Nodup:=by
  rw [←vE,zA];exact ((zD l s n).map (·.1)).nodup_iff.2 (kn _ qba)
 rw [Vt oA oB h1 h2,N0 hn, ←vE];exact uY Qp
def u5(l:List Item)(s:Nat)(kind:Int)(v:List Int)(k:Nat)(n:Nat):List cK:=(List.range n).foldl (fun (out:List cK) (i:Nat)=>BX out (cR k (bY (Ct l (s:Int) (i:Int)) kind v)) (k:Int)) []
theorem BZ{l:List Item}{kind:Int}{v:List Int}{k s:Nat}(hq:fj l kind v=true)(h1:1<=k)(h2:k<=16)(hs:1<=s):u5 l s kind v k s=cR k (bY l kind v):=by
 have key: ∀n:Nat,u5 l s kind v k n=cR k (bY (jD l s n) kind v):=by
  intro n
  induction n with
  | zero=>
   have:=zC (l:=l) (s:=(s:Int)) (by omega);unfold u5;rw [Int.natCast_zero,this];simp [bY,cR,ik]
  | succ n ih=>
   have:=BY (s:=(s:Int)) (n:=(n:Int)) hq h1 h2;unfold u5 at ih ⊢;rw [List.range_succ,List.foldl_append,ih,List.foldl_cons,List.foldl_nil,this]
   rfl
 rw [key,KC (by omega)]
end Go.Vs
namespace Go.Vs
end Go.Vs
namespace Go.Vs
theorem B1{k s:Int}(hk:1<=k/\k<=99)(hs:1<=s/\s<=8):M.kZ k s=some (KB k s):=by
 unfold M.kZ;have h1:0<=389*k % 1009:=Int.emod_nonneg _ (by omega);have h2:389*k % 1009<1009:=Int.emod_lt_of_pos _ (by omega);have e1:an (389*k)=389*k:=aT (by omega) (by omega);have e2:(389*k).tmod 1009=389*k % 1009:=Int.tmod_eq_emod_of_nonneg (by omega);have h3:0<=389*k % 1009*s:=Int.mul_nonneg h1 (by omega);have h4:389*k % 1009*s<=1009*8:=Int.mul_le_mul (by omega) hs.2 (by omega) (by omega);have e3:an (389*k % 1009*s)=389*k % 1009*s:=aT (by omega) (by omega);have e4:(389*k % 1009*s).tdiv 1009=389*k % 1009*s / 1009:=Int.tdiv_eq_ediv_of_nonneg h3;have hr:=rO (k:=k) hs.1;rw [e1,e2,e3,e4];unfold KB at*;rw [aT (by omega) (by omega)]
def shV(k s:Int):Int:=if (1<=k/\k<=99)/\1<=s/\s<=8 then KB k s else -1
theorem KD(k s:Int):M.mP k s=some (shV k s):=by
 unfold M.mP M.ef shV;simp only [zz,qa0];by_cases hk:1<=k/\k<=99
 rotate_left
 ·rw [if_neg λh=>hk h.1];simp [decide_eq_false hk]
 by_cases hs:1<=s/\s<=8
 rotate_left
 ·rw [if_neg λh=>hs h.2];by_cases h1:1<=s
  ·have: ¬s<=8:=λh=>hs ⟨h1,h⟩;simp [decide_eq_true hk,h1,this]
  ·simp [decide_eq_true hk,h1]
 rw [if_pos ⟨hk,hs⟩];have h:=B1 hk hs;unfold M.kZ at h;simp only [decide_eq_true hk,decide_eq_true hs.1,decide_eq_true hs.2,qah,cond_true,cond_false,qa0];exact h
theorem CZ{k:Nat}(hk:k<=500000){r:List UInt8×Int}(hr:Good k r): ∃x r',M.jJ (r.1,r.2)=some (x,(r'.1,r'.2))/\Good (k+1) r'/\0<=x/\x<=9:=by
 obtain ⟨x,r1,h1,g1,m1⟩:=uv (by omega) hr (list:=[1,2,3,4,8,0,9,5]) (by simp);refine ⟨x,r1,by unfold M.jJ;simp only [h1,qa0],g1, ?_⟩;simp only [qa9,qao,or_false] at m1;omega
theorem D6{l:List Item}(h:cW l=true){x:Item}(hx:x∈l):1<=x.1/\x.1<=99:=(kN.1 ((dT.1 h).2.1 x hx)).1
theorem KE{l:List Item}{s n:Int}(h:cW l=true)(hs:1<=s/\s<=8):M.jK l s n=some (Ct l s n):=by
 unfold M.jK;obtain ⟨hlen,hit,_⟩:=dT.1 h;refine mj (xs:=l) (fun (s:List Item) i=>(s,i)) (λt x=>if (KB x.1 s==n)=true then t++[x] else t) (λi t=>t.length<=i) (λt=>t) (s0:=[]) (by simp) ?_ ?_ ?_
 ·intro t i hi ht;have e1:decide ((i:Int)<(l.length:Int))=true:=decide_eq_true (by omega);have hx:=qai hi;have h4:=pX (hit _ hx);simp only [e1,cond_true,ck hi,qa0,B1 (D6 h hx) hs,nK (show l[i].2.1.length<=1000000 by omega),gG (i:=i) (by omega)];cases (KB l[i].1 s==n) with
  | true=>
   simp only [cond_true,if_true];rw [iW (by simp;omega)];exact ⟨rfl,by simp;omega⟩
  | false=>exact ⟨by simp,by simpa using Nat.le_succ_of_le ht⟩
 ·intro t _;simp
 ·intro _;rw [foldl_filter];rfl
def ZR(l:List Item)(s n:Int):List Item:=if cW l=true/\1<=s/\s<=8 then Ct l s n else []
theorem Vu{l:List Item}{s n:Int}(h:cW l=true)(hs:1<=s/\s<=8):ZR l s n=Ct l s n:=if_pos ⟨h,hs⟩
theorem Ij{l:List Item}{s n:Int}(h:cW l=true)(hs:1<=s/\s<=8):M.cJ l s n=some (Ct l s n):=by
 unfold M.cJ M.fK;obtain ⟨hlen,hit,_⟩:=dT.1 h;refine mj (xs:=l) (fun (s:List Item) i=>(s,i)) (λt x=>if (KB x.1 s==n)=true then t++[x] else t) (λi t=>t.length<=i) (λt=>t) (s0:=[]) (by simp) ?_ ?_ ?_
 ·intro t i hi ht;have e1:decide ((i:Int)<(l.length:Int))=true:=decide_eq_true (by omega);have hx:=qai hi;have hV:shV l[i].1 s=KB l[i].1 s:=if_pos ⟨D6 h hx,hs⟩;simp only [e1,cond_true,ck hi,qa0,KD,hV,gG (i:=i) (by omega)];cases (KB l[i].1 s==n) with
  | true=>
   simp only [cond_true,if_true];rw [iW (by simp;omega)];exact ⟨rfl,by simp;omega⟩
  | false=>exact ⟨by simp,by simpa using Nat.le_succ_of_le ht⟩
 ·intro t _;simp
 ·intro _;rw [foldl_filter];rfl
theorem B2(s:Int):M.ef s=some (decide (1<=s/\s<=8)):=by
 unfold M.ef;by_cases h1:1<=s <;> by_cases h2:s<=8 <;> simp [h1,h2]
theorem Ik{l:List Item}{s n:Int}(sl:im l):M.fD l s n=some (ZR l s n):=by
 unfold M.fD ZR;simp only [sl.impl,B2,qa0];cases ho:cW l with
 | false=>simp
 | true=>
  by_cases hs:1<=s/\s<=8
  ·rw [if_pos ⟨rfl,hs⟩];have hsm:im (Ct l s n):=⟨qaa AA.length_le sl.1,λx hx=>sl.2 x (AA.subset hx)⟩;simp only [decide_eq_true hs,qah,cond_false,qa0,Ij ho hs,FE hsm]
  ·rw [if_neg λh=>hs h.2];simp [decide_eq_false hs]
end Go.Vs
namespace Go.Vs
end Go.Vs
namespace Go.Vs
end Go.Vs
namespace Go.Vs
end Go.Vs
namespace Go.Vs
end Go.Vs
namespace Go.Vs
end Go.Vs
namespace Go.Vs
def oT(l:List Item)(s kind:Int)(v:List Int)(k:Int):List cK:=if fj l kind v=true/\(1<=s/\s<=8)/\1<=k/\k<=16 then u5 l s.toNat kind v k.toNat s.toNat else []
theorem xO{l:List Item}{s kind:Int}{v:List Int}{k:Int}(hs:1<=s/\s<=8):oT l s kind v k=nX l kind v k:=by
 unfold oT nX;by_cases h:fj l kind v=true/\1<=k/\k<=16
 ·rw [if_pos ⟨h.1,hs,h.2⟩,if_pos h,BZ h.1 (by omega) (by omega) (by omega)]
 ·rw [if_neg λq=>h ⟨q.1,q.2.2⟩,if_neg h]
theorem C0{l:List Item}{s kind:Int}{v:List Int}{k:Int}(sl:im l)(hv:v.length<2000000):M.gm l s kind v k=some (oT l s kind v k):=by
 unfold M.gm oT;simp only [CW sl hv,wu,qa0];cases hq:fj l kind v with
 | false=>simp
 | true=>
  by_cases hs:1<=s/\s<=8
  rotate_left
  ·rw [if_neg λh=>hs h.2.1];simp [decide_eq_false hs]
  by_cases hk:1<=k/\k<=16
  rotate_left
  ·rw [if_neg λh=>hk h.2.2];simp [decide_eq_true hs,decide_eq_false hk]
  obtain ⟨n,rfl⟩:=qax (show 0<=k by omega);obtain ⟨m,rfl⟩:=qax (show 0<=s by omega);obtain ⟨ho,qH,hvv⟩:=jo.1 hq;rw [if_pos ⟨rfl,hs,hk⟩];simp only [decide_eq_true hs,decide_eq_true hk,qah,cond_false,qa0,qay];refine NX (fun (t:List cK) i=>(t,i)) (λt i=>BX t (cR n (bY (Ct l (m:Int) (i:Int)) kind v)) (n:Int)) (λi t=>t.length<=16) (λt=>t) 0 m (s0:=[]) (by omega) (by simp) ?_ ?_ ?_
  ·intro t i hi ht;have e1:decide ((i:Int)<(m:Int))=true:=decide_eq_true (by omega);have q1:fj (Ct l (m:Int) (i:Int)) kind v=true:=jo.2 ⟨zy ho AA,qH,hvv⟩;have l1:(cR n (bY (Ct l (m:Int) (i:Int)) kind v)).length<=16:=by rw [kO];omega
   simp only [e1,cond_true,KE ho hs,qa0,Aa q1 (show n<=1000 by omega),FM (show t.length<=2000000 by omega) (show (cR n (bY (Ct l (m:Int) (i:Int)) kind v)).length<=2000000 by omega),gG (i:=i) (by omega)];exact ⟨trivial,RF⟩
  ·intro t _;simp
  ·intro _;unfold u5;rw [Nat.sub_zero,List.range_eq_range']
theorem B3(code:List UInt8): ∃(l:List Item) (s kind:Int) (v:List Int) (k:Int),M.eF code=some (l,s,kind,v,k)/\HT l/\Rf v/\(0<=s/\s<=9)/\0<=k/\k<=17:=by
 obtain ⟨⟨r1,r2⟩,h,g⟩:=Fy code;obtain ⟨l,⟨q1,q2⟩,h1,g1,nl⟩:=HU (by omega) g;obtain ⟨s,⟨c1,c2⟩,h2,g2,m2⟩:=CZ (by omega) g1;obtain ⟨kind,⟨u1,u2⟩,h3,g3⟩:=Vg (by omega) g2;obtain ⟨v,⟨t1,t2⟩,h4,g4,nv⟩:=Kl (by omega) g3;obtain ⟨k,⟨s1,s2⟩,h5,g5,m5⟩:=Rw (by omega) g4;exact ⟨l,s,kind,v,k,by unfold M.eF;simp only [h,h1,h2,h3,h4,h5,qa0],nl,nv,m2,m5⟩
theorem Il{l:List Item}{s kind:Int}{v:List Int}{k:Int}:(oT l s kind v k).length<=16:=by
 by_cases hs:1<=s/\s<=8
 ·rw [xO hs];exact ux
 ·unfold oT;rw [if_neg λh=>hs h.2.1];simp
end Go.Vs
namespace Go.Vs
end Go.Vs
namespace Go.Vs
end Go.Vs
namespace Go.Vs
end Go.Vs
namespace Go.Vs
end Go.Vs
namespace Go.Vs
end Go.Vs
namespace Go.Vs
theorem Im{β:Type}{f:Nat->Option β}{g:Nat->β}: ∀{n:Nat},(∀i,i<n->f i=some (g i))->DO f n=some ((List.range n).map g)
 | 0,_=>rfl
 | n+1,h=>by
  rw [DO,Im (λi hi=>h i (by omega)),qa0,h n (by omega),qa0,List.range_succ,qc2]
  rfl
theorem C1{l:List Item}{s kind:Int}{v:List Int}{k:Int}(sl:im l)(hv:v.length<2000000):M.iE l s kind v k=some (oT l s kind v k):=by
  unfold M.iE oT;simp only [B2,qa0];by_cases hs:1<=s/\s<=8
  rotate_left
  ·rw [if_neg λh=>hs h.2.1];simp [decide_eq_false hs]
  simp only [decide_eq_true hs,qah,cond_false,qb sl hv,qa0];by_cases hq:fj l kind v=true/\1<=k/\k<=16
  rotate_left
  ·rw [if_neg λh=>hq ⟨h.1,h.2.2⟩];simp [decide_eq_false hq]
  obtain ⟨hq,hk⟩:=hq;obtain ⟨n,rfl⟩:=qax (show 0<=k by omega);obtain ⟨m,rfl⟩:=qax (show 0<=s by omega);obtain ⟨ho,qH,hvv⟩:=jo.1 hq;rw [if_pos ⟨hq,hs,hk⟩];simp only [decide_eq_true (show fj l kind v=true/\1<=(n:Int)/\(n:Int)<=16 from ⟨hq,hk⟩),qah,cond_false,qay]
  let g:Nat->List cK:=λi=>cR n (bY (Ct l (m:Int) (i:Int)) kind v)
  have adz: ∀i:Nat,cW (Ct l (m:Int) (i:Int))=true:=λi=>zy ho AA;have hf:M.gn l (m:Int) kind v (n:Int)=some ((List.range m).map g++List.replicate (8 - m) []):=by
   unfold M.gn;rw [Im (g:=g) (λi hi=> ?_)]
   ·simp
   ·have q1:fj (Ct l (m:Int) (i:Int)) kind v=true:=jo.2 ⟨adz i,qH,hvv⟩;rw [Ik sl,qa0,Vu ho hs,uw (vC (adz i)) hv,Ib q1 hk.1 hk.2];simp [g]
  rw [hf,qa0];have SV: ∀i:Nat,i<8->bz ((List.range m).map g++List.replicate (8 - m) []) (i:Int)=some (g i):=by
   intro i hi;rw [ck (by simp;omega)];congr 1;by_cases him:i<m
   ·rw [qb4 (by simpa using him)];simp
   ·rw [qbh (by simp;omega)];have:Ct l (m:Int) (i:Int)=[]:=by
     unfold Ct;rw [List.filter_eq_nil_iff];intro x _;have:=(rO (k:=x.1) (s:=(m:Int)) hs.1).2;simp;omega
    simp [g,this,bY,cR,ik]
  have hb0:([]:List cK)=cR n (bY (jD l (m:Int) ((0:Nat):Int)) kind v):=by
   rw [Int.natCast_zero,zC hs.1];simp [bY,cR,ik]
  have lI:jD l (m:Int) ((8:Nat):Int)=l:=by
   unfold jD;rw [List.filter_eq_self];intro x _;have:=(rO (k:=x.1) (s:=(m:Int)) hs.1).2;simp;omega
  have hlen: ∀x:List Item,(cR n (bY x kind v)).length<=16:=λx=>by rw [kO];omega
  have bM:=HM (R:=List cK) (r:=cR n (bY l kind v)) (f:=fun (CK:(List (Int×Int))×(Int))=>(bif decide (CK.2<8) then
  (bz ((List.range m).map g++List.replicate (8 - m) []) CK.2).bind λUy=>
  (M.jd CK.1 Uy (n:Int)).bind λAx=>
  some (.inl (Ax,an (CK.2+1)))
 else
  some (.inr CK.1))) 8 (λi=>(cR n (bY (jD l (m:Int) (i:Int)) kind v),(i:Int))) ?_ ?_
  ·have hz:(([]:List cK),(0:Int))=(cR n (bY (jD l (m:Int) ((0:Nat):Int)) kind v),((0:Nat):Int)):=by rw [←hb0];rfl
   rw [hz,bM,qa0,BZ hq (by omega) (by omega) (by omega)]
  ·intro i hi;have d1:decide ((i:Int)<8)=true:=decide_eq_true (by omega);have e6:an ((i:Int)+1)=((i+1:Nat):Int):=aT (by omega) (by omega);have h1:=hlen (jD l (m:Int) (i:Int));have h2:=hlen (Ct l (m:Int) (i:Int));have fb:=BY (s:=(m:Int)) (n:=(i:Int)) (k:=n) hq (by omega) (by omega);simp only [d1,cond_true,SV i hi,qa0,g,FU (show (cR n (bY (jD l (m:Int) (i:Int)) kind v)).length<=2000000 by omega) (show (cR n (bY (Ct l (m:Int) (i:Int)) kind v)).length<=2000000 by omega),fb,e6]
   rfl
  ·have d1:decide (((8:Nat):Int)<8)=false:=by decide
   simp only [d1,cond_false,lI]
theorem zb(code:List UInt8):M.iU code=some true:=by
 unfold M.iU;by_cases hc:1048576<(code.length:Int)
 ·simp [hc]
 obtain ⟨l,s,kind,v,k,h,nl,nv,hs,hk⟩:=B3 code;have sl:=nl.small;have la:v.length<2000000:=by have:=nv.1;omega
 have hlen:=Il (l:=l) (s:=s) (kind:=kind) (v:=v) (k:=k);simp only [hc,decide_false,cond_false,h,qa0,C0 sl la,C1 sl la,xI (show (oT l s kind v k).length<2000000 by omega),decide_true,qah];by_cases h1:s<1
 ·simp [h1]
 by_cases h8:8<s
 ·simp [h1,h8]
 have e:=xO (l:=l) (s:=s) (kind:=kind) (v:=v) (k:=k) ⟨by omega,by omega⟩;have cU:=ux (l:=l) (kind:=kind) (at_:=v) (k:=k);simp only [h1,h8,decide_false,cond_false,qa0,uw sl la,e,xI (show (nX l kind v k).length<2000000 by omega),decide_true]
end Go.Vs

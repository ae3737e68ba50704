import Derived.Test.YtkjhhooecopolaaGreatDoorYz05
set_option maxRecDepth 100000
set_option maxHeartbeats 4000000
namespace Go.Proofs.YtkjhhooecopolaaGreatDoor
open Ieee
def Dn(d:Datum)(n:Int):Prop:=∃s m i,d=.number s m i/\ -2148<=i/\signed s m (i+2148).toNat=n*2 ^ 2148
def D1(d:Datum)(n:Int):Prop:=∃s m i,d=.number s m i/\ -1074<=i/\signed s m (i+1074).toNat=n*2 ^ 1074
def Fl(b:Nat)(n:Int):Prop:=D1 (double.read b) n
theorem po(s:Bool)(m k:Nat):signed s m k=(if s then -1 else 1)*((m*2 ^ k:Nat):Int):=by
 unfold signed;rw[acj];cases s<;>simp
theorem Ap(s:Bool)(m k j:Nat):signed s m (k+j)=signed s m k*2 ^ j:=by
 rw[po,po,rT,<-Cu];generalize(if s=true then(-1:Int) else 1)=c
 rw[K2 (m*2 ^ k),Ro]
 push_cast
 rfl
theorem TC{m:Nat}(k:Nat)(hm:m≠0):(m*2 ^ k).log2=m.log2+k:=by
 have hp:=qd k;have hne:m*2 ^ k≠0:=RA (GA (ack hm) hp);rw[acm hne];have⟨h1,h2⟩:=(acm hm (k:=m.log2)).1 rfl;refine⟨?_,?_⟩
 ·rw[rT];exact zN _ h1
 ·have:m.log2+k+1=(m.log2+1)+k:=by omega
  rw[this,rT];exact anN h2 hp
theorem TD(s:Bool)(m k:Nat):(signed s m k).natAbs=m*2 ^ k:=by
 rw[po];cases s<;>simp[Int.natAbs_mul,Int.natAbs_pow]
theorem Dg(k:Nat):(0:Int)<2 ^ k:=by
 have:=qd k;have h:((2 ^ k:Nat):Int)=(2:Int) ^ k:=by push_cast;rfl
 omega
theorem TE{s:Bool}{m:Nat}{i n:Int}(P Z:Nat)(hi: -(P:Int)<=i)(Ml:P<=Z)(h:signed s m (i+P).toNat=n*2 ^ P):
  signed s m (i+Z).toNat=n*2 ^ Z:=by
 have e:(i+Z).toNat=(i+P).toNat+(Z-P):=by omega
 have e':Z=P+(Z-P):=by omega
 rw[e,Ap,h,Ro,<-Int.pow_add,<-e']
theorem ad5(s:Bool)(m k:Nat):signed (!s) m k= -signed s m k:=by
 cases s<;>simp[signed]
theorem D1.TF{d:Datum}{n:Int}(h:D1 d n):D1 d.opposite (-n):=by
 obtain⟨s,m,i,rfl,h2,h3⟩:=h;refine⟨!s,m,i,rfl,h2,?_⟩;rw[ad5,h3,iG]
theorem TG(t:Int)(c:Bool)(k:Nat):signed (if t=0 then c else decide (t<0)) t.natAbs k=t*2 ^ k:=by
 rw[po,K2,Int.natCast_pow];have e3:((2:Nat):Int)=2:=rfl;rw[e3,<-Ro];congr 1;by_cases h:t=0
 ·simp[h]
 ·rw[aa h];by_cases h2:t<0
  ·simp only[h2,decide_true,fZ];omega
  ·simp only[h2,decide_false,iZ,jG];omega
theorem ad6{s t c:Bool}{m k:Nat}{i j x y:Int}(P Z:Nat)(hi: -(P:Int)<=i)(hj: -(P:Int)<=j)(Ml:P<=Z)
  (hx:signed s m (i+P).toNat=x*2 ^ P)(hy:signed t k (j+P).toNat=y*2 ^ P):
  signed (if signed s m (i-min i j).toNat+signed t k (j-min i j).toNat=0 then c else decide (signed s m (i-min i j).toNat+signed t k (j-min i j).toNat<0))
   (signed s m (i-min i j).toNat+signed t k (j-min i j).toNat).natAbs (min i j+Z).toNat=(x+y)*2 ^ Z:=by
 rw[TG,Int.add_mul,<-Ap,<-Ap];have e1:(i-min i j).toNat+(min i j+Z).toNat=(i+Z).toNat:=by omega
 have e2:(j-min i j).toNat+(min i j+Z).toNat=(j+Z).toNat:=by omega
 rw[e1,e2,TE P Z hi Ml hx,TE P Z hj Ml hy,Int.add_mul]
theorem D1.sum{d e:Datum}{x y:Int}(hd:D1 d x)(he:D1 e y):∃r,d.sum e=some r/\Dn r (x+y):=by
 obtain⟨s,m,i,rfl,hi,hx⟩:=hd;obtain⟨t,k,j,rfl,hj,hy⟩:=he;refine⟨_,rfl,_,_,_,rfl,by omega,?_⟩
 exact ad6 1074 2148 hi hj (by decide) hx hy
theorem ad7(s t:Bool)(m k a b:Nat):signed (s ^^ t) (m*k) (a+b)=signed s m a*signed t k b:=by
 rw[po,po,po,rT];have e:m*k*(2 ^ a*2 ^ b)=(m*2 ^ a)*(k*2 ^ b):=by ac_rfl
 rw[e,K2 (m*2 ^ a)];cases s<;>cases t<;>simp[Int.neg_mul,Int.mul_neg]
theorem ad8{s t:Bool}{m k:Nat}{i j x y:Int}(P:Nat)(hi: -(P:Int)<=i)(hj: -(P:Int)<=j)
  (hx:signed s m (i+P).toNat=x*2 ^ P)(hy:signed t k (j+P).toNat=y*2 ^ P):signed (s ^^ t) (m*k) (i+j+(P+P:Nat)).toNat=x*y*2 ^ (P+P):=by
 have e:(i+j+(P+P:Nat)).toNat=(i+P).toNat+(j+P).toNat:=by omega
 rw[e,ad7,hx,hy,Int.pow_add]
 ac_rfl
theorem D1.product{d e:Datum}{x y:Int}(hd:D1 d x)(he:D1 e y):∃r,d.product e=some r/\Dn r (x*y):=by
 obtain⟨s,m,i,rfl,hi,hx⟩:=hd;obtain⟨t,k,j,rfl,hj,hy⟩:=he;refine⟨_,rfl,_,_,_,rfl,by omega,?_⟩
 exact ad8 1074 hi hj hx hy
theorem TH(a b p:Int)(hp:0<p):compare (a*p) (b*p)=compare a b:=by
 rcases fD a b with h|h|h
 ·rw[K3.2 h,K3.2 (RF h hp)]
 ·subst h;rw[K4.2 rfl,K4.2 rfl]
 ·rw[K5.2 h,K5.2 (RF h hp)]
theorem ad9{s t:Bool}{m k:Nat}{i j x y:Int}(P:Nat)(hi: -(P:Int)<=i)(hj: -(P:Int)<=j)
  (hx:signed s m (i+P).toNat=x*2 ^ P)(hy:signed t k (j+P).toNat=y*2 ^ P):
  compare (signed s m (i-min i j).toNat) (signed t k (j-min i j).toNat)=compare x y:=by
 rw[<-TH _ _ (2 ^ (min i j+P).toNat) (Dg _),<-Ap,<-Ap];have e1:(i-min i j).toNat+(min i j+P).toNat=(i+P).toNat:=by omega
 have e2:(j-min i j).toNat+(min i j+P).toNat=(j+P).toNat:=by omega
 rw[e1,e2,hx,hy,TH _ _ _ (Dg _)]
theorem Fl.order{a b:Nat}{x y:Int}(ha:Fl a x)(hb:Fl b y):double.order a b=some (compare x y):=by
 unfold Format.order;obtain⟨s,m,i,e1,hi,hx⟩:=ha;obtain⟨t,k,j,e2,hj,hy⟩:=hb;rw[e1,e2];exact aw some (ad9 1074 hi hj hx hy)
theorem aea(neg:Bool)(n:Nat):Toward.even.cut neg n 0=n:=by
 simp[Toward.cut,Nat.mod_one]
theorem TJ(way:Toward)(neg:Bool)(q drop:Nat)(hq:0<q):way.cut neg (q*2 ^ drop) drop=q:=by
 have hl:drop<=(q*2 ^ drop).log2:=by
  have hne:q*2 ^ drop≠0:=RA (GA hq (qd _));rw[Nat.le_log2 hne];exact anO _ hq
 have hm:min drop ((q*2 ^ drop).log2+2)=drop:=by omega
 have hp:=qd drop;cases way<;>simp[Toward.cut,hm,Nat.shiftLeft_eq,Nat.mul_div_cancel _ hp]
 all_goals omega
theorem aeb{m N L:Nat}{i:Int}(Z:Nat)(s:Bool)(hL:L<=52)(hi: -(Z:Int)<=i)(h52:52<=Z)(hN:N≠0)
  (mj:m*2 ^ (i+Z).toNat=N*2 ^ Z):
  Toward.even.cut s (m <<<(i-((L:Int)-52)).toNat) (((L:Int)-52)-i).toNat=N*2 ^ (52-L):=by
 rcases(show i<(L:Int)-52\/(L:Int)-52<=i by omega) with hc|hc
 ·have e0:(i-((L:Int)-52)).toNat=0:=by omega
  rw[e0,aco];have e2:Z=(52-L)+((((L:Int)-52)-i).toNat+(i+Z).toNat):=by omega
  have e3:N*2 ^ Z=N*2 ^ (52-L)*2 ^ (((L:Int)-52)-i).toNat*2 ^ (i+Z).toNat:=by
   rw[Cu,Cu,<-rT,<-rT,<-e2]
  rw[e3] at mj;have e4:=acp (qd _) mj;rw[e4];exact TJ _ _ _ _ (GA (ack hN) (qd _))
 ·have e0:(((L:Int)-52)-i).toNat=0:=by omega
  rw[e0,aea,acj];have e1:(i+Z).toNat=(i-((L:Int)-52)).toNat+(Z-(52-L)):=by omega
  have e2:(52-L)+(Z-(52-L))=Z:=by omega
  rw[e1,rT,<-Cu] at mj;have e3:N*2 ^ Z=N*2 ^ (52-L)*2 ^ (Z-(52-L)):=by rw[Cu,<-rT,e2]
  rw[e3] at mj;exact acp (qd _) mj
theorem aec{m N L:Nat}{i:Int}(s:Bool)(hL:L<=52)(hm:m≠0)(hl:i+m.log2=L)(hK2:N*2 ^ (52-L)<2 ^ 53)
  (hk:Toward.even.cut s (m <<<(i-((L:Int)-52)).toNat) (((L:Int)-52)-i).toNat=N*2 ^ (52-L)):
  double.nearest s m i=double.word s ((L+1022)*2 ^ 52+N*2 ^ (52-L)):=by
 have hlast:max (i+m.log2-52) (-1074)=(L:Int)-52:=by omega
 unfold Format.nearest;rw[aa hm];have e1:double.leastPlace= -1074:=by decide
 have e2:((double.fractionBits:Nat):Int)=52:=rfl;have e3:double.binade=2 ^ 52:=rfl;have e4:double.infRung=2047*2 ^ 52:=rfl;simp only[e1,e2,e3,e4,hlast,hk];have e5:((L:Int)-52- -1074).toNat=L+1022:=by omega
 rw[e5];generalize N*2 ^ (52-L)=K at*;have e6:(L+1022)*2 ^ 52+K<=2047*2 ^ 52:=by omega
 rw[K6 e6]
theorem aed(s:Bool)(L K:Nat)(hL:L<=52)(TM:2 ^ 52<=K)(hK2:K<2 ^ 53):
  double.read (double.word s ((L+1022)*2 ^ 52+K))=.number s K ((L:Int)-52):=by
 unfold Format.read;have e1:double.leastPlace= -1074:=by decide
 have e3:double.binade=2 ^ 52:=rfl;have e4:double.infRung=2047*2 ^ 52:=rfl;have e5:double.signWeight=2 ^ 63:=rfl;have r1:double.word s ((L+1022)*2 ^ 52+K)%2 ^ 63=(L+1022)*2 ^ 52+K:=by
  unfold Format.word;rw[e5];split<;>omega
 have r2:(double.word s ((L+1022)*2 ^ 52+K)/2 ^ 63%2 == 1)=s:=by
  unfold Format.word;rw[e5];cases s
  ·simp only[iZ,jG,uv];omega
  ·simp only[fZ,Rz];omega
 simp only[e1,e3,e4,e5,r1,r2];rw[aa (by omega),ah (by omega)]
 have q1:2 ^ 52+((L+1022)*2 ^ 52+K)%2 ^ 52=K:=by omega
 have q2:((L+1022)*2 ^ 52+K)/2 ^ 52-1=L+1022:=by omega
 rw[q1,q2];have q3:(-1074:Int)+((L+1022:Nat):Int)=(L:Int)-52:=by omega
 rw[q3]
theorem TN{s:Bool}{q:Nat}{n p:Int}(hp:0<p)(hq:0<q)(hv:(if s then -1 else 1)*(q:Int)=n*p):(s=true/\n<0)\/(s=false/\0<n):=by
 cases s
 ·right;refine⟨rfl,?_⟩;simp only[iZ,jG,Cv] at hv;rcases fD n 0 with h|h|h
  ·have:=KV h hp;omega
  ·subst h;rw[Cw] at hv;omega
  ·exact h
 ·left;refine⟨rfl,?_⟩;simp only[fZ] at hv;rcases fD n 0 with h|h|h
  ·exact h
  ·subst h;rw[Cw] at hv;omega
  ·have:=aU h hp;omega
theorem value_of{s:Bool}{N L:Nat}{n:Int}(P:Nat)(hP:P=1074)(hL:L<=52)(hN:n.natAbs=N)(hs:(s=true/\n<0)\/(s=false/\0<n)):
  signed s (N*2 ^ (52-L)) ((L:Int)-52+1074).toNat=n*2 ^ P:=by
 rw[po];have e1:((L:Int)-52+1074).toNat=L+1022:=by omega
 rw[e1,Cu,<-rT];have e2:52-L+(L+1022)=P:=by omega
 rw[e2,K2,Int.natCast_pow];have e3:((2:Nat):Int)=2:=rfl;rw[e3];rcases hs with⟨rfl,hs⟩|⟨rfl,hs⟩
 ·have:(N:Int)= -n:=by omega
  rw[this];simp only[fZ];rw[iG,Cv,iG,KW]
 ·have:(N:Int)=n:=by omega
  rw[this];simp only[iZ,jG,Cv]
theorem aee(s:Bool)(i:Int):double.read (double.nearest s 0 i)=.number s 0 (-1074):=by
 have e:double.nearest s 0 i=double.word s 0:=by simp[Format.nearest]
 rw[e];cases s<;>decide
theorem aef{n:Int}(Z P:Nat)(hZ:Z=2148)(hP:P=1074){s:Bool}{m:Nat}{i:Int}(hi: -(Z:Int)<=i)
  (hv:signed s m (i+Z).toNat=n*2 ^ Z)(hn:n.natAbs<2 ^ 53):
  ∃s' m' i',double.read (double.nearest s m i)=.number s' m' i'/\ -1074<=i'/\signed s' m' (i'+1074).toNat=n*2 ^ P:=by
 have mj:m*2 ^ (i+Z).toNat=n.natAbs*2 ^ Z:=by
  have:=aw Int.natAbs hv;rw[TD,nV,acn] at this;exact this
 by_cases hm:m=0
 ·subst hm;have hn0:n=0:=by
   rw[zO] at mj;rcases Nat.mul_eq_zero.1 mj.symm with h|h
   ·exact Int.natAbs_eq_zero.1 h
   ·exact absurd h (RA (qd _))
  subst hn0;refine⟨s,0, -1074,aee s i,Int.le_refl _,?_⟩;rw[po,zO,Cw];simp
 ·have hN:n.natAbs≠0:=by
   intro h;rw[h,zO] at mj;rcases Nat.mul_eq_zero.1 mj with h|h
   ·exact absurd h hm
   ·exact absurd h (RA (qd _))
  have hl:m.log2+(i+Z).toNat=n.natAbs.log2+Z:=by
   rw[<-TC (i+Z).toNat hm,<-TC Z hN,mj]
  have hL:n.natAbs.log2<=52:=Nat.le_of_lt_succ ((Nat.log2_lt hN (k:=53)).2 hn);have⟨hlo,hhi⟩:=(acm hN (k:=n.natAbs.log2)).1 rfl;have hs:(s=true/\n<0)\/(s=false/\0<n):=by
   rw[po] at hv;exact TN (Dg Z) (GA (ack hm) (qd _)) hv
  have hk:=aeb Z s hL hi (by omega) hN mj
  clear hv mj;generalize hLe:n.natAbs.log2=L at*;have TM:2 ^ 52<=n.natAbs*2 ^ (52-L):=by
   have:2 ^ 52=2 ^ L*2 ^ (52-L):=by rw[<-rT];congr 1;omega
   rw[this];exact zN _ hlo
  have hK2:n.natAbs*2 ^ (52-L)<2 ^ 53:=by
   have:2 ^ 53=2 ^ (L+1)*2 ^ (52-L):=by rw[<-rT];congr 1;omega
   rw[this];exact anN hhi (qd _)
  rw[aec s hL hm (by omega) hK2 hk]
  exact⟨_,_,_,aed s L _ hL TM hK2,by omega,value_of P hP hL rfl hs⟩
theorem Hr{d:Datum}{n:Int}(h:Dn d n)(hn:n.natAbs<2 ^ 53):Fl (double.write d) n:=by
 obtain⟨s,m,i,rfl,hi,hv⟩:=h;exact aef 2148 1074 rfl rfl hi hv hn
theorem aeg(way:Toward)(neg:Bool)(n:Nat):way.cut neg n 0=n:=by
 cases way<;>simp[Toward.cut,Nat.mod_one]
theorem aeh{s:Bool}{m:Nat}{i n:Int}(P:Nat)(hi: -(P:Int)<=i)(h:signed s m (i+P).toNat=n*2 ^ P):
  signed s (Toward.zero.cut s (m <<<i.toNat) (-i).toNat) 0=n:=by
 rcases(show 0<=i\/i<0 by omega) with hc|hc
 ·have e0:(-i).toNat=0:=by omega
  rw[e0,aeg];have e1:(i+P).toNat=i.toNat+P:=by omega
  rw[e1,Ap] at h;have h2:=RH (acq (Dg P)) h;rw[<-h2];unfold signed;rw[aco]
 ·have e0:i.toNat=0:=by omega
  rw[e0,aco];have mj:m*2 ^ (i+P).toNat=n.natAbs*2 ^ P:=by
   have:=aw Int.natAbs h;rw[TD,nV,acn] at this;exact this
  have e2:P=(-i).toNat+(i+P).toNat:=by omega
  have e3:n.natAbs*2 ^ P=n.natAbs*2 ^ (-i).toNat*2 ^ (i+P).toNat:=by rw[Cu,<-rT,<-e2]
  rw[e3] at mj;have hm:=acp (qd _) mj;by_cases hn:n=0
  ·subst hn;have:m=0:=by rw[hm];simp
   subst this;have:Toward.zero.cut s 0 (-i).toNat=0:=by simp[Toward.cut]
   rw[this];cases s<;>rfl
  ·have hN:0<n.natAbs:=Int.natAbs_pos.2 hn;rw[hm,TJ _ _ _ _ hN];have hmp:0<m:=by rw[hm];exact GA hN (qd _)
   rw[po] at h;rcases TN (Dg P) (GA hmp (qd _)) h with⟨rfl,hs⟩|⟨rfl,hs⟩
   ·rw[po];simp only[fZ];omega
   ·rw[po];simp only[iZ,jG];omega
theorem Fl.toInt{b:Nat}{n:Int}(h:Fl b n):(double.read b).toInt .zero=some n:=by
 obtain⟨s,m,i,e,hi,hx⟩:=h;rw[e];exact aw some (aeh 1074 hi hx)
theorem Fl.add{a b:Nat}{x y:Int}(ha:Fl a x)(hb:Fl b y)(hn:(x+y).natAbs<2 ^ 53):∃r,floatBits .add .f64 a b=some r/\Fl r (x+y):=by
 obtain⟨r,h1,h2⟩:=D1.sum ha hb;refine⟨double.write r,?_,Hr h2 hn⟩;show(Datum.sum (double.read a) (double.read b)).map double.write=_;rw[h1];rfl
theorem Fl.sub{a b:Nat}{x y:Int}(ha:Fl a x)(hb:Fl b y)(hn:(x-y).natAbs<2 ^ 53):∃r,floatBits .sub .f64 a b=some r/\Fl r (x-y):=by
 obtain⟨r,h1,h2⟩:=D1.sum ha (D1.TF hb);refine⟨double.write r,?_,Hr (n:=x-y) (by rw[Int.sub_eq_add_neg];exact h2) hn⟩
 show(Datum.sum (double.read a) (double.read b).opposite).map double.write=_;rw[h1];rfl
theorem Fl.mul{a b:Nat}{x y:Int}(ha:Fl a x)(hb:Fl b y)(hn:(x*y).natAbs<2 ^ 53):∃r,floatBits .mul .f64 a b=some r/\Fl r (x*y):=by
 obtain⟨r,h1,h2⟩:=D1.product ha hb;refine⟨double.write r,?_,Hr h2 hn⟩;show(Datum.product (double.read a) (double.read b)).map double.write=_;rw[h1];rfl
theorem qh{n:Int}(hn:n.natAbs<2 ^ 53):Fl (floatOfInt .f64 n) n:=by
 refine Hr (d:=.number (n<0) n.natAbs 0) ⟨_,_,_,rfl,by decide,?_⟩ hn
 have h:=TG n false ((0:Int)+2148).toNat;have e:(if n=0 then false else decide (n<0))=decide (n<0):=by
  split
  ·rename_i h;subst h;rfl
  ·rfl
 rw[e] at h;exact h
theorem Fl.int{b:Nat}{n:Int}(h:Fl b n)(h1: -9223372036854775808<=n)(h2:n<=9223372036854775807):floatToIntVal .f64 b .i64=some n:=by
 unfold floatToIntVal;have e:(FloatKind.decode .f64 b).toInt .zero=some n:=h.toInt;rw[e];have e1:IntKind.min .i64= -9223372036854775808:=by decide
 have e2:IntKind.max .i64=9223372036854775807:=by decide
 simp only[e1,e2,h1,h2,and_self,fZ]
theorem aei(b:Nat):double.read (Op.negFloat .f64 b)=(double.read b).opposite:=by
 have e:Op.negFloat .f64 b=b ^^^ 2 ^ 63:=rfl;have e1:double.signWeight=2 ^ 63:=rfl;have h1:(b ^^^ 2 ^ 63)%2 ^ 63=b%2 ^ 63:=by rw[Nat.xor_mod_two_pow];simp
 have h2:((b ^^^ 2 ^ 63)/2 ^ 63%2 == 1)= !(b/2 ^ 63%2 == 1):=by
  rw[Nat.xor_div_two_pow];have:(2:Nat) ^ 63/2 ^ 63=1:=by decide
  rw[this];have h3:(b/2 ^ 63 ^^^ 1)%2=(b/2 ^ 63%2) ^^^ 1:=by
   have:=Nat.xor_mod_two_pow (a:=b/2 ^ 63) (b:=1) (n:=1);simpa using this
  rw[h3];rcases Nat.mod_two_eq_zero_or_one (b/2 ^ 63) with h|h<;>rw[h]<;>decide
 unfold Format.read;rw[e,e1];simp only[h1,h2];split
 ·rfl
 ·split
  ·rfl
  ·split<;>rfl
theorem Fl.neg{b:Nat}{n:Int}(h:Fl b n):Fl (Op.negFloat .f64 b) (-n):=by
 unfold Fl;rw[aei];exact D1.TF h
theorem aej{a b c d:Nat}{x y u v:Int}(h1:Fl a x)(h2:Fl b y)(h3:Fl c u)(h4:Fl d v)(n1:(x+u).natAbs<2 ^ 53)(n2:(y+v).natAbs<2 ^ 53):
  ∃re im,cSumBits .add .f64 a b c d=some (re,im)/\Fl re (x+u)/\Fl im (y+v):=by
 obtain⟨r,e1,f1⟩:=h1.add h3 n1;obtain⟨i,e2,f2⟩:=h2.add h4 n2;exact⟨r,i,by simp[cSumBits,e1,e2],f1,f2⟩
theorem Mm{a b c d:Nat}{x y u v:Int}(h1:Fl a x)(h2:Fl b y)(h3:Fl c u)(h4:Fl d v)(n1:(x-u).natAbs<2 ^ 53)(n2:(y-v).natAbs<2 ^ 53):
  ∃re im,cSumBits .sub .f64 a b c d=some (re,im)/\Fl re (x-u)/\Fl im (y-v):=by
 obtain⟨r,e1,f1⟩:=h1.sub h3 n1;obtain⟨i,e2,f2⟩:=h2.sub h4 n2;exact⟨r,i,by simp[cSumBits,e1,e2],f1,f2⟩
theorem Mn{a b c d:Nat}{x y u v:Int}(h1:Fl a x)(h2:Fl b y)(h3:Fl c u)(h4:Fl d v)
  (n1:(x*u).natAbs<2 ^ 53)(n2:(y*v).natAbs<2 ^ 53)(n3:(x*u-y*v).natAbs<2 ^ 53)
  (n4:(x*v).natAbs<2 ^ 53)(n5:(y*u).natAbs<2 ^ 53)(n6:(x*v+y*u).natAbs<2 ^ 53):
  ∃re im,cMulBits a b c d=some (re,im)/\Fl re (x*u-y*v)/\Fl im (x*v+y*u):=by
 obtain⟨ac,e1,f1⟩:=h1.mul h3 n1;obtain⟨bd,e2,f2⟩:=h2.mul h4 n2;obtain⟨re,e3,f3⟩:=f1.sub f2 n3;obtain⟨ad,e4,f4⟩:=h1.mul h4 n4;obtain⟨bc,e5,f5⟩:=h2.mul h3 n5;obtain⟨im,e6,f6⟩:=f4.add f5 n6;exact⟨re,im,by simp[cMulBits,e1,e2,e3,e4,e5,e6],f3,f6⟩
end Go.Proofs.YtkjhhooecopolaaGreatDoor
namespace Go.Proofs.YtkjhhooecopolaaGreatDoor.Ge
theorem Mp{k z:Int}(hk:0<k):(k*z).sign=z.sign:=by
 rw[RJ,pX hk,Cv]
theorem TP(g:List Pt):(closing g).length=g.length:=by
 cases g with
 |nil=>rfl
 |cons a r=>simp[closing]
def wK(g:List Pt)(n:Nat):Option Pt:=if n+1<g.length then g[n+1]? else g[0]?
theorem TQ{g:List Pt}{n:Nat}{p q:Pt}(hp:g[n]?=some p)(hq:wK g n=some q):(closing g)[n]?=some (p,q):=by
 cases g with
 |nil=>simp at hp
 |cons a r=>
  show((a::r).zip (r++[a]))[n]?=_;rw[acr];refine⟨hp,?_⟩;unfold wK at hq;by_cases h:n+1<(a::r).length
  ·rw[ah h] at hq;simp only[bW] at h;rw[eD (by omega)]
   simpa using hq
  ·rw[aa h] at hq;have hn:n<(a::r).length:=(bY.1 hp).1;simp only[bW] at h hn;have e:n=r.length:=by omega
   rw[e,nT (ai _)];simpa using hq
def jX(g:List Pt)(n:Nat):List (Pt×Pt):=((closing g).take n).filter fun e=>decide (e.1≠e.2)
theorem aek(g:List Pt):jX g 0=[]:=by simp[jX]
theorem Mq(g:List Pt):jX g g.length=fN g:=by
 unfold jX fN;rw[<-TP g,dN]
theorem ael{g:List Pt}{n:Nat}{p q:Pt}(hp:g[n]?=some p)(hq:wK g n=some q)(h:p=q):jX g (n+1)=jX g n:=by
 obtain⟨hlt,he⟩:=bY.1 (TQ hp hq);unfold jX;rw[oY hlt,he,GC];simp[h]
theorem aem{g:List Pt}{n:Nat}{p q:Pt}(hp:g[n]?=some p)(hq:wK g n=some q)(h:p≠q):jX g (n+1)=jX g n++[(p,q)]:=by
 obtain⟨hlt,he⟩:=bY.1 (TQ hp hq);unfold jX;rw[oY hlt,he,GC];simp[h]
theorem Mr(g:List Pt)(n:Nat):(jX g n).length<=g.length:=by
 unfold jX;refine dY (GF _ _) ?_;rw[iy,TP];omega
theorem all_append(a b:List (List Pt)):ag (a++b)=ag a++ag b:=by simp[ag]
theorem aen{p:List (List Pt)}{k:Nat}{g:List Pt}(h:p[k]?=some g):ag (p.take (k+1))=ag (p.take k)++fN g:=by
 obtain⟨hlt,he⟩:=bY.1 h;rw[oY hlt,he,all_append];simp[ag]
theorem Ms(B:Nat):∀(p:List (List Pt)),(∀g∈p,g.length<=B)->(ag p).length<=p.length*B
 |[],_=>by simp[ag]
 |g::p,h=>by
  have e:ag (g::p)=fN g++ag p:=uj;have h1:=Ms B p (fun x hx=>h x (by simp[hx]))
  have h2:=h g (by simp)
  have h3:(fN g).length<=g.length:=by rw[<-Mq];exact Mr g _
  rw[e,aX,bW,GG];omega
theorem TU(B C:Nat):∀(ps:List (List (List Pt))),(∀p∈ps,p.length<=C/\∀g∈p,g.length<=B)->(ag ps.flatten).length<=ps.length*(C*B)
 |[],_=>by simp[ag]
 |p::ps,h=>by
  rw[Cy,all_append,aX,bW,GG];have h1:=TU B C ps (fun x hx=>h x (by simp[hx]))
  have h2:=h p (by simp)
  have h3:=Ms B p h2.2;have h4:=zN B h2.1;omega
theorem aeo{g:List Pt}{e:Pt×Pt}(h:e∈fN g):e.1∈g/\e.2∈g:=by
 unfold fN at h;have h1:=(jF.1 h).1;cases g with
 |nil=>simp[closing] at h1
 |cons a r=>
  obtain⟨x,y⟩:=e;have h2:=List.of_mem_zip h1;refine⟨h2.1,?_⟩;have:=h2.2;simp at this⊢;rcases this with h|h
  ·exact af h
  ·exact ae h
theorem aep{rg:List (List Pt)}{e:Pt×Pt}(h:e∈ag rg):∃g∈rg,e.1∈g/\e.2∈g:=by
 unfold ag at h;obtain⟨g,hg,he⟩:=uq.1 h;exact⟨g,hg,aeo he⟩
theorem Mt{rg:List (List Pt)}{e:Pt×Pt}(h:e∈ag rg):e.1≠e.2:=by
 unfold ag at h;obtain⟨g,hg,he⟩:=uq.1 h;unfold fN at he;simpa using(jF.1 he).2
end Go.Proofs.YtkjhhooecopolaaGreatDoor.Ge
namespace Go.Proofs.YtkjhhooecopolaaGreatDoor
open Go.RowKit
theorem fL(P:Program)(w:World)(a:Addr)(k:FloatKind)(x y:Nat)(m:Mode):(store a (.complex k x y) m).run P w=stored P w a (.complex k x y) m:=run_store P w a _ m rfl
theorem nH(P:Program)(w:World)(a:Addr)(k:FloatKind)(x:Nat)(m:Mode):(store a (.float k x) m).run P w=stored P w a (.float k x) m:=run_store P w a _ m rfl
def sm(z:Int):Prop:=z.natAbs<=33554432
theorem aeq(a b:Nat)(w:World):
  Calls Tryz.prog 151 #[.complex .f64 a b] w fun e w'=>e=.returned (.complex .f64 a (Op.negFloat .f64 b))/\w'=w:=by
 have hop:∀w,(Op.unary .neg (.float .f64 b)).run Tryz.prog w=.ok (.float .f64 (Op.negFloat .f64 b)) w:=fun _=>rfl
 go_enter Tryz.func151,Tryz.ntmps151
 go_wp2_with (simp only[hop])
 go_ret
 exact⟨rfl,rfl⟩
theorem pq{x y:Int}(hx:sm x)(hy:sm y):(x*y).natAbs<=1125899906842624:=by
 rw[nV];exact Cz hx hy
theorem Mu{a b c d:Nat}{x y u v:Int}(h1:Fl a x)(h2:Fl b y)(h3:Fl c u)(h4:Fl d v)(b1:sm x)(b2:sm y)(b3:sm u)(b4:sm v):
  ∃re im,Fl re (x*u+y*v)/\Fl im (x*v-y*u)/\∀w,Calls Tryz.prog 98 #[.complex .f64 a b,.complex .f64 c d] w fun e w'=>e=.returned (.complex .f64 re im)/\w'=w:=by
 have m1:=pq b1 b3;have m2:=pq b2 b4;have m3:=pq b1 b4;have m4:=pq b2 b3;have n2:(-y*v).natAbs<=1125899906842624:=by rw[iG,zP];exact m2
 have n4:(-y*u).natAbs<=1125899906842624:=by rw[iG,zP];exact m4
 obtain⟨re,im,e,f1,f2⟩:=Mn h1 h2.neg h3 h4 (by omega) (by omega) (by omega) (by omega) (by omega) (by omega)
 refine⟨re,im,?_,?_,fun w=>?_⟩
 ·have:x*u+y*v=x*u- -y*v:=by rw[iG];omega
  rw[this];exact f1
 ·have:x*v-y*u=x*v+ -y*u:=by rw[iG];omega
  rw[this];exact f2
 ·have hop:=fun t w=>run_complex_mul (P:=Tryz.prog) w t a (Op.negFloat .f64 b) c d re im e
  have HM:Hid (∀w1,Calls Tryz.prog 151 #[.complex .f64 a b] w1 fun e w'=>e=.returned (.complex .f64 a (Op.negFloat .f64 b))/\w'=w1):=fun w1=>aeq a b w1
  clear m1 m2 m3 m4 n2 n4 e f1 f2;generalize Op.negFloat .f64 b=nb at*
  go_enter Tryz.func98,Tryz.ntmps98
  go_wp2_with fail
  refine(HM.out _).mono ?_;rintro e w1 ⟨rfl,rfl⟩
  go_wp2_with (simp only)
  go_ret
  exact⟨rfl,rfl⟩
theorem Dh{a b c d:Nat}{x y u v:Int}(h1:Fl a x)(h2:Fl b y)(h3:Fl c u)(h4:Fl d v)(b1:sm x)(b2:sm y)(b3:sm u)(b4:sm v):
  ∃im,Fl im (x*v-y*u)/\∀w,Calls Tryz.prog 101 #[.complex .f64 a b,.complex .f64 c d] w fun e w'=>e=.returned (.float .f64 im)/\w'=w:=by
 obtain⟨re,im,_,f2,ht⟩:=Mu h1 h2 h3 h4 b1 b2 b3 b4;refine⟨im,f2,fun w=>?_⟩
 have HT:Hid (∀w,Calls Tryz.prog 98 #[.complex .f64 a b,.complex .f64 c d] w fun e w'=>e=.returned (.complex .f64 re im)/\w'=w):=ht
 clear ht
 go_enter Tryz.func101,Tryz.ntmps101
 go_wp2_with fail
 refine(HT.out _).mono ?_;rintro e w1 ⟨rfl,rfl⟩
 go_wp2_with fail
 go_ret
 exact⟨rfl,rfl⟩
theorem aer{a b c d:Nat}{x y u v:Int}(h1:Fl a x)(h2:Fl b y)(h3:Fl c u)(h4:Fl d v)(b1:x.natAbs<=50)(b2:y.natAbs<=50)(b3:u.natAbs<=50)(b4:v.natAbs<=50):
  ∃wa wb sh,Fl wa (u-x)/\Fl wb (v-y)/\Fl sh ((u-x)*y-(v-y)*x)/\∀w,Calls Tryz.prog 64 #[.complex .f64 a b,.complex .f64 c d] w fun e w'=>e=.returned (.agg #[.complex .f64 wa wb,.float .f64 sh])/\Below w.heap.size w w':=by
 obtain⟨wa,wb,e,f1,f2⟩:=Mm h3 h4 h1 h2 (by omega) (by omega)
 obtain⟨sh,f3,hl⟩:=Dh f1 f2 h1 h2 (by unfold sm;omega) (by unfold sm;omega) (by unfold sm;omega) (by unfold sm;omega)
 refine⟨wa,wb,sh,f1,f2,f3,fun w=>?_⟩
 have hop:=fun t w=>run_complex_sum (P:=Tryz.prog) w .sub (af rfl) t .f64 c d a b wa wb e
 have HL:Hid (∀w,Calls Tryz.prog 101 #[.complex .f64 wa wb,.complex .f64 a b] w fun e w'=>e=.returned (.float .f64 sh)/\w'=w):=hl
 clear hl
 go_enter Tryz.func64,Tryz.ntmps64
 go_wp2_with (simp only[hop])
 have hE:=heap_alloc_new w (.cells #[.complex .f64 0 0,.float .f64 0] 122);have hb0:Below w.heap.size w (w.alloc (.cells #[.complex .f64 0 0,.float .f64 0] 122)):=(Below.refl _ _).alloc (ai _) _;generalize w.alloc (.cells #[.complex .f64 0 0,.float .f64 0] 122)=W at*;refine(HL.out _).mono ?_;rintro e w1 ⟨rfl,rfl⟩;have e0:w1.cell? ⟨w.heap.size,0,none⟩=some (.complex .f64 0 0):=cell_of hE 0;have e1:w1.cell? ⟨w.heap.size,1,none⟩=some (.float .f64 0):=cell_of hE 1;have z0:w1.frozen? ⟨w.heap.size,0,none⟩=false:=aH hE 0;have z1:w1.frozen? ⟨w.heap.size,1,none⟩=false:=aH hE 1
 go_wp2_with (simp only[fL,nH];go_simp)
 refine bodyPost_ret (v:=.agg #[.complex .f64 wa wb,.float .f64 sh]) (by simp[results,Tryz.results64,go_sem,e0,e1]) rfl ⟨rfl,?_⟩
 exact(hb0.setCell (ai _) _).setCell (ai _) _
theorem pA{n:Int}(h:sm n):Fl (floatOfInt .f64 n) n:=qh (by unfold sm at h;omega)
theorem Di(na nb:Nat)(D:Int){a b:Nat}{x y:Int}(h1:Fl a x)(h2:Fl b y)(b1:sm x)(b2:sm y)(bD:sm D):
  ∃re im,Fl re (x*D)/\Fl im (y*D)/\∀w,Calls Tryz.prog 152 #[.agg #[.complex .f64 na nb,.int .i64 D],.complex .f64 a b] w fun e w'=>e=.returned (.complex .f64 re im)/\Below w.heap.size w w'/\w.drawn<=w'.drawn:=by
 have m1:=pq b1 bD;have m2:=pq b2 bD;have z0:sm 0:=by unfold sm;decide
 obtain⟨re,im,e,f1,f2⟩:=Mn h1 h2 (pA bD) (pA z0) (by omega) (by omega) (by omega) (by omega) (by omega) (by omega)
 refine⟨re,im,?_,?_,fun w=>?_⟩
 ·have:x*D=x*D-y*0:=by omega
  rw[this];exact f1
 ·have:y*D=x*0+y*D:=by omega
  rw[this];exact f2
 ·have hop:=fun t w=>run_complex_mul (P:=Tryz.prog) w t a b (floatOfInt .f64 D) (floatOfInt .f64 0) re im e
  have HP:Hid (∀w1,Calls Tryz.prog 38 #[.int .i64 D,.int .i64 0] w1 fun e w'=>e=.returned (.complex .f64 (floatOfInt .f64 D) (floatOfInt .f64 0))/\w'=w1):=fun w1=>De D 0 w1
  clear m1 m2 e f1 f2;generalize floatOfInt .f64 D=fd at*;generalize floatOfInt .f64 0=fz at*;have hb0:Below w.heap.size w (w.alloc (.cells #[.complex .f64 na nb,.int .i64 D] 83)):=(Below.refl _ _).alloc (ai _) _
  go_enter Tryz.func152,Tryz.ntmps152
  go_wp2_with fail
  refine(HP.out _).mono ?_;rintro e w1 ⟨rfl,rfl⟩
  go_wp2_with (simp only)
  go_ret
  exact⟨rfl,hb0,ai _⟩
theorem TV{na nb:Nat}{X Y D:Int}{a b:Nat}{x y:Int}(g1:Fl na X)(g2:Fl nb Y)(h1:Fl a x)(h2:Fl b y)(b1:sm x)(b2:sm y)(bD:sm D)(c1:sm X)(c2:sm Y):
  ∃re im,Fl re (X-x*D)/\Fl im (Y-y*D)/\∀w,Calls Tryz.prog 99 #[.agg #[.complex .f64 na nb,.int .i64 D],.complex .f64 a b] w fun e w'=>e=.returned (.complex .f64 re im)/\Below w.heap.size w w':=by
 have m1:=pq b1 bD;have m2:=pq b2 bD;obtain⟨sa,sb,s1,s2,hs⟩:=Di na nb D h1 h2 b1 b2 bD;obtain⟨re,im,e,f1,f2⟩:=Mm g1 g2 s1 s2 (by unfold sm at c1;omega) (by unfold sm at c2;omega)
 refine⟨re,im,f1,f2,fun w=>?_⟩
 have hop:=fun t w=>run_complex_sum (P:=Tryz.prog) w .sub (af rfl) t .f64 na nb sa sb re im e
 have HS:Hid (∀w,Calls Tryz.prog 152 #[.agg #[.complex .f64 na nb,.int .i64 D],.complex .f64 a b] w fun e w'=>e=.returned (.complex .f64 sa sb)/\Below w.heap.size w w'/\w.drawn<=w'.drawn):=hs
 clear hs m1 m2;have hE:=heap_alloc_new w (.cells #[.complex .f64 na nb,.int .i64 D] 83);have hb0:Below w.heap.size w (w.alloc (.cells #[.complex .f64 na nb,.int .i64 D] 83)):=(Below.refl _ _).alloc (ai _) _;have hz:w.heap.size<(w.alloc (.cells #[.complex .f64 na nb,.int .i64 D] 83)).heap.size:=by simp
 go_enter Tryz.func99,Tryz.ntmps99
 go_wp2_with fail
 generalize w.alloc (.cells #[.complex .f64 na nb,.int .i64 D] 83)=W at*;generalize hB:w.heap.size=B at*;have e0:W.cell? ⟨B,0,none⟩=some (.complex .f64 na nb):=cell_of hE 0;have e1:W.cell? ⟨B,1,none⟩=some (.int .i64 D):=cell_of hE 1
 go_region_held3 (fun w'=>w'.cell? ⟨B,0,none⟩=some (.complex .f64 na nb)/\w'.cell? ⟨B,1,none⟩=some (.int .i64 D)) (go_keep) (first
  |(go_at_call 152;refine(HS.out _).mono ?_;rintro e w5 ⟨rfl,ax,_⟩;have q0:=(ax.cell (p:=⟨B,0,none⟩) hz).trans e0;have q1:=(ax.cell (p:=⟨B,1,none⟩) hz).trans e1)
  |(simp only))
 go_wp2_with fail
 go_ret
 exact⟨rfl,by rw[hB];exact hb0.drew.trans (ax.mono (eF hz))⟩
theorem Aq{a b:Nat}{x y:Int}(ha:Fl a x)(hb:Fl b y):(FloatKind.f64.format.order a b == some .lt)=decide (x<y):=by
 have e:FloatKind.f64.format.order a b=some (compare x y):=ha.order hb;rw[e];rcases fD x y with h|h|h
 ·rw[K3.2 h];simp[h]
 ·rw[K4.2 h];simp[h]
 ·rw[K5.2 h];simp;omega
theorem Hs{a b:Nat}{x y:Int}(ha:Fl a x)(hb:Fl b y):(FloatKind.f64.format.order a b == some .gt)=decide (y<x):=by
 have e:FloatKind.f64.format.order a b=some (compare x y):=ha.order hb;rw[e];rcases fD x y with h|h|h
 ·rw[K3.2 h];simp;omega
 ·rw[K4.2 h];simp[h]
 ·rw[K5.2 h];simp[h]
theorem sG{a b:Nat}{x y:Int}(ha:Fl a x)(hb:Fl b y):(FloatKind.f64.format.order a b == some .eq)=decide (x=y):=by
 have e:FloatKind.f64.format.order a b=some (compare x y):=ha.order hb;rw[e];rcases fD x y with h|h|h
 ·rw[K3.2 h];simp;omega
 ·rw[K4.2 h];simp[h]
 ·rw[K5.2 h];simp;omega
theorem kO:Fl 0 0:=by
 have h:=qh (n:=0) (by decide)
 have e:floatOfInt .f64 0=0:=by decide
 rwa[e] at h
theorem Mv{wa wb sh na nb:Nat}{wx wy s X Y D:Int}(h1:Fl wa wx)(h2:Fl wb wy)(h3:Fl sh s)(g1:Fl na X)(g2:Fl nb Y)(b1:sm wx)(b2:sm wy)(b3:sm s)(bD:sm D)(c1:sm X)(c2:sm Y):
  ∃r,Fl r (wx*Y-wy*X-s*D)/\∀w,Calls Tryz.prog 97 #[.agg #[.complex .f64 wa wb,.float .f64 sh],.agg #[.complex .f64 na nb,.int .i64 D]] w fun e w'=>e=.returned (.float .f64 r)/\Below w.heap.size w w':=by
 have m1:=pq b1 c2;have m2:=pq b2 c1;have m3:=pq b3 bD;obtain⟨im,f1,hl⟩:=Dh h1 h2 g1 g2 b1 b2 c1 c2;obtain⟨p,e1,f2⟩:=h3.mul (pA bD) (by omega)
 obtain⟨r,e2,f3⟩:=f1.sub f2 (by omega)
 refine⟨r,f3,fun w=>?_⟩
 have Dj:=fun t w=>run_float_arith (P:=Tryz.prog) w .mul t .f64 _ _ p e1
 have wL:=fun t w=>run_float_arith (P:=Tryz.prog) w .sub t .f64 _ _ r e2
 have HL:Hid (∀w,Calls Tryz.prog 101 #[.complex .f64 wa wb,.complex .f64 na nb] w fun e w'=>e=.returned (.float .f64 im)/\w'=w):=hl
 clear hl m1 m2 m3;have hE:((w.alloc (.cells #[.complex .f64 wa wb,.float .f64 sh] 122)).alloc (.cells #[.complex .f64 na nb,.int .i64 D] 83)).heap[w.heap.size]?=some (.cells #[.complex .f64 wa wb,.float .f64 sh] 122 (0,0)):=by
  rw[Below.heap_alloc _ _ _ (by simp)];exact heap_alloc_new _ _
 have hP:((w.alloc (.cells #[.complex .f64 wa wb,.float .f64 sh] 122)).alloc (.cells #[.complex .f64 na nb,.int .i64 D] 83)).heap[w.heap.size+1]?=some (.cells #[.complex .f64 na nb,.int .i64 D] 83 (0,0)):=by
  have:=heap_alloc_new (w.alloc (.cells #[.complex .f64 wa wb,.float .f64 sh] 122)) (.cells #[.complex .f64 na nb,.int .i64 D] 83);simpa using this
 have hb0:Below w.heap.size w ((w.alloc (.cells #[.complex .f64 wa wb,.float .f64 sh] 122)).alloc (.cells #[.complex .f64 na nb,.int .i64 D] 83)):=((Below.refl _ _).alloc (ai _) _).alloc (by simp) _
 go_enter Tryz.func97,Tryz.ntmps97
 go_wp2_with fail
 generalize(w.alloc (.cells #[.complex .f64 wa wb,.float .f64 sh] 122)).alloc (.cells #[.complex .f64 na nb,.int .i64 D] 83)=W at*;generalize hB:w.heap.size=B at*;have e0:W.cell? ⟨B,0,none⟩=some (.complex .f64 wa wb):=cell_of hE 0;have nD:W.cell? ⟨B,1,none⟩=some (.float .f64 sh):=cell_of hE 1;have p0:W.cell? ⟨B+1,0,none⟩=some (.complex .f64 na nb):=cell_of hP 0;have p1:W.cell? ⟨B+1,1,none⟩=some (.int .i64 D):=cell_of hP 1
 go_region_held3 (fun w'=>w'.cell? ⟨B,0,none⟩=some (.complex .f64 wa wb)/\w'.cell? ⟨B,1,none⟩=some (.float .f64 sh)/\w'.cell? ⟨B+1,0,none⟩=some (.complex .f64 na nb)/\w'.cell? ⟨B+1,1,none⟩=some (.int .i64 D)) (go_keep) (first
  |(go_at_call 101;refine(HL.out _).mono ?_;rintro e w5 ⟨rfl,sH⟩;subst sH)
  |(simp only)
  |(simp only[wL]))
 go_wp2_with fail
 go_ret
 exact⟨rfl,by rw[hB];exact hb0.drew⟩
def small(z:Int):Prop:= -50<=z/\z<=50
theorem pB{x y a b:Int}(hx: -a<=x/\x<=a)(hy: -b<=y/\y<=b): -(a*b)<=x*y/\x*y<=a*b:=by
 have h:(x*y).natAbs<=(a*b).natAbs:=by
  rw[nV,nV];exact Cz (by omega) (by omega)
 have hab:0<=a*b:=iY (by omega) (by omega)
 omega
theorem uM{w:World}{b:Nat}{c:Array Value}{T:TypeId}(h:w.heap[b]?=some (.cells c T (0,0)))(o:Nat):w.cell? ⟨b,o,none⟩=c[o]?:=by
 simp[World.cell?,h]
def Dk(n d:Int):Int:=n.tdiv (Int.gcd n d)
def yt(n d:Int):Int:=d.tdiv (Int.gcd n d)
theorem sI{n d:Int}(hd:d≠0):0<Int.gcd n d:=acs _ hd
theorem Ht(n d:Int):n=(Int.gcd n d:Int)*Dk n d:=(rU (xR _ _)).symm
theorem Dl(n d:Int):d=(Int.gcd n d:Int)*yt n d:=(rU (vY _ _)).symm
theorem TW{n d:Int}(hd:0<d):0<yt n d:=by
 have h:=Dl n d;have hg:=sI (n:=n) (d:=d) (by omega)
 generalize yt n d=x at*;generalize Int.gcd n d=g at*;rcases fD x 0 with hx|hx|hx
 ·have:=vV (show(0:Int)<g by omega) hx;omega
 ·subst hx;omega
 ·exact hx
theorem Mw{z x:Int}{g:Nat}(h:z=(g:Int)*x)(hg:0<g):x.natAbs<=z.natAbs:=by
 rw[h,nV];exact anO _ (by simpa using hg)
theorem Mx{w:World}{b:Nat}{c:Array Value}{T:TypeId}(h:w.heap[b]?=some (.cells c T (0,0)))(o:Nat):w.frozen? ⟨b,o,none⟩=false:=by
 simp[World.frozen?,h]
theorem aes(a b:Nat):Nat.gcd b (a%b)=Nat.gcd a b:=by
 rw[Nat.gcd_comm b,<-Nat.gcd_rec,Nat.gcd_comm]
structure fB(e:(Int×Int)×(Int×Int)):Prop where
 a:small e.1.1
 b:small e.1.2
 c:small e.2.1
 d:small e.2.2
abbrev Ed:=(Int×Int)×(Int×Int)
theorem Dm{w:World}{e:TypeId}{size:Nat}{v:Value}{n:Nat}{xs:List Value}(h:w.ownsRow 0 e size v n xs){o:Nat}{u:Value}(hu:xs[o]?=some u):
  ∃b cap,v=.slice (some ⟨b,0,none⟩) n cap/\b<w.heap.size/\∀o' u',xs[o']?=some u'->w.cell? ⟨b,o',none⟩=some u':=by
 obtain⟨h1,h2⟩:=h;rcases h2 with⟨_,h0⟩|⟨b,cap,cur,hv,_,hb,_,_,_,ht⟩
 ·rw[h0,zO] at h1;rw[gF.1 h1] at hu;simp at hu
 ·refine⟨b,cap,hv,?_,fun o' u' hu'=>?_⟩
  ·rcases KZ b w.heap.size with h1|h1
   ·exact h1
   ·rw[Gz h1] at hb;cases hb
  rw[uM hb o',<-ja];rw[<-ht,kC] at hu';split at hu'
  ·exact hu'
  ·cases hu'
theorem My(f:Ge.Pt->Ge.Pt->Int){l:List Ed}{k:Nat}{e:Ed}(he:l[k]?=some e):Ge.total f (l.take (k+1))=Ge.total f (l.take k)+f e.1 e.2:=by
 obtain⟨hlt,he'⟩:=bY.1 he;have e1:l.take (k+1)=l.take k++[e]:=by rw[oY hlt,he']
 rw[e1,Ge.CJ,Ge.fE,Ge.zV];omega
theorem Hu(f:Ge.Pt->Ge.Pt->Int)(hf:∀a b, -1<=f a b/\f a b<=1):∀l:List Ed, -(l.length:Int)<=Ge.total f l/\Ge.total f l<=l.length
 |[]=>by simp[Ge.total]
 |e::l=>by
  have ih:=Hu f hf l;have h1:=hf e.1 e.2;rw[Ge.fE];simp only[bW];omega
theorem Hv(n:Ge.Pt)(d:Int)(a b:Ge.Pt): -1<=Ge.fr n d a b/\Ge.fr n d a b<=1:=by
 unfold Ge.fr Ge.right;split
 ·decide
 ·split<;>decide
structure EB where
 wa:Nat
 wb:Nat
 sh:Nat
 fa:Nat
 fb:Nat
 ta:Nat
 tb:Nat
def EB.cells(x:EB):Array Value:= #[.complex .f64 x.wa x.wb,.float .f64 x.sh,.complex .f64 x.fa x.fb,.complex .f64 x.ta x.tb]
structure jc(x:EB)(e:Ed):Prop where
 wa:Fl x.wa (e.2.1-e.1.1)
 wb:Fl x.wb (e.2.2-e.1.2)
 sh:Fl x.sh ((e.2.1-e.1.1)*e.1.2-(e.2.2-e.1.2)*e.1.1)
 fa:Fl x.fa e.1.1
 fb:Fl x.fb e.1.2
 ta:Fl x.ta e.2.1
 tb:Fl x.tb e.2.2
structure dC(X Y D:Int):Prop where
 x:X.natAbs<=16000000
 y:Y.natAbs<=16000000
 d:0<D/\D<=300000
theorem wM{z:Int}(h:small z):sm z:=by unfold small at h;unfold sm;omega
theorem Hw{X D x:Int}(hX:X.natAbs<=16000000)(hD:0<D/\D<=300000)(hx:small x):sm (X-x*D):=by
 have m: -15000000<=x*D/\x*D<=15000000:=pB (a:=50) (b:=300000) hx ⟨by omega,hD.2⟩
 unfold sm;omega
theorem Hx{e:Ed}(h:fB e):sm ((e.2.1-e.1.1)*e.1.2-(e.2.2-e.1.2)*e.1.1):=by
 obtain⟨a,b,c,d⟩:=h;unfold small at a b c d;have m1: -5000<=(e.2.1-e.1.1)*e.1.2/\(e.2.1-e.1.1)*e.1.2<=5000:=pB (a:=100) (b:=50) (by omega) (by omega)
 have m2: -5000<=(e.2.2-e.1.2)*e.1.1/\(e.2.2-e.1.2)*e.1.1<=5000:=pB (a:=100) (b:=50) (by omega) (by omega)
 unfold sm;omega
def lf(X Y D:Int)(e:Ed):Int:=(e.2.1-e.1.1)*Y-(e.2.2-e.1.2)*X-((e.2.1-e.1.1)*e.1.2-(e.2.2-e.1.2)*e.1.1)*D
theorem Mz(X Y D:Int)(e:Ed):D*lf X Y D e=Ge.cr (Ge.rel (X,Y) D e.1) (Ge.rel (X,Y) D e.2):=by
 obtain⟨⟨a,b⟩,c,d⟩:=e;simp only[lf,Ge.cr,Ge.rel]
 grind
theorem Hy{D z:Int}(hD:0<D):(0<D*z↔0<z)/\(D*z<0↔z<0)/\(D*z=0↔z=0):=by
 rcases fD z 0 with h|h|h
 ·have:=vV hD h;omega
 ·subst h;omega
 ·have:=aU hD h;omega
theorem aet(X Y D:Int)(e:Ed):(X-e.1.1*D)*(X-e.2.1*D)+(Y-e.1.2*D)*(Y-e.2.2*D)=Ge.dt (Ge.rel (X,Y) D e.1) (Ge.rel (X,Y) D e.2):=by
 obtain⟨⟨a,b⟩,c,d⟩:=e;simp only[Ge.dt,Ge.rel]
 grind
theorem aeu(X Y D:Int)(e:Ed)(hD:0<D):(decide (lf X Y D e=0)&&decide ((X-e.1.1*D)*(X-e.2.1*D)+(Y-e.1.2*D)*(Y-e.2.2*D)<=0))=Ge.fo (X,Y) D e:=by
 unfold Ge.fo Ge.on;rw[aet,<-Mz];congr 1;exact decide_eq_decide.2 (Hy hD).2.2.symm
theorem aev(X Y D:Int)(e:Ed)(hD:0<D):Ge.fr (X,Y) D e.1 e.2=if ¬X*1<e.1.1*D/\X*1<e.2.1*D/\0<lf X Y D e then 1 else if X*1<e.1.1*D/\¬X*1<e.2.1*D/\lf X Y D e<0 then -1 else 0:=by
 unfold Ge.fr Ge.right;rw[<-Mz];obtain⟨p1,p2,_⟩:=Hy (z:=lf X Y D e) hD;have h1:(Ge.rel (X,Y) D e.1).1=D*e.1.1-X:=rfl;have h2:(Ge.rel (X,Y) D e.2).1=D*e.2.1-X:=rfl;rw[h1,h2,eA D e.1.1,eA D e.2.1];generalize D*lf X Y D e=Z at*;generalize lf X Y D e=L at*;generalize e.1.1*D=U at*;generalize e.2.1*D=V at*
 repeat' split
 all_goals omega
end Go.Proofs.YtkjhhooecopolaaGreatDoor

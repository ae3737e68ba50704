import Derived.Test.YtkjhhooecopolaaGreatDoorWz05
set_option maxRecDepth 100000
set_option maxHeartbeats 4000000
namespace Go.Proofs.YtkjhhooecopolaaGreatDoor
open Ieee
def Dn(d:Datum)(n:Int):Prop:=∃s m i,d=.number s m i/\ -2148<=i/\signed s m (i+2148).toNat=n*2 ^ 2148
def D1(d:Datum)(n:Int):Prop:=∃s m i,d=.number s m i/\ -1074<=i/\signed s m (i+1074).toNat=n*2 ^ 1074
def Fl(b:Nat)(n:Int):Prop:=D1 (double.read b) n
theorem oC(s:Bool)(m k:Nat):signed s m k=(if s then -1 else 1)*((m*2 ^ k:Nat):Int):=by
 unfold signed;rw[aaR];cases s<;>simp
theorem zA(s:Bool)(m k j:Nat):signed s m (k+j)=signed s m k*2 ^ j:=by
 rw[oC,oC,rA,<-Bz];generalize(if s=true then(-1:Int) else 1)=c
 rw[Ks (m*2 ^ k),Qf]
 push_cast
 rfl
theorem RQ{m:Nat}(k:Nat)(hm:m≠0):(m*2 ^ k).log2=m.log2+k:=by
 have hp:=pC k;have hne:m*2 ^ k≠0:=Kt (FK (aaS hm) hp);rw[aaT hne];have⟨h1,h2⟩:=(aaT hm (k:=m.log2)).1 rfl;refine⟨?_,?_⟩
 ·rw[rA];exact FL _ h1
 ·have:m.log2+k+1=(m.log2+1)+k:=by omega
  rw[this,rA];exact amr h2 hp
theorem RS(s:Bool)(m k:Nat):(signed s m k).natAbs=m*2 ^ k:=by
 rw[oC];cases s<;>simp[Int.natAbs_mul,Int.natAbs_pow]
theorem Cy(k:Nat):(0:Int)<2 ^ k:=by
 have:=pC k;have h:((2 ^ k:Nat):Int)=(2:Int) ^ k:=by push_cast;rfl
 omega
theorem RU{s:Bool}{m:Nat}{i n:Int}(P Z:Nat)(hi: -(P:Int)<=i)(Lv:P<=Z)(h:signed s m (i+P).toNat=n*2 ^ P):
  signed s m (i+Z).toNat=n*2 ^ Z:=by
 have e:(i+Z).toNat=(i+P).toNat+(Z-P):=by omega
 have e':Z=P+(Z-P):=by omega
 rw[e,zA,h,Qf,<-Int.pow_add,<-e']
theorem acB(s:Bool)(m k:Nat):signed (!s) m k= -signed s m k:=by
 cases s<;>simp[signed]
theorem D1.RX{d:Datum}{n:Int}(h:D1 d n):D1 d.opposite (-n):=by
 obtain⟨s,m,i,rfl,h2,h3⟩:=h;refine⟨!s,m,i,rfl,h2,?_⟩;rw[acB,h3,iC]
theorem RY(t:Int)(c:Bool)(k:Nat):signed (if t=0 then c else decide (t<0)) t.natAbs k=t*2 ^ k:=by
 rw[oC,Ks,Int.natCast_pow];have e3:((2:Nat):Int)=2:=rfl;rw[e3,<-Qf];congr 1;by_cases h:t=0
 ·simp[h]
 ·rw[af h];by_cases h2:t<0
  ·simp only[h2,decide_true,gD];omega
  ·simp only[h2,decide_false,js,jR];omega
theorem acC{s t c:Bool}{m k:Nat}{i j x y:Int}(P Z:Nat)(hi: -(P:Int)<=i)(hj: -(P:Int)<=j)(Lv:P<=Z)
  (hx:signed s m (i+P).toNat=x*2 ^ P)(hy:signed t k (j+P).toNat=y*2 ^ P):
  signed (if signed s m (i-min i j).toNat+signed t k (j-min i j).toNat=0 then c else decide (signed s m (i-min i j).toNat+signed t k (j-min i j).toNat<0))
   (signed s m (i-min i j).toNat+signed t k (j-min i j).toNat).natAbs (min i j+Z).toNat=(x+y)*2 ^ Z:=by
 rw[RY,Int.add_mul,<-zA,<-zA];have e1:(i-min i j).toNat+(min i j+Z).toNat=(i+Z).toNat:=by omega
 have e2:(j-min i j).toNat+(min i j+Z).toNat=(j+Z).toNat:=by omega
 rw[e1,e2,RU P Z hi Lv hx,RU P Z hj Lv hy,Int.add_mul]
theorem D1.sum{d e:Datum}{x y:Int}(hd:D1 d x)(he:D1 e y):∃r,d.sum e=some r/\Dn r (x+y):=by
 obtain⟨s,m,i,rfl,hi,hx⟩:=hd;obtain⟨t,k,j,rfl,hj,hy⟩:=he;refine⟨_,rfl,_,_,_,rfl,by omega,?_⟩
 exact acC 1074 2148 hi hj (by decide) hx hy
theorem acD(s t:Bool)(m k a b:Nat):signed (s ^^ t) (m*k) (a+b)=signed s m a*signed t k b:=by
 rw[oC,oC,oC,rA];have e:m*k*(2 ^ a*2 ^ b)=(m*2 ^ a)*(k*2 ^ b):=by ac_rfl
 rw[e,Ks (m*2 ^ a)];cases s<;>cases t<;>simp[Int.neg_mul,Int.mul_neg]
theorem acE{s t:Bool}{m k:Nat}{i j x y:Int}(P:Nat)(hi: -(P:Int)<=i)(hj: -(P:Int)<=j)
  (hx:signed s m (i+P).toNat=x*2 ^ P)(hy:signed t k (j+P).toNat=y*2 ^ P):signed (s ^^ t) (m*k) (i+j+(P+P:Nat)).toNat=x*y*2 ^ (P+P):=by
 have e:(i+j+(P+P:Nat)).toNat=(i+P).toNat+(j+P).toNat:=by omega
 rw[e,acD,hx,hy,Int.pow_add]
 ac_rfl
theorem D1.product{d e:Datum}{x y:Int}(hd:D1 d x)(he:D1 e y):∃r,d.product e=some r/\Dn r (x*y):=by
 obtain⟨s,m,i,rfl,hi,hx⟩:=hd;obtain⟨t,k,j,rfl,hj,hy⟩:=he;refine⟨_,rfl,_,_,_,rfl,by omega,?_⟩
 exact acE 1074 hi hj hx hy
theorem RZ(a b p:Int)(hp:0<p):compare (a*p) (b*p)=compare a b:=by
 rcases eK a b with h|h|h
 ·rw[Ku.2 h,Ku.2 (Qo h hp)]
 ·subst h;rw[Kv.2 rfl,Kv.2 rfl]
 ·rw[Kw.2 h,Kw.2 (Qo h hp)]
theorem acF{s t:Bool}{m k:Nat}{i j x y:Int}(P:Nat)(hi: -(P:Int)<=i)(hj: -(P:Int)<=j)
  (hx:signed s m (i+P).toNat=x*2 ^ P)(hy:signed t k (j+P).toNat=y*2 ^ P):
  compare (signed s m (i-min i j).toNat) (signed t k (j-min i j).toNat)=compare x y:=by
 rw[<-RZ _ _ (2 ^ (min i j+P).toNat) (Cy _),<-zA,<-zA];have e1:(i-min i j).toNat+(min i j+P).toNat=(i+P).toNat:=by omega
 have e2:(j-min i j).toNat+(min i j+P).toNat=(j+P).toNat:=by omega
 rw[e1,e2,hx,hy,RZ _ _ _ (Cy _)]
theorem Fl.order{a b:Nat}{x y:Int}(ha:Fl a x)(hb:Fl b y):double.order a b=some (compare x y):=by
 unfold Format.order;obtain⟨s,m,i,e1,hi,hx⟩:=ha;obtain⟨t,k,j,e2,hj,hy⟩:=hb;rw[e1,e2];exact au some (acF 1074 hi hj hx hy)
theorem acG(neg:Bool)(n:Nat):Toward.even.cut neg n 0=n:=by
 simp[Toward.cut,Nat.mod_one]
theorem Sa(way:Toward)(neg:Bool)(q drop:Nat)(hq:0<q):way.cut neg (q*2 ^ drop) drop=q:=by
 have hl:drop<=(q*2 ^ drop).log2:=by
  have hne:q*2 ^ drop≠0:=Kt (FK hq (pC _));rw[Nat.le_log2 hne];exact Nat.le_mul_of_pos_left _ hq
 have hm:min drop ((q*2 ^ drop).log2+2)=drop:=by omega
 have hp:=pC drop;cases way<;>simp[Toward.cut,hm,Nat.shiftLeft_eq,Nat.mul_div_cancel _ hp]
 all_goals omega
theorem acH{m N L:Nat}{i:Int}(Z:Nat)(s:Bool)(hL:L<=52)(hi: -(Z:Int)<=i)(h52:52<=Z)(hN:N≠0)
  (lX:m*2 ^ (i+Z).toNat=N*2 ^ Z):
  Toward.even.cut s (m <<<(i-((L:Int)-52)).toNat) (((L:Int)-52)-i).toNat=N*2 ^ (52-L):=by
 rcases(show i<(L:Int)-52\/(L:Int)-52<=i by omega) with hc|hc
 ·have e0:(i-((L:Int)-52)).toNat=0:=by omega
  rw[e0,aaV];have e2:Z=(52-L)+((((L:Int)-52)-i).toNat+(i+Z).toNat):=by omega
  have e3:N*2 ^ Z=N*2 ^ (52-L)*2 ^ (((L:Int)-52)-i).toNat*2 ^ (i+Z).toNat:=by
   rw[Bz,Bz,<-rA,<-rA,<-e2]
  rw[e3] at lX;have e4:=aaW (pC _) lX;rw[e4];exact Sa _ _ _ _ (FK (aaS hN) (pC _))
 ·have e0:(((L:Int)-52)-i).toNat=0:=by omega
  rw[e0,acG,aaR];have e1:(i+Z).toNat=(i-((L:Int)-52)).toNat+(Z-(52-L)):=by omega
  have e2:(52-L)+(Z-(52-L))=Z:=by omega
  rw[e1,rA,<-Bz] at lX;have e3:N*2 ^ Z=N*2 ^ (52-L)*2 ^ (Z-(52-L)):=by rw[Bz,<-rA,e2]
  rw[e3] at lX;exact aaW (pC _) lX
theorem acI{m N L:Nat}{i:Int}(s:Bool)(hL:L<=52)(hm:m≠0)(hl:i+m.log2=L)(hK2:N*2 ^ (52-L)<2 ^ 53)
  (hk:Toward.even.cut s (m <<<(i-((L:Int)-52)).toNat) (((L:Int)-52)-i).toNat=N*2 ^ (52-L)):
  double.nearest s m i=double.word s ((L+1022)*2 ^ 52+N*2 ^ (52-L)):=by
 have hlast:max (i+m.log2-52) (-1074)=(L:Int)-52:=by omega
 unfold Format.nearest;rw[af hm];have e1:double.leastPlace= -1074:=by decide
 have e2:((double.fractionBits:Nat):Int)=52:=rfl;have e3:double.binade=2 ^ 52:=rfl;have e4:double.infRung=2047*2 ^ 52:=rfl;simp only[e1,e2,e3,e4,hlast,hk];have e5:((L:Int)-52- -1074).toNat=L+1022:=by omega
 rw[e5];generalize N*2 ^ (52-L)=K at*;have e6:(L+1022)*2 ^ 52+K<=2047*2 ^ 52:=by omega
 rw[aaX e6]
theorem acJ(s:Bool)(L K:Nat)(hL:L<=52)(Sb:2 ^ 52<=K)(hK2:K<2 ^ 53):
  double.read (double.word s ((L+1022)*2 ^ 52+K))=.number s K ((L:Int)-52):=by
 unfold Format.read;have e1:double.leastPlace= -1074:=by decide
 have e3:double.binade=2 ^ 52:=rfl;have e4:double.infRung=2047*2 ^ 52:=rfl;have e5:double.signWeight=2 ^ 63:=rfl;have r1:double.word s ((L+1022)*2 ^ 52+K)%2 ^ 63=(L+1022)*2 ^ 52+K:=by
  unfold Format.word;rw[e5];split<;>omega
 have r2:(double.word s ((L+1022)*2 ^ 52+K)/2 ^ 63%2 == 1)=s:=by
  unfold Format.word;rw[e5];cases s
  ·simp only[js,jR,yU];omega
  ·simp only[gD,Qn];omega
 simp only[e1,e3,e4,e5,r1,r2];rw[af (by omega),aj (by omega)]
 have q1:2 ^ 52+((L+1022)*2 ^ 52+K)%2 ^ 52=K:=by omega
 have q2:((L+1022)*2 ^ 52+K)/2 ^ 52-1=L+1022:=by omega
 rw[q1,q2];have q3:(-1074:Int)+((L+1022:Nat):Int)=(L:Int)-52:=by omega
 rw[q3]
theorem Sc{s:Bool}{q:Nat}{n p:Int}(hp:0<p)(hq:0<q)(hv:(if s then -1 else 1)*(q:Int)=n*p):(s=true/\n<0)\/(s=false/\0<n):=by
 cases s
 ·right;refine⟨rfl,?_⟩;simp only[js,jR,tM] at hv;rcases eK n 0 with h|h|h
  ·have:=Br h hp;omega
  ·subst h;rw[uW] at hv;omega
  ·exact h
 ·left;refine⟨rfl,?_⟩;simp only[gD] at hv;rcases eK n 0 with h|h|h
  ·exact h
  ·subst h;rw[uW] at hv;omega
  ·have:=aR h hp;omega
theorem value_of{s:Bool}{N L:Nat}{n:Int}(P:Nat)(hP:P=1074)(hL:L<=52)(hN:n.natAbs=N)(hs:(s=true/\n<0)\/(s=false/\0<n)):
  signed s (N*2 ^ (52-L)) ((L:Int)-52+1074).toNat=n*2 ^ P:=by
 rw[oC];have e1:((L:Int)-52+1074).toNat=L+1022:=by omega
 rw[e1,Bz,<-rA];have e2:52-L+(L+1022)=P:=by omega
 rw[e2,Ks,Int.natCast_pow];have e3:((2:Nat):Int)=2:=rfl;rw[e3];rcases hs with⟨rfl,hs⟩|⟨rfl,hs⟩
 ·have:(N:Int)= -n:=by omega
  rw[this];simp only[gD];rw[iC,tM,iC,Int.neg_neg]
 ·have:(N:Int)=n:=by omega
  rw[this];simp only[js,jR,tM]
theorem acK(s:Bool)(i:Int):double.read (double.nearest s 0 i)=.number s 0 (-1074):=by
 have e:double.nearest s 0 i=double.word s 0:=by simp[Format.nearest]
 rw[e];cases s<;>decide
theorem acL{n:Int}(Z P:Nat)(hZ:Z=2148)(hP:P=1074){s:Bool}{m:Nat}{i:Int}(hi: -(Z:Int)<=i)
  (hv:signed s m (i+Z).toNat=n*2 ^ Z)(hn:n.natAbs<2 ^ 53):
  ∃s' m' i',double.read (double.nearest s m i)=.number s' m' i'/\ -1074<=i'/\signed s' m' (i'+1074).toNat=n*2 ^ P:=by
 have lX:m*2 ^ (i+Z).toNat=n.natAbs*2 ^ Z:=by
  have:=au Int.natAbs hv;rw[RS,oa,aaU] at this;exact this
 by_cases hm:m=0
 ·subst hm;have hn0:n=0:=by
   rw[BA] at lX;rcases Nat.mul_eq_zero.1 lX.symm with h|h
   ·exact Int.natAbs_eq_zero.1 h
   ·exact absurd h (Kt (pC _))
  subst hn0;refine⟨s,0, -1074,acK s i,Int.le_refl _,?_⟩;rw[oC,BA,uW];simp
 ·have hN:n.natAbs≠0:=by
   intro h;rw[h,BA] at lX;rcases Nat.mul_eq_zero.1 lX with h|h
   ·exact absurd h hm
   ·exact absurd h (Kt (pC _))
  have hl:m.log2+(i+Z).toNat=n.natAbs.log2+Z:=by
   rw[<-RQ (i+Z).toNat hm,<-RQ Z hN,lX]
  have hL:n.natAbs.log2<=52:=Nat.le_of_lt_succ ((Nat.log2_lt hN (k:=53)).2 hn);have⟨hlo,hhi⟩:=(aaT hN (k:=n.natAbs.log2)).1 rfl;have hs:(s=true/\n<0)\/(s=false/\0<n):=by
   rw[oC] at hv;exact Sc (Cy Z) (FK (aaS hm) (pC _)) hv
  have hk:=acH Z s hL hi (by omega) hN lX
  clear hv lX;generalize hLe:n.natAbs.log2=L at*;have Sb:2 ^ 52<=n.natAbs*2 ^ (52-L):=by
   have:2 ^ 52=2 ^ L*2 ^ (52-L):=by rw[<-rA];congr 1;omega
   rw[this];exact FL _ hlo
  have hK2:n.natAbs*2 ^ (52-L)<2 ^ 53:=by
   have:2 ^ 53=2 ^ (L+1)*2 ^ (52-L):=by rw[<-rA];congr 1;omega
   rw[this];exact amr hhi (pC _)
  rw[acI s hL hm (by omega) hK2 hk]
  exact⟨_,_,_,acJ s L _ hL Sb hK2,by omega,value_of P hP hL rfl hs⟩
theorem GV{d:Datum}{n:Int}(h:Dn d n)(hn:n.natAbs<2 ^ 53):Fl (double.write d) n:=by
 obtain⟨s,m,i,rfl,hi,hv⟩:=h;exact acL 2148 1074 rfl rfl hi hv hn
theorem acM(way:Toward)(neg:Bool)(n:Nat):way.cut neg n 0=n:=by
 cases way<;>simp[Toward.cut,Nat.mod_one]
theorem acN{s:Bool}{m:Nat}{i n:Int}(P:Nat)(hi: -(P:Int)<=i)(h:signed s m (i+P).toNat=n*2 ^ P):
  signed s (Toward.zero.cut s (m <<<i.toNat) (-i).toNat) 0=n:=by
 rcases(show 0<=i\/i<0 by omega) with hc|hc
 ·have e0:(-i).toNat=0:=by omega
  rw[e0,acM];have e1:(i+P).toNat=i.toNat+P:=by omega
  rw[e1,zA] at h;have h2:=Qp (aaY (Cy P)) h;rw[<-h2];unfold signed;rw[aaV]
 ·have e0:i.toNat=0:=by omega
  rw[e0,aaV];have lX:m*2 ^ (i+P).toNat=n.natAbs*2 ^ P:=by
   have:=au Int.natAbs h;rw[RS,oa,aaU] at this;exact this
  have e2:P=(-i).toNat+(i+P).toNat:=by omega
  have e3:n.natAbs*2 ^ P=n.natAbs*2 ^ (-i).toNat*2 ^ (i+P).toNat:=by rw[Bz,<-rA,<-e2]
  rw[e3] at lX;have hm:=aaW (pC _) lX;by_cases hn:n=0
  ·subst hn;have:m=0:=by rw[hm];simp
   subst this;have:Toward.zero.cut s 0 (-i).toNat=0:=by simp[Toward.cut]
   rw[this];cases s<;>rfl
  ·have hN:0<n.natAbs:=Int.natAbs_pos.2 hn;rw[hm,Sa _ _ _ _ hN];have hmp:0<m:=by rw[hm];exact FK hN (pC _)
   rw[oC] at h;rcases Sc (Cy P) (FK hmp (pC _)) h with⟨rfl,hs⟩|⟨rfl,hs⟩
   ·rw[oC];simp only[gD];omega
   ·rw[oC];simp only[js,jR];omega
theorem Fl.toInt{b:Nat}{n:Int}(h:Fl b n):(double.read b).toInt .zero=some n:=by
 obtain⟨s,m,i,e,hi,hx⟩:=h;rw[e];exact au some (acN 1074 hi hx)
theorem Fl.add{a b:Nat}{x y:Int}(ha:Fl a x)(hb:Fl b y)(hn:(x+y).natAbs<2 ^ 53):∃r,floatBits .add .f64 a b=some r/\Fl r (x+y):=by
 obtain⟨r,h1,h2⟩:=D1.sum ha hb;refine⟨double.write r,?_,GV h2 hn⟩;show(Datum.sum (double.read a) (double.read b)).map double.write=_;rw[h1];rfl
theorem Fl.sub{a b:Nat}{x y:Int}(ha:Fl a x)(hb:Fl b y)(hn:(x-y).natAbs<2 ^ 53):∃r,floatBits .sub .f64 a b=some r/\Fl r (x-y):=by
 obtain⟨r,h1,h2⟩:=D1.sum ha (D1.RX hb);refine⟨double.write r,?_,GV (n:=x-y) (by rw[Int.sub_eq_add_neg];exact h2) hn⟩
 show(Datum.sum (double.read a) (double.read b).opposite).map double.write=_;rw[h1];rfl
theorem Fl.mul{a b:Nat}{x y:Int}(ha:Fl a x)(hb:Fl b y)(hn:(x*y).natAbs<2 ^ 53):∃r,floatBits .mul .f64 a b=some r/\Fl r (x*y):=by
 obtain⟨r,h1,h2⟩:=D1.product ha hb;refine⟨double.write r,?_,GV h2 hn⟩;show(Datum.product (double.read a) (double.read b)).map double.write=_;rw[h1];rfl
theorem qx{n:Int}(hn:n.natAbs<2 ^ 53):Fl (floatOfInt .f64 n) n:=by
 refine GV (d:=.number (n<0) n.natAbs 0) ⟨_,_,_,rfl,by decide,?_⟩ hn
 have h:=RY n false ((0:Int)+2148).toNat;have e:(if n=0 then false else decide (n<0))=decide (n<0):=by
  split
  ·rename_i h;subst h;rfl
  ·rfl
 rw[e] at h;exact h
theorem Fl.int{b:Nat}{n:Int}(h:Fl b n)(h1: -9223372036854775808<=n)(h2:n<=9223372036854775807):floatToIntVal .f64 b .i64=some n:=by
 unfold floatToIntVal;have e:(FloatKind.decode .f64 b).toInt .zero=some n:=h.toInt;rw[e];have e1:IntKind.min .i64= -9223372036854775808:=by decide
 have e2:IntKind.max .i64=9223372036854775807:=by decide
 simp only[e1,e2,h1,h2,and_self,gD]
theorem acO(b:Nat):double.read (Op.negFloat .f64 b)=(double.read b).opposite:=by
 have e:Op.negFloat .f64 b=b ^^^ 2 ^ 63:=rfl;have e1:double.signWeight=2 ^ 63:=rfl;have h1:(b ^^^ 2 ^ 63)%2 ^ 63=b%2 ^ 63:=by rw[Nat.xor_mod_two_pow];simp
 have h2:((b ^^^ 2 ^ 63)/2 ^ 63%2 == 1)= !(b/2 ^ 63%2 == 1):=by
  rw[Nat.xor_div_two_pow];have:(2:Nat) ^ 63/2 ^ 63=1:=by decide
  rw[this];have h3:(b/2 ^ 63 ^^^ 1)%2=(b/2 ^ 63%2) ^^^ 1:=by
   have:=Nat.xor_mod_two_pow (a:=b/2 ^ 63) (b:=1) (n:=1);simpa using this
  rw[h3];rcases Nat.mod_two_eq_zero_or_one (b/2 ^ 63) with h|h<;>rw[h]<;>decide
 unfold Format.read;rw[e,e1];simp only[h1,h2];split
 ·rfl
 ·split
  ·rfl
  ·split<;>rfl
theorem Fl.neg{b:Nat}{n:Int}(h:Fl b n):Fl (Op.negFloat .f64 b) (-n):=by
 unfold Fl;rw[acO];exact D1.RX h
theorem acP{a b c d:Nat}{x y u v:Int}(h1:Fl a x)(h2:Fl b y)(h3:Fl c u)(h4:Fl d v)(n1:(x+u).natAbs<2 ^ 53)(n2:(y+v).natAbs<2 ^ 53):
  ∃re im,cSumBits .add .f64 a b c d=some (re,im)/\Fl re (x+u)/\Fl im (y+v):=by
 obtain⟨r,e1,f1⟩:=h1.add h3 n1;obtain⟨i,e2,f2⟩:=h2.add h4 n2;exact⟨r,i,by simp[cSumBits,e1,e2],f1,f2⟩
theorem Lx{a b c d:Nat}{x y u v:Int}(h1:Fl a x)(h2:Fl b y)(h3:Fl c u)(h4:Fl d v)(n1:(x-u).natAbs<2 ^ 53)(n2:(y-v).natAbs<2 ^ 53):
  ∃re im,cSumBits .sub .f64 a b c d=some (re,im)/\Fl re (x-u)/\Fl im (y-v):=by
 obtain⟨r,e1,f1⟩:=h1.sub h3 n1;obtain⟨i,e2,f2⟩:=h2.sub h4 n2;exact⟨r,i,by simp[cSumBits,e1,e2],f1,f2⟩
theorem Lz{a b c d:Nat}{x y u v:Int}(h1:Fl a x)(h2:Fl b y)(h3:Fl c u)(h4:Fl d v)
  (n1:(x*u).natAbs<2 ^ 53)(n2:(y*v).natAbs<2 ^ 53)(n3:(x*u-y*v).natAbs<2 ^ 53)
  (n4:(x*v).natAbs<2 ^ 53)(n5:(y*u).natAbs<2 ^ 53)(n6:(x*v+y*u).natAbs<2 ^ 53):
  ∃re im,cMulBits a b c d=some (re,im)/\Fl re (x*u-y*v)/\Fl im (x*v+y*u):=by
 obtain⟨ac,e1,f1⟩:=h1.mul h3 n1;obtain⟨bd,e2,f2⟩:=h2.mul h4 n2;obtain⟨re,e3,f3⟩:=f1.sub f2 n3;obtain⟨ad,e4,f4⟩:=h1.mul h4 n4;obtain⟨bc,e5,f5⟩:=h2.mul h3 n5;obtain⟨im,e6,f6⟩:=f4.add f5 n6;exact⟨re,im,by simp[cMulBits,e1,e2,e3,e4,e5,e6],f3,f6⟩
end Go.Proofs.YtkjhhooecopolaaGreatDoor
namespace Go.Proofs.YtkjhhooecopolaaGreatDoor.Ge
theorem LA{k z:Int}(hk:0<k):(k*z).sign=z.sign:=by
 rw[Qq,pq hk,tM]
theorem Sh(g:List Pt):(closing g).length=g.length:=by
 cases g with
 |nil=>rfl
 |cons a r=>simp[closing]
def vG(g:List Pt)(n:Nat):Option Pt:=if n+1<g.length then g[n+1]? else g[0]?
theorem Si{g:List Pt}{n:Nat}{p q:Pt}(hp:g[n]?=some p)(hq:vG g n=some q):(closing g)[n]?=some (p,q):=by
 cases g with
 |nil=>simp at hp
 |cons a r=>
  show((a::r).zip (r++[a]))[n]?=_;rw[aaZ];refine⟨hp,?_⟩;unfold vG at hq;by_cases h:n+1<(a::r).length
  ·rw[aj h] at hq;simp only[cN] at h;rw[fC (by omega)]
   simpa using hq
  ·rw[af h] at hq;have hn:n<(a::r).length:=(bZ.1 hp).1;simp only[cN] at h hn;have e:n=r.length:=by omega
   rw[e,n9 (ay _)];simpa using hq
def jX(g:List Pt)(n:Nat):List (Pt×Pt):=((closing g).take n).filter fun e=>decide (e.1≠e.2)
theorem acQ(g:List Pt):jX g 0=[]:=by simp[jX]
theorem LB(g:List Pt):jX g g.length=dY g:=by
 unfold jX dY;rw[<-Sh g,gm]
theorem acR{g:List Pt}{n:Nat}{p q:Pt}(hp:g[n]?=some p)(hq:vG g n=some q)(h:p=q):jX g (n+1)=jX g n:=by
 obtain⟨hlt,he⟩:=bZ.1 (Si hp hq);unfold jX;rw[uX hlt,he,BB];simp[h]
theorem acS{g:List Pt}{n:Nat}{p q:Pt}(hp:g[n]?=some p)(hq:vG g n=some q)(h:p≠q):jX g (n+1)=jX g n++[(p,q)]:=by
 obtain⟨hlt,he⟩:=bZ.1 (Si hp hq);unfold jX;rw[uX hlt,he,BB];simp[h]
theorem LC(g:List Pt)(n:Nat):(jX g n).length<=g.length:=by
 unfold jX;refine fg (FM _ _) ?_;rw[iE,Sh];omega
theorem all_append(a b:List (List Pt)):ae (a++b)=ae a++ae b:=by simp[ae]
theorem acT{p:List (List Pt)}{k:Nat}{g:List Pt}(h:p[k]?=some g):ae (p.take (k+1))=ae (p.take k)++dY g:=by
 obtain⟨hlt,he⟩:=bZ.1 h;rw[uX hlt,he,all_append];simp[ae]
theorem LF(B:Nat):∀(p:List (List Pt)),(∀g∈p,g.length<=B)->(ae p).length<=p.length*B
 |[],_=>by simp[ae]
 |g::p,h=>by
  have e:ae (g::p)=dY g++ae p:=po;have h1:=LF B p (fun x hx=>h x (by simp[hx]))
  have h2:=h g (by simp)
  have h3:(dY g).length<=g.length:=by rw[<-LB];exact LC g _
  rw[e,aX,cN,FN];omega
theorem Sj(B C:Nat):∀(ps:List (List (List Pt))),(∀p∈ps,p.length<=C/\∀g∈p,g.length<=B)->(ae ps.flatten).length<=ps.length*(C*B)
 |[],_=>by simp[ae]
 |p::ps,h=>by
  rw[tN,all_append,aX,cN,FN];have h1:=Sj B C ps (fun x hx=>h x (by simp[hx]))
  have h2:=h p (by simp)
  have h3:=LF B p h2.2;have h4:=FL B h2.1;omega
theorem acU{g:List Pt}{e:Pt×Pt}(h:e∈dY g):e.1∈g/\e.2∈g:=by
 unfold dY at h;have h1:=(eY.1 h).1;cases g with
 |nil=>simp[closing] at h1
 |cons a r=>
  obtain⟨x,y⟩:=e;have h2:=List.of_mem_zip h1;refine⟨h2.1,?_⟩;have:=h2.2;simp at this⊢;rcases this with h|h
  ·exact ah h
  ·exact ag h
theorem Sk{rg:List (List Pt)}{e:Pt×Pt}(h:e∈ae rg):∃g∈rg,e.1∈g/\e.2∈g:=by
 unfold ae at h;obtain⟨g,hg,he⟩:=nu.1 h;exact⟨g,hg,acU he⟩
theorem GW{rg:List (List Pt)}{e:Pt×Pt}(h:e∈ae rg):e.1≠e.2:=by
 unfold ae at h;obtain⟨g,hg,he⟩:=nu.1 h;unfold dY at he;simpa using(eY.1 he).2
end Go.Proofs.YtkjhhooecopolaaGreatDoor.Ge
namespace Go.Proofs.YtkjhhooecopolaaGreatDoor
open Go.RowKit
theorem fW(P:Program)(w:World)(a:Addr)(k:FloatKind)(x y:Nat)(m:Mode):(store a (.complex k x y) m).run P w=stored P w a (.complex k x y) m:=run_store P w a _ m rfl
theorem oD(P:Program)(w:World)(a:Addr)(k:FloatKind)(x:Nat)(m:Mode):(store a (.float k x) m).run P w=stored P w a (.float k x) m:=run_store P w a _ m rfl
def sm(z:Int):Prop:=z.natAbs<=33554432
theorem acV(a b:Nat)(w:World):
  Calls Tryz.prog 151 #[.complex .f64 a b] w fun e w'=>e=.returned (.complex .f64 a (Op.negFloat .f64 b))/\w'=w:=by
 have hop:∀w,(Op.unary .neg (.float .f64 b)).run Tryz.prog w=.ok (.float .f64 (Op.negFloat .f64 b)) w:=fun _=>rfl
 go_enter Tryz.func151,Tryz.ntmps151
 go_wp2_with (simp only[hop])
 go_ret
 exact⟨rfl,rfl⟩
theorem oF{x y:Int}(hx:sm x)(hy:sm y):(x*y).natAbs<=1125899906842624:=by
 rw[oa];exact BC hx hy
theorem LG{a b c d:Nat}{x y u v:Int}(h1:Fl a x)(h2:Fl b y)(h3:Fl c u)(h4:Fl d v)(b1:sm x)(b2:sm y)(b3:sm u)(b4:sm v):
  ∃re im,Fl re (x*u+y*v)/\Fl im (x*v-y*u)/\∀w,Calls Tryz.prog 98 #[.complex .f64 a b,.complex .f64 c d] w fun e w'=>e=.returned (.complex .f64 re im)/\w'=w:=by
 have m1:=oF b1 b3;have m2:=oF b2 b4;have m3:=oF b1 b4;have m4:=oF b2 b3;have n2:(-y*v).natAbs<=1125899906842624:=by rw[iC,yX];exact m2
 have n4:(-y*u).natAbs<=1125899906842624:=by rw[iC,yX];exact m4
 obtain⟨re,im,e,f1,f2⟩:=Lz h1 h2.neg h3 h4 (by omega) (by omega) (by omega) (by omega) (by omega) (by omega)
 refine⟨re,im,?_,?_,fun w=>?_⟩
 ·have:x*u+y*v=x*u- -y*v:=by rw[iC];omega
  rw[this];exact f1
 ·have:x*v-y*u=x*v+ -y*u:=by rw[iC];omega
  rw[this];exact f2
 ·have hop:=fun t w=>run_complex_mul (P:=Tryz.prog) w t a (Op.negFloat .f64 b) c d re im e
  have HM:Hid (∀w1,Calls Tryz.prog 151 #[.complex .f64 a b] w1 fun e w'=>e=.returned (.complex .f64 a (Op.negFloat .f64 b))/\w'=w1):=fun w1=>acV a b w1
  clear m1 m2 m3 m4 n2 n4 e f1 f2;generalize Op.negFloat .f64 b=nb at*
  go_enter Tryz.func98,Tryz.ntmps98
  go_wp2_with fail
  refine(HM.out _).mono ?_;rintro e w1 ⟨rfl,rfl⟩
  go_wp2_with (simp only)
  go_ret
  exact⟨rfl,rfl⟩
theorem Cz{a b c d:Nat}{x y u v:Int}(h1:Fl a x)(h2:Fl b y)(h3:Fl c u)(h4:Fl d v)(b1:sm x)(b2:sm y)(b3:sm u)(b4:sm v):
  ∃im,Fl im (x*v-y*u)/\∀w,Calls Tryz.prog 101 #[.complex .f64 a b,.complex .f64 c d] w fun e w'=>e=.returned (.float .f64 im)/\w'=w:=by
 obtain⟨re,im,_,f2,ht⟩:=LG h1 h2 h3 h4 b1 b2 b3 b4;refine⟨im,f2,fun w=>?_⟩
 have HT:Hid (∀w,Calls Tryz.prog 98 #[.complex .f64 a b,.complex .f64 c d] w fun e w'=>e=.returned (.complex .f64 re im)/\w'=w):=ht
 clear ht
 go_enter Tryz.func101,Tryz.ntmps101
 go_wp2_with fail
 refine(HT.out _).mono ?_;rintro e w1 ⟨rfl,rfl⟩
 go_wp2_with fail
 go_ret
 exact⟨rfl,rfl⟩
theorem acW{a b c d:Nat}{x y u v:Int}(h1:Fl a x)(h2:Fl b y)(h3:Fl c u)(h4:Fl d v)(b1:x.natAbs<=50)(b2:y.natAbs<=50)(b3:u.natAbs<=50)(b4:v.natAbs<=50):
  ∃wa wb sh,Fl wa (u-x)/\Fl wb (v-y)/\Fl sh ((u-x)*y-(v-y)*x)/\∀w,Calls Tryz.prog 64 #[.complex .f64 a b,.complex .f64 c d] w fun e w'=>e=.returned (.agg #[.complex .f64 wa wb,.float .f64 sh])/\Below w.heap.size w w':=by
 obtain⟨wa,wb,e,f1,f2⟩:=Lx h3 h4 h1 h2 (by omega) (by omega)
 obtain⟨sh,f3,hl⟩:=Cz f1 f2 h1 h2 (by unfold sm;omega) (by unfold sm;omega) (by unfold sm;omega) (by unfold sm;omega)
 refine⟨wa,wb,sh,f1,f2,f3,fun w=>?_⟩
 have hop:=fun t w=>run_complex_sum (P:=Tryz.prog) w .sub (ah rfl) t .f64 c d a b wa wb e
 have HL:Hid (∀w,Calls Tryz.prog 101 #[.complex .f64 wa wb,.complex .f64 a b] w fun e w'=>e=.returned (.float .f64 sh)/\w'=w):=hl
 clear hl
 go_enter Tryz.func64,Tryz.ntmps64
 go_wp2_with (simp only[hop])
 have hE:=heap_alloc_new w (.cells #[.complex .f64 0 0,.float .f64 0] 122);have hb0:Below w.heap.size w (w.alloc (.cells #[.complex .f64 0 0,.float .f64 0] 122)):=(Below.refl _ _).alloc (ay _) _;generalize w.alloc (.cells #[.complex .f64 0 0,.float .f64 0] 122)=W at*;refine(HL.out _).mono ?_;rintro e w1 ⟨rfl,rfl⟩;have e0:w1.cell? ⟨w.heap.size,0,none⟩=some (.complex .f64 0 0):=cell_of hE 0;have e1:w1.cell? ⟨w.heap.size,1,none⟩=some (.float .f64 0):=cell_of hE 1;have z0:w1.frozen? ⟨w.heap.size,0,none⟩=false:=bw hE 0;have z1:w1.frozen? ⟨w.heap.size,1,none⟩=false:=bw hE 1
 go_wp2_with (simp only[fW,oD];go_simp)
 refine bodyPost_ret (v:=.agg #[.complex .f64 wa wb,.float .f64 sh]) (by simp[results,Tryz.results64,go_sem,e0,e1]) rfl ⟨rfl,?_⟩
 exact(hb0.setCell (ay _) _).setCell (ay _) _
theorem oG{n:Int}(h:sm n):Fl (floatOfInt .f64 n) n:=qx (by unfold sm at h;omega)
theorem CC(na nb:Nat)(D:Int){a b:Nat}{x y:Int}(h1:Fl a x)(h2:Fl b y)(b1:sm x)(b2:sm y)(bD:sm D):
  ∃re im,Fl re (x*D)/\Fl im (y*D)/\∀w,Calls Tryz.prog 152 #[.agg #[.complex .f64 na nb,.int .i64 D],.complex .f64 a b] w fun e w'=>e=.returned (.complex .f64 re im)/\Below w.heap.size w w'/\w.drawn<=w'.drawn:=by
 have m1:=oF b1 bD;have m2:=oF b2 bD;have z0:sm 0:=by unfold sm;decide
 obtain⟨re,im,e,f1,f2⟩:=Lz h1 h2 (oG bD) (oG z0) (by omega) (by omega) (by omega) (by omega) (by omega) (by omega)
 refine⟨re,im,?_,?_,fun w=>?_⟩
 ·have:x*D=x*D-y*0:=by omega
  rw[this];exact f1
 ·have:y*D=x*0+y*D:=by omega
  rw[this];exact f2
 ·have hop:=fun t w=>run_complex_mul (P:=Tryz.prog) w t a b (floatOfInt .f64 D) (floatOfInt .f64 0) re im e
  have HP:Hid (∀w1,Calls Tryz.prog 38 #[.int .i64 D,.int .i64 0] w1 fun e w'=>e=.returned (.complex .f64 (floatOfInt .f64 D) (floatOfInt .f64 0))/\w'=w1):=fun w1=>GU D 0 w1
  clear m1 m2 e f1 f2;generalize floatOfInt .f64 D=fd at*;generalize floatOfInt .f64 0=fz at*;have hb0:Below w.heap.size w (w.alloc (.cells #[.complex .f64 na nb,.int .i64 D] 83)):=(Below.refl _ _).alloc (ay _) _
  go_enter Tryz.func152,Tryz.ntmps152
  go_wp2_with fail
  refine(HP.out _).mono ?_;rintro e w1 ⟨rfl,rfl⟩
  go_wp2_with (simp only)
  go_ret
  exact⟨rfl,hb0,ay _⟩
theorem Sl{na nb:Nat}{X Y D:Int}{a b:Nat}{x y:Int}(g1:Fl na X)(g2:Fl nb Y)(h1:Fl a x)(h2:Fl b y)(b1:sm x)(b2:sm y)(bD:sm D)(c1:sm X)(c2:sm Y):
  ∃re im,Fl re (X-x*D)/\Fl im (Y-y*D)/\∀w,Calls Tryz.prog 99 #[.agg #[.complex .f64 na nb,.int .i64 D],.complex .f64 a b] w fun e w'=>e=.returned (.complex .f64 re im)/\Below w.heap.size w w':=by
 have m1:=oF b1 bD;have m2:=oF b2 bD;obtain⟨sa,sb,s1,s2,hs⟩:=CC na nb D h1 h2 b1 b2 bD;obtain⟨re,im,e,f1,f2⟩:=Lx g1 g2 s1 s2 (by unfold sm at c1;omega) (by unfold sm at c2;omega)
 refine⟨re,im,f1,f2,fun w=>?_⟩
 have hop:=fun t w=>run_complex_sum (P:=Tryz.prog) w .sub (ah rfl) t .f64 na nb sa sb re im e
 have HS:Hid (∀w,Calls Tryz.prog 152 #[.agg #[.complex .f64 na nb,.int .i64 D],.complex .f64 a b] w fun e w'=>e=.returned (.complex .f64 sa sb)/\Below w.heap.size w w'/\w.drawn<=w'.drawn):=hs
 clear hs m1 m2;have hE:=heap_alloc_new w (.cells #[.complex .f64 na nb,.int .i64 D] 83);have hb0:Below w.heap.size w (w.alloc (.cells #[.complex .f64 na nb,.int .i64 D] 83)):=(Below.refl _ _).alloc (ay _) _;have hz:w.heap.size<(w.alloc (.cells #[.complex .f64 na nb,.int .i64 D] 83)).heap.size:=by simp
 go_enter Tryz.func99,Tryz.ntmps99
 go_wp2_with fail
 generalize w.alloc (.cells #[.complex .f64 na nb,.int .i64 D] 83)=W at*;generalize hB:w.heap.size=B at*;have e0:W.cell? ⟨B,0,none⟩=some (.complex .f64 na nb):=cell_of hE 0;have e1:W.cell? ⟨B,1,none⟩=some (.int .i64 D):=cell_of hE 1
 go_region_held3 (fun w'=>w'.cell? ⟨B,0,none⟩=some (.complex .f64 na nb)/\w'.cell? ⟨B,1,none⟩=some (.int .i64 D)) (go_keep) (first
  |(go_at_call 152;refine(HS.out _).mono ?_;rintro e w5 ⟨rfl,az,_⟩;have q0:=(az.cell (p:=⟨B,0,none⟩) hz).trans e0;have q1:=(az.cell (p:=⟨B,1,none⟩) hz).trans e1)
  |(simp only))
 go_wp2_with fail
 go_ret
 exact⟨rfl,by rw[hB];exact hb0.drew.trans (az.mono (eJ hz))⟩
theorem zB{a b:Nat}{x y:Int}(ha:Fl a x)(hb:Fl b y):(FloatKind.f64.format.order a b == some .lt)=decide (x<y):=by
 have e:FloatKind.f64.format.order a b=some (compare x y):=ha.order hb;rw[e];rcases eK x y with h|h|h
 ·rw[Ku.2 h];simp[h]
 ·rw[Kv.2 h];simp[h]
 ·rw[Kw.2 h];simp;omega
theorem GX{a b:Nat}{x y:Int}(ha:Fl a x)(hb:Fl b y):(FloatKind.f64.format.order a b == some .gt)=decide (y<x):=by
 have e:FloatKind.f64.format.order a b=some (compare x y):=ha.order hb;rw[e];rcases eK x y with h|h|h
 ·rw[Ku.2 h];simp;omega
 ·rw[Kv.2 h];simp[h]
 ·rw[Kw.2 h];simp[h]
theorem rP{a b:Nat}{x y:Int}(ha:Fl a x)(hb:Fl b y):(FloatKind.f64.format.order a b == some .eq)=decide (x=y):=by
 have e:FloatKind.f64.format.order a b=some (compare x y):=ha.order hb;rw[e];rcases eK x y with h|h|h
 ·rw[Ku.2 h];simp;omega
 ·rw[Kv.2 h];simp[h]
 ·rw[Kw.2 h];simp;omega
theorem kM:Fl 0 0:=by
 have h:=qx (n:=0) (by decide)
 have e:floatOfInt .f64 0=0:=by decide
 rwa[e] at h
theorem LH{wa wb sh na nb:Nat}{wx wy s X Y D:Int}(h1:Fl wa wx)(h2:Fl wb wy)(h3:Fl sh s)(g1:Fl na X)(g2:Fl nb Y)(b1:sm wx)(b2:sm wy)(b3:sm s)(bD:sm D)(c1:sm X)(c2:sm Y):
  ∃r,Fl r (wx*Y-wy*X-s*D)/\∀w,Calls Tryz.prog 97 #[.agg #[.complex .f64 wa wb,.float .f64 sh],.agg #[.complex .f64 na nb,.int .i64 D]] w fun e w'=>e=.returned (.float .f64 r)/\Below w.heap.size w w':=by
 have m1:=oF b1 c2;have m2:=oF b2 c1;have m3:=oF b3 bD;obtain⟨im,f1,hl⟩:=Cz h1 h2 g1 g2 b1 b2 c1 c2;obtain⟨p,e1,f2⟩:=h3.mul (oG bD) (by omega)
 obtain⟨r,e2,f3⟩:=f1.sub f2 (by omega)
 refine⟨r,f3,fun w=>?_⟩
 have CD:=fun t w=>run_float_arith (P:=Tryz.prog) w .mul t .f64 _ _ p e1
 have vH:=fun t w=>run_float_arith (P:=Tryz.prog) w .sub t .f64 _ _ r e2
 have HL:Hid (∀w,Calls Tryz.prog 101 #[.complex .f64 wa wb,.complex .f64 na nb] w fun e w'=>e=.returned (.float .f64 im)/\w'=w):=hl
 clear hl m1 m2 m3;have hE:((w.alloc (.cells #[.complex .f64 wa wb,.float .f64 sh] 122)).alloc (.cells #[.complex .f64 na nb,.int .i64 D] 83)).heap[w.heap.size]?=some (.cells #[.complex .f64 wa wb,.float .f64 sh] 122 (0,0)):=by
  rw[Below.heap_alloc _ _ _ (by simp)];exact heap_alloc_new _ _
 have hP:((w.alloc (.cells #[.complex .f64 wa wb,.float .f64 sh] 122)).alloc (.cells #[.complex .f64 na nb,.int .i64 D] 83)).heap[w.heap.size+1]?=some (.cells #[.complex .f64 na nb,.int .i64 D] 83 (0,0)):=by
  have:=heap_alloc_new (w.alloc (.cells #[.complex .f64 wa wb,.float .f64 sh] 122)) (.cells #[.complex .f64 na nb,.int .i64 D] 83);simpa using this
 have hb0:Below w.heap.size w ((w.alloc (.cells #[.complex .f64 wa wb,.float .f64 sh] 122)).alloc (.cells #[.complex .f64 na nb,.int .i64 D] 83)):=((Below.refl _ _).alloc (ay _) _).alloc (by simp) _
 go_enter Tryz.func97,Tryz.ntmps97
 go_wp2_with fail
 generalize(w.alloc (.cells #[.complex .f64 wa wb,.float .f64 sh] 122)).alloc (.cells #[.complex .f64 na nb,.int .i64 D] 83)=W at*;generalize hB:w.heap.size=B at*;have e0:W.cell? ⟨B,0,none⟩=some (.complex .f64 wa wb):=cell_of hE 0;have je:W.cell? ⟨B,1,none⟩=some (.float .f64 sh):=cell_of hE 1;have p0:W.cell? ⟨B+1,0,none⟩=some (.complex .f64 na nb):=cell_of hP 0;have p1:W.cell? ⟨B+1,1,none⟩=some (.int .i64 D):=cell_of hP 1
 go_region_held3 (fun w'=>w'.cell? ⟨B,0,none⟩=some (.complex .f64 wa wb)/\w'.cell? ⟨B,1,none⟩=some (.float .f64 sh)/\w'.cell? ⟨B+1,0,none⟩=some (.complex .f64 na nb)/\w'.cell? ⟨B+1,1,none⟩=some (.int .i64 D)) (go_keep) (first
  |(go_at_call 101;refine(HL.out _).mono ?_;rintro e w5 ⟨rfl,rQ⟩;subst rQ)
  |(simp only)
  |(simp only[vH]))
 go_wp2_with fail
 go_ret
 exact⟨rfl,by rw[hB];exact hb0.drew⟩
def small(z:Int):Prop:= -50<=z/\z<=50
theorem oH{x y a b:Int}(hx: -a<=x/\x<=a)(hy: -b<=y/\y<=b): -(a*b)<=x*y/\x*y<=a*b:=by
 have h:(x*y).natAbs<=(a*b).natAbs:=by
  rw[oa,oa];exact BC (by omega) (by omega)
 have hab:0<=a*b:=iN (by omega) (by omega)
 omega
theorem Sm{w:World}{b:Nat}{c:Array Value}{T:TypeId}(h:w.heap[b]?=some (.cells c T (0,0)))(o:Nat):w.cell? ⟨b,o,none⟩=c[o]?:=by
 simp[World.cell?,h]
def CE(n d:Int):Int:=n.tdiv (Int.gcd n d)
def xy(n d:Int):Int:=d.tdiv (Int.gcd n d)
theorem ue{n d:Int}(hd:d≠0):0<Int.gcd n d:=aa0 _ hd
theorem GY(n d:Int):n=(Int.gcd n d:Int)*CE n d:=(xa (BF _ _)).symm
theorem CF(n d:Int):d=(Int.gcd n d:Int)*xy n d:=(xa (yY _ _)).symm
theorem Sn{n d:Int}(hd:0<d):0<xy n d:=by
 have h:=CF n d;have hg:=ue (n:=n) (d:=d) (by omega)
 generalize xy n d=x at*;generalize Int.gcd n d=g at*;rcases eK x 0 with hx|hx|hx
 ·have:=wT (show(0:Int)<g by omega) hx;omega
 ·subst hx;omega
 ·exact hx
theorem acX(a b:Nat):Nat.gcd b (a%b)=Nat.gcd a b:=by
 rw[Nat.gcd_comm b,<-Nat.gcd_rec,Nat.gcd_comm]
structure eO(e:(Int×Int)×(Int×Int)):Prop where
 a:small e.1.1
 b:small e.1.2
 c:small e.2.1
 d:small e.2.2
abbrev Ed:=(Int×Int)×(Int×Int)
theorem GZ{w:World}{e:TypeId}{size:Nat}{v:Value}{n:Nat}{xs:List Value}(h:w.ownsRow 0 e size v n xs){o:Nat}{u:Value}(hu:xs[o]?=some u):
  ∃b cap,v=.slice (some ⟨b,0,none⟩) n cap/\b<w.heap.size/\∀o' u',xs[o']?=some u'->w.cell? ⟨b,o',none⟩=some u':=by
 obtain⟨h1,h2⟩:=h;rcases h2 with⟨_,h0⟩|⟨b,cap,cur,hv,_,hb,_,_,_,ht⟩
 ·rw[h0,BA] at h1;rw[gF.1 h1] at hu;simp at hu
 ·refine⟨b,cap,hv,?_,fun o' u' hu'=>?_⟩
  ·rcases Ko b w.heap.size with h1|h1
   ·exact h1
   ·rw[FJ h1] at hb;cases hb
  rw[Sm hb o',<-jb];rw[<-ht,kj] at hu';split at hu'
  ·exact hu'
  ·cases hu'
theorem Sp(f:Ge.Pt->Ge.Pt->Int){l:List Ed}{k:Nat}{e:Ed}(he:l[k]?=some e):Ge.total f (l.take (k+1))=Ge.total f (l.take k)+f e.1 e.2:=by
 obtain⟨hlt,he'⟩:=bZ.1 he;have e1:l.take (k+1)=l.take k++[e]:=by rw[uX hlt,he']
 rw[e1,Ge.FY,Ge.dZ,Ge.tR];omega
theorem LI(f:Ge.Pt->Ge.Pt->Int)(hf:∀a b, -1<=f a b/\f a b<=1):∀l:List Ed, -(l.length:Int)<=Ge.total f l/\Ge.total f l<=l.length
 |[]=>by simp[Ge.total]
 |e::l=>by
  have ih:=LI f hf l;have h1:=hf e.1 e.2;rw[Ge.dZ];simp only[cN];omega
theorem Sq(n:Ge.Pt)(d:Int)(a b:Ge.Pt): -1<=Ge.fr n d a b/\Ge.fr n d a b<=1:=by
 unfold Ge.fr Ge.right;split
 ·decide
 ·split<;>decide
structure EB where
 wa:Nat
 wb:Nat
 sh:Nat
 fa:Nat
 fb:Nat
 ta:Nat
 tb:Nat
def EB.cells(x:EB):Array Value:= #[.complex .f64 x.wa x.wb,.float .f64 x.sh,.complex .f64 x.fa x.fb,.complex .f64 x.ta x.tb]
structure jK(x:EB)(e:Ed):Prop where
 wa:Fl x.wa (e.2.1-e.1.1)
 wb:Fl x.wb (e.2.2-e.1.2)
 sh:Fl x.sh ((e.2.1-e.1.1)*e.1.2-(e.2.2-e.1.2)*e.1.1)
 fa:Fl x.fa e.1.1
 fb:Fl x.fb e.1.2
 ta:Fl x.ta e.2.1
 tb:Fl x.tb e.2.2
structure dM(X Y D:Int):Prop where
 x:X.natAbs<=16000000
 y:Y.natAbs<=16000000
 d:0<D/\D<=300000
theorem vI{z:Int}(h:small z):sm z:=by unfold small at h;unfold sm;omega
theorem G5{X D x:Int}(hX:X.natAbs<=16000000)(hD:0<D/\D<=300000)(hx:small x):sm (X-x*D):=by
 have m: -15000000<=x*D/\x*D<=15000000:=oH (a:=50) (b:=300000) hx ⟨by omega,hD.2⟩
 unfold sm;omega
theorem G6{e:Ed}(h:eO e):sm ((e.2.1-e.1.1)*e.1.2-(e.2.2-e.1.2)*e.1.1):=by
 obtain⟨a,b,c,d⟩:=h;unfold small at a b c d;have m1: -5000<=(e.2.1-e.1.1)*e.1.2/\(e.2.1-e.1.1)*e.1.2<=5000:=oH (a:=100) (b:=50) (by omega) (by omega)
 have m2: -5000<=(e.2.2-e.1.2)*e.1.1/\(e.2.2-e.1.2)*e.1.1<=5000:=oH (a:=100) (b:=50) (by omega) (by omega)
 unfold sm;omega
def lf(X Y D:Int)(e:Ed):Int:=(e.2.1-e.1.1)*Y-(e.2.2-e.1.2)*X-((e.2.1-e.1.1)*e.1.2-(e.2.2-e.1.2)*e.1.1)*D
theorem LJ(X Y D:Int)(e:Ed):D*lf X Y D e=Ge.cr (Ge.rel (X,Y) D e.1) (Ge.rel (X,Y) D e.2):=by
 obtain⟨⟨a,b⟩,c,d⟩:=e;simp only[lf,Ge.cr,Ge.rel]
 grind
theorem G7{D z:Int}(hD:0<D):(0<D*z↔0<z)/\(D*z<0↔z<0)/\(D*z=0↔z=0):=by
 rcases eK z 0 with h|h|h
 ·have:=wT hD h;omega
 ·subst h;omega
 ·have:=aR hD h;omega
theorem acY(X Y D:Int)(e:Ed):(X-e.1.1*D)*(X-e.2.1*D)+(Y-e.1.2*D)*(Y-e.2.2*D)=Ge.dt (Ge.rel (X,Y) D e.1) (Ge.rel (X,Y) D e.2):=by
 obtain⟨⟨a,b⟩,c,d⟩:=e;simp only[Ge.dt,Ge.rel]
 grind
theorem acZ(X Y D:Int)(e:Ed)(hD:0<D):(decide (lf X Y D e=0)&&decide ((X-e.1.1*D)*(X-e.2.1*D)+(Y-e.1.2*D)*(Y-e.2.2*D)<=0))=Ge.fo (X,Y) D e:=by
 unfold Ge.fo Ge.on;rw[acY,<-LJ];congr 1;exact decide_eq_decide.2 (G7 hD).2.2.symm
theorem ac0(X Y D:Int)(e:Ed)(hD:0<D):Ge.fr (X,Y) D e.1 e.2=if ¬X*1<e.1.1*D/\X*1<e.2.1*D/\0<lf X Y D e then 1 else if X*1<e.1.1*D/\¬X*1<e.2.1*D/\lf X Y D e<0 then -1 else 0:=by
 unfold Ge.fr Ge.right;rw[<-LJ];obtain⟨p1,p2,_⟩:=G7 (z:=lf X Y D e) hD;have h1:(Ge.rel (X,Y) D e.1).1=D*e.1.1-X:=rfl;have h2:(Ge.rel (X,Y) D e.2).1=D*e.2.1-X:=rfl;rw[h1,h2,dX D e.1.1,dX D e.2.1];generalize D*lf X Y D e=Z at*;generalize lf X Y D e=L at*;generalize e.1.1*D=U at*;generalize e.2.1*D=V at*
 repeat' split
 all_goals omega
end Go.Proofs.YtkjhhooecopolaaGreatDoor

import Derived.Test.YtkjhhooecopolaaGreatDoorFz33
set_option maxRecDepth 100000
set_option maxHeartbeats 4000000
namespace Go.Proofs.YtkjhhooecopolaaGreatDoor
open Go.Proofs.Tryz
open Value renaming int->I,complex->A,agg->u,slice->D
open IntKind renaming i64->J
open FloatKind renaming f64->C
open Ending renaming returned->aJ
open Go renaming World->G,Value->Y
open Option renaming some->K,none->Z
open Bool renaming true->aP,false->aQ
section
open Go.RowKit
theorem Ev{w:G}{base:Nat}{e:TypeId}{g n cap:Nat}{xs:V Y}(h:w.ownsRow base e 1 (D (K ⟨g,0,Z⟩) n cap) n xs){k:Nat}(u:Y):(w.setCell ⟨g,k,Z⟩ u).ownsRow base e 1 (D (K ⟨g,0,Z⟩) n cap) n (xs.set k u):=by
 obtain⟨p,q⟩:=h;rcases q with⟨m,_⟩|⟨d,l,b,f,t,r,s,v,x,B⟩
 .cases m
 .have c:d=g:=by injection f with a;injection a with a;injection a with a;exact a.symm
  subst c;refine⟨by rw[jE];exact p,F ⟨d,l,b.setIfInBounds k u,f,t,?_,s,v,by simpa using x,?_⟩⟩
  .rw[apM r]
  .rw[<-B];simp[List.take_set]
structure eP(base:Nat)(w:G)(v:Y)(us:V Y)(p:V (V N.Qt)):Prop where
 own:w.ownsRow base 92 1 v us.length us
 len:us.length=p.length
 rd:∀(i:Nat) u g,us[i]?=K u->p[i]?=K g->dq w u g
def gQ(p:V (V N.Qt))(k:Nat):V N.Qt:=p.getD k []
theorem wM{p:V (V N.Qt)}{k:Nat}{g:V N.Qt}(h:p[k]?=K g):gQ p k=g:=by unfold gQ;rw[fi,h];rfl
def swp(p:V (V N.Qt))(k:Nat):V (V N.Qt):=if 0<fh (gQ p<|k-1) (gQ p k) then(p.set k<|gQ p<|k-1).set (k-1) (gQ p k) else p
def bm(p:V (V N.Qt))(i:Nat):Nat->V (V N.Qt)
 |0=>p
 |j+1=>swp (bm p i j)<|i-j
def fS(p:V (V N.Qt))(fr:Nat):Nat->V (V N.Qt)
 |0=>p
 |j+1=>bm (fS p fr j) (fr+j) j
theorem ahJ(p:V (V N.Qt))(k:Nat):(swp p k).length=p.length:=by unfold swp;split<;>simp
theorem Ew(p:V (V N.Qt))(i:Nat):∀j,(bm p i j).length=p.length
 |0=>rfl
 |j+1=>by show(swp _ _).length=_;rw[ahJ,Ew p i j]
theorem Ex(p:V (V N.Qt))(fr:Nat):∀j,(fS p fr j).length=p.length
 |0=>rfl
 |j+1=>by show(bm _ _ _).length=_;rw[Ew,Ex p fr j]
def OkP(p:V (V N.Qt)):Prop:=p.length<=100000000/\∀g∈p,g.length<=100000000/\∀q∈g,cS q
theorem ahL{p:V (V N.Qt)}{k:Nat}(d:0<k)(c:k<p.length){g:V N.Qt}(h:g∈swp p k):g∈p:=by
 unfold swp at h;have a:gQ p (k-1)=p[k-1]:=wM<|be U;have b:=wM<|be c;split at h
 .rcases Ax h with q|q
  .rcases Ax q with q|q
   .exact q
   .rw[q,a];exact eo _
  .rw[q,b];exact eo _
 .exact h
section
variable{base:Nat}{w wr:G}{v:Y}{us:V Y}{p:V (V N.Qt)}
theorem eP.keep{w':G}(h:eP base w v us p)(a:ag w w'):eP base w' v us p:=
 ⟨bH h.own λk d=>a.block k (bn h.own k d).2,h.len,λi u g b c=>fk kU (h.rd i u g b c) a⟩
theorem Ug{g k:Nat}{u:Y}{cur:Array Y}{fz:Nat×Nat}(b:w.heap[g]?=K (.cells cur 92 fz)){z:Y}{x:V N.Qt}(d:dq w z x):dq (w.setCell ⟨g,k,Z⟩ u) z x:=kU w _ z x d λj cur e a c=>bY (λq=>by
  rw[q,b] at a;injection a with a;injection a with _ a;rw[cI.1 c] at a;exact absurd a ae) _
theorem eP.set{g n cap:Nat}(h:eP base w (D (K ⟨g,0,Z⟩) n cap) us p)(f:n=us.length){k:Nat}{u:Y}{q:V N.Qt}(l:dq w u q):eP base (w.setCell ⟨g,k,Z⟩ u) (D (K ⟨g,0,Z⟩) n cap) (us.set k u) (p.set k q):=by
 subst f;obtain⟨d,r,e⟩:=Lj h.own g rfl;have kq:∀{z:Y}{x:V N.Qt},dq w z x->dq (w.setCell ⟨g,k,Z⟩ u) z x:=λm=>Ug e m;refine⟨by rw[jE];exact Ev h.own u,by rw[jE,jE,h.len],λi z x a b=>?_⟩;rw[qQ] at a b;by_cases c:k=i
 .rw[y c] at a b;split at a
  .split at b
   .rw[<-fV a,<-fV b];exact kq l
   .cases b
  .cases a
 .rw[X c] at a b;exact kq<|h.rd i z x a b
end
section
variable{base:Nat}{w wr:G}{v:Y}{us:V Y}{p:V (V N.Qt)}
theorem eP.row(h:eP base w v us p):nJ 92 dq w v p:=⟨us,h.len,by rw[<-h.len];exact iF h.own,h.rd⟩
structure Fr(base:Nat)(w:G)(v:Y)(wr:G):Prop where
 dg:Below base w wr
 gp:∀k,k<w.heap.size->v.ownBlock≠K k->wr.heap[k]?=w.heap[k]?
theorem Fr.keep{w':G}(h:Fr base w v wr)(b:ag wr w')(a:base<=w.heap.size):Fr base w v w':=⟨cU h.dg b a,λk c d=>(b.block k<|bg c h.dg.size).trans<|h.gp k c d⟩
theorem Fr.set{g n cap k:Nat}{u:Y}(h:Fr base w (D (K ⟨g,0,Z⟩) n cap) wr)(b:base<=g):Fr base w (D (K ⟨g,0,Z⟩) n cap) (wr.setCell ⟨g,k,Z⟩ u):=⟨h.dg.setCell b _,λj c a=>(bY (λe=>a (by rw[e];rfl)) _).trans<|h.gp j c a⟩
end
theorem Jy{p:V (V N.Qt)}{i:Nat}(a:i<p.length):∀{j:Nat},j<=i->∀{g:V N.Qt},g∈bm p i j->g∈p
 |0,_,_,h=>h
 |j+1,b,g,h=>by
  have:=ahL (p:=bm p i j) (k:=i-j) U (by rw[Ew];omega) h;exact Jy a U this
theorem Jz{p:V (V N.Qt)}{fr:Nat}:∀{j:Nat},fr+j<=p.length->∀{g:V N.Qt},g∈fS p fr j->g∈p
 |0,_,_,h=>h
 |j+1,a,g,h=>Jz (j:=j) U<|Jy (by rw[Ex];omega) U h
theorem ahM(p:V (V N.Qt))(us:V Y)(base:Nat)(fr:Nat)(v:Y)(w:G)(hP:eP base w v us p)(hok:OkP p)(uO:fr<=p.length)(hbs:base<=w.heap.size):
  M 144 #[v,I J fr] w λe w'=>e=aJ v/\(∃l,eP base w' v l<|fS p fr<|p.length-fr)/\Fr base w v w':=by
 have qF:=hid hok.2;have hpl:=hok.1;have HP:=hid hP;have hlu:=hP.len;obtain⟨so,cap,rfl⟩:∃so cap,v=D so p.length cap:=by
  obtain⟨so,m,c,e⟩:=wE hP.own;rcases hP.own.2 with⟨hv,h0⟩|⟨b,c2,cur,hv,_⟩
  .exact⟨Z,0,by rw[hv,<-hP.len,h0]⟩
  .exact⟨_,c2,by rw[hv,hP.len]⟩
 clear hP hok;go_enter func144,ntmps144;go_wp2_with fail
 go_loopg [5] (p.length-fr) (λm iv wr=>∃j:Nat,j+m=p.length-fr/\iv=I J ((fr+j:Nat):Int)/\H ((∃l,eP base wr (D so p.length cap) l<|fS p fr j)/\Fr base w (D so p.length cap) wr))
 case atStart=>exact⟨0,U,rfl,⟨us,HP.o⟩,Below.refl _ _,λ_ _ _=>rfl⟩
 case round=>
  obtain⟨j,hjm,rfl,HI⟩:=hrel;obtain⟨i,hi⟩:=am<|fr+j;rw[<-hi];have HIE:=hid hi;by_cases O:i<p.length
  .have iH:(i:Int)<(p.length:Int):=U;obtain⟨m1,jG⟩:=am gk;have f:H (j+m1=p.length-fr/\i<p.length/\m1=gk/\i=fr+j):=⟨U,O,jG,hi⟩;have jI:H (fS p fr (j+1)=bm (fS p fr j) i j):=by show _=_;rw[hi];rfl
   have HQO:H (∀g∈fS p fr j,g.length<=100000000/\∀q∈g,cS q):=λg hg=>qF.o g<|Jz U hg;have D8:=Ex p fr j;generalize fS p fr j=Q at*;clear hjm O jG hi;go_wp2_with fail
   go_loopg [6] j (λm kv wr=>∃t:Nat,t+m=j/\kv=I J ((i-t:Nat):Int)/\H ((∃l,eP base wr (D so p.length cap) l<|bm Q i t)/\Fr base w (D so p.length cap) wr))
   case atStart=>exact⟨0,U,rfl,HI⟩
   case round=>
    clear HI;obtain⟨t,t6,rfl,HJ⟩:=hrel;obtain⟨k,hk⟩:=am<|i-t;rw[<-hk];have E:H (k=i-t/\t+gk=j):=⟨hk,t6⟩;by_cases O:t<j
    .have D7:(fr:Int)<(k:Int):=by have:=f.o;omega
     have rh:(k:Int)<(p.length:Int):=by have:=f.o;omega
     obtain⟨n,hn⟩:=am<|k-1;have w1:J.wrap ((k:Int)-1)=(n:Int):=by rw[ah];omega
     have Sz:(n:Int)<(p.length:Int):=U;have x:H (n=k-1/\0<k):=⟨hn,U⟩;have hinl:(bm Q i t).length=p.length:=by rw[Ew,D8]
     have UQ:H (bm Q i (t+1)=swp (bm Q i t) k):=by show _=_;rw[hk];rfl
     have F:H (∀g∈bm Q i t,g.length<=100000000/\∀q∈g,cS q):=λg hg=>HQO.o g<|Jy (by have:=f.o;omega) (by have:=f.o;omega) hg;generalize bm Q i t=d at*;obtain⟨⟨l,T⟩,W⟩:=HJ.o;obtain⟨a,ha⟩:∃a,d[n]?=K a:=⟨_,be U⟩;obtain⟨c,hc⟩:∃c,d[k]?=K c:=⟨_,be U⟩;obtain⟨b,ua,ms,hb,ca,DB⟩:=lF T.row ha;subst ms;obtain⟨B,uc,aii,hb',cc,hrc⟩:=lF T.row hc;have L:B=b:=by injection aii with q;injection q with q;exact q.symm
     subst L;obtain⟨sa,R,rfl⟩:=nQ DB;obtain⟨S,o,rfl⟩:=nQ hrc;have UV:H (∀w1,dq w1 (D sa a.length R) a->dq w1 (D S c.length o) c->M 51 #[D sa a.length R,D S c.length o] w1 (ai (I J<|fh a c) w1)):=λw1 h1 h2=>OG a c _ _ w1 h1 h2 (F.o a<|bB ha).2 (F.o c<|bB hc).2 (by have:=(F.o a<|bB ha).1;omega) (by have:=(F.o c<|bB hc).1;omega);have UW:H (swp d k=if 0<fh a c then(d.set k a).set n c else d):=by show _=_;unfold swp;rw[<-hn,wM ha,wM hc]
     have r:H (eP base wr (D (K ⟨B,0,Z⟩) p.length cap) l d/\Fr base w (D (K ⟨B,0,Z⟩) p.length cap) wr/\dq wr (D sa a.length R) a/\dq wr (D S c.length o) c):=⟨T,W,DB,hrc⟩;have hbz:=hb;generalize fh a c=LC at*;clear ha hc T W DB hrc hb hb' aii HJ hk t6 hn O hinl;go_wp2_with fail;go_region_held3 (λw'=>w'.cell? ⟨B,n,Z⟩=K (D sa a.length R)/\w'.cell? ⟨B,k,Z⟩=K (D S c.length o)) (go_keep) (first
      |(go_at_call 51;refine(UV.o _ (show dq wr.drew _ _ from r.o.2.2.1) (show dq wr.drew _ _ from r.o.2.2.2)).mono ?_;rintro e w2 ⟨rfl,P⟩;have fa:=aR P ca hbz;have fc:=aR P cc hbz))
     have s:H (eP base w2 (D (K ⟨B,0,Z⟩) p.length cap) l d/\Fr base w (D (K ⟨B,0,Z⟩) p.length cap) w2/\dq w2 (D sa a.length R) a/\dq w2 (D S c.length o) c):=⟨eP.keep (w:=wr.drew) ⟨bH r.o.1.own λ_ _=>rfl,r.o.1.len,r.o.1.rd⟩ P,Fr.keep (wr:=wr.drew) ⟨r.o.2.1.dg.drew,r.o.2.1.gp⟩ P hbs,fk kU (show dq wr.drew _ _ from r.o.2.2.1) P,fk kU (show dq wr.drew _ _ from r.o.2.2.2) P⟩;clear r UV P ca cc hbz;by_cases hlc:0<LC
     .have HZ:H (bm Q i (t+1)=(d.set k a).set n c):=by show _=_;rw[UQ.o,UW.o,y hlc]
      obtain⟨cur,z⟩:=fJ s.o.1.own rfl;have z1:=dC z k;have z2:=dC z n;have nk:¬(n=k):=by have:=x.o;omega
      have nk2:¬(k=n):=by have:=x.o;omega
      have Jw:H ((∃l,eP base ((w2.setCell ⟨B,k,Z⟩<|D sa a.length R).setCell ⟨B,n,Z⟩<|D S c.length o) (D (K ⟨B,0,Z⟩) p.length cap) l<|(d.set k a).set n c)/\Fr base w (D (K ⟨B,0,Z⟩) p.length cap) ((w2.setCell ⟨B,k,Z⟩<|D sa a.length R).setCell ⟨B,n,Z⟩<|D S c.length o)):=by
       have L:base<=B:=(bn s.o.1.own B rfl).1;have Uh:p.length=l.length:=by
        have:=s.o.1.own.2;rcases this with⟨h0,_⟩|⟨g1,c1,cur,hv,_⟩
        .cases h0
        .injection hv
       have h1:=s.o.1.set Uh (k:=k) s.o.2.2.1;exact⟨⟨_,h1.set (by rw[jE];exact Uh)<|Ug z s.o.2.2.2⟩,(s.o.2.1.set L).set L⟩
      clear z;go_wp2_with fail;go_roundg (gk-1)
      case measure=>have:=E.o;have:=x.o;have:=f.o;omega
      case rel=>exact⟨t+1,by have:=E.o;have:=x.o;have:=f.o;omega,by congr 1;have:=E.o;have:=x.o;omega,by rw[HZ.o];exact Jw.o.1,Jw.o.2⟩
     .have HZ:H (bm Q i (t+1)=d):=by show _=_;rw[UQ.o,UW.o,X hlc]
      go_wp2_with fail;go_roundg (gk-1)
      case measure=>have:=E.o;have:=x.o;have:=f.o;omega
      case rel=>exact⟨t+1,by have:=E.o;have:=x.o;have:=f.o;omega,by congr 1;have:=E.o;have:=x.o;omega,by rw[HZ.o];exact⟨_,s.o.1⟩,s.o.2.1⟩
    .have hte:t=j:=U;subst hte;have D7:¬(fr:Int)<(k:Int):=by have:=f.o;omega
     go_wp2_with fail;go_roundg (m1-1)
     case measure=>have:=f.o;omega
     case rel=>exact⟨t+1,by have:=f.o;omega,by congr 1;have:=f.o;omega,by rw[jI.o];exact HJ.o.1,HJ.o.2⟩
  .have hje:j=p.length-fr:=U;subst hje;have hnl:¬(i:Int)<(p.length:Int):=U;go_wp2_with fail;go_ret;exact⟨rfl,HI.o⟩
def m9(g:V RS)(j:Nat):Nat:=if j=0 then g.length-1 else j-1
def ea(g:V RS)(k:Nat):V RS:=((List.range k).filter λj=>decide (fE (bp g<|m9 g j) (bp g j)≠0)).map<|bp g
theorem Ui(g:V RS)(k:Nat):ea g (k+1)=if fE (bp g<|m9 g k) (bp g k)=0 then ea g k else ea g k++[bp g k]:=by
 unfold ea;rw[lZ,nr,fy];by_cases h:fE (bp g<|m9 g k) (bp g k)=0<;>simp[h]
theorem JA(g:V RS)(k:Nat):(ea g k).length<=k:=by
 unfold ea;rw[eK];exact el (pB _ _) E
theorem ahQ{g:V RS}{k:Nat}(b:k<=g.length){s:RS}(h:s∈ea g k):s∈g:=by
 obtain⟨m,a,rfl⟩:=bA.1 h;have:=gV.1 (et.1 a).1;have e:g[m]?=K g[m]:=be U;rw[gn e];exact eo _
def iM(T:V RS)(k:Nat):V N.Qt:=(List.range k).map λi=>(bp T<|(d9 T T.length+i)%T.length).1.1
def dP(g:V RS):V N.Qt:=iM (ea g g.length) (ea g g.length).length
theorem Uj(g:V RS)(v:Y)(w:G)(hR:cN 265 w v g)(hg:m8 g):
  M 142 #[v] w λe w'=>∃v',e=aJ v'/\dq w' v' (dP g)/\ag w w':=by
 obtain⟨so,cap,rfl⟩:=jX hR;obtain⟨d,rfl,hX,hcs⟩:=mN hR hg.ne;have P:H ((∀(k:Nat)(s:RS),g[k]?=K s->jt w d k s)/\d<w.heap.size):=⟨hcs,hX⟩;have HG:H (m8 g):=hg;have:=hg.le;have:=hg.ne;clear hR hcs hX hg;go_enter func142,ntmps142;go_wp2_with fail
 go_loopg [3,4] g.length (λm ov iv wr=>∃i:Nat,i+m=g.length/\iv=I J i/\H (eZ 265 w ov (ea g i) wr))
 case atStart=>exact⟨0,U,rfl,by simpa[ea,eA] using ak _ _ _ _,Below.refl _ _⟩
 case round=>
  obtain⟨i,R,rfl,HI⟩:=hrel;by_cases B:i<g.length
  .obtain⟨n,hn⟩:=am<|g.length-1;obtain⟨a,ha⟩:∃a,g[n]?=K a:=⟨_,be U⟩;obtain⟨c,hc⟩:∃c,g[i]?=K c:=⟨_,be B⟩;have w1:J.wrap ((g.length:Int)-1)=(n:Int):=by rw[ah];omega
   have:(n:Int)<(g.length:Int):=U;have hkk:(i:Int)<(g.length:Int):=U;have HA:=hid<|(P.o.1 n a ha).mv HI.o.dg P.o.2;have HC:=hid<|(P.o.1 i c hc).mv HI.o.dg P.o.2;have zP:=bg P.o.2 HI.o.dg.size;have o:H (i+gk=g.length/\i<g.length):=⟨U,B⟩;have HT:H (ea g (i+1)=if fE (bp g<|m9 g i) c=0 then ea g i else ea g i++[c]):=by show _=_;rw[Ui,gn hc]
   have wz:=JA g i;have Ib:H (ib c):=HG.o.sm c<|bB hc;have JB:H (g[n]?=K a/\n=g.length-1):=⟨ha,hn⟩;generalize ea g i=T at*;clear hn ha hc R B;obtain⟨x0,x1,x2,x3,x4,x5,x6,x7,x8,x9,qG,qH,lS,lT⟩:=HA.o;obtain⟨y0,y1,y2,y3,y4,y5,y6,y7,y8,y9,Ji,Jj,Jk,y13⟩:=HC.o;have hcs:∃b:RS,H (ib b)/\H (ea g (i+1)=if fE b c=0 then T else T++[c])/\((¬(0:Int)<(i:Int)/\b=a)\/((0:Int)<(i:Int)/\∃m:Nat,J.wrap ((i:Int)-1)=(m:Int)/\(m:Int)<(g.length:Int)/\jt wr d m b)):=by
    rcases wS i with h0|h0
    .exact⟨a,HG.o.sm a<|bB JB.o.1,by show _=_;rw[HT.o];unfold m9;rw[y h0,<-JB.o.2,gn JB.o.1],j ⟨U,rfl⟩⟩
    .obtain⟨b,z⟩:∃b,g[i-1]?=K b:=⟨_,be (by have:=o.o;omega)⟩;exact⟨b,HG.o.sm b<|bB z,by show _=_;rw[HT.o];unfold m9;rw[X (show ¬i=0 by omega),gn z],F ⟨U,i-1,by rw[ah];omega,U,(P.o.1 (i-1) b z).mv HI.o.dg P.o.2⟩⟩
   obtain⟨b,Jm,HV,⟨vY,wK⟩|⟨vY,m,w2,tq,z0,z1,z2,z3,z4,z5,z6,z7,z8,z9,Jn,Jo,z12,Jp⟩⟩:=hcs
   all_goals
    first
     |subst wK
     |skip
    have wm:H (∀w1,M 188 #[u (rA b),u<|rA c] w1 (ai (I J<|fE b c) w1)):=λw1=>Jh b c w1 Jm.o Ib.o;have hPB:=aa wr<|.cells (rA b) 265;have JC:=HI.o.next<|dS wr<|.cells (rA b) 265
    have Uk:=HC.o.mv (dS wr<|.cells (rA b) 265) zP;obtain⟨W,hW⟩:=am<|wr.alloc<|.cells (rA b) 265;rw[<-hW] at hPB JC Uk;generalize fE b c=l at*;simp only[rA] at wm hW hPB;go_wp2_with fail;rw[<-hW];clear hW x0 x1 x2 x3 x4 x5 x6 x7 x8 x9 qG qH lS lT y0 y1 y2 y3 y4 y5 y6 y7 y8 y9 Ji Jj Jk y13
    try clear z0 z1 z2 z3 z4 z5 z6 z7 z8 z9 Jn Jo z12 Jp
    obtain⟨y0,y1,y2,y3,y4,y5,y6,y7,y8,y9,Ji,Jj,Jk,y13⟩:=Uk;obtain⟨p0,p1,p2,p3,p4,p5,p6,p7,p8,p9,Eg,Eh,Ei,Ej⟩:=c14 hPB;have x:=hid<|apJ hPB;have t:=hid<|bg P.o.2 JC.dg.size;go_region_held3 (λw'=>apW w' wr.heap.size (I J b.1.1.1.1) (I J b.1.1.1.2) (I J b.1.1.2.1) (I J b.1.1.2.2) (I J b.1.2.1.1) (I J b.1.2.1.2) (I J b.1.2.2.1) (I J b.1.2.2.2) (I J b.2.1.1) (I J b.2.1.2) (I J b.2.2.1.1) (I J b.2.2.1.2) (I J b.2.2.2.1) (I J b.2.2.2.2)/\apX w' d (i*14) (I J c.1.1.1.1) (I J c.1.1.1.2) (I J c.1.1.2.1) (I J c.1.1.2.2) (I J c.1.2.1.1) (I J c.1.2.1.2) (I J c.1.2.2.1) (I J c.1.2.2.2) (I J c.2.1.1) (I J c.2.1.2) (I J c.2.2.1.1) (I J c.2.2.1.2) (I J c.2.2.2.1) (I J c.2.2.2.2)) (go_keep) (first
     |(go_at_call 188;refine(wm.o _).mono ?_;rintro e w3 ⟨rfl,r⟩;obtain⟨P0,P1,P2,P3,P4,P5,P6,P7,P8,P9,P10,P11,P12,P13⟩:=ajF r x.o p0 p1 p2 p3 p4 p5 p6 p7 p8 p9 Eg Eh Ei Ej;obtain⟨Y0,Y1,Y2,Y3,Y4,Y5,Y6,Y7,Y8,Y9,Ul,Um,Un,Uo⟩:=ajF r t.o y0 y1 y2 y3 y4 y5 y6 y7 y8 y9 Ji Jj Jk y13))
    have hI3:=JC.drew.next r
    have ahV:=hid<|bg t.o r.size;clear y0 y1 y2 y3 y4 y5 y6 y7 y8 y9 Ji Jj Jk y13 p0 p1 p2 p3 p4 p5 p6 p7 p8 p9 Eg Eh Ei Ej P0 P1 P2 P3 P4 P5 P6 P7 P8 P9 P10 P11 P12 P13 r hPB;by_cases hz:l=0
    .have hzb:(l != 0)=aQ:=by simp[hz]
     have S:H (ea g (i+1)=T):=by show _=_;rw[HV.o,y hz]
     clear hz Y0 Y1 Y2 Y3 Y4 Y5 Y6 Y7 Y8 Y9 Ul Um Un Uo;go_wp2_with fail;go_roundg (gk-1)
     case measure=>have:=o.o;omega
     case rel=>exact⟨i+1,by have:=o.o;omega,af,by rw[S.o];exact hI3⟩
    .have hzb:(l != 0)=aP:=by simp[hz]
     have S:H (ea g (i+1)=T++[c]):=by show _=_;rw[HV.o,X hz]
     have ho:=hI3.own;have hws:=hI3.dg.size;have:=ahV.o;have:T.length<=100000000:=U;clear hz;go_wp2_with (at_builtin;refine ii rfl CE underlying217 (ed ho) (aa _ _) ?_;intro g' cap' w8 fX mO jW);have vG:H (eZ 265 w (D (K ⟨g',0,Z⟩) (T.length+1) cap') (ea g<|i+1) w8):=by
      show eZ _ _ _ _ _;rw[S.o];exact hI3.pR mO (by rw[vA,bG];exact fX)
     clear mO fX ho jW Y0 Y1 Y2 Y3 Y4 Y5 Y6 Y7 Y8 Y9 Ul Um Un Uo;go_wp2_with fail;go_roundg (gk-1)
     case measure=>have:=o.o;omega
     case rel=>exact⟨i+1,by have:=o.o;omega,af,vG⟩
  .have hi':i=g.length:=U;subst hi';have Up:=hid<|λs hs=>(HG.o.q s<|ahQ (aX _) hs).1;have wz:=JA g g.length;have HCN:H (dP g=iM (ea g g.length) (ea g g.length).length):=rfl;have HRT:H (∀k,iM (ea g g.length) (k+1)=iM (ea g g.length) k++[(bp (ea g g.length)<|(d9 (ea g g.length) (ea g g.length).length+k)%(ea g g.length).length).1.1]):=λk=>by unfold iM;rw[lZ,fy];rfl
   have HR0:H (iM (ea g g.length) 0=[]):=rfl;have HRL:H (∀k,(iM (ea g g.length) k).length=k):=λk=>by unfold iM;simp
   obtain⟨os,oc,rfl⟩:=jX HI.o.own;generalize ea g g.length=T at*;have:T.length<=100000000:=U;clear R B;go_wp2_with fail
   go_loopg [6,7] T.length (λm kv iv wr'=>∃i:Nat,i+m=T.length/\iv=I J i/\kv=I J (d9 T i)/\H (eZ 265 w (D os T.length oc) T wr'))
   case atStart=>exact⟨0,U,rfl,rfl,HI⟩
   case round=>
    obtain⟨i,R,rfl,rfl,HJ⟩:=hrel;have hk:=Jl T i;obtain⟨k,hke⟩:=am<|d9 T i;have HK:H (d9 T (i+1)=if N.pc (bp T i).1.1 (bp T k).1.1<0 then i else k):=by show _=_;rw[zO,hke]
    rw[<-hke] at hk⊢;by_cases B:i<T.length
    .obtain⟨f,nW,hY,hys⟩:=mN HJ.o.own U;subst nW;obtain⟨a,ha⟩:∃a,T[i]?=K a:=⟨_,be B⟩;obtain⟨c,hc⟩:∃c,T[k]?=K c:=⟨_,be U⟩;obtain⟨x0,x1,x2,x3,_⟩:=hys i a ha;obtain⟨y0,y1,y2,y3,_⟩:=hys k c hc;have HV:H (d9 T (i+1)=if N.pc a.1.1 c.1.1<0 then i else k):=by show _=_;rw[HK.o,gn ha,gn hc]
     have HP:=hid<|λw1=>Bu _ _ w1 (Up.o a<|bB ha)<|Up.o c<|bB hc;have iH:(i:Int)<(T.length:Int):=U;have hkk:(k:Int)<(T.length:Int):=U;have o:H (i+gk=T.length/\i<T.length):=⟨U,B⟩;have Q:=hid hY;generalize N.pc a.1.1 c.1.1=l at*;simp only[qA] at HP;clear ha hc hke HK R B hk hys hY HI;go_wp2_with fail;go_region_held3 (λw'=>apS w' f (i*14) (I J a.1.1.1.1) (I J a.1.1.1.2) (I J a.1.1.2.1) (I J a.1.1.2.2)/\apS w' f (k*14) (I J c.1.1.1.1) (I J c.1.1.1.2) (I J c.1.1.2.1) (I J c.1.1.2.2)) (go_keep) (first
      |(go_at_call 47;refine(HP.o _).mono ?_;rintro e w2 ⟨rfl,z⟩;have:=aR z x0 Q.o;have:=aR z x1 Q.o;have:=aR z x2 Q.o;have:=aR z x3 Q.o;have h0:=aR z y0 Q.o;have:=aR z y1 Q.o;have:=aR z y2 Q.o;have:=aR z y3 Q.o))
     have Uq:=hid<|HJ.o.drew.next z;by_cases hz:l<0
     .have S:H (d9 T (i+1)=i):=by show _=_;rw[HV.o,y hz]
      go_wp2_with fail;go_roundg (gk-1)
      case measure=>have:=o.o;omega
      case rel=>exact⟨i+1,by have:=o.o;omega,af,by rw[S.o],Uq⟩
     .have S:H (d9 T (i+1)=k):=by show _=_;rw[HV.o,X hz]
      go_wp2_with fail;go_roundg (gk-1)
      case measure=>have:=o.o;omega
      case rel=>exact⟨i+1,by have:=o.o;omega,af,by rw[S.o],Uq⟩
    .have hi':i=T.length:=U;subst hi';have sp:=hid hke;clear R B HK hke HI;go_wp2_with fail
     go_loopg [9,10] T.length (λm ov iv wr'=>∃i:Nat,i+m=T.length/\iv=I J i/\H (cN 265 wr' (D os T.length oc) T/\wr'.ownsRow w.heap.size 100 4 ov (iM T i).length (ij<|iM T i)/\ag w wr'))
     case atStart=>exact⟨0,U,rfl,iF HJ.o.own,by rw[HR0.o];exact ak _ _ _ _,HJ.o.dg⟩
     case round=>
      obtain⟨i,R,rfl,HN⟩:=hrel;by_cases B:i<T.length
      .obtain⟨f,nW,hY,hys⟩:=mN HN.o.1 U;subst nW;obtain⟨q,hu⟩:=am<|k+i;obtain⟨p,hj⟩:=am (q%T.length);have hjl:=hj▸uq _ U;obtain⟨c,hc⟩:∃c,T[p]?=K c:=⟨_,be hjl⟩;obtain⟨y0,y1,y2,y3,_⟩:=hys p c hc;have:J.wrap ((k:Int)+(i:Int))=(q:Int):=by rw[ah];omega
       have k5:(q:Int).tmod (T.length:Int)=(p:Int):=by rw[hj];rfl
       have k7:=hj.symm;have:(p:Int)<(T.length:Int):=U;have n0:¬((T.length:Int)=0):=U;have n3:¬T.length=0:=U;have iH:(i:Int)<(T.length:Int):=U;have o:H (i+gk=T.length/\i<T.length):=⟨U,B⟩;have HV:H (iM T (i+1)=iM T i++[c.1.1]):=by show _=_;rw[HRT.o,<-sp.o,<-hu,<-hj,gn hc]
       have Em:=HRL.o i;obtain⟨ho,hbl⟩:=HN.o.2;have HRR:=hid HN.o.1;have hws:=hbl.size;generalize iM T i=O at*;obtain⟨⟨⟨⟨c1,c2⟩,c3,c4⟩,L⟩,cd⟩:=c;simp only at y0 y1 y2 y3;have:O.length<=100000000:=U;clear Em;clear hu hj hc hys R B HN;go_wp2_with (at_builtin;refine ii rfl vc underlying92 (ed ho) (aa _ _) ?_;intro g' cap' w8 fX mO jW);have vG:H (cN 265 w8 (D (K ⟨f,0,Z⟩) T.length oc) T/\w8.ownsRow w.heap.size 100 4 (D (K ⟨g',0,Z⟩) (O.length+1) cap') (iM T<|i+1).length (ij<|iM T<|i+1)/\ag w w8):=by
        refine⟨td (gf _) mO (λk hk=>fJ ho hk) ae HRR.o,?_,zK hbl hws mO λk hk=>(bn ho k hk).1⟩;rw[HV.o,Bz,bG];exact fX
       clear mO fX ho jW k5 k7 n0 n3;go_wp2_with fail;go_roundg (gk-1)
       case measure=>have:=o.o;omega
       case rel=>exact⟨i+1,by have:=o.o;omega,af,vG⟩
      .have hi':i=T.length:=U;subst hi';clear R B;go_wp2_with fail;go_ret;exact⟨_,rfl,by rw[HCN.o];exact iF HN.o.2.1,HN.o.2.2⟩
structure PY(B:Nat)(w:G)(v:Y)(vs:V Y)(ps:V (V<|V N.Qt)):Prop where
 own:w.ownsRow B 91 1 v vs.length vs
 len:vs.length=ps.length
 rows:∀(i:Nat) u p,vs[i]?=K u->ps[i]?=K p->∃us,eP B w u us p
 iA:∀(i j:Nat) u u',vs[i]?=K u->vs[j]?=K u'->i≠j->∀k,u.ownBlock=K k->u'.ownBlock≠K k
section
variable{B:Nat}{w wr w':G}{v:Y}{vs us:V Y}{ps:V (V (V N.Qt))}{p:V (V N.Qt)}
theorem eP.stay(h:eP B w v us p)(f:∀k,v.ownBlock=K k->w'.heap[k]?=w.heap[k]?)(l:∀(k:Nat)(c:Array Y),w.heap[k]?=K (Obj.cells c 100 (0,0))->w'.heap[k]?=w.heap[k]?):eP B w' v us p:=
 ⟨bH h.own f,h.len,λi u g a b=>kU _ _ _ _ (h.rd i u g a b) λk c e d m=>l k c (by rw[cI.1 m] at d;exact d)⟩
theorem PY.row(h:PY B w v vs ps):∀(i:Nat) p,ps[i]?=K p->∃u us,vs[i]?=K u/\eP B w u us p:=λi p b=>by
 have c:=(bX.1 b).1;have a:i<vs.length:=by rw[h.len];exact c
 have e:=be a;obtain⟨us,d⟩:=h.rows i _ p e b;exact⟨_,us,e,d⟩
theorem PY.keep(h:PY B w v vs ps)(a:ag w w'):PY B w' v vs ps:=
 ⟨bH h.own λk d=>a.block k (bn h.own k d).2,h.len,λi u p b c=>by
  obtain⟨us,e⟩:=h.rows i u p b c;exact⟨us,e.keep a⟩,h.iA⟩
theorem PY.stay(h:PY B w v vs ps)(d:∀(k:Nat)(a:Array Y)(T:TypeId),w.heap[k]?=K (Obj.cells a T (0,0))->T=91\/T=92\/T=100->w'.heap[k]?=w.heap[k]?):PY B w' v vs ps:=by
 refine⟨bH h.own λk b=>?_,h.len,λi u p f g=>?_,h.iA⟩
 .obtain⟨a,c⟩:=fJ h.own b;exact d k a _ c<|j rfl
 .obtain⟨us,e⟩:=h.rows i u p f g;refine⟨us,e.stay (λk b=>?_) λk a c=>d k a _ c<|F<|F rfl⟩;obtain⟨a,c⟩:=fJ e.own b;exact d k a _ c<|F<|j rfl
theorem PY.push(h:PY B wr v vs ps){u:Y}(L:eP B wr u us p)(w:∀(i:Nat) z,vs[i]?=K z->∀k,z.ownBlock=K k->u.ownBlock≠K k)(o:Obj){g' cap':Nat}{w8:G}(Q:(wr.alloc o).grownBy w8 v.ownBlock)
  (S:w8.ownsRow B 91 1 (D (K ⟨g',0,Z⟩) (vs.length+1) cap') (vs.length+1) (vs++[u])):PY B w8 (D (K ⟨g',0,Z⟩) (vs.length+1) cap') (vs++[u]) (ps++[p]):=by
 have f:∀(k:Nat)(d:Array Y)(T:TypeId),wr.heap[k]?=K (Obj.cells d T (0,0))->T≠91->w8.heap[k]?=wr.heap[k]?:=λk d T n J=>kC Q k (apJ n)<|lm h.own n J;have s:∀{z:Y}{zs:V Y}{q:V (V N.Qt)},eP B wr z zs q->eP B w8 z zs q:=λ{z zs q} P=>P.stay (λk r=>by
  obtain⟨d,n⟩:=fJ P.own r;exact f k d _ n ae) λk d n=>f k d _ n ae
 refine⟨by rw[bG];exact S,by rw[bG,bG,h.len];rfl,λi z q l m=>?_,λi c z y l m R k r=>?_⟩
 .by_cases x:i<vs.length
  .rw[dQ x] at l;rw[dQ (by rw[<-h.len];exact x)] at m;obtain⟨zs,P⟩:=h.rows i z q l m;exact⟨zs,s P⟩
  .have g:i=vs.length:=by
    have:=(bX.1 l).1;simp at this;omega
   subst g;have H:z=u:=by simpa using l.symm
   have I:q=p:=by rw[h.len] at m;simpa using m.symm
   subst H I;exact⟨us,s L⟩
 .have last:∀{i:Nat}{z:Y},(vs++[u])[i]?=K z->vs[i]?=K z\/(i=vs.length/\z=u):=λ{i z} t=>by
   by_cases x:i<vs.length
   .rw[dQ x] at t;exact j t
   .have g:i=vs.length:=by
     have:=(bX.1 t).1;simp at this;omega
    subst g;exact F ⟨rfl,by simpa using t.symm⟩
  rcases last l with a|⟨M,A⟩<;>rcases last m with b|⟨O,C⟩
  .exact h.iA i c z y a b R k r
  .rw[C];exact w i z a k r
  .rw[A] at r;exact λe=>w c y b k e r
  .omega
theorem PY.put{gv cap n:Nat}(h:PY B wr (D (K ⟨gv,0,Z⟩) n cap) vs ps)(G:n=vs.length){i:Nat}{z u:Y}(E:vs[i]?=K z)(hu:eP B w' u us p)(C:∀k,k<wr.heap.size->z.ownBlock≠K k->w'.heap[k]?=wr.heap[k]?)
  (hn:∀k,u.ownBlock=K k->z.ownBlock=K k\/wr.heap.size<=k):PY B (w'.setCell ⟨gv,i,Z⟩ u) (D (K ⟨gv,0,Z⟩) n cap) (vs.set i u) (ps.set i p):=by
 subst G;obtain⟨O,f⟩:=fJ h.own rfl;obtain⟨zs,P⟩:∃zs,∃q,eP B wr z zs q:=by
  have T:=(bX.1 E).1;obtain⟨zs,q⟩:=h.rows i z _ E<|be (by rw[<-h.len];exact T);exact⟨zs,_,q⟩
 obtain⟨q,P⟩:=P;have o:=lm P.own f ae;have m:=(C gv (apJ f) o).trans f;have H:w'.ownsRow B 91 1 (D (K ⟨gv,0,Z⟩) vs.length cap) vs.length vs:=bH h.own λk g=>by
  have e:gv=k:=by simpa[Value.ownBlock] using g
  rw[<-e];exact C gv (apJ f) o
 have M:∀{b:Y}{S:V Y}{r:V (V N.Qt)},eP B w' b S r->eP B (w'.setCell ⟨gv,i,Z⟩ u) b S r:=λ{b S r} x=>x.stay (λk g=>bY (λe=>lm x.own m ae (by rw[<-e];exact g)) _) λk c v=>bY (λe=>by
  rw[e,m] at v;injection v with v;injection v with _ v;exact absurd v ae) _
 refine⟨by rw[jE];exact Ev H u,by rw[jE,jE,h.len],λa b r s t=>?_,λa l b y' s t R k g=>?_⟩
 .rw[qQ] at s t;by_cases d:i=a
  .rw[y d] at s t;split at s
   .split at t
    .rw[<-fV s,<-fV t];exact⟨us,M hu⟩
    .cases t
   .cases s
  .rw[X d] at s t;obtain⟨S,x⟩:=h.rows a b r s t;refine⟨S,M<|x.stay (λk g=>C k (bn x.own k g).2 λe=>h.iA a i b z s E (λq=>d q.symm) k g e) λk c v=>C k (apJ v)<|lm P.own v ae⟩
 .have L:∀{a:Nat}{b:Y},(vs.set i u)[a]?=K b->(a=i/\b=u)\/(a≠i/\vs[a]?=K b):=λ{a b} Q=>by
   rw[qQ] at Q;by_cases d:i=a
   .rw[y d] at Q;split at Q
    .exact j ⟨d.symm,(fV Q).symm⟩
    .cases Q
   .rw[X d] at Q;exact F ⟨λq=>d q.symm,Q⟩
  have ub:∀{a:Nat}{b:Y},a≠i->vs[a]?=K b->∀k,u.ownBlock=K k->b.ownBlock≠K k:=λ{a b} W x k g e=>by
   rcases hn k g with q|q
   .exact h.iA a i b z x E W k e q
   .have R:=(bX.1 x).1;obtain⟨S,hq⟩:=h.rows a b _ x<|be (by rw[<-h.len];exact R);have:=(bn hq.own k e).2;omega
  rcases L s with⟨I,w⟩|⟨I,w⟩<;>rcases L t with⟨J,A⟩|⟨J,A⟩
  .omega
  .rw[w] at g;exact ub J A k g
  .rw[A];exact λe=>ub I w k e g
  .exact h.iA a l b y' w A R k g
theorem PY.swap{gv cap m:Nat}(h:PY B w (D (K ⟨gv,0,Z⟩) m cap) vs ps)(O:m=vs.length){n k:Nat}{ua uc:Y}{pa pc:V (V N.Qt)}(z:vs[n]?=K ua)(A:vs[k]?=K uc)(R:ps[n]?=K pa)(S:ps[k]?=K pc)(_:n≠k):
  PY B ((w.setCell ⟨gv,k,Z⟩ ua).setCell ⟨gv,n,Z⟩ uc) (D (K ⟨gv,0,Z⟩) m cap) ((vs.set k ua).set n uc) ((ps.set k pa).set n pc):=by
 subst O;obtain⟨F,l⟩:=fJ h.own rfl;have nl:=(bX.1 z).1;have kl:=(bX.1 A).1;have sq:∀{a:Y}{s:V Y}{r:V (V N.Qt)},eP B w a s r->eP B ((w.setCell ⟨gv,k,Z⟩ ua).setCell ⟨gv,n,Z⟩ uc) a s r:=λ{a s r} v=>by
  have C:∀j,j≠gv->((w.setCell ⟨gv,k,Z⟩ ua).setCell ⟨gv,n,Z⟩ uc).heap[j]?=w.heap[j]?:=λj t=>(bY t _).trans<|bY t _;refine v.stay (λj t=>C j λe=>lm v.own l ae (by rw[<-e];exact t)) λj c d=>C j λe=>?_;rw[e,l] at d;injection d with d;injection d with _ d;exact absurd d ae
 have o:∀{α:Type}{L:V α}{x a:α},L.length=vs.length->∀j,((L.set k x).set n a)[j]?=if j=n then K a else if j=k then K x else L[j]?:=λ{α L x a} u j=>by
  rw[qQ,qQ];by_cases g:n=j
  .subst g;simp[u,nl]
  .have Q:¬j=n:=λe=>g e.symm;rw[X g,X Q];by_cases f:k=j
   .rw[y f,y f.symm,y (by rw[u];exact kl)]
   .rw[X f,X λe=>f e.symm]
 have b:∀j,∃p,(((vs.set k ua).set n uc)[j]?=vs[p]?)/\(((ps.set k pa).set n pc)[j]?=ps[p]?)/\p=if j=n then k else if j=k then n else j:=λj=>by
  refine⟨_,?_,?_,rfl⟩
  .rw[o rfl];split
   .exact A.symm
   .split
    .exact z.symm
    .rfl
  .rw[o h.len.symm];split
   .exact S.symm
   .split
    .exact R.symm
    .rfl
 refine⟨by rw[jE,jE];exact Ev (Ev h.own ua) uc,by simp[h.len],λj a r g f=>?_,λi j a y' g f M q T=>?_⟩
 .obtain⟨p,P,G,_⟩:=b j;rw[P] at g;rw[G] at f;obtain⟨s,v⟩:=h.rows p a r g f;exact⟨s,sq v⟩
 .obtain⟨W,P,_,H⟩:=b i;obtain⟨p,I,_,J⟩:=b j;rw[P] at g;rw[I] at f;refine h.iA W p a y' g f (λe=>?_) q T;rw[H,J] at e;split at e<;>split at e<;>(try split at e)<;>(try split at e)<;>omega
end
end
end Go.Proofs.YtkjhhooecopolaaGreatDoor

import Derived.Test.YtkjhhooecopolaaGreatDoorAz37
set_option maxRecDepth 100000
set_option maxHeartbeats 4000000
namespace Go.Proofs.YtkjhhooecopolaaGreatDoor
open Value renaming int->I,complex->A,agg->u,slice->D
open IntKind renaming i64->J
open FloatKind renaming f64->C
open Go renaming World->G,Value->Y
open Option renaming some->K,none->Z
open Bool renaming true->aP,false->aQ
namespace Gb
open N W
theorem zL{α:Type}(f:α->V UInt8):∀l:V α,Lib.join (l.map f) [44,32]=Pl.df f l
 |[]=>by simp[Lib.join,List.intercalate,Pl.df]
 |[x]=>by simp[Lib.join,List.intercalate,Pl.df]
 |x::y::r=>by have a:=zL f (y::r);simp only[Lib.join,List.intercalate,gU,List.intersperse,um,Pl.df] at a⊢;rw[a]
theorem agP{rg:V (V O)}{r:Int}{T:V UInt8}(p:∀e∈o rg,cM e)(h:lP rg r T):T.length<=20000000000:=by obtain⟨g,l,c,k,d,m,n⟩:=h;have f:=zr (r:=r) c k d;have a:=zG (r:=r) c p d m;generalize lg r (o rg) g=Xs at*;have b:=f.pn a Xs.length<|aX _;have:=f.eh a Xs.length<|aX _;have:=Td a b;have:=S8 a<|Tc a b;have:=a.len;rw[n];unfold r9 DT wJ;split;decide;rw[bG,bG];have:r8.length=14:=rfl;grind
theorem UZ{a b:V w}(h:a.Perm b)(s:w):Lf a s=Lf b s:=by unfold Lf dZ dA;rw[show W.PP a (n1 s.1)=W.PP b (n1 s.1) from Hp h,show ∀Q,W.AS a (n1 s.1) Q=W.AS b (n1 s.1) Q from λQ=>Hp h,show ∀Q,W.AS a (n1 s.1) Q=W.AS b (n1 s.1) Q from λQ=>Hp h]
section
variable{S:V w}{nx:w->w}{γ:RS->w}{B:V RS}{G:V (V RS)}
structure RL(S:V w)(nx:w->w)(γ:RS->w)(g:V RS)(R:V w)(a:w)(C:V RS):Prop where
 lr:LR S nx R
 hd:R.head?=K a
 per:R.Perm (g.map γ)
 sh:cG g=aP↔shl R
 cn:dP g=C.map λs=>s.1.1
 cg:∀s∈C,s∈g
 fQ:C.map (λs=>(γ s).1)=fQ R
 fc:∀s∈g,Fc S a (γ s)
 z:bp g 0∈g
theorem GR.rl(h:Wd S nx)(k:RB S γ B)(b:GR S nx γ B G){g:V RS}(c:g∈G):∃R a C,RL S nx γ g R a C:=by obtain⟨R,C,d,f,m,n,p,q⟩:=k.lr h (b.sub g c)<|b.ring g c;obtain⟨a,_,e,_⟩:=jL d.ring.ne;refine⟨R,a,C,d,e,f,m,n,p,q,λs l=>d.ring.fc h e<|f.mem_iff.2<|bA.2 ⟨s,l,rfl⟩,gE ?_⟩;have:=fT.2 (b.ring g c).ne;grind
theorem RL.lf{g:V RS}{R:V w}{a:w}{C:V RS}(r:RL S nx γ g R a C)(h:Wd S nx){g':V RS}{R':V w}{a':w}{C':V RS}(b:RL S nx γ g' R' a' C'):Lf (g'.map γ) (γ<|bp g 0)=Lf R' a:=by rw[<-UZ b.per];exact(r.fc _ r.z R' (b.lr.cl h).1 (b.lr.cl h).2).symm
theorem JX{G:V (V RS)}(m:(G.map λg=>g.map γ).flatten.Nodup){i j:Nat}{g g':V RS}(k:G[i]?=K g)(l:G[j]?=K g')(b:i≠j):∀u∈g.map γ,u∉g'.map γ:=by obtain⟨_,p⟩:=xf.1 m;rw[ic,jm] at p;grind
theorem U0{G:V (V RS)}(p:V RS->Bool)(e:(G.map λg=>g.map γ).flatten.Nodup):((G.filter p).map λg=>g.map γ).flatten.Nodup:=by grind
theorem aiq(h:Wd S nx)(k:RB S γ B)(f:GR S nx γ B G){g g':V RS}(m:g∈G)(b:g'∈G)(l:cG g≠cG g'):∀u∈g.map γ,u∉g'.map γ:=λu n c=>by
 obtain⟨R,a,C,r⟩:=f.rl h k m;obtain⟨q,s,p,d⟩:=f.rl h k b;have e:=r.lr.eq h d.lr (r.per.mem_iff.2 n)<|d.per.mem_iff.2 c;have:=r.sh;rw[e] at this;exact l<|ke.2<|this.trans d.sh.symm
theorem GR.home(h:Wd S nx)(k:RB S γ B)(v:GR S nx γ B G){mq:V RS->Qt}(o:∀g∈G,∀Z∈G,γ (bp g 0)∉Z.map γ->eE Z (mq g)=decide (Lf (Z.map γ) (γ<|bp g 0)%2=1))
  {i0:Nat}(l:i0<(G.filter cG).length){g:V RS}(F:g∈G)(hs:cG g=aQ)(hF:Fc S (γ<|bp (dL (G.filter cG) i0) 0) (γ<|bp g 0)):(aam mq (G.filter cG) g (G.filter cG).length).1=i0:=by have L:=U0 cG v.nd;have f:∀{i},i<(G.filter cG).length->dL (G.filter cG) i∈G/\cG (dL (G.filter cG) i)=aP/\(G.filter cG)[i]?=K (dL (G.filter cG) i):=λ{i} l=>(by have e:(G.filter cG)[i]?=K (G.filter cG)[i]:=be l;rw[sn e];grind);generalize hSH:G.filter cG=c at*;have D:∀{i},i<c.length->γ (bp g 0)∉(dL c i).map γ:=λ{i} l=>(by obtain⟨R,a,C,r⟩:=v.rl h k F;exact aiq h k v F (f l).1 (by grind) _<|bA.2 ⟨_,r.z,rfl⟩);have p:∀{i j},i<c.length->j<c.length->i≠j->γ (bp (dL c i) 0)∉(dL c j).map γ:=λ{i j} l hj y=>(by obtain⟨R,a,C,r⟩:=v.rl h k (f l).1;exact JX L (f l).2.2 (f hj).2.2 y _<|bA.2 ⟨_,r.z,rfl⟩);have P:∀{i j}{R N:V w}{a O:w}{C X:V RS},i<c.length->j<c.length->i≠j->RL S nx γ (dL c i) R a C->RL S nx γ (dL c j) N O X->a≠O/\R≠N:=λ{i j R N a O C X} l hj y r t=>(by have ma:=r.per.mem_iff.1<|lC r.hd;have M:=t.per.mem_iff.1<|lC t.hd;have d:=JX L (f l).2.2 (f hj).2.2 y;refine⟨λe=>d a ma (e▸M),λe=>?_⟩;have q:=r.hd;rw[e,t.hd] at q;grind);obtain⟨R0,a0,C0,s⟩:=v.rl h k (f l).1;have s0:=s.sh.1 (f l).2.1;have Y:∀{i}{R a C},i<c.length->RL S nx γ (dL c i) R a C->Lf ((dL c i).map γ) (γ<|bp g 0)=Lf R a0:=λ{i R a C} b r=>(by rw[<-UZ r.per,<-hF R (r.lr.cl h).1 (r.lr.cl h).2,<-s.fc _ s.z R (r.lr.cl h).1 (r.lr.cl h).2]);have key:=ahh (n:=c.length) (A:=λi=>eE (dL c i)<|mq g) (Q:=λm i=>eE (dL c m)<|mq<|dL c i) l ?_ ?_ ?_ ?_;unfold aam;have e:ol mq c=λi=>((List.range c.length).filter λm=>decide (m≠i)&&eE (dL c m) (mq<|dL c i)).length:=(by funext i;unfold ol kN gp;rw[List.filter_map,eK,List.filter_filter];congr 2;funext m;show(eE (dL c m) (mq<|dL c i)&&decide (m≠i))=_;rw[Bool.and_comm]);grind;show eE (dL c i0) (mq g)=aP;rw[o g F _ (f l).1<|D l,Y l s,(s.lr.val h s.hd).1 s0];rfl;intro i b x;show eE (dL c i) (mq g)=eE (dL c i) (mq<|dL c i0);obtain⟨R,a,C,r⟩:=v.rl h k (f b).1;rw[o g F _ (f b).1<|D b,o _ (f l).1 _ (f b).1<|p l b x.symm,Y b r,s.lf h r];intro i b x ha;have ha:eE (dL c i) (mq g)=aP:=ha;show eE (dL c i0) (mq<|dL c i)=aQ;obtain⟨R,a,C,r⟩:=v.rl h k (f b).1;rw[o g F _ (f b).1<|D b,Y b r,iE] at ha;rw[o _ (f b).1 _ (f l).1<|p b l x,r.lf h s,E7];intro hb;obtain⟨a1,z,e1,hz,c1⟩:=r.sh.1 (f b).2.1;obtain rfl:a1=a:=fV<|e1.symm.trans r.hd;obtain⟨a2,z',e2,hz',c2⟩:=s0;obtain rfl:a2=a0:=fV<|e2.symm.trans s.hd;obtain⟨M1,g1⟩:=r.lr.rg h e1 hz;obtain⟨M2,g2⟩:=s.lr.rg h e2 hz';exact g1.Rl h g2 (P b l x r s).1 c1 c2 U U;intro m i u b J H I T W;have T:eE (dL c m) (mq<|dL c i)=aP:=T;have W:eE (dL c i) (mq<|dL c i0)=aP:=W;show eE (dL c m) (mq<|dL c i0)=aP;obtain⟨R,a,C,r⟩:=v.rl h k (f b).1;obtain⟨N,O,X,t⟩:=v.rl h k (f u).1;rw[o _ (f b).1 _ (f u).1<|p b u J.symm,r.lf h t,iE] at T;rw[o _ (f l).1 _ (f b).1<|p l b H.symm,s.lf h r,iE] at W;rw[o _ (f l).1 _ (f u).1<|p l u I.symm,s.lf h t,iE];exact LR.aen h t.lr r.lr s.lr (t.sh.1 (f u).2.1) (r.sh.1 (f b).2.1) s0 t.hd r.hd s.hd (P u b J t r).2 (P b l H r s).2 (P u l I t s).2 T W
end
end Gb
section
section
variable{α:Type}(c:α->α->Int)(d:α)
def nf(p:V α)(k:Nat):V α:=if 0<c (p.getD (k-1) d) (p.getD k d) then(p.set k<|p.getD (k-1) d).set (k-1) (p.getD k d) else p
def kd(p:V α)(i:Nat):Nat->V α
 |0=>p
 |j+1=>nf c d (kd p i j)<|i-j
variable{c:α->α->Int}{d:α}
theorem acm(p:V α)(k j:Nat)(x:α):(p.set k x).getD j d=if j=k/\k<p.length then x else p.getD j d:=by grind
theorem air{p:V α}{k:Nat}(h:0<k)(a:k<p.length):((p.set k<|p.getD (k-1) d).set (k-1)<|p.getD k d).Perm p:=by have e0:p.getD (k-1) d=p[k-1]:=(by grind);have f:p.getD k d=p[k]:=(by grind);have s:p=p.take (k-1)++p[k-1]::p[k]::p.drop (k+1):=(by have b:p.drop (k-1)=p[k-1]::p.drop (k-1+1):=lU U;have c:p.drop k=p[k]::p.drop (k+1):=lU a;rw[show k-1+1=k by omega,c] at b;rw[<-b,oy]);have e:(p.set k<|p.getD (k-1) d).set (k-1) (p.getD k d)=p.take (k-1)++p[k]::p[k-1]::p.drop (k+1):=(by rw[e0,f];refine sJ λi=>?_;rw[qQ,qQ,jE];have g:(p.take<|k-1).length=k-1:=(by grind);rcases sM i (k-1) with q|q|q;grind;grind;grind);rw[e];(conv=>rhs;rw[s]);exact(List.Perm.swap _ _ _).append_left _
theorem ais{p:V α}{k:Nat}(a:0<k)(b:k<p.length):(nf c d p k).Perm p:=by unfold nf;split;exact air a b;simp
theorem EI{p:V α}{i:Nat}(b:i<p.length):∀j,j<=i->(kd c d p i j).Perm p
 |0,_=>uv _
 |j+1,e=>by have a:=EI b j U;exact(ais U (by rw[a.length_eq];omega)).trans a
theorem U1{p:V α}{i m:Nat}:∀j,j+m<=i->∀b,b<m->(kd c d p i j).getD b d=p.getD b d
 |0,_,_,_=>rfl
 |j+1,f,b,e=>by have a:=U1 (p:=p) (i:=i) (m:=m) j U b e;show(nf c d (kd c d p i j)<|i-j).getD b d=_;unfold nf;grind
theorem JY{p:V α}{i:Nat}:∀j,∀b,i<b->(kd c d p i j).getD b d=p.getD b d
 |0,_,_=>rfl
 |j+1,b,e=>by have a:=JY (p:=p) (i:=i) j b e;show(nf c d (kd c d p i j)<|i-j).getD b d=_;unfold nf;grind
structure TO(c:α->α->Int)(P:α->Prop):Prop where
 U2:∀x y,P x->P y->0<c x y->¬0<c y x
 tr:∀x y z,P x->P y->P z->¬0<c x y->¬0<c y z->¬0<c x z
theorem JZ{P:α->Prop}(S:TO c P){p:V α}{f i:Nat}(E:i<p.length)(z:∀x∈p,P x)(F:∀a b,f<=a->a<b->b<i->¬0<c (p.getD a d) (p.getD b d)):∀j,f+j<=i->∀a b,f<=a->a<b->b<=i->b≠i-j->¬0<c ((kd c d p i j).getD a d) ((kd c d p i j).getD b d)
 |0,_,a,b,r,R,s,L=>F a b r R U
 |j+1,N,a,b,r,R,s,L=>by have n:=JZ S E z F j U;have h:=EI (c:=c) (d:=d) E j U;show ¬0<c ((nf c d (kd c d p i j)<|i-j).getD a d) ((nf c d (kd c d p i j)<|i-j).getD b d);have:=h.length_eq;have e:∀m,m<p.length->P ((kd c d p i j).getD m d):=λm O=>(by grind);generalize kd c d p i j=q at*;obtain⟨k,M⟩:=am<|i-j;rw[<-M] at n⊢;unfold nf;by_cases v:0<c (q.getD (k-1) d) (q.getD k d);rw[y v];have G:∀m,((q.set k<|q.getD (k-1) d).set (k-1)<|q.getD k d).getD m d=if m=k-1 then q.getD k d else if m=k then q.getD (k-1) d else q.getD m d:=λm=>(by rw[acm,acm,jE];grind);rw[G,G];have t:=S.U2 _ _ (e (k-1) U) (e k U) v;have H:¬b=k-1:=U;rw[X H];by_cases g:b=k;grind;rw[X g];by_cases l:a=k-1;grind;grind;rw[X v];by_cases g:b=k;rw[g];by_cases l:a=k-1;grind;exact S.tr _ _ _ (e a U) (e (k-1) U) (e k U) (n a (k-1) r U U U) v;grind
theorem getD_eq{p:V α}{k:Nat}(h:k<p.length):p.getD k d=p[k]:=by grind
end
theorem U3(p:V (V N.Qt))(i:Nat):∀j,bm p i j=kd fh [] p i j
 |0=>rfl
 |j+1=>by show swp (bm p i j) (i-j)=nf fh [] (kd fh [] p i j) (i-j);rw[U3 p i j];rfl
theorem U4{P:V N.Qt->Prop}(h:TO fh P){p:V (V N.Qt)}{f:Nat}(g:∀x∈p,P x):∀n,f+n<=p.length->(fS p f n).Perm p/\(∀b,b<f->(fS p f n).getD b []=p.getD b [])/\∀a b,f<=a->a<b->b<f+n->¬0<fh ((fS p f n).getD a []) ((fS p f n).getD b [])
 |0,_=>⟨uv _,λ_ _=>rfl,λa b d e l=>U⟩
 |n+1,v=>by obtain⟨c,s,t⟩:=U4 h (f:=f) g n U;show(bm (fS p f n) (f+n) n).Perm p/\(∀b,b<f->(bm (fS p f n) (f+n) n).getD b []=p.getD b [])/\∀a b,f<=a->a<b->b<f+(n+1)->¬0<fh ((bm (fS p f n) (f+n) n).getD a []) ((bm (fS p f n) (f+n) n).getD b []);rw[U3];generalize fS p f n=q at*;have:=c.length_eq;refine⟨(EI U n U).trans c,λb k=>?_,λa b d e l=>?_⟩;rw[U1 (m:=f) n U b k];grind;exact JZ h (f:=f) U (λx r=>g x<|c.mem_iff.1 r) t n U a b d e U U
theorem ait{P:V N.Qt->Prop}(g:TO fh P){x:V N.Qt}{t:V (V N.Qt)}(d:∀y∈x::t,P y):∃T,fS (x::t) 1 ((x::t).length-1)=x::T/\T.Perm t/\T.Pairwise λa b=>¬0<fh a b:=by obtain⟨c,n,p⟩:=U4 g (f:=1) d ((x::t).length-1) aq;generalize fS (x::t) 1 ((x::t).length-1)=q at*;cases q with|nil=>simp_all|cons y T=>have e:y=x:=n 0 U;subst e;refine⟨T,rfl,c.cons_inv,jm.2 λi j h l k=>?_⟩;have m:=c.length_eq;have:=p (i+1) (j+1) U U (by grind);grind
def cP(a b:V (V N.Qt)):Int:=fh (gQ a 0)<|gQ b 0
theorem U5(p:V (V<|V N.Qt))(i:Nat):∀j,kt p i j=kd cP [] p i j
 |0=>rfl
 |j+1=>by show pu (kt p i j) (i-j)=nf cP [] (kd cP [] p i j) (i-j);rw[U5 p i j];rfl
def kO(p:V (V N.Qt)):V (V N.Qt):=fS p 1<|p.length-1
theorem U6{P:V (V N.Qt)->Prop}(o:TO cP P){ps:V (V<|V N.Qt)}(B:∀x∈ps,P x/\P (kO x)):∀n,n<=ps.length->(gq ps n).length=ps.length/\(∀b,n<=b->(gq ps n).getD b []=ps.getD b [])/\((gq ps n).take n).Perm ((ps.take n).map kO)/\∀a b,a<b->b<n->¬0<cP ((gq ps n).getD a []) ((gq ps n).getD b [])
 |0,_=>⟨rfl,λ_ _=>rfl,E,λa b s m=>U⟩
 |n+1,O=>by obtain⟨L,R,M,i4⟩:=U6 o B n U;have e:gq ps (n+1)=kd cP [] ((gq ps n).set n<|kO<|ps.getD n []) n n:=(by rw[<-R n<|aX _,<-U5];rfl);rw[e];generalize gq ps n=q at*;obtain⟨h,l⟩:=am<|q.set n<|kO<|ps.getD n [];rw[<-l];have Q:h.length=ps.length:=(by grind);have r:∀b,b≠n->h.getD b []=q.getD b []:=λb v=>(by grind);have F:h.getD n []=kO (ps.getD n []):=(by grind);have k:=EI (c:=cP) (d:=[]) (p:=h) (i:=n) U n<|aX _;have tk:h.take (n+1)=q.take n++[kO (ps.getD n [])]:=(by have t:h.take n=q.take n:=(by rw[l,List.take_set_of_le<|aX _]);rw[fg,be U,<-F,getD_eq U,t];rfl);have S:(ps.take<|n+1).map kO=(ps.take n).map kO++[kO (ps.getD n [])]:=(by rw[fg,be U,abb,getD_eq U];rfl);have pt:(h.take<|n+1).Perm ((ps.take<|n+1).map kO):=(by grind);refine⟨by rw[k.length_eq,Q],λb v=>?_,?_,λa b s m=>?_⟩;rw[JY n b U,r b U,R b U];refine List.Perm.trans ?_ pt;have dr:(kd cP [] h n n).drop (n+1)=h.drop (n+1):=(by refine nA (by rw[jQ,jQ,k.length_eq]) λb s m=>?_;have:=JY (c:=cP) (d:=[]) (p:=h) (i:=n) n (n+1+b) U;grind);refine(List.perm_append_right_iff<|h.drop<|n+1).1 ?_;rw[<-dr,oy,dr,oy];exact k;refine JZ o (f:=0) U (λx z=>?_) (λa b _ m G=>?_) n U a b U s U U;rw[<-oy (n+1) h] at z;rcases dm.1 z with w|w;grind;obtain⟨b,v,j⟩:=ig.1 w;rw[jQ] at v;rw[J7,<-getD_eq (d:=[]) U,r _ U,R _ U,getD_eq U] at j;grind;grind
theorem aiu{P:V (V N.Qt)->Prop}(f:TO cP P){ps:V (V<|V N.Qt)}(e:∀x∈ps,P x/\P (kO x)):(gq ps ps.length).Perm (ps.map kO)/\(gq ps ps.length).Pairwise λa b=>¬0<cP a b:=by obtain⟨k,_,d,i4⟩:=U6 f e ps.length<|aX _;rw[ku U,ku<|aX _] at d;refine⟨d,jm.2 λi j g h c=>?_⟩;grind
end
namespace Gb
open N W
theorem EJ:∀(a b:V Nd),0<fh (a.map T) (b.map T)↔eJ b a<0
 |[],[]=>by show(0:Int)<0-0↔(0:Int)<0;omega
 |[],_::s=>by show(0:Int)<((0:Nat):Int)-((s.map T).length+1:Nat)↔(1:Int)<0;omega
 |_::r,[]=>by show(0:Int)<((r.map T).length+1:Nat)-((0:Nat):Int)↔(-1:Int)<0;omega
 |a::r,b::s=>by have c:=EJ r s;have e:cC b a= -N.pc (T a) (T b):=N.uV _ _;show 0<(if N.pc (T a) (T b)=0 then fh (r.map T) (s.map T) else N.pc (T a) (T b))↔(if cC b a=0 then eJ s r else cC b a)<0;omega
def J0(g:V Qt):Prop:=∃a:V Nd,(∀n∈a,N.Can n)/\g=a.map T
theorem J1:TO fh J0:=by have f:∀a b:V Nd,(∀n∈a,N.Can n)->(∀n∈b,N.Can n)->eJ b a<0->¬eJ a b<0:=λa b d e h k=>(by have:=wH a b a d e d k h;rw[zF] at this;omega);refine⟨?_,?_⟩;rintro _ _ ⟨a,d,rfl⟩ ⟨b,e,rfl⟩ h;rw[EJ] at h⊢;grind;rintro _ _ _ ⟨a,d,rfl⟩ ⟨b,e,rfl⟩ ⟨c,p,rfl⟩ g m;rw[EJ] at g m⊢;intro l;rcases wG b c e p with q|q|q;exact g (wH b c a e p d q l);omega;grind
theorem aiv:TO cP λx=>J0 (gQ x 0):=⟨λ_x _y a b=>J1.U2 _ _ a b,λ_x _y _ a b c=>J1.tr _ _ _ a b c⟩
def abw(b:V RS->Int)(a K:V (V RS))(i:Nat):V (V Qt):=dP (dL a i)::(K.filter λg=> !cG g&&decide (b g=(i:Int))).map dP
theorem aiw(mq:V RS->Qt)(a K:V (V RS))(g:V RS)(h:cG g=aQ->∃i,i<a.length/\(aam mq a g a.length).1=(i:Nat)):iR mq a ((List.range a.length).map<|abw (λg=>(aam mq a g a.length).1) a K) g=(List.range a.length).map (abw (λg=>(aam mq a g a.length).1) a<|K++[g]):=by unfold iR;by_cases c:cG g=aP;rw[y c];refine abH λi _=>?_;unfold abw;grind;rw[X c];have b:cG g=aQ:=(by grind);obtain⟨j,k,d⟩:=h b;rw[d,y U,qJ];refine nA E λi l f=>?_;have m:i<a.length:=(by grind);rw[List.getElem_set,sO,sO,KF];have e:kc ((List.range a.length).map<|abw (λg=>(aam mq a g a.length).1) a K) j=abw (λg=>(aam mq a g a.length).1) a K j:=(by unfold kc;grind);rw[e];unfold abw;grind
theorem U7(mq:V RS->Qt)(b:V (V RS)):∀a c:V (V RS),(∀g∈a,cG g=aQ->∃i,i<b.length/\(aam mq b g b.length).1=(i:Nat))->hl2 mq b ((List.range b.length).map<|abw (λg=>(aam mq b g b.length).1) b c) a=(List.range b.length).map (abw (λg=>(aam mq b g b.length).1) b<|c++a)
 |[],c,_=>by rw[lY];rfl
 |g::a,c,h=>by show hl2 mq b (iR mq b _ g) a=_;rw[aiw mq b c g<|h g E,U7 mq b a (c++[g]) λx d=>h x<|bW _ d,aaU];rfl
theorem aix(d:V RS->Int)(a:V (V RS)):(a.map λg=>[dP g])=(List.range a.length).map (abw d a []):=by
 refine nA E λi e b=>?_;have c:i<a.length:=by grind
 rw[sO,sO,KF];unfold abw;rw[sn<|be c];rfl
def U8(nq:Qt->Nd)(p:V (V Qt)):NP:=((gQ p 0).map nq,p.tail.map (·.map nq))
section
variable{es:V (O×O)}{l:V Nd}{S:V w}{nx:w->w}{γ:RS->w}{B:V RS}{G:V (V RS)}
theorem GR.canon(h:Wd S nx)(hN:bZ es l)(k:RB S γ B)(I:GR S nx γ B G){nq:Qt->Nd}(hq:∀s∈B,nq s.1.1∈l/\T (nq s.1.1)=s.1.1/\PM (aZ l) (nq s.1.1)=(γ s).1)
  {mq:V RS->Qt}(hA:∀g∈G,∀o∈G,γ (bp g 0)∉o.map γ->eE o (mq g)=decide (Lf (o.map γ) (γ<|bp g 0)%2=1))
  (hP:∀H,LR S nx H->¬shl H->∃R,LR S nx R/\shl R/\∀a∈R,∀s∈H,Fc S a s):
  Canon S nx l ((mG mq G).map<|U8 nq)/\mG mq G=((mG mq G).map<|U8 nq).map (λp=>p.1.map T::p.2.map (·.map T)):=by
 have v:∀g∈G,(∀n∈(dP g).map nq,n∈l)/\dP g=((dP g).map nq).map T:=λg t=>(by obtain⟨R,a,C,r⟩:=I.rl h k t;have hc:∀s∈C,s∈B:=λs Q=>I.sub g t s<|r.cg s Q;rw[r.cn];refine⟨λn Y=>?_,?_⟩;grind;rw[eS,eS];exact abH λs Q=>((hq s<|hc s Q).2.1).symm);have P:∀{g R a C},g∈G->RL S nx γ g R a C->((dP g).map nq).map (PM<|aZ l)=fQ R:=λ{g R a C} t r=>(by rw[r.cn,<-r.fQ,eS,eS];exact abH λs Q=>(hq s<|I.sub g t s<|r.cg s Q).2.2);have ndR:∀g∈G,J0 (dP g):=λg t=>⟨(dP g).map nq,λn Y=>hN.can n<|(v g t).1 n Y,(v g t).2⟩;have tT:∀g∈G,∀o∈G,¬0<fh (dP g) (dP o)->(∀u∈g.map γ,u∉o.map γ)->eJ ((dP g).map nq) ((dP o).map nq)<0:=λg t o L h1 h2=>(by rw[(v g t).2,(v o L).2,EJ] at h1;rcases wG _ _ (λn Y=>hN.can n<|(v g t).1 n Y) (λn Y=>hN.can n<|(v o L).1 n Y) with q|q|q;exact q;omega;exfalso;obtain⟨R,a,C,r⟩:=I.rl h k t;obtain⟨R',a',C',r'⟩:=I.rl h k L;have e:=r.lr.zi h r'.lr (by grind);have ma:=r.per.mem_iff.1<|lC r.hd;exact h2 a ma<|r'.per.mem_iff.1 (by rw[<-e];exact lC r.hd));have find:∀R,LR S nx R->∃g∈G,∃a C,RL S nx γ g R a C:=λR hR=>(by obtain⟨a,_,ha,_⟩:=jL hR.ring.ne;have ma:=lC ha;obtain⟨g,t,hm⟩:=I.all a<|hR.ring.mem a ma;obtain⟨R',a',C,r⟩:=I.rl h k t;have:=hR.eq h r.lr ma<|r.per.mem_iff.2 hm;grind);obtain⟨d,J⟩:=am<|G.filter cG;have M:∀{i},i<d.length->dL d i∈G/\cG (dL d i)=aP/\d[i]?=K (dL d i):=λ{i} f=>(by have e:d[i]?=K d[i]:=be f;rw[sn e];have m:d[i]∈G.filter cG:=J▸eo f;grind);have gi:∀g∈G,cG g=aP->∃i,i<d.length/\dL d i=g:=λg t Q=>(by have:g∈d:=(by grind);obtain⟨i,f,e⟩:=ig.1 this;grind);have home:∀g∈G,cG g=aQ->∃i,i<d.length/\(aam mq d g d.length).1=(i:Nat)/\∀R a C H b D,RL S nx γ (dL d i) R a C->RL S nx γ g H b D->∀x∈R,∀s∈H,Fc S x s:=λg t Q=>(by obtain⟨H,b,D,r⟩:=I.rl h k t;have Y:¬shl H:=λq=>(by rw[r.sh.2 q] at Q;cases Q);obtain⟨R,R1,R2,R3⟩:=hP H r.lr Y;obtain⟨g0,hg0,a,C,r0⟩:=find R R1;obtain⟨i,f,ei⟩:=gi g0 hg0<|r0.sh.2 R2;refine⟨i,f,?_,λR' a' C' H' b' D' r' q' x F s Z=>?_⟩;have hf:Fc S (γ<|bp (dL d i) 0) (γ<|bp g 0):=(by rw[ei];exact R3 _ (r0.per.mem_iff.2<|bA.2 ⟨_,r0.z,rfl⟩) _<|r.per.mem_iff.2<|bA.2 ⟨_,r.z,rfl⟩);subst J;exact I.home h k hA f t Q hf;rw[ei] at r';exact R3 x (r0.per.mem_iff.2<|r'.per.mem_iff.1 F) s<|r.per.mem_iff.2<|q'.per.mem_iff.1 Z);have e1:ip G G.length=d.map λg=>[dP g]:=(by unfold ip;grind)
 obtain⟨P0,W⟩:=am<|(List.range d.length).map<|abw (λg=>(aam mq d g d.length).1) d G;have e2:mG mq G=gq P0 P0.length:=by
  unfold mG;rw[<-J,e1,aix (λg=>(aam mq d g d.length).1) d,U7 mq d G [] (λg t Q=>by
   obtain⟨i,a,b,_⟩:=home g t Q;grind),qM,<-W]
 have X:∀i,i<d.length->∃c,kO (abw (λg=>(aam mq d g d.length).1) d G i)=dP (dL d i)::c/\c.Perm ((G.filter λg=> !cG g&&decide ((aam mq d g d.length).1=(i:Int))).map dP)/\c.Pairwise λa b=>¬0<fh a b:=λi f=>(by refine ait J1 λy hy=>?_;rcases bK.1 hy with q|q;grind;obtain⟨g,t,rfl⟩:=bA.1 q;grind)
 obtain⟨t1,t2⟩:=aiu aiv (ps:=P0) (λx F=>by
  rw[W] at F;obtain⟨i,f,rfl⟩:=bA.1 F;have f:=gV.1 f;obtain⟨c,A,_⟩:=X i f;rw[A];exact⟨ndR _ (M f).1,ndR _ (M f).1⟩)
 rw[<-e2] at t1 t2;have mem:∀x,x∈mG mq G↔∃i,i<d.length/\x=kO (abw (λg=>(aam mq d g d.length).1) d G i):=λx=>(by grind);have holes:∀{i:Nat}{c:V (V Qt)},c.Perm ((G.filter λg=> !cG g&&decide ((aam mq d g d.length).1=(i:Int))).map dP)->∀y,y∈c↔∃g∈G,cG g=aQ/\(aam mq d g d.length).1=(i:Int)/\y=dP g:=λ{i c} hT y=>(by grind);refine⟨⟨λp hp=>?_,λp hp=>?_,λR hR Q=>?_,λH hH Q=>?_,?_,λp hp=>?_⟩,?_⟩;obtain⟨x,F,rfl⟩:=bA.1 hp;obtain⟨i,f,rfl⟩:=(mem x).1 F;obtain⟨c,A,pT,_⟩:=X i f;rw[A];refine⟨(v _ (M f).1).1,λy hy=>?_⟩;obtain⟨z,hz,rfl⟩:=bA.1 hy;obtain⟨g,N,_,_,rfl⟩:=(holes pT z).1 hz;grind;obtain⟨x,F,rfl⟩:=bA.1 hp;obtain⟨i,f,rfl⟩:=(mem x).1 F;obtain⟨c,A,pT,_⟩:=X i f;rw[A];obtain⟨R,a,C,r⟩:=I.rl h k (M f).1;refine⟨R,r.lr,r.sh.1 (M f).2.1,P (M f).1 r,λy hy=>?_⟩;obtain⟨z,hz,rfl⟩:=bA.1 hy;obtain⟨g,N,O,g3,rfl⟩:=(holes pT z).1 hz;obtain⟨H,b,D,q⟩:=I.rl h k N;refine⟨H,q.lr,λw=>(by rw[q.sh.2 w] at O;cases O),P N q,?_⟩;obtain⟨j,hj,ej,fj⟩:=home g N O;have:j=i:=U;grind;obtain⟨g,t,a,C,r⟩:=find R hR;obtain⟨i,f,ei⟩:=gi g t<|r.sh.2 Q;obtain⟨c,A,_⟩:=X i f;refine⟨_,bA.2 ⟨_,(mem _).2 ⟨i,f,rfl⟩,rfl⟩,?_⟩;rw[A,ei];exact P t r;obtain⟨g,t,a,C,r⟩:=find H hH;have Z:cG g=aQ:=(by cases q:cG g;rfl;exact absurd (r.sh.1 q) Q);obtain⟨i,f,ei,_⟩:=home g t Z;obtain⟨c,A,pT,_⟩:=X i f;refine⟨_,bA.2 ⟨_,(mem _).2 ⟨i,f,rfl⟩,rfl⟩,(dP g).map nq,?_,P t r⟩;rw[A];exact bA.2 ⟨dP g,(holes pT _).2 ⟨g,t,Z,ei,rfl⟩,rfl⟩;rw[ic];have hk:(mG mq G).Pairwise λa b=>∃i j,i<d.length/\j<d.length/\i≠j/\a=kO (abw (λg=>(aam mq d g d.length).1) d G i)/\b=kO (abw (λg=>(aam mq d g d.length).1) d G j):=(by refine t1.symm.pairwise ?_<|λ{a b}⟨i,j,h1,h2,h3,h4,h5⟩=>⟨j,i,h2,h1,h3.symm,h5,h4⟩;rw[W,eS,ic];refine kQ (λ{a b} ha hb w=>?_) List.nodup_range;exact⟨a,b,gV.1 ha,gV.1 hb,w,rfl,rfl⟩);refine kQ (λ{x y} F hy w=>?_)<|t2.and hk;obtain⟨w1,i,j,f,hj,hij,rfl,rfl⟩:=w;obtain⟨c,A,_⟩:=X i f;obtain⟨T',eT',_⟩:=X j hj;rw[A,eT'] at w1⊢;exact tT _ (M f).1 _ (M hj).1 w1<|JX (by rw[J];exact U0 cG I.nd) (M f).2.2 (M hj).2.2 hij;obtain⟨x,F,rfl⟩:=bA.1 hp;obtain⟨i,f,rfl⟩:=(mem x).1 F;obtain⟨c,A,pT,sT⟩:=X i f;rw[A];show(c.map (·.map nq)).Pairwise _;rw[ic];have hk:c.Pairwise λa b=>∃g∈G,∃o∈G,a=dP g/\b=dP o/\∀u∈g.map γ,u∉o.map γ:=(by refine pT.symm.pairwise ?_<|λ{a b}⟨g,h1,o,h2,h3,h4,h5⟩=>⟨o,h2,g,h1,h4,h3,λu hu hu'=>h5 u hu' hu⟩;rw[ic];have hd:=(xf.1 I.nd).2;rw[ic] at hd;refine kQ (λ{a b} ha hb w=>?_)<|hd.sublist List.filter_sublist;grind);refine kQ (λ{x y} _ _ w=>?_)<|sT.and hk;obtain⟨w1,g,t,o,L,rfl,rfl,w2⟩:=w;exact tT g t o L w1 w2;rw[eS];(conv=>lhs;rw[<-List.map_id<|mG mq G]);refine abH λx F=>?_;obtain⟨i,f,rfl⟩:=(mem x).1 F;obtain⟨c,A,pT,_⟩:=X i f;rw[A];show dP (dL d i)::c=((dP<|dL d i).map nq).map T::(c.map (·.map nq)).map (·.map T);rw[<-(v _ (M f).1).2,eS];congr 1;(conv=>lhs;rw[<-List.map_id c]);refine abH λy hy=>?_;obtain⟨g,N,_,_,rfl⟩:=(holes pT y).1 hy;grind
end
end Gb
end Go.Proofs.YtkjhhooecopolaaGreatDoor

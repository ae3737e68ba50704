import Derived.Test.YtkjhhooecopolaaGreatDoorFz34
set_option maxRecDepth 100000
set_option maxHeartbeats 4000000
namespace Go.Proofs.YtkjhhooecopolaaGreatDoor
open Go.Proofs.Tryz
open Value renaming int->I,complex->A,agg->u,bool->aC,slice->D
open IntKind renaming i64->J
open FloatKind renaming f64->C
open Ending renaming returned->aJ
open Go renaming World->G,Value->Y
open Option renaming some->K,none->Z
open Bool renaming true->aP,false->aQ
section
open Go.RowKit
variable{k B n:Nat}
theorem ah1:(Tryz.prog.info? 91).map (λi=>(i.zero,i.size,i.bytes))=K (K<|D Z 0 0,1,24):=z
theorem ah2:(Tryz.prog.info? 92).map (λi=>(i.zero,i.size,i.bytes))=K (K<|D Z 0 0,1,24):=z
def ip(G:V (V RS))(k:Nat):V (V<|V N.Qt):=((G.take k).filter cG).map λg=>[dP g]
theorem Ur{G:V (V RS)}{i:Nat}{g:V RS}(h:G[i]?=K g):(G.take<|i+1).filter cG=(G.take i).filter cG++if cG g then[g] else[]:=by
 rw[fg,h];simp only[Option.toList_some,nr];cases a:cG g<;>simp[a]
def kc(ps:V (V<|V N.Qt))(k:Nat):V (V N.Qt):=ps.getD k []
theorem wN{ps:V (V<|V N.Qt)}{p:V (V N.Qt)}(h:ps[k]?=K p):kc ps k=p:=by unfold kc;rw[fi,h];rfl
def iR(mq:V RS->N.Qt)(a:V (V RS))(ps:V (V<|V N.Qt))(g:V RS):V (V<|V N.Qt):=
 if cG g then ps else if 0<=(dT mq a g a.length).1 then ps.set (dT mq a g a.length).1.toNat (kc ps (dT mq a g a.length).1.toNat++[dP g]) else ps
def hl2(mq:V RS->N.Qt)(a:V (V RS))(ps:V (V<|V N.Qt))(G:V (V RS)):V (V<|V N.Qt):=G.foldl (iR mq a) ps
theorem ah3(mq:V RS->N.Qt)(a:V (V RS))(ps:V (V<|V N.Qt)){G:V (V RS)}{i:Nat}{g:V RS}(h:G[i]?=K g):hl2 mq a ps (G.take<|i+1)=iR mq a (hl2 mq a ps<|G.take i) g:=by
 unfold hl2;rw[fg,h,nw];rfl
theorem ah4(mq:V RS->N.Qt)(a:V (V RS))(ps:V (V<|V N.Qt))(g:V RS):(iR mq a ps g).length=ps.length:=by
 unfold iR
 repeat' split
 all_goals simp
theorem JD(mq:V RS->N.Qt)(a:V (V RS)):∀(G:V (V RS))(ps:V (V<|V N.Qt)),(hl2 mq a ps G).length=ps.length
 |[],_=>rfl
 |g::G,ps=>by show(hl2 mq a (iR mq a ps g) G).length=_;rw[JD mq a G,ah4]
theorem Us(mq:V RS->N.Qt)(L:V (V RS))(g:V RS):∀k,(dT mq L g k).1= -1\/∃a:Nat,a<k/\(dT mq L g k).1=(a:Int)
 |0=>j rfl
 |k+1=>by
  rw[T2];split
  .exact F ⟨k,U,rfl⟩
  .rcases Us mq L g k with h|⟨a,c,b⟩
   .exact j h
   .exact F ⟨a,U,b⟩
def pu(ps:V (V<|V N.Qt))(k:Nat):V (V<|V N.Qt):=if 0<fh (gQ (kc ps<|k-1) 0) (gQ (kc ps k) 0) then(ps.set k<|kc ps<|k-1).set (k-1) (kc ps k) else ps
def kt(ps:V (V<|V N.Qt))(i:Nat):Nat->V (V<|V N.Qt)
 |0=>ps
 |j+1=>pu (kt ps i j)<|i-j
def gq(ps:V (V<|V N.Qt)):Nat->V (V<|V N.Qt)
 |0=>ps
 |j+1=>kt ((gq ps j).set j<|fS (kc (gq ps j) j) 1<|(kc (gq ps j) j).length-1) j j
def mG(mq:V RS->N.Qt)(G:V (V RS)):V (V<|V N.Qt):=gq (hl2 mq (G.filter cG) (ip G G.length) G) (hl2 mq (G.filter cG) (ip G G.length) G).length
theorem ah5{w:G}{u:Y}{q:V N.Qt}(c:B<=w.heap.size)(e:dq w u q):eP B (w.alloc<|.cells #[u] 92) (D (K ⟨w.heap.size,0,Z⟩) 1 1) [u] [q]:=by
 refine⟨⟨E,F ⟨w.heap.size,1, #[u],rfl,c,aa _ _,aX _,ar,E,E⟩⟩,rfl,λi z x a b=>?_⟩;have d:=(bX.1 a).1;have:i=0:=by simp at d;omega
 subst this;rw[<-fV a,<-fV b];exact fk kU e<|dS _ _
def ja(ps:V (V<|V N.Qt))(n:Nat):Prop:=∀p∈ps,0<p.length/\p.length<=n/\∀g∈p,g.length<=100000000/\∀q∈g,cS q
theorem Ut{g:V RS}(c:m8 g):(dP g).length<=100000000/\∀q∈dP g,cS q:=by
 have:=JA g g.length;have:=c.le;unfold dP iM;refine⟨by rw[eK,Kz];omega,λq l=>?_⟩;obtain⟨i,h,e⟩:=bA.1 l;have:=gV.1 h;have a:(d9 (ea g g.length) (ea g g.length).length+i)%(ea g g.length).length<(ea g g.length).length:=uq _ U;rw[<-e];generalize(d9 (ea g g.length) (ea g g.length).length+i)%(ea g g.length).length=m at a;have d:bp (ea g g.length) m∈ea g g.length:=by rw[gn<|be a];exact eo a
 unfold ea at d;obtain⟨j,k,f⟩:=bA.1 d;have b:=gV.1 (et.1 k).1;unfold ea;rw[<-f,gn<|be b];exact(c.q _<|eo b).1
theorem ah6(G:V (V RS)){mq:V RS->N.Qt}(h:∀g∈G,m8 g/\oj g/\cS (mq g)):ja (ip G G.length) 1:=λp a=>by
 unfold ip at a;rw[dV] at a;obtain⟨g,b,e⟩:=bA.1 a;subst e;refine⟨E,E,λq c=>?_⟩;rw[cI.1 c];exact Ut (h g (et.1 b).1).1
theorem ah7(mq:V RS->N.Qt)(d:V (V RS)){ps:V (V<|V N.Qt)}{g:V RS}(h:ja ps n)(m:m8 g):ja (iR mq d ps g) (n+1):=by
 have c:ja ps (n+1):=λp a=>⟨(h p a).1,Nat.le_succ_of_le (h p a).2.1,(h p a).2.2⟩;unfold iR;split
 .exact c
 .split
  .intro p a;by_cases k:(dT mq d g d.length).1.toNat<ps.length
   .rcases Ax a with e|e
    .exact c p e
    .have l:=wN<|be k;rw[l] at e;have f:=h _<|eo k;rw[e];refine⟨by rw[bG];omega,by rw[bG];have:=f.2.1;simp;omega,λq b=>?_⟩;rcases dm.1 b with b|b
     .exact f.2.2 q b
     .rw[cI.1 b];exact Ut m
   .rw[ajx U] at a;exact c p a
  .exact c
theorem Uu(mq:V RS->N.Qt)(a:V (V RS)):∀(G:V (V RS))(ps:V (V<|V N.Qt))(n:Nat),ja ps n->(∀g∈G,m8 g)->ja (hl2 mq a ps G) (n+G.length)
 |[],ps,n,h,_=>h
 |g::G,ps,n,h,b=>by
  have:=Uu mq a G (iR mq a ps g) (n+1) (ah7 mq a h<|b g<|E4 ..) λx c=>b x<|bW _ c;rw[dc,show n+(G.length+1)=n+1+G.length from by omega];exact this
theorem Uv(mq:V RS->N.Qt)(d:V (V RS))(PS:V (V<|V N.Qt))(h:ja PS 1)(G:V (V RS))(e:∀g∈G,m8 g)(k:G.length<=n):ja (hl2 mq d PS G) (n+1):=λp f=>by
 obtain⟨a,b,c⟩:=Uu mq d G PS 1 h e p f;exact⟨a,U,c⟩
theorem eP.slice{w:G}{v:Y}{us:V Y}{p:V (V N.Qt)}(h:eP B w v us p):∃f cap,v=D f p.length cap:=by
 rcases h.own.2 with⟨a,e⟩|⟨b,c,d,a,_⟩
 .exact⟨Z,0,by rw[a,<-h.len,e]⟩
 .exact⟨_,c,by rw[a,h.len]⟩
theorem gJ.stay{α:Type}{T:Nat}{ts:V Nat}{R:G->Y->α->Prop}(m:kR ts R){base:Nat}{lv:Y}{acc:V α}{wr w':G}(h:gJ T R base lv acc wr)(f:∀(k:Nat)(a:Array Y)(e:TypeId),wr.heap[k]?=K (Obj.cells a e (0,0))->e=T\/e∈ts->w'.heap[k]?=wr.heap[k]?):gJ T R base lv acc w':=by
 obtain⟨vs,g,d,l⟩:=h;refine⟨vs,g,bH d λk c=>?_,λi u x p q=>m _ _ _ _ (l i u x p q) λk a e b n=>f k a e b<|F n⟩;obtain⟨a,b⟩:=fJ d c;exact f k a _ b<|j rfl
theorem PY.slice{w:G}{v:Y}{vs:V Y}{ps:V (V<|V N.Qt)}(h:PY B w v vs ps):∃f cap,v=D f ps.length cap:=by
 rcases h.own.2 with⟨a,e⟩|⟨b,c,d,a,_⟩
 .exact⟨Z,0,by rw[a,<-h.len,e]⟩
 .exact⟨_,c,by rw[a,h.len]⟩
theorem ah8(ps:V (V<|V N.Qt))(k:Nat):(pu ps k).length=ps.length:=by unfold pu;split<;>simp
theorem Ey(ps:V (V<|V N.Qt))(i:Nat):∀j,(kt ps i j).length=ps.length
 |0=>rfl
 |j+1=>by show(pu _ _).length=_;rw[ah8,Ey ps i j]
theorem Ez(ps:V (V<|V N.Qt)):∀j,(gq ps j).length=ps.length
 |0=>rfl
 |j+1=>by show(kt _ _ _).length=_;rw[Ey,jE,Ez ps j]
theorem EA{ps:V (V<|V N.Qt)}{p:V (V N.Qt)}(h:ja ps n)(a:0<p.length/\p.length<=n/\∀g∈p,g.length<=100000000/\∀q∈g,cS q):ja (ps.set k p) n:=λq b=>by
 rcases Ax b with e|e
 .exact h q e
 .rw[e];exact a
theorem JE{ps:V (V<|V N.Qt)}(h:ja ps n)(a:k<ps.length):0<(kc ps k).length/\(kc ps k).length<=n/\∀g∈kc ps k,g.length<=100000000/\∀q∈g,cS q:=by
 rw[wN<|be a];exact h _<|eo a
theorem ah9{ps:V (V<|V N.Qt)}(h:ja ps n)(a:k<ps.length):ja (pu ps k) n:=by
 unfold pu;split
 .exact EA (EA h<|JE h U) (JE h a)
 .exact h
theorem JF{ps:V (V<|V N.Qt)}{n i:Nat}(h:ja ps n)(a:i<ps.length):∀j,ja (kt ps i j) n
 |0=>h
 |j+1=>ah9 (JF h a j) (by rw[Ey];omega)
theorem Uw{p:V (V N.Qt)}(h:0<p.length/\p.length<=n/\∀g∈p,g.length<=100000000/\∀q∈g,cS q):0<(fS p 1<|p.length-1).length/\(fS p 1<|p.length-1).length<=n/\∀g∈fS p 1 (p.length-1),g.length<=100000000/\∀q∈g,cS q:=by
 rw[Ex];exact⟨h.1,h.2.1,λg a=>h.2.2 g<|Jz U a⟩
theorem JG{ps:V (V<|V N.Qt)}{n:Nat}(h:ja ps n):∀j,j<=ps.length->ja (gq ps j) n
 |0,_=>h
 |j+1,a=>JF (EA (JG h j U)<|Uw<|JE (JG h j U) (by rw[Ez];omega)) (by rw[jE,Ez];omega) j
theorem PY.base{B':Nat}{w:G}{v:Y}{vs:V Y}{ps:V (V<|V N.Qt)}(h:PY B w v vs ps)(b:B'<=B):PY B' w v vs ps:=
 ⟨mQ h.own b,h.len,λi u p c d=>by
  obtain⟨us,a⟩:=h.rows i u p c d;exact⟨us,mQ a.own b,a.len,a.rd⟩,h.iA⟩
theorem aia{w2 w4 w5 w8:G}{sv:Y}{SH:V (V RS)}{b2 pc:Nat}{vs us:V Y}{a:V (V<|V N.Qt)}{p:V (V N.Qt)}{uo:Option Addr}{uc g2 cap2:Nat}{cv:Y}{q:V N.Qt}
  (r:ag w2 w4/\gJ 221 (cN 265) w2.heap.size sv SH w4/\PY w2.heap.size w4 (D (K ⟨b2,0,Z⟩) n pc) vs a)(I:n=a.length)
  (P:eP w2.heap.size w4 (D uo p.length uc) us p)(J:vs[k]?=K (D uo p.length uc))(R:ag w4.drew w5)(S:dq w5 cv q)
  (f:(w5.alloc<|.cells #[cv] 92).grownBy w8 (D uo p.length uc).ownBlock)(u:w8.ownsRow w2.heap.size 92 1 (D (K ⟨g2,0,Z⟩) (p.length+1) cap2) (p.length+1) (us++[cv]))
  (Q:(D uo p.length uc).ownBlock=K g2\/g2=w5.heap.size+1):
  ag w2 (w8.setCell ⟨b2,k,Z⟩<|D (K ⟨g2,0,Z⟩) (p.length+1) cap2)/\gJ 221 (cN 265) w2.heap.size sv SH (w8.setCell ⟨b2,k,Z⟩<|D (K ⟨g2,0,Z⟩) (p.length+1) cap2)/\
   PY w2.heap.size (w8.setCell ⟨b2,k,Z⟩<|D (K ⟨g2,0,Z⟩) (p.length+1) cap2) (D (K ⟨b2,0,Z⟩) n pc) (vs.set k<|D (K ⟨g2,0,Z⟩) (p.length+1) cap2) (a.set k<|p++[q]):=by
 have g:=cU (Below.refl _ _).drew R<|aX _;have t:=P.keep g;have z:=t.len;have o:=t.own;obtain⟨A,l⟩:=fJ r.2.2.own rfl;have s:=(g.block b2<|apJ l).trans l;have B:∀(b:Nat)(c:Array Y)(T:TypeId),w5.heap[b]?=K (Obj.cells c T (0,0))->T≠92->w8.heap[b]?=w5.heap[b]?:=λb c T d H=>kC f b (apJ d)<|lm o d H;refine⟨Below.setCell (zK (cU r.1 g<|aX _) (el r.1.size g.size) f λb m=>(bn o b m).1) (bn r.2.2.own b2 rfl).1 _,?_,?_⟩
 .refine(r.2.1.keep (gf _) g).stay (gf _) λb c e d v=>?_;have x:e≠91/\e≠92:=by rcases v with v|v<;>(first |rw[v]|rw[cI.1 v])<;>decide
  refine(bY (λm=>?_) _).trans<|B b c e d x.2;rw[m,s] at d;injection d with d;injection d with _ d;exact x.1 d.symm
 .obtain⟨w,y,C,E⟩:=gJ.snoc (T:=92) kU ae z (z▸o) t.rd S f u;refine PY.put (us:=w) r.2.2 (by rw[r.2.2.len];exact I) J ⟨by rw[y];exact C,y,E⟩ (λb m i=>(kC f b (bg m g.size) i).trans<|g.block b m) λb m=>?_;have e:g2=b:=by simpa[Value.ownBlock] using m
  rcases Q with h|h
  .exact j (by rw[h,e])
  .exact F (by have:=g.size;omega)
theorem aib(r:Int)(v:Y)(w:G)(Bl:V RS)(d:V (V RS))(mq:V RS->N.Qt)(hGl:d.length<=99999999)(hG:∀g∈d,m8 g/\oj g/\cS (mq g))
  (Ux:H (M 139 #[v,I .u8 r] w λe w'=>∃v',e=aJ v'/\eZ 265 w v' Bl w'))
  (Uy:H (∀z w1,cN 265 w1 z Bl->M 140 #[z] w1 λe w'=>∃v',e=aJ v'/\gJ 221 (cN 265) w1.heap.size v' d w'/\ag w1 w'))
  (HM:H (∀h∈d,∀z w1,cN 265 w1 z h->M 190 #[z] w1 (ai (u<|qA<|mq h) w1))):
  M 84 #[v,I .u8 r] w λe w'=>∃v' vs,e=aJ v'/\PY w.heap.size w' v' vs (mG mq d)/\ag w w':=by
 obtain⟨i2,hi2,hz0,hz1,hz2⟩:=aH ah2;have HG:=hid hG;clear hG;go_enter func84,ntmps84;go_wp2_with fail;refine Ux.o.mono ?_;rintro e w1 ⟨bv,rfl,hB⟩;obtain⟨bs,bc,rfl⟩:=jX hB.own;have JH:H (cN 265 w1 (D bs Bl.length bc) Bl/\ag w w1):=⟨iF hB.own,hB.dg⟩;clear hB Ux;go_wp2_with fail;refine(Uy.o _ _ JH.o.1).mono ?_;rintro e R ⟨av,rfl,hA,hb2⟩;obtain⟨ao,ac,rfl⟩:=oH hA.rd;have tB:H (sj R (D ao d.length ac) d/\ag w R):=⟨hA.rd,cU JH.o.2 hb2<|aX _⟩;clear hA hb2 Uy JH;go_wp2_with fail
 go_loopg [7,8,9] d.length (λm sv pv iv wr=>∃(i:Nat)(vs:V Y),i+m=d.length/\iv=I J i/\H (ag R wr/\gJ 221 (cN 265) R.heap.size sv ((d.take i).filter cG) wr/\PY R.heap.size wr pv vs (ip d i)))
 case atStart=>exact⟨0,[],U,rfl,Below.refl _ _,⟨[],rfl,ak _ _ _ _,λi P x hu=>by simp at hu⟩,ak _ _ _ _,rfl,λi P p h=>by simp at h,λi B P u' h=>by simp at h⟩
 case round=>
  obtain⟨i,vs,him,rfl,HI⟩:=hrel;by_cases W:i<d.length
  .obtain⟨g,hg⟩:∃g,d[i]?=K g:=⟨_,be W⟩;obtain⟨b,gv,wL,hb,e0,hrg⟩:=lF tB.o.1 hg;subst wL;obtain⟨gs,gc,rfl⟩:=jX hrg;have d0:=aR HI.o.1 e0 hb;have zW:H (m8 g/\oj g):=⟨(HG.o g<|bB hg).1,(HG.o g<|bB hg).2.1⟩;have HFT:=hid<|Ur hg;have JI:H (ip d (i+1)=ip d i++if cG g then[[dP g]] else[]):=by
    show _=_;unfold ip;rw[Ur hg,fy];cases cG g<;>simp
   have wC:H (cN 265 R (D gs g.length gc) g/\R.cell? ⟨b,i,Z⟩=K (D gs g.length gc)/\b<R.heap.size):=⟨hrg,e0,hb⟩;have zX:H (∀w1,cN 265 w1 (D gs g.length gc) g->M 141 #[D gs g.length gc] w1 (ai (aC<|cG g) w1)):=λw1 h1=>TV g _ w1 h1 zW.o.1;have iH:(i:Int)<(d.length:Int):=U;have F:H (i+gk=d.length/\i<d.length):=⟨U,W⟩;have rx:=hid<|fk (gf _) hrg HI.o.1;clear hg e0 hrg hb him W;go_wp2_with fail;refine(zX.o _ rx.o).mono ?_;rintro e w3 ⟨rfl,hb3⟩;have o:H (ag R w3/\gJ 221 (cN 265) R.heap.size u7 ((d.take i).filter cG) w3/\PY R.heap.size w3 u8 vs (ip d i)):=⟨cU HI.o.1 hb3<|aX _,HI.o.2.1.keep (gf _) hb3,HI.o.2.2.keep hb3⟩;clear HI rx hb3 d0 zX;cases hS:cG g
   .have vu:H ((d.take<|i+1).filter cG=(d.take i).filter cG):=by show _=_;rw[HFT.o,hS];simp
    have vv:H (ip d (i+1)=ip d i):=by show _=_;rw[JI.o,hS];simp
    go_wp2_with fail;go_roundg (gk-1)
    case measure=>have:=F.o;omega
    case rel=>exact⟨i+1,vs,by have:=F.o;omega,af,o.o.1,by rw[vu.o];exact o.o.2.1,by rw[vv.o];exact o.o.2.2⟩
   .have vu:H ((d.take<|i+1).filter cG=(d.take i).filter cG++[g]):=by show _=_;rw[HFT.o,hS];rfl
    have vv:H (ip d (i+1)=ip d i++[[dP g]]):=by show _=_;rw[JI.o,hS];rfl
    have d3:=aR o.o.1 wC.o.2.1 wC.o.2.2;have PT:((d.take i).filter cG).length<=100000000:=by
     have h1:=pB cG<|d.take i;have h2:(d.take i).length<=d.length:=aq;omega
    have hvl:vs.length=((d.take i).filter cG).length:=by rw[o.o.2.2.len];unfold ip;simp
    generalize(d.take i).filter cG=SL at*;obtain⟨zs,hs1,hs2,hs3⟩:=o.o.2.1;have hws:=o.o.1.size;have hzl:=hs1;have hgr:=λk hk=>(bn hs2 k hk).1;have Uz:=fk (gf _) wC.o.1 o.o.1;have UA:=hid Uz;have EC:H (∀w1,cN 265 w1 (D gs g.length gc) g->M 142 #[D gs g.length gc] w1 λe w'=>∃v',e=aJ v'/\dq w' v' (dP g)/\ag w1 w'):=λw1 h1=>Uj g _ w1 h1 zW.o.1;clear hS HFT JI Uz;go_wp2_with (at_builtin;refine ii rfl Jq underlying219 (ed hs2) (aa _ _) ?_;intro g' cap' w4 rW hg4 aic;have tA:H (ag R w4):=(zK o.o.1 hws hg4 hgr);have d4:=aR tA.o wC.o.2.1 wC.o.2.2);have UC:=hid<|gJ.snoc (gf _) ae hs1 hs2 hs3 UA.o hg4 rW;have UD:H (PY R.heap.size w4 u8 vs<|ip d i):=o.o.2.2.stay λk cur T hc hT=>kC hg4 k (apJ hc)<|lm hs2 hc (by rcases hT with e|e|e<;>rw[e]<;>decide);have UE:=hid<|fk (gf _) wC.o.1 tA.o;clear rW hg4 aic hs1 hs2 hs3 hgr o UA d3 d4 hws;refine(EC.o _ UE.o).mono ?_;rintro e w5 ⟨cv,rfl,hcv,L⟩;obtain⟨cs,cc,rfl⟩:=nQ hcv;have aY:H (ag R w5/\gJ 221 (cN 265) R.heap.size (D (K ⟨g',0,Z⟩) (SL.length+1) cap') (SL++[g]) w5/\PY R.heap.size w5 u8 vs (ip d i)/\dq w5 (D cs (dP g).length cc) (dP g)):=⟨cU tA.o L<|aX _,UC.o.keep (gf _) L,UD.o.keep L,hcv⟩;clear hcv L tA UC UD UE EC;generalize dP g=CN at*;have UF:=ah5 aY.o.1.size aY.o.2.2.2;have JJ:=aY.o.2.2.1.keep<|dS w5<|.cells #[D cs CN.length cc] 92;have UG:∀(i:Nat) z,vs[i]?=K z->∀k,z.ownBlock=K k->(D (K ⟨w5.heap.size,0,Z⟩) 1 1).ownBlock≠K k:=λi z hz k hk e=>by
     have hil:=(bX.1 hz).1;obtain⟨zs,hq⟩:=aY.o.2.2.1.rows i z _ hz<|be (by rw[<-aY.o.2.2.1.len];exact hil);have h1:=(bn hq.own k hk).2;have h2:w5.heap.size=k:=by simpa[Value.ownBlock] using e
     omega
    have hsz:(w5.alloc<|.cells #[D cs CN.length cc] 92).heap.size=w5.heap.size+1:=E;have hws:=aY.o.1.size;have ho:=JJ.own;have amu:vs.length<=100000000:=U;have hnb:=aa (w5.alloc<|.cells #[D cs CN.length cc] 92)<|.cells #[D (K ⟨w5.heap.size,0,Z⟩) 1 1] 91;rw[hsz] at hnb;clear hvl;go_wp2_with (at_builtin;refine nE rfl ah1 underlying45 (ed ho) hnb (w5.heap.size+1+1) ?_;intro g2 cap2 w8 fX mO nV jW);have JK:H (ag R w8/\gJ 221 (cN 265) R.heap.size (D (K ⟨g',0,Z⟩) (SL.length+1) cap') (SL++[g]) w8/\PY R.heap.size w8 (D (K ⟨g2,0,Z⟩) (vs.length+1) cap2) (vs++[D (K ⟨w5.heap.size,0,Z⟩) 1 1]) (ip d i++[[CN]])):=by
     refine⟨zK (w1:=w5.alloc<|.cells #[D cs CN.length cc] 92) (aY.o.1.alloc hws _) (by rw[hsz];omega) mO λk hk=>(bn ho k hk).1,?_,PY.push JJ UF UG _ mO fX⟩;exact(aY.o.2.1.keep (gf _)<|dS w5 _).stay (gf _) λk cur e hc he=>kC mO k (apJ hc)<|lm ho hc (by rcases he with he|he<;>(first |rw[he]|rw[cI.1 he])<;>decide)
    clear fX mO nV jW hnb ho UG JJ UF hsz hws aY;go_roundg (gk-1)
    case measure=>have:=F.o;omega
    case rel=>exact⟨i+1,_,by have:=F.o;omega,af,JK.o.1,by rw[vu.o];exact JK.o.2.1,by rw[vv.o];exact JK.o.2.2⟩
  .have tz:i=d.length:=U;subst tz;have hnl:¬((d.length:Nat):Int)<((d.length:Nat):Int):=U;have HJ:H (ag R wr/\gJ 221 (cN 265) R.heap.size u7 (d.filter cG) wr/\PY R.heap.size wr u8 vs (ip d d.length)):=by
    have:=HI.o;rw[dV] at this;exact this
   have HFX:H (mG mq d=gq (hl2 mq (d.filter cG) (ip d d.length) d) (hl2 mq (d.filter cG) (ip d d.length) d).length):=(rfl:mG mq d=_);have qj:H (∀h∈d.filter cG,h∈d):=λh hh=>(et.1 hh).1;have PT:(d.filter cG).length<=d.length:=pB _ _;have UH:H ((ip d d.length).length=(d.filter cG).length):=by show _=_;unfold ip;rw[dV];simp
   have UI:=hid<|ah6 d HG.o;obtain⟨po,pc,rfl⟩:=HJ.o.2.2.slice;generalize ip d d.length=PS at*;generalize d.filter cG=S at*;clear HI W him;go_wp2_with fail
   go_loopg [11] d.length (λm iv wr=>∃(i:Nat)(vs:V Y),i+m=d.length/\iv=I J i/\H (ag R wr/\gJ 221 (cN 265) R.heap.size u7 S wr/\PY R.heap.size wr (D po PS.length pc) vs (hl2 mq S PS<|d.take i)))
   case atStart=>exact⟨0,vs,U,rfl,HJ.o⟩
   case round=>
    clear HJ;obtain⟨i,vs,him,rfl,HI⟩:=hrel;by_cases W:i<d.length
    .obtain⟨g,hg⟩:∃g,d[i]?=K g:=⟨_,be W⟩;obtain⟨b,gv,wL,hb,e0,hrg⟩:=lF tB.o.1 hg;subst wL;obtain⟨gs,gc,rfl⟩:=jX hrg;have d0:=aR HI.o.1 e0 hb;have zW:H (m8 g/\oj g):=⟨(HG.o g<|bB hg).1,(HG.o g<|bB hg).2.1⟩;have HFT:=hid<|ah3 mq S PS hg;have wC:H (cN 265 R (D gs g.length gc) g/\R.cell? ⟨b,i,Z⟩=K (D gs g.length gc)/\b<R.heap.size):=⟨hrg,e0,hb⟩;have zX:H (∀w1,cN 265 w1 (D gs g.length gc) g->M 141 #[D gs g.length gc] w1 (ai (aC<|cG g) w1)):=λw1 h1=>TV g _ w1 h1 zW.o.1;have iH:(i:Int)<(d.length:Int):=U;have F:H (i+gk=d.length/\i<d.length):=⟨U,W⟩;have rx:=hid<|fk (gf _) hrg HI.o.1;have UJ:(hl2 mq S PS<|d.take i).length=PS.length:=JD _ _ _ _;have UK:H (∀z w1,sj w1 z S->cN 265 w1 (D gs g.length gc) g->M 143 #[z,D gs g.length gc] w1 (ai (I J (dT mq S g S.length).1) w1)):=λz w1 h1 h2=>by
      have hmm:∀h∈g::S,h∈d:=λh hh=>by
       rcases bK.1 hh with e|e
       .rw[e];exact bB hg
       .exact qj.o h e
      exact ahl S g mq z _ w1 h1 h2 U (λh hh=>(HG.o h<|qj.o h hh).2.1) (λh hh=>(HG.o h<|hmm h hh).2.2)<|λh hh=>HM.o h<|hmm h hh
     have GT:=hid<|Us mq S g S.length;have zY:H (iR mq S (hl2 mq S PS<|d.take i) g=if cG g then hl2 mq S PS (d.take i) else if 0<=(dT mq S g S.length).1 then(hl2 mq S PS<|d.take i).set (dT mq S g S.length).1.toNat (kc (hl2 mq S PS<|d.take i) (dT mq S g S.length).1.toNat++[dP g]) else hl2 mq S PS (d.take i)):=(rfl:iR mq S (hl2 mq S PS<|d.take i) g=_);generalize(dT mq S g S.length).1=f at*;clear hg e0 hrg hb him W;go_wp2_with fail;refine(zX.o _ rx.o).mono ?_;rintro e w3 ⟨rfl,hb3⟩;have o:H (ag R w3/\gJ 221 (cN 265) R.heap.size u7 S w3/\PY R.heap.size w3 (D po PS.length pc) vs (hl2 mq S PS<|d.take i)):=⟨cU HI.o.1 hb3<|aX _,HI.o.2.1.keep (gf _) hb3,HI.o.2.2.keep hb3⟩;clear HI rx hb3 d0 zX;cases hS:cG g
     .rw[hS] at zY;have d3:=aR o.o.1 wC.o.2.1 wC.o.2.2;have rx:=hid<|fk (gf _) wC.o.1 o.o.1;go_wp2_with fail;refine(UK.o _ _ o.o.2.1.rd rx.o).mono ?_;rintro e w4 ⟨rfl,hb4⟩;have YR:H (ag R w4/\gJ 221 (cN 265) R.heap.size u7 S w4/\PY R.heap.size w4 (D po PS.length pc) vs (hl2 mq S PS<|d.take i)):=⟨cU o.o.1 hb4<|aX _,o.o.2.1.keep (gf _) hb4,o.o.2.2.keep hb4⟩;clear o rx hb4 d3 UK;have d4:=aR YR.o.1 wC.o.2.1 wC.o.2.2;rcases GT.o with hK|⟨k,hk,hK⟩
      .subst hK;have HV:H (hl2 mq S PS (d.take<|i+1)=hl2 mq S PS (d.take i)):=by show _=_;rw[HFT.o,zY.o];rfl
       go_wp2_with fail;go_roundg (gk-1)
       case measure=>have:=F.o;omega
       case rel=>exact⟨i+1,vs,by have:=F.o;omega,af,YR.o.1,YR.o.2.1,by rw[HV.o];exact YR.o.2.2⟩
      .subst hK;have rh:k<PS.length:=by have:=UH.o;omega
       have HZ:H (hl2 mq S PS (d.take<|i+1)=(hl2 mq S PS<|d.take i).set k (kc (hl2 mq S PS<|d.take i) k++[dP g])):=by show _=_;rw[HFT.o,zY.o];simp
       have aie:H (ja (hl2 mq S PS<|d.take i)<|i+1):=Uv mq S PS UI.o (d.take i) (λh hh=>(HG.o h<|kP hh).1) (by simp;have:=F.o;omega);generalize hl2 mq S PS (d.take i)=s at*;obtain⟨p,hp⟩:∃p,s[k]?=K p:=⟨_,be U⟩;obtain⟨P,us,hu,Dj⟩:=YR.o.2.2.row k p hp;obtain⟨b2,c2,hv2,hb2,ED⟩:=xu (iF YR.o.2.2.own) hu;have hpo:po=K ⟨b2,0,Z⟩:=by injection hv2
       subst hpo;obtain⟨uo,uc,rfl⟩:=Dj.slice;have hpl:p.length<=100000001:=by
        have h1:=(aie.o p<|bB hp).2.1;have h2:=F.o;omega
       have EC:H (∀w1,cN 265 w1 (D gs g.length gc) g->M 142 #[D gs g.length gc] w1 λe w'=>∃v',e=aJ v'/\dq w' v' (dP g)/\ag w1 w'):=λw1 h1=>Uj g _ w1 h1 zW.o.1;have rx:=hid<|fk (gf _) wC.o.1 YR.o.1;have zZ:H (eP R.heap.size w4 (D uo p.length uc) us p/\s[k]?=K p/\vs[k]?=K (D uo p.length uc)):=⟨Dj,hp,hu⟩;have JL:=hid<|wN hp;have hkP:(k:Int)<(PS.length:Int):=U;have hbz:=bg wC.o.2.2 YR.o.1.size;have Jc:=Dj.len;have hw4:=YR.o.1.size;obtain⟨cur,O⟩:=fJ YR.o.2.2.own rfl;have aif:=hid O;clear O;have Aa:=hid UJ.symm;clear Dj hp hu hv2 UJ hk hS zY HFT;go_wp2_with fail
       go_region_law (first
        |(refine aba _ rfl (.tmp 77) (.tmp 83) 91 rfl R.heap.size 92 i2 _ 1 24 underlying91 hi2 hz0 hz1 hz2 rfl ae (D uo p.length uc) p.length us rfl (ed ho) ⟨w5.heap.size,0,Z⟩ 1 1 [D cs (dP g).length cc] rfl rfl (aai (cs:= #[D cs (dP g).length cc]) (t:=92) (fr:=(0,0))<|aa w5 _) au ae ar U aq (w5.heap.size+1) E ?_;intro g2 cap2 w8 fX mO nV jW;have h8:=kC mO b2 (apJ vT.o)<|lm ho vT.o ae;have z8:w8.frozen? ⟨b2,k,Z⟩=aQ:=dC (h8.trans vT.o) k;have f8:w8.cell? ⟨b2,k,Z⟩=K (D uo p.length uc):=(an h8).trans fc;clear h8)
        |(go_simp;go_at_call 142;refine(EC.o _ (show cN _ w4.drew _ _ from rx.o)).mono ?_;rintro e w5 ⟨cv,rfl,hcv,L⟩;obtain⟨cs,cc,rfl⟩:=nQ hcv;have hw5:R.heap.size<=w5.heap.size:=el hw4 L.size;have fa:=aR L d4 hbz;have fc:=aR L ED hb2;have fd:=aR (dS w5 (.cells #[D cs (dP g).length cc] 92)) fc (bg hb2 L.size);have UL:eP R.heap.size w5 (D uo p.length uc) us p:=eP.keep (w:=w4.drew) ⟨bH zZ.o.1.own λ_ _=>rfl,zZ.o.1.len,zZ.o.1.rd⟩ L;have ho:w5.ownsRow R.heap.size 92 1 (D uo p.length uc) p.length us:=Jc▸UL.own;have vT:H (w5.heap[b2]?=K (Obj.cells cur 91 (0,0))):=(L.block b2 hb2).trans aif.o))
       all_goals
        have HN:H _:=aia (k:=k) YR.o Aa.o zZ.o.1 zZ.o.2.2 L hcv mO fX nV;have Ab:H (hl2 mq S PS (d.take<|i+1)=s.set k (p++[dP g])):=by show _=_;rw[HZ.o,JL.o]
        clear mO fX nV jW z8 f8 ho UL vT fa fc fd hcv L;go_wp2_with fail;go_roundg (gk-1)
        case measure=>have:=F.o;omega
        case rel=>exact⟨i+1,_,by have:=F.o;omega,af,HN.o.1,HN.o.2.1,by rw[Ab.o];exact HN.o.2.2⟩
     .have HV:H (hl2 mq S PS (d.take<|i+1)=hl2 mq S PS (d.take i)):=by show _=_;rw[HFT.o,zY.o,hS];rfl
      go_wp2_with fail;go_roundg (gk-1)
      case measure=>have:=F.o;omega
      case rel=>exact⟨i+1,vs,by have:=F.o;omega,af,o.o.1,o.o.2.1,by rw[HV.o];exact o.o.2.2⟩
    .have tz:i=d.length:=U;subst tz;have hnl:¬((d.length:Nat):Int)<((d.length:Nat):Int):=U;have HJ:H (ag R wr/\PY R.heap.size wr (D po PS.length pc) vs (hl2 mq S PS d)):=by
      have:=HI.o;rw[dV] at this;exact⟨this.1,this.2.2⟩
     have qF:H (ja (hl2 mq S PS d) 100000000):=λp hp=>by
      obtain⟨a,b,c⟩:=Uv mq S PS UI.o d (λh hh=>(HG.o h hh).1) (aX _) p hp;exact⟨a,U,c⟩
     have JM:H ((hl2 mq S PS d).length=PS.length):=JD _ _ _ _;have hPl:PS.length<=100000000:=by have:=UH.o;omega
     generalize hl2 mq S PS d=l at*;clear HI W him;go_wp2_with fail
     go_loopg [14] PS.length (λm iv wr=>∃(i:Nat)(vs:V Y),i+m=PS.length/\iv=I J i/\H (ag R wr/\PY R.heap.size wr (D po PS.length pc) vs (gq l i)))
     case atStart=>exact⟨0,vs,U,rfl,HJ.o⟩
     case round=>
      clear HJ;obtain⟨i,vs,him,rfl,HI⟩:=hrel;by_cases W:i<PS.length
      .have iH:(i:Int)<(PS.length:Int):=U;obtain⟨m1,jG⟩:=am gk;have F:H (i+m1=PS.length/\i<PS.length/\m1=gk):=⟨U,W,jG⟩;have jI:H (gq l (i+1)=kt ((gq l i).set i<|fS (kc (gq l i) i) 1<|(kc (gq l i) i).length-1) i i):=(rfl:gq l (i+1)=_);have UM:H (ja (gq l i) 100000000):=JG qF.o i (by rw[JM.o];omega);have Aa:H ((gq l i).length=PS.length):=by show _=_;rw[Ez,JM.o]
       generalize gq l i=s at*;obtain⟨p,hp⟩:∃p,s[i]?=K p:=⟨_,be (by rw[Aa.o];exact W)⟩;have JL:=hid<|wN hp;obtain⟨P,us,hu,Dj⟩:=HI.o.2.row i p hp;obtain⟨b2,c2,hv2,hb2,ED⟩:=xu (iF HI.o.2.own) hu;have hpo:po=K ⟨b2,0,Z⟩:=by injection hv2
       subst hpo;obtain⟨uo,uc,rfl⟩:=Dj.slice;have vC:=hid<|UM.o p<|bB hp;have UN:=hid<|ahM p us R.heap.size 1 _ wr Dj ⟨vC.o.2.1,vC.o.2.2⟩ vC.o.1 HI.o.1.size;have HBN:H ((D uo p.length uc).ownBlock≠K b2):=by
        obtain⟨cur,O⟩:=fJ HI.o.2.own rfl;exact lm Dj.own O ae
       have HU:=hid hu;clear hp hu Dj hv2 him W jG;go_wp2_with fail;refine UN.o.mono ?_;rintro e w3 ⟨rfl,⟨us',UO⟩,hf3⟩;obtain⟨cur,O⟩:=fJ HI.o.2.own rfl;have JN:=hf3.gp b2 hb2 HBN.o;have z3:=dC (JN.trans O) i;have f3:=(an JN).trans ED;have UP:H (ag R (w3.setCell ⟨b2,i,Z⟩<|D uo p.length uc)/\PY R.heap.size (w3.setCell ⟨b2,i,Z⟩<|D uo p.length uc) (D (K ⟨b2,0,Z⟩) PS.length pc) (vs.set i<|D uo p.length uc) (s.set i<|fS p 1<|p.length-1)):=
        ⟨Below.setCell (HI.o.1.trans hf3.dg) (bn HI.o.2.own b2 rfl).1 _,PY.put HI.o.2 (by rw[HI.o.2.len];exact Aa.o.symm) HU.o UO hf3.gp λB hj=>j hj⟩
       have aih:H (gq l (i+1)=kt (s.set i<|fS p 1<|p.length-1) i i):=by show _=_;rw[jI.o,JL.o]
       have Ab:H (ja (s.set i<|fS p 1<|p.length-1) 100000000/\(s.set i<|fS p 1<|p.length-1).length=PS.length):=⟨EA UM.o<|Uw vC.o,by rw[jE];exact Aa.o⟩;generalize s.set i (fS p 1<|p.length-1)=Q at*;generalize vs.set i (D uo p.length uc)=vq at*;clear UO JN O hf3 UN HI ED;go_wp2_with fail
       go_loopg [15] i (λm kv wr=>∃(t:Nat)(vs:V Y),t+m=i/\kv=I J ((i-t:Nat):Int)/\H (ag R wr/\PY R.heap.size wr (D (K ⟨b2,0,Z⟩) PS.length pc) vs (kt Q i t)))
       case atStart=>exact⟨0,vq,U,rfl,UP⟩
       case round=>
        clear UP f3 z3 hb2;obtain⟨t,vs,t6,rfl,HJ⟩:=hrel;obtain⟨k,hk⟩:=am<|i-t;rw[<-hk];have sp:H (k=i-t/\t+gk=i):=⟨hk,t6⟩;by_cases W:t<i
        .have vY:(0:Int)<(k:Int):=U;have rh:(k:Int)<(PS.length:Int):=by have:=F.o;omega
         obtain⟨n,hn⟩:=am<|k-1;have w1':J.wrap ((k:Int)-1)=(n:Int):=by rw[ah];omega
         have Sz:(n:Int)<(PS.length:Int):=U;have Gd:H (n=k-1/\0<k):=⟨hn,U⟩;have JO:H ((kt Q i t).length=PS.length):=by show _=_;rw[Ey,Ab.o.2]
         have UQ:H (kt Q i (t+1)=pu (kt Q i t) k):=by show _=_;rw[hk];rfl
         have UR:H (ja (kt Q i t) 100000000):=JF Ab.o.1 (by rw[Ab.o.2];have:=F.o;omega) t;generalize kt Q i t=Z1 at*;obtain⟨pa,Ac⟩:∃a,Z1[n]?=K a:=⟨_,be (by rw[JO.o];omega)⟩;obtain⟨pk,hpk⟩:∃a,Z1[k]?=K a:=⟨_,be (by rw[JO.o];omega)⟩;obtain⟨ua,usa,JP,JQ⟩:=HJ.o.2.row n pa Ac;obtain⟨uk,usk,JR,JS⟩:=HJ.o.2.row k pk hpk;obtain⟨b3,c3,hv3,hb3,US⟩:=xu (iF HJ.o.2.own) JP;obtain⟨b4,c4,hv4,hb4,UT⟩:=xu (iF HJ.o.2.own) JR;have e3:b3=b2:=by injection hv3 with q;injection q with q;injection q with q;exact q.symm
         have e4:b4=b2:=by injection hv4 with q;injection q with q;injection q with q;exact q.symm
         subst e3 e4;have qe:=UR.o pa<|bB Ac;have qf:=UR.o pk<|bB hpk;obtain⟨sa,JT,rfl⟩:=JQ.slice;obtain⟨sk,JU,rfl⟩:=JS.slice;obtain⟨a,ha⟩:∃a,pa[0]?=K a:=⟨_,be qe.1⟩;obtain⟨c,hc⟩:∃a,pk[0]?=K a:=⟨_,be qf.1⟩;obtain⟨ba,va,ms,wK,ca,DB⟩:=lF JQ.row ha;subst ms;obtain⟨bk,vk,aii,hbk,cc,hrc⟩:=lF JS.row hc;subst aii;obtain⟨ta,tac,rfl⟩:=nQ DB;obtain⟨tk,EE,rfl⟩:=nQ hrc;have UV:H (∀w1,dq w1 (D ta a.length tac) a->dq w1 (D tk c.length EE) c->M 51 #[D ta a.length tac,D tk c.length EE] w1 (ai (I J<|fh a c) w1)):=λw1 h1 h2=>OG a c _ _ w1 h1 h2 (qe.2.2 a<|bB ha).2 (qf.2.2 c<|bB hc).2 (by have:=(qe.2.2 a<|bB ha).1;omega) (by have:=(qf.2.2 c<|bB hc).1;omega);have UW:H (pu Z1 k=if 0<fh a c then(Z1.set k pa).set n pk else Z1):=by show _=_;unfold pu;rw[<-hn,wN Ac,wN hpk,wM ha,wM hc]
         have pU:H (dq wr (D ta a.length tac) a/\dq wr (D tk c.length EE) c):=⟨DB,hrc⟩;have EF:H (vs[n]?=K (D (K ⟨ba,0,Z⟩) pa.length JT)/\vs[k]?=K (D (K ⟨bk,0,Z⟩) pk.length JU)/\Z1[n]?=K pa/\Z1[k]?=K pk):=⟨JP,JR,Ac,hpk⟩;have nH:(0:Int)<(pa.length:Int):=by have:=qe.1;omega
         have amA:(0:Int)<(pk.length:Int):=by have:=qf.1;omega
         have Mt:=qe.1;have XS:=qf.1;generalize fh a c=LC at*;clear ha hc DB hrc JP JR Ac hpk JQ JS hv3 hv4 hk t6 hn W qe qf;go_wp2_with fail;go_region_held3 (λw'=>w'.cell? ⟨b4,n,Z⟩=K (D (K ⟨ba,0,Z⟩) pa.length JT)/\w'.cell? ⟨b4,k,Z⟩=K (D (K ⟨bk,0,Z⟩) pk.length JU)/\w'.cell? ⟨ba,0,Z⟩=K (D ta a.length tac)/\w'.cell? ⟨bk,0,Z⟩=K (D tk c.length EE)) (go_keep) (first
          |(go_at_call 51;refine(UV.o _ (show dq wr.drew _ _ from pU.o.1) (show dq wr.drew _ _ from pU.o.2)).mono ?_;rintro e w5 ⟨rfl,L⟩;have fa:=aR L US hb4;have fc:=aR L UT hb4;have fd:=aR L ca wK;have fe:=aR L cc hbk))
         have JV:=cU (Below.refl _ _).drew L<|aX _;have HP5:H (ag R w5/\PY R.heap.size w5 (D (K ⟨b4,0,Z⟩) PS.length pc) vs Z1):=⟨cU HJ.o.1 JV<|aX _,HJ.o.2.keep JV⟩;clear HJ UV L JV ca cc fd fe wK hbk US UT pU;by_cases hlc:0<LC
         .have HZ:H (kt Q i (t+1)=(Z1.set k pa).set n pk):=by show _=_;rw[UQ.o,UW.o,y hlc]
          obtain⟨cur,O⟩:=fJ HP5.o.2.own rfl;have z1:=dC O k;have z2:=dC O n;have nk:¬(n=k):=by have:=Gd.o;omega
          have nk2:¬(k=n):=by have:=Gd.o;omega
          have Jw:H _:=HP5.o.2.swap (by rw[HP5.o.2.len];exact JO.o.symm) EF.o.1 EF.o.2.1 EF.o.2.2.1 EF.o.2.2.2 nk;have HFB:H (ag R<|(w5.setCell ⟨b4,k,Z⟩<|D (K ⟨ba,0,Z⟩) pa.length JT).setCell ⟨b4,n,Z⟩<|D (K ⟨bk,0,Z⟩) pk.length JU):=(HP5.o.1.setCell (bn HP5.o.2.own b4 rfl).1 _).setCell (bn HP5.o.2.own b4 rfl).1 _;clear O;go_wp2_with fail;go_roundg (gk-1)
          case measure=>have:=sp.o;have:=Gd.o;have:=F.o;omega
          case rel=>exact⟨t+1,_,by have:=sp.o;have:=Gd.o;have:=F.o;omega,by congr 1;have:=sp.o;have:=Gd.o;omega,HFB.o,by rw[HZ.o];exact Jw.o⟩
         .have HZ:H (kt Q i (t+1)=Z1):=by show _=_;rw[UQ.o,UW.o,X hlc]
          go_wp2_with fail;go_roundg (gk-1)
          case measure=>have:=sp.o;have:=Gd.o;have:=F.o;omega
          case rel=>exact⟨t+1,_,by have:=sp.o;have:=Gd.o;have:=F.o;omega,by congr 1;have:=sp.o;have:=Gd.o;omega,HP5.o.1,by rw[HZ.o];exact HP5.o.2⟩
        .have hte:t=i:=U;subst hte;have vY:¬(0:Int)<(k:Int):=U;clear W t6 hk;go_wp2_with fail;go_roundg (m1-1)
         case measure=>have:=F.o;omega
         case rel=>exact⟨t+1,vs,by have:=F.o;omega,af,HJ.o.1,by rw[aih.o];exact HJ.o.2⟩
      .have tz:i=PS.length:=U;subst tz;have hnl:¬((PS.length:Nat):Int)<((PS.length:Nat):Int):=U;have HFE:H (mG mq d=gq l PS.length):=by show _=_;rw[HFX.o,JM.o]
       clear W him;go_wp2_with fail;go_ret;exact⟨_,rfl,⟨_,by rw[HFE.o];exact HI.o.2.base tB.o.2.size⟩,cU tB.o.2 HI.o.1<|aX _⟩
end
namespace Gb
open N W
structure RB(S:V w)(g:RS->w)(B:V RS):Prop where
 mem:∀s∈B,g s∈S
 oY:∀i j,i<B.length->j<B.length->g (bp B i)=g (bp B j)->i=j
 all:∀u∈S,∃i,i<B.length/\g (bp B i)=u
 eq:∀s∈B,∀t∈B,(s.1.1=t.1.2↔(g s).1=(g t).2)
 pm:∀s∈B,Pm s.2.1 (dr<|g s)
 pc:∀s∈B,∀t∈B,(N.pc s.1.1 t.1.1<0↔¬ge (g t).1 (g s).1)
theorem gE{B:V RS}{i:Nat}(h:i<B.length):bp B i∈B:=by
 unfold bp;rw[fi,be h];exact eo h
theorem ail{a x:O}(b:a≠(0,0))(c:x≠(0,0)):cw a x x=aQ:=by
 cases q:cw a x x
 .rfl
 .rw[kk,mP] at q;rcases q with⟨_,_,q⟩|⟨d,e⟩|⟨_,_,q⟩
  .cases q
  .have:=yO c b d;rw[e] at this;cases this
  .cases q
section
variable{S:V w}{nx:w->w}{g:RS->w}{B:V RS}
theorem aim(h:Wd S nx){s a b:RS}{x c z:w}(n:Pm s.2.1 (dr x))(g:Pm a.2.1 (dr c))(l:Pm b.2.1 (dr z))(f:x∈S)(p:c∈S)(r:z∈S)(P:c.1=x.2)(Q:z.1=x.2):mE s a b=cw (neg<|dr x) (dr c) (dr z):=by
 refine ke.2 ?_;rw[<-vP (iz<|h.ei f) (h.ei p) (h.ei r) (h.two _ p _ f P)<|h.two _ r _ f Q,neg_neg,O5];have t:=n.L g;have B:=n.L l;have:=g.L l;have d:∀{u:RS}{v:Int},((0<L s.2.1 u.2.1↔0<v)/\(L s.2.1 u.2.1<0↔v<0)/\(L s.2.1 u.2.1=0↔v=0))->lQ s u=1-v.sign:=by
  intro u v k;unfold lQ fE;rcases sg v with⟨q,e⟩|⟨q,e⟩|⟨q,e⟩<;>rw[e]
  .rw[X U,y U];rfl
  .rw[X U,X U];rfl
  .rw[y U];rfl
 have R:=d t;have i:=d B;unfold mE;rw[R,i];by_cases m:1-(L (dr x)<|dr c).sign=1-(L (dr x)<|dr z).sign
 .rw[y m,iE];show L a.2.1 b.2.1<0↔_;omega
 .rw[X m,iE];omega
theorem RB.next(h:Wd S nx)(k:RB S g B){i:Nat}(x:i<B.length):∃d,d<B.length/\gK B (bp B i) B.length=(d:Int)/\g (bp B d)=nx (g<|bp B i):=by
 have s:=k.mem _<|gE x;obtain⟨N,O⟩:=h.tX _ s;obtain⟨P,R,e0⟩:=k.all _ N;have mem:∀d,d∈ka B (bp B i) B.length↔d<B.length/\(g<|bp B d).1=(g<|bp B i).2:=λd=>by
  unfold ka;rw[et,gV,iE];exact⟨λq=>⟨q.1,(k.eq _ (gE q.1) _<|gE x).1 q.2⟩,λq=>⟨q.1,(k.eq _ (gE q.1) _<|gE x).2 q.2⟩⟩
 have l:P∈ka B (bp B i) B.length:=(mem P).2 ⟨R,by rw[e0];exact O⟩;have lt:∀a∈ka B (bp B i) B.length,∀b∈ka B (bp B i) B.length,(lR B (bp B i) a b<0↔cw (neg<|dr<|g<|bp B i) (dr<|g<|bp B a) (dr<|g<|bp B b)=aP):=λa f b n=>by
  obtain⟨y,H⟩:=(mem a).1 f;obtain⟨z,M⟩:=(mem b).1 n;rw[<-aim h (k.pm _<|gE x) (k.pm _<|gE y) (k.pm _<|gE z) s (k.mem _<|gE y) (k.mem _<|gE z) H M];unfold lR;split<;>rename_i q
  .simp[q]
  .simp[q]
 have Q:=iz<|h.ei s;have nd:∀{a},a∈ka B (bp B i) B.length->dr (g<|bp B a)≠(0,0):=λf=>h.ei<|k.mem _<|gE ((mem _).1 f).1;have G:∀{a},a∈ka B (bp B i) B.length->bh (dr<|g<|bp B a) (neg<|dr<|g<|bp B i)=aQ:=λf=>h.two _ (k.mem _<|gE ((mem _).1 f).1) _ s ((mem _).1 f).2;have o:∀{a b},a∈ka B (bp B i) B.length->b∈ka B (bp B i) B.length->bh (dr<|g<|bp B a) (dr<|g<|bp B b)=aP->a=b:=λf n q=>
  k.oY _ _ ((mem _).1 f).1 ((mem _).1 n).1 (h.one _ (k.mem _<|gE ((mem _).1 f).1) _ (k.mem _<|gE ((mem _).1 n).1) (((mem _).1 f).2.trans ((mem _).1 n).2.symm) q)
 have p:∀{a b},a∈ka B (bp B i) B.length->b∈ka B (bp B i) B.length->a≠b->cw (neg<|dr<|g<|bp B i) (dr<|g<|bp B a) (dr<|g<|bp B b)=aP\/cw (neg<|dr<|g<|bp B i) (dr<|g<|bp B b) (dr<|g<|bp B a)=aP:=λ{a b} f n q=>by
  refine To Q (nd f) (nd n) (G f) (G n) ?_;cases w:bh (dr<|g<|bp B a) (dr<|g<|bp B b)
  .rfl
  .exact absurd (o f n w) q
 unfold gK;cases q:ka B (bp B i) B.length with
 |nil=>rw[q] at l;cases l
 |cons m L=>
  rw[q] at lt nd p l mem;obtain⟨t,T⟩:=I2 (cf:=lR B<|bp B i) L m (λa f b n c r w=>by
    have w:=(lt a f b n).1 w;by_cases e:a=c
    .subst e;exact j<|(lt a r b n).2 w
    .rcases p f r e with v|v
     .exact F ((lt a f c r).2 v)
     .exact j ((lt c r b n).2 (Ik Q (nd r) (nd f) (nd n) v w))) (λa f b n w v=>by
    have:=Ik Q (nd f) (nd n) (nd f) ((lt a f b n).1 w) ((lt b n a f).1 v);rw[ail Q (nd f)] at this;cases this)
  refine⟨_,((mem _).1 t).1,rfl,?_⟩;by_cases e:cD (lR B<|bp B i) L m=P
  .rw[e,e0]
  .exfalso;rcases p t l e with v|v
   .have:=h.w1 _ s _ (k.mem _<|gE ((mem _).1 t).1) ((mem _).1 t).2;rw[<-e0,v] at this;cases this
   .exact T P l ((lt _ l _ t).2 v)
end
section
variable{S:V w}{nx:w->w}{φ:Nat->w}{ni:Nat->Nat}{n:Nat}
structure NI(S:V w)(nx:w->w)(φ:Nat->w)(ni:Nat->Nat)(n:Nat):Prop where
 mem:∀i,i<n->φ i∈S
 inj:∀i j,i<n->j<n->φ i=φ j->i=j
 lt:∀i,i<n->ni i<n
 nx:∀i,i<n->φ (ni i)=nx (φ i)
theorem NI.it(h:NI S nx φ ni n){mk:Nat->Bool}{k:Nat}{L:V Nat}(a:jZ ni mk n k L):∀t,t<L.length->Gb.it nx t (φ k)=φ (L.getD t 0)
 |0,_=>by rw[(qD a).2.1];rfl
 |t+1,b=>by
  have c:=NI.it h a t U;show nx (Gb.it nx t<|φ k)=_;rw[c,(qD a).1 t b,h.nx _ (a.free _<|ll U).1]
theorem NI.D0(h:NI S nx φ ni n){mk:Nat->Bool}{k:Nat}{L:V Nat}(a:jZ ni mk n k L):vZ nx (φ k) L.length:=by
 obtain⟨_,_,d,f⟩:=qD a;refine⟨f,?_,λi j b c e=>?_⟩
 .have e:L.length=(L.length-1)+1:=U;rw[e];show nx (Gb.it nx (L.length-1)<|φ k)=_;rw[NI.it h a _ U,<-h.nx _ (a.free _<|ll U).1,d]
 .rw[NI.it h a i b,NI.it h a j c] at e;have:=h.inj _ _ (a.free _<|ll b).1 (a.free _<|ll c).1 e;rw[fi,fi,be b,be c] at this;exact(List.getElem_inj a.nd).1 this
theorem NI.rings(h:NI S nx φ ni n)(p:Wd S nx){cm:Nat->Nat->Bool}(B:∀i j,i<n->j<n->(cm i j=aP↔(φ j).1=(φ i).2)){mk:Nat->Bool}{k:Nat}{L:V Nat}(c:jZ ni mk n k L):(∀D∈(eD cm L).2,(∀a∈D,a<n)/\gj S nx (D.map φ))/\(eD cm L).2.flatten.Perm L:=by
 have v:=NI.D0 h c;obtain⟨_,R,_,u⟩:=qD c;have A:k<n:=by rw[<-R];exact(c.free _<|ll u).1
 have b:φ k∈S:=h.mem k A;have l:∀t,t<L.length->L.getD t 0<n:=λt s=>(c.free _<|ll s).1;obtain⟨_,hperm,g⟩:=parted (f:=λi=>(Gb.it nx i<|φ k).1) (m:=L.length) (p.nc b v) (λj G e=>by
   rw[p.oa b] at e;exact p.ne _ (p.lc b j) e) (by show(Gb.it nx L.length (φ k)).1=_;rw[v.per];rfl)
  (λi=>eD (λi j=>cm (L.getD i 0)<|L.getD j 0)<|List.range i) rfl (λi Q=>by
   show rH _ i _ (eD _<|List.range<|i+1);rw[lZ,DV];refine Ti _ i _ λo C=>?_;have r:o<L.length:=by
    rcases dm.1 C with q|q
    .have:=IZ _ i o q;omega
    .have:=cI.1 q;omega
   show cm (L.getD i 0) (L.getD o 0)=aP↔(Gb.it nx o (φ k)).1=(Gb.it nx (i+1) (φ k)).1;rw[p.oa b,NI.it h c i Q,NI.it h c o r];exact B _ _ (l i Q) (l o r))
 have y:(eD cm L).2=(eD (λi j=>cm (L.getD i 0)<|L.getD j 0)<|List.range L.length).2.map λD=>D.map λt=>L.getD t 0:=by
  have:=Th cm (λt=>L.getD t 0)<|List.range L.length;rw[D3] at this;rw[this]
 rw[y];generalize(eD (λi j=>cm (L.getD i 0)<|L.getD j 0)<|List.range L.length).2=F at*
 refine⟨λE x=>?_,?_⟩
 .obtain⟨D,w,rfl⟩:=bA.1 x;obtain⟨d,P⟩:=g D w;refine⟨λa z=>?_,?_⟩
  .obtain⟨t,s,rfl⟩:=bA.1 z;exact l t<|P.lt t s
  .have:=P.ring p b v;have e:(D.map λt=>L.getD t 0).map φ=D.map λt=>Gb.it nx t (φ k):=by
    rw[eS];exact ly λt s=>(NI.it h c t<|P.lt t s).symm
   rw[e];exact this
 .rw[<-KE];have:=hperm.map λt=>L.getD t 0;rw[D3] at this;exact this
structure LpS(S:V w)(nx:w->w)(φ:Nat->w)(ni:Nat->Nat)(n k:Nat)(st:(Nat->Bool)×V (V Nat)):Prop where
 cl:∀j,j<n->st.1 (ni j)=st.1 j
 dn:∀j,j<k->st.1 j=aP
 ring:∀D∈st.2,(∀a∈D,a<n)/\gj S nx (D.map φ)
 mem:∀j,j<n->(st.1 j=aP↔j∈st.2.flatten)
 nd:st.2.flatten.Nodup
theorem NI.loops(h:NI S nx φ ni n)(t:Wd S nx){L:V RS}(P:L.length=n)(p:∀i j,i<n->j<n->(jP L i j=aP↔(φ j).1=(φ i).2)):∀k,k<=n->LpS S nx φ ni n k (jj ni L k)
 |0,_=>⟨λ_ _=>rfl,λj r=>U,(λc s=>by cases s),λj _=>⟨λq=>(by cases q),λq=>(by cases q)⟩,VU⟩
 |k+1,o=>by
  have d:=NI.loops h t P p k U;rw[Jr];generalize jj ni L k=R at*;unfold El;split<;>rename_i q
  .refine⟨d.cl,λj r=>?_,d.ring,d.mem,d.nd⟩;by_cases e:j=k
   .rw[e];exact q
   .exact d.dn j U
  .rw[P];have f:∀a b,a<n->b<n->ni a=ni b->a=b:=λa b g l e=>by
    refine h.inj a b g l<|t.inj _ (h.mem a g) _ (h.mem b l) ?_;rw[<-h.nx a g,<-h.nx b l,e]
   have m:=Sl (i:=k) h.lt f d.cl U (by simpa using q);obtain⟨Q,B⟩:=NI.rings h t p m;have v:=m.closed f d.cl;generalize fp ni R.1 n [] k=W at*;refine⟨v,λj r=>?_,λc s=>?_,λj r=>?_,?_⟩
   .by_cases e:j=k
    .have:k∈W:=bB m.head;rw[e];simp[this]
    .simp[d.dn j U]
   .rcases dm.1 s with w|w
    .exact d.ring c w
    .exact Q c w
   .rw[Ah,dm,B.mem_iff,<-d.mem j r,E1,mK]
   .rw[Ah,wY];refine⟨d.nd,B.nodup_iff.2 m.nd,λa g b l e=>?_⟩;subst e;have x:=m.free a<|B.mem_iff.1 l;rw[(d.mem a x.1).2 g] at x;cases x.2
end
section
variable{S:V w}{nx:w->w}{γ:RS->w}{B:V RS}
def nI(B:V RS)(i:Nat):Nat:=(gK B (bp B i) B.length).toNat
theorem RB.ni(h:Wd S nx)(k:RB S γ B):NI S nx (λi=>γ<|bp B i) (nI B) B.length/\∀i,i<B.length->gK B (bp B i) B.length=(nI B i:Nat):=by
 have b:∀i,i<B.length->nI B i<B.length/\gK B (bp B i) B.length=(nI B i:Nat)/\γ (bp B<|nI B i)=nx (γ<|bp B i):=λi a=>by
  obtain⟨j,d,c,e⟩:=k.next h a
  have:nI B i=j:=by unfold nI;rw[c];rfl
  rw[this];exact⟨d,c,e⟩
 exact⟨⟨λi a=>k.mem _<|gE a,k.oY,λi a=>(b i a).1,λi a=>(b i a).2.2⟩,λi a=>(b i a).2.1⟩
structure GR(S:V w)(nx:w->w)(γ:RS->w)(B:V RS)(G:V (V RS)):Prop where
 sub:∀g∈G,∀s∈g,s∈B
 ring:∀g∈G,gj S nx (g.map γ)
 all:∀u∈S,∃g∈G,u∈g.map γ
 nd:(G.map λg=>g.map γ).flatten.Nodup
theorem RB.gr(h:Wd S nx)(k:RB S γ B):GR S nx γ B ((jj (nI B) B B.length).2.map<|fR B):=by
 obtain⟨t,_⟩:=k.ni h;have d:=NI.loops t h (L:=B) rfl (λi j l x=>by
  unfold jP;rw[iE];exact k.eq _ (gE x) _ (gE l)) B.length (aX _)
 generalize(jj (nI B) B B.length)=r at*;have m:∀D:V Nat,(fR B D).map γ=D.map λi=>γ (bp B i):=λD=>by unfold fR;rw[eS];rfl
 refine⟨λg n s P=>?_,λg n=>?_,λu Q=>?_,?_⟩
 .obtain⟨D,c,rfl⟩:=bA.1 n;obtain⟨a,f,rfl⟩:=bA.1 P;exact gE<|(d.ring D c).1 a f
 .obtain⟨D,c,rfl⟩:=bA.1 n;rw[m];exact(d.ring D c).2
 .obtain⟨i,l,rfl⟩:=k.all u Q;obtain⟨D,c,p⟩:=pG.1<|(d.mem i l).1<|d.dn i l;exact⟨fR B D,bA.2 ⟨D,c,rfl⟩,by rw[m];exact bA.2 ⟨i,p,rfl⟩⟩
 .rw[eS];have e:(r.2.map<|(λg=>g.map γ)∘fR B).flatten=r.2.flatten.map λi=>γ (bp B i):=by
   rw[KE];congr 1;exact ly λD _=>m D
  rw[e,List.Nodup,ic];refine kQ (λ{a b} f v w q=>?_) d.nd;have lt:∀a∈r.2.flatten,a<B.length:=λa f=>by
   obtain⟨D,c,p⟩:=pG.1 f;exact(d.ring D c).1 a p
  exact w<|k.oY a b (lt a f) (lt b v) q
end
def tS:RS->V RS->V RS
 |_,[]=>[]
 |b,s::a=>if fE b s=0 then tS s a else s::tS s a
theorem EG:∀(c:V RS)(b:RS)(d:V RS),tS b (c++d)=tS b c++tS (c.getLastD b) d
 |[],_,_=>rfl
 |a::c,b,d=>by
  have f:=EG c a d;have e:(a::c).getLastD b=c.getLastD a:=by cases c<;>rfl
  rw[e];show(if fE b a=0 then tS a (c++d) else a::tS a (c++d))=(if fE b a=0 then tS a c else a::tS a c)++_;rw[f];split<;>rfl
theorem EH:∀(c:V RS)(b:RS),(tS b c).Sublist c
 |[],_=>List.Sublist.refl _
 |a::c,b=>by
  unfold tS;split
  .exact(EH c a).cons a
  .exact(EH c a).cons_cons a
theorem UX{G:V RS}{m:Nat}(a:m<G.length):(G.take m).getLastD (bp G<|G.length-1)=bp G (m9 G m):=by
 unfold m9;by_cases e:m=0
 .subst e;rfl
 .rw[X e,jF,lA,fU,Kl U,jb,y U,be U];exact(gn<|be U).symm
theorem UY(G:V RS):∀m,m<=G.length->ea G m=tS (bp G<|G.length-1) (G.take m)
 |0,_=>rfl
 |m+1,h=>by
  have a:G[m]?=K (bp G m):=by
   unfold bp;rw[fi,be U];rfl
  rw[fg,a,EG,<-UY G m U,UX U,Ui];show _=_++(if fE (bp G<|m9 G m) (bp G m)=0 then[] else[bp G m]);split<;>simp
theorem aio(a F:V RS)(h:d9 (a++F) (a++F).length=a.length):iM (a++F) (a++F).length=(F++a).map λs=>s.1.1:=by
 unfold iM;rw[h];refine nA aq λi c d=>?_;rw[sO,sO,KF];congr 2;have b:(a++F).length=a.length+F.length:=bG;have:i<a.length+F.length:=by simpa[b] using c
 rw[b];by_cases q:i<F.length
 .rw[VA U,List.getElem_append_left q];refine gn ?_;rw[jc U,show a.length+i-a.length=i by omega];exact be q
 .have e:(a.length+i)%(a.length+F.length)=i-F.length:=by
   rw[show a.length+i=(a.length+F.length)+(i-F.length) by omega,Nat.add_mod_left];exact VA U
  rw[e,List.getElem_append_right U];refine gn ?_;rw[dQ U];exact be U
section
variable{S:V w}{nx:w->w}{γ:RS->w}{B:V RS}
theorem RB.JW(k:RB S γ B){T:V RS}(a:∀s∈T,s∈B):∀m,0<m->m<=T.length->d9 T m<m/\∀i,i<m->ge (γ<|bp T<|d9 T m).1 (γ<|bp T i).1
 |0,h,_=>U
 |m+1,_,p=>by
  rw[zO];by_cases g:m=0
  .subst g;have e:(if N.pc (bp T 0).1.1 (bp T<|d9 T 0).1.1<0 then 0 else d9 T 0)=0:=by
    have:d9 T 0=0:=rfl;rw[this];split<;>rfl
   rw[e];refine⟨U,λi b=>?_⟩;rw[show i=0 by omega];exact tZ _
  .obtain⟨r,c⟩:=RB.JW k a m U U;have n:=a _<|gE (show m<T.length by omega);have l:=a _<|gE (show d9 T m<T.length by omega);have d:=k.pc _ n _ l;split<;>rename_i q
   .refine⟨U,λi b=>?_⟩;have f:ge (γ<|bp T m).1 (γ<|bp T<|d9 T m).1:=(vW _ _).resolve_right<|d.1 q;by_cases e:i=m
    .rw[e];exact tZ _
    .exact vX f (c i U)
   .refine⟨U,λi b=>?_⟩;by_cases e:i=m
    .rw[e];exact gP λw=>q<|d.2 w
    .exact c i U
theorem RB.tG(k:RB S γ B):∀(d:V RS)(b:RS),b∈B->(∀a∈d,a∈B)->(tS b d).map γ=Gb.tG (γ b) (d.map γ)
 |[],_,_,_=>rfl
 |s::d,b,n,g=>by
  have h:=g s E;have l:=RB.tG k d s h<|λa m=>g a<|bW _ m;have c:=((k.pm b n).L<|k.pm s h).2.2;show(if fE b s=0 then tS s d else s::tS s d).map γ=if L (dr<|γ b) (dr<|γ s)=0 then Gb.tG (γ s) (d.map γ) else γ s::Gb.tG (γ s) (d.map γ);by_cases f:fE b s=0
  .rw[y f,y<|c.1 f,l]
  .rw[X f,X<|λe=>f<|c.2 e,gU,l]
theorem RB.lr(h:Wd S nx)(k:RB S γ B){G:V RS}(N:∀s∈G,s∈B)(hR:gj S nx (G.map γ)):∃(R:V w)(b:V RS),LR S nx R/\R.Perm (G.map γ)/\(cG G=aP↔shl R)/\dP G=b.map (λs=>s.1.1)/\(∀s∈b,s∈G)/\b.map (λs=>(γ s).1)=fQ R:=by
 have hn:0<G.length:=by
  have:=fT.2 hR.ne;simpa using this
 obtain⟨m,hm⟩:=am<|d9 G G.length;obtain⟨l1,l2⟩:=RB.JW k N G.length hn<|aX _;rw[<-hm] at l1 l2;obtain⟨d,hd⟩:=am<|bp G m;obtain⟨v,Q⟩:=am<|bp G<|G.length-1;obtain⟨z,hz⟩:=am<|bp G<|m9 G m;have hpv:m9 G m<G.length:=by unfold m9;split<;>omega
 have hdB:=N d (by rw[hd];exact gE l1);have H:=N z (by rw[hz];exact gE hpv);have amC:=N v (by rw[Q];exact gE U);obtain⟨p,O⟩:=am<|G.take m;obtain⟨r,DL⟩:=am<|G.drop<|m+1;have M:G=p++d::r:=by
  have:G.drop m=d::r:=by
   rw[lU l1,hd,DL];congr 1;unfold bp;rw[fi,be l1];rfl
  rw[<-this,O,oy]
 have zz:p.getLastD v=z:=by rw[O,Q,hz];exact UX l1
 have zl:(d::r).getLastD z=v:=by
  have:G.getLastD z=v:=by
   rw[jF,lA,be U,Q];unfold bp;rw[fi,be U];rfl
  rw[M,DZ p E z z] at this;exact this
 have zR:(d::r++p).getLastD v=z:=by
  by_cases e:p=[]
  .rw[e] at zz⊢;have:v=z:=zz;rw[lY,this];rw[this] at zl;exact zl
  .rw[DZ _ e v v];exact zz
 have hsB:∀s∈d::r++p,s∈B:=λs q=>N s (by rw[M];simp at q⊢;rcases q with q|q|q<;>simp[q]);have F:(d::r++p).Perm G:=by rw[M];exact Au
 have Y:LR S nx ((d::r++p).map γ):=by
  refine⟨?_,λa o s hs'=>?_⟩
  .rw[M,fy] at hR;rw[fy];exact hR.iM
  .have ea:a=γ d:=by simpa using o.symm
   obtain⟨n,hy,rfl⟩:=bA.1 hs';obtain⟨i,hi,ei⟩:=ig.1<|F.mem_iff.1 hy;have:=l2 i hi;rw[<-hd,gn (s:=n)<|by rw[be hi,ei]] at this;rw[ea];exact this
 have x:((d::r++p).map γ).getLastD s0=γ z:=by
  rw[jF,wc];rw[jF] at zR;cases q:(d::r++p).getLast? with
  |none=>exact absurd (qP.1 q) E
  |some n=>rw[q] at zR;rw[<-zR];rfl
 have P:((d::r++p).map γ).getLast?=K (γ z):=by
  rw[jF] at x;cases q:((d::r++p).map γ).getLast? with
  |none=>exact absurd (qP.1 q) E
  |some n=>rw[q] at x;rw[<-x];rfl
 have hturn:fE z d≠0:=λe=>by
  obtain⟨a,T,t,g,e1,e2,e3,_⟩:=Y.wf h;have o:a=γ d:=by
   have:(γ d::(r++p).map γ)=a::T:=by rw[<-e1];simp
   injection this with q _;exact q.symm
  have c:=((k.pm z H).L<|k.pm d hdB).2.2.1 e;unfold fQ at e3;rw[x,e1] at e3;have e4:Gb.tG (γ z) (a::T)=Gb.tG a T:=by
   show(if L (dr<|γ z) (dr a)=0 then _ else _)=_;rw[o,y c]
  rw[e4,e2] at e3;have e5:=bd List.length e3;simp at e5
 have eT:ea G G.length=tS v p++(d::tS d r):=by
  rw[UY G _<|aX _,ku<|aX _,<-Q]
  conv=>lhs;rw[M]
  rw[EG,zz];show _++(if fE z d=0 then _ else _)=_;rw[X hturn]
 have eC:tS z (d::r++p)=(d::tS d r)++tS v p:=by
  rw[EG,zl];show(if fE z d=0 then _ else _)++_=_;rw[X hturn]
 have iA:G.Pairwise λs t=>(γ s).1≠(γ t).1:=by have:=hR.iA;rw[ic] at this;exact this
 have j:(tS v p++(d::tS d r)).Sublist G:=by
  rw[M];exact(EH p v).append<|(EH r d).cons_cons d
 have aoa:d9 (tS v p++(d::tS d r)) (tS v p++(d::tS d r)).length=(tS v p).length:=by
  obtain⟨p1,p2⟩:=RB.JW k (T:=tS v p++(d::tS d r)) (λs q=>N s<|j.subset q) (tS v p++(d::tS d r)).length aq<|aX _;have W:(tS v p).length<(tS v p++(d::tS d r)).length:=E;have ed:bp (tS v p++(d::tS d r)) (tS v p).length=d:=gn (by rw[jc<|aX _];simp);have q1:=p2 _ W;rw[ed] at q1;have dT:=iA.sublist j;generalize tS v p++(d::tS d r)=T at*;obtain⟨i,hi,ei⟩:=ig.1<|j.subset<|gE p1;have q2:=l2 i hi;rw[<-hd,gn (s:=bp T<|d9 T T.length)<|by rw[be hi,ei]] at q2;have e:=tY q1 q2;rw[jm] at dT;have gx:∀{a:Nat}(o:a<T.length),T[a]=bp T a:=λo=>(gn<|be o).symm;rcases sM (d9 T T.length) (tS v p).length with l|l|l
  .have:=dT _ _ p1 W l;rw[gx p1,gx W,ed] at this;exact absurd e this
  .exact l
  .have:=dT _ _ W p1 l;rw[gx p1,gx W,ed] at this;exact absurd e.symm this
 refine⟨(d::r++p).map γ,(d::tS d r)++tS v p,Y,F.map γ,?_,?_,λs q=>?_,?_⟩
 .unfold cG shl;rw[<-hm,iE];have c:=((k.pm z H).L<|k.pm d hdB).1;have e:bp G (if m=0 then G.length-1 else m-1)=z:=hz.symm;rw[e,<-hd];constructor
  .intro q;exact⟨γ d,γ z,E,P,c.1 q⟩
  .rintro⟨a,n,o,hy,q⟩;have ea:a=γ d:=by simpa using o.symm
   rw[P] at hy;rw[ea,<-fV hy] at q;exact c.2 q
 .unfold dP;rw[eT];exact aio _ _ aoa
 .refine j.subset ?_;simp at q⊢;rcases q with q|q|q<;>simp[q]
 .unfold fQ;rw[x,<-RB.tG k _ z H hsB,eC,eS];rfl
end
end Gb
end Go.Proofs.YtkjhhooecopolaaGreatDoor

import Derived.Test.YtkjhhooecopolaaGreatDoorAz24
set_option maxRecDepth 100000
set_option maxHeartbeats 4000000
namespace Go.Proofs.YtkjhhooecopolaaGreatDoor
open Go.Proofs.Tryz
open Value renaming int->I,complex->A,float->aA,agg->u,bool->aC,slice->D,pointer->aF,tuple->aG
open IntKind renaming i64->J
open FloatKind renaming f64->C
open Ending renaming returned->aJ
open Go renaming World->G,Value->Y,floatOfInt->aM
open Option renaming some->K,none->Z
open Bool renaming true->aP,false->aQ
section
open Go.RowKit
variable{w wr w' w8:G}{bs O:V Nat}{rv hs:V Y}{l m:N.Ln}{g' cap' base g n cap k pb:Nat}{lo lr hv s' h':Y}
theorem RJ(Xs:V PB){T:V Nat}(b:T≠[]):jA Xs T∈T:=by cases T with|nil=>grind|cons a tr=>unfold jA;rcases rP (λi j=>cC (xi Xs i).f (xi Xs j).f) tr a with e|e;grind;grind
theorem aeJ(Xs:V PB){T:V Nat}(c:T≠[]):gD (λj=>j == jA Xs T) T=(oZ Xs T:Int)/\oZ Xs T<T.length:=by have:=Ru (P:=λj=>j == jA Xs T) T 0 ⟨_,RJ Xs c,E⟩;have a:gD (λj=>j == jA Xs T) T=fq (λj=>j == jA Xs T) T 0:=rfl;have b:oZ Xs T=(fq (λj=>j == jA Xs T) T 0).toNat:=rfl;omega
theorem Iy(Xs:V PB)(A:V Nat):∀j∈d8 Xs A,j∈A:=λj a=>ww Xs A _ j a
theorem Iz(Xs:V PB)(A:V Nat):(d8 Xs A).length<=A.length:=Is Xs A _
theorem aeK(bs:V Nat)(Xs:V PB)(hB:BD Xs)(g:Nat)(mk:Nat->Bool)(ow:Nat->Option Nat)(w:G)(s:SW g bs Xs mk ow w)(d:V Nat)(Be:0<d.length)(o:d.length<=85000000)(hA:∀a∈d,a<bs.length)(W lo cap:Nat)
  (HV:∀(i:Nat) a,d[i]?=K a->w.cell? ⟨W,lo+i,Z⟩=K (aF<|K ⟨bx bs a,0,Z⟩))(S:d8 Xs d≠[]):
  M 168 #[D (K ⟨W,lo,Z⟩) d.length cap] w λe w'=>∃lv,e=aJ lv/\w'.ownsRow w.heap.size 175 1 lv (eH Xs d).length (bU<|(eH Xs d).map<|bx bs)/\ag w w':=by
 have n:=s.len;have m:∀j∈d8 Xs d,j<bs.length:=λj t=>hA j<|Iy Xs d j t;have B:(d8 Xs d).length<=85000000:=el (Iz Xs d) o;have z:=RJ Xs S;obtain⟨hr1,hr2⟩:=aeJ Xs S;refine aeB bs Xs hB g mk ow w s d Be o hA W lo cap HV S (d8 Xs d) (bx bs<|jA Xs<|d8 Xs d) (oZ Xs<|d8 Xs d) rfl hr2 B rfl ?_ ?_
 .intro X N wr ho y;generalize d8 Xs d=T at*;obtain⟨q,p,hv,_,tE,_,_,_,hcell⟩:=li ho (by simp_all);have Q:q=X/\p=N:=(by grind);obtain⟨rfl,rfl⟩:=Q;obtain⟨R,tr,rfl⟩:∃R tr,T=R::tr:=(by cases T with|nil=>grind|cons a r=>simp)
  have hR:=s.rb.below y;have F:=aeu (λb L=>cC (xi Xs<|bs.idxOf b).f (xi Xs<|bs.idxOf L).f) (bx bs R) (tr.map<|bx bs) q 0 p wr (by grind)
   (λi b hi=>hcell i b hi)
   (λb l c Y w'' hw=>by
    have H:∀b,b∈bx bs R::tr.map (bx bs)->∃j,j<bs.length/\b=bx bs j:=λb y=>by
     grind
    obtain⟨j1,q1,rfl⟩:=H b l;obtain⟨j2,q2,rfl⟩:=H c Y;have v:=hR.below hw;rw[kK s.nd q1,kK s.nd q2];refine(Ic _ _ (hB.v _ (gm (by omega))) (hB.v _ (gm (by omega))) _ _ w'' (v.at (by omega)) (v.at (by omega))).mono ?_;grind)
  have O:cD (λb L=>cC (xi Xs<|bs.idxOf b).f (xi Xs<|bs.idxOf L).f) (tr.map<|bx bs) (bx bs R)=bx bs (jA Xs (R::tr)):=(by unfold jA;refine zq _ _ λj t k hk=>?_;simp only[kK s.nd (m j t),kK s.nd<|m k hk]);grind
 .intro X N wr ho y;generalize d8 Xs d=T at*;obtain⟨q,p,hv,_,tE,_,_,_,hcell⟩:=li ho (by simp_all);have Q:q=X/\p=N:=(by grind)
  obtain⟨rfl,rfl⟩:=Q;have F:=aex (bx bs<|jA Xs T) (T.map<|bx bs) q 0 p wr (by omega) (λi b hi=>hcell i b hi) (λb P=>by
   have hbj:∃j,j<bs.length/\b=bx bs j:=by
    grind
   obtain⟨j,t,rfl⟩:=hbj;exact⟨_,(y.block _ (s.lt (mZ t))).trans (s.side j t)⟩)
  have O:gD (λb=>b == bx bs (jA Xs T)) (T.map<|bx bs)=gD (λj=>j == jA Xs T) T:=DF _ _ λx hx=>(by by_cases e:x=jA Xs T;grind;have l:(x == jA Xs T)=aQ:=(by grind);have Y:(bx bs x == bx bs (jA Xs T))=aQ:=(by simpa using λh=>e<|Iq s.nd (m x hx) (m _ z) h);rw[l,Y]);grind
def iW(Xs:V PB)(s j:Nat):Bool:=decide ((xi Xs s).t=(xi Xs j).f)
def iX(Xs:V PB)(O:V Nat)(s:Nat):Int:=gD (iW Xs s) O
def iO(Xs:V PB)(p:V Nat×V (V Nat))(s:Nat):V Nat×V (V Nat):=
 if 0<=iX Xs (p.1++[s]) s then((p.1++[s]).take (iX Xs (p.1++[s]) s).toNat,p.2++[eH Xs ((p.1++[s]).drop (iX Xs (p.1++[s]) s).toNat)]) else(p.1++[s],p.2)
def cV(Xs:V PB)(W:V Nat):V Nat×V (V Nat):=W.foldl (iO Xs) ([],[])
def cF(Xs:V PB)(W:V Nat):V (V Nat):=(cV Xs W).2
theorem rV(Xs:V PB)(W:V Nat)(s:Nat):cV Xs (W++[s])=iO Xs (cV Xs W) s:=by unfold cV;simp
theorem RK:(Tryz.prog.info? 185).map (λi=>(i.zero,i.size,i.bytes))=K (K<|D Z 0 0,1,24):=z
structure RI(bs:V Nat)(w:G)(lo lr:Y)(O:V Nat)(Rs:V (V Nat))(rv:V Y)(wr:G):Prop where
 oo:wr.ownsRow w.heap.size 175 1 lo O.length (bU<|O.map<|bx bs)
 ro:wr.ownsRow w.heap.size 185 1 lr rv.length rv
 len:rv.length=Rs.length
 ring:∀(i:Nat) v r,rv[i]?=K v->Rs[i]?=K r->wr.ownsRow w.heap.size 175 1 v r.length (bU<|r.map<|bx bs)/\∀k,v.ownBlock=K k->lo.ownBlock≠K k/\lr.ownBlock≠K k
 ne:∀k,lo.ownBlock=K k->lr.ownBlock≠K k
 below:ag w wr
theorem RI.keep{Rs:V (V Nat)}(h:RI bs w lo lr O Rs rv wr)(b:ag wr w'):RI bs w lo lr O Rs rv w':=
 ⟨bH h.oo λk a=>b.block k (bn h.oo k a).2,bH h.ro λk a=>b.block k (bn h.ro k a).2,h.len,λi v r c d=>⟨bH (h.ring i v r c d).1 λk a=>b.block k (bn (h.ring i v r c d).1 k a).2,(h.ring i v r c d).2⟩,h.ne,h.below.trans<|b.mono h.below.size⟩
theorem RI.IA{Rs:V (V Nat)}(h:RI bs w lo lr O Rs rv wr)(s:Nat)(o:Obj)(d:(wr.alloc o).grownBy w8 lo.ownBlock)
  (l:w8.ownsRow w.heap.size 175 1 (D (K ⟨g',0,Z⟩) (O.length+1) cap') (O.length+1) (bU (O.map<|bx bs)++[aF (K ⟨bx bs s,0,Z⟩)]))(a:lo.ownBlock=K g'\/g'=wr.heap.size+1):
  RI bs w (D (K ⟨g',0,Z⟩) (O.length+1) cap') lr (O++[s]) Rs rv w8:=by have c:∀k,k<wr.heap.size->lo.ownBlock≠K k->w8.heap[k]?=wr.heap[k]?:=λk b g=>(d.block k aq<|λe=>g e.symm).trans<|ad _ _ _ b;refine⟨?_,bH h.ro λk b=>c k (bn h.ro k b).2<|λe=>h.ne k e b,h.len,λi v r q t=>?_,λk b=>?_,?_⟩;rw[abb,bG];have e:bU (O.map (bx bs)++[s].map (bx bs))=bU (O.map<|bx bs)++[aF (K ⟨bx bs s,0,Z⟩)]:=(by simp[bU]);simp_all;obtain⟨m,n⟩:=h.ring i v r q t;refine⟨bH m λk b=>c k (bn m k b).2 (n k b).1,λk b=>⟨λe=>?_,(n k b).2⟩⟩;have f:g'=k:=(by simpa[Value.ownBlock] using e);subst f;rcases a with a|a;grind;have:=(bn m _ b).2;omega;have f:g'=k:=(by simpa[Value.ownBlock] using b);subst f;intro p;rcases a with a|a;exact h.ne _ a p;have:=(bn h.ro _ p).2;omega;exact(h.below.alloc h.below.size _).grown d (by have:=h.below.size;simp;omega) (λk b=>(bn h.oo k b).1)
theorem RI.IB{Rs:V (V Nat)}(h:RI bs w lo lr O Rs rv wr){v:Y}{r:V Nat}{B:Nat}(R:wr.ownsRow B 175 1 v r.length (bU<|r.map<|bx bs))(z:w.heap.size<=B)(f:∀k,lo.ownBlock=K k\/lr.ownBlock=K k->k<B)(o:Obj)(l:(wr.alloc o).grownBy w8 lr.ownBlock)
  (t:w8.ownsRow w.heap.size 185 1 (D (K ⟨g',0,Z⟩) (rv.length+1) cap') (rv.length+1) (rv++[v]))(a:lr.ownBlock=K g'\/g'=wr.heap.size+1):
  RI bs w lo (D (K ⟨g',0,Z⟩) (rv.length+1) cap') O (Rs++[r]) (rv++[v]) w8:=by have c:∀k,k<wr.heap.size->lr.ownBlock≠K k->w8.heap[k]?=wr.heap[k]?:=λk b s=>(l.block k aq<|λe=>s e.symm).trans<|ad _ _ _ b;have d:∀k,v.ownBlock=K k->B<=k/\k<wr.heap.size:=λk b=>bn R k b;refine⟨bH h.oo λk b=>c k (bn h.oo k b).2<|h.ne k b,?_,by rw[bG,bG,h.len];rfl,λi u q m n=>?_,λk b e=>?_,?_⟩;grind;by_cases Q:i<rv.length;rw[dQ Q] at m;rw[dQ (by rw[<-h.len];exact Q)] at n;obtain⟨x,P⟩:=h.ring i u q m n;refine⟨bH x λk b=>c k (bn x k b).2 (P k b).2,λk b=>⟨(P k b).1,λe=>?_⟩⟩;have g:g'=k:=(by simpa[Value.ownBlock] using e);subst g;rcases a with a|a;grind;have:=(bn x _ b).2;omega;have p:i=rv.length:=(by grind);subst p;have S:u=v:=(by grind);have y:q=r:=(by rw[h.len] at n;grind);subst S y;refine⟨mQ (bH R λk b=>c k (d k b).2 (λe=>by grind)) z,λk b=>⟨λe=>by grind,λe=>?_⟩⟩;have g:g'=k:=(by simpa[Value.ownBlock] using e);grind;have g:g'=k:=(by simpa[Value.ownBlock] using e);subst g;rcases a with a|a;exact h.ne _ b a;have:=(bn h.oo _ b).2;omega;exact(h.below.alloc h.below.size _).grown l (by have:=h.below.size;simp;omega) (λk b=>(bn h.ro k b).1)
theorem aeL{e:TypeId}{xs:V Y}(h:w.ownsRow base e 1 (D (K ⟨g,0,Z⟩) n cap) n xs)(P:k<=n):w.ownsRow base e 1 (D (K ⟨g,0,Z⟩) k cap) k (xs.take k):=by obtain⟨m,p⟩:=h;rcases p with⟨l,_⟩|⟨f,d,a,x,r,q,B,s,t,v⟩;cases l;refine⟨by grind,F ⟨f,d,a,?_,r,q,U,s,t,?_⟩⟩;grind;grind
theorem RI.IC{Rs:V (V Nat)}(h:RI bs w (D (K ⟨g,0,Z⟩) n cap) lr O Rs rv wr)(a:k<=O.length)(c:n=O.length):RI bs w (D (K ⟨g,0,Z⟩) k cap) lr (O.take k) Rs rv wr:=by
 subst c;refine⟨?_,h.ro,h.len,h.ring,h.ne,h.below⟩;have:=aeL h.oo a;have e:(bU<|O.map<|bx bs).take k=bU ((O.take k).map<|bx bs):=by unfold bU;simp
 grind
theorem aeM(Xs:V PB)(p:V Nat×V (V Nat))(s:Nat):∀j∈(iO Xs p s).1,j∈p.1\/j=s:=by intro j a;unfold iO at a;grind
theorem DH(Xs:V PB)(a:V Nat):∀k,∀j∈(cV Xs<|a.take k).1,j∈a:=by intro k;induction k with|zero=>intro j b;simp[cV] at b|succ k d=>intro j b;by_cases e:k<a.length;have c:a.take (k+1)=a.take k++[a[k]]:=(by simp);rw[c,rV] at b;rcases aeM Xs _ _ j b with h|h;grind;grind;rw[ku U] at b;rw[ku U] at d;grind
theorem aeN(Xs:V PB)(p:V Nat×V (V Nat))(s:Nat):(iO Xs p s).1.length<=p.1.length+1/\(iO Xs p s).2.length<=p.2.length+1:=by unfold iO;grind
theorem zB(Xs:V PB)(a:V Nat):∀k,(cV Xs<|a.take k).1.length<=k/\(cV Xs<|a.take k).2.length<=k:=by intro k;induction k with|zero=>simp[cV]|succ k d=>by_cases c:k<a.length;have b:a.take (k+1)=a.take k++[a[k]]:=(by simp);rw[b,rV];have:=aeN Xs (cV Xs<|a.take k) a[k];omega;rw[ku U];rw[ku U] at d;omega
theorem RM{P:Nat->Bool}:∀(l:V Nat)(k:Nat),fq P l k= -1\/((k:Int)<=fq P l k/\fq P l k<(k:Int)+l.length)
 |[],_=>j rfl
 |a::l,k=>by show(if P a then(k:Int) else fq P l (k+1))= -1\/((k:Int)<=(if P a then(k:Int) else fq P l (k+1))/\(if P a then(k:Int) else fq P l (k+1))<(k:Int)+(a::l).length);rw[dc];by_cases b:P a=aP;grind;rw[X b];have:=RM (P:=P) l<|k+1;omega
theorem aeO(Xs:V PB)(O:V Nat)(s:Nat)(h:0<=iX Xs O s):(iX Xs O s).toNat<O.length:=by have:=RM (P:=iW Xs s) O 0;have e:iX Xs O s=fq (iW Xs s) O 0:=rfl;omega
theorem aeP(bs:V Nat)(Xs:V PB)(P:BD Xs)(g:Nat)(mk:Nat->Bool)(ow:Nat->Option Nat)(w:G)(n:SW g bs Xs mk ow w)(O:V Nat)(s q p:Nat)(w':G)(L:w'.ownsRow w.heap.size 175 1 (D (K ⟨q,0,Z⟩) O.length p) O.length (bU<|O.map<|bx bs))(z:ag w w')(Q:∀j∈O,j<bs.length)(o:s<bs.length)(B:O≠[])(H:O.length<=85000000):
  M 166 #[D (K ⟨q,0,Z⟩) O.length p,.func (.func 167) #[aF (K ⟨bx bs s,0,Z⟩)] #[]] w' (ai (I J<|iX Xs O s) w'):=by
 have a:=n.len;obtain⟨l,k,N,_,A,_,_,_,hcell⟩:=li L (by simp_all);have v:l=q/\k=p:=(by grind)
 obtain⟨rfl,rfl⟩:=v;have S:=aes (λb=>decide ((xi Xs s).t=(xi Xs<|bs.idxOf b).f)) (O.map<|bx bs) l 0 k (bx bs s) w' (by omega) (λi b C=>hcell i b C) (λb r d T=>by
  obtain⟨j,F,rfl⟩:=bA.1 r;have c:=Q j F;have R:=(n.rb.below z).below T;rw[kK n.nd c];exact aer _ _ (P.v _ (gm (by omega))) (P.v _ (gm (by omega))) _ _ d (R.at (by omega)) (R.at (by omega)))
 have u:gD (λb=>decide ((xi Xs s).t=(xi Xs<|bs.idxOf b).f)) (O.map<|bx bs)=iX Xs O s:=DF _ _ λx U=>(by simp only[kK n.nd (Q x U)];rfl);grind
theorem aeQ(bs:V Nat)(Xs:V PB)(x:BD Xs)(g:Nat)(mk:Nat->Bool)(ow:Nat->Option Nat)(w:G)(Q:SW g bs Xs mk ow w)(O:V Nat)(R l k:Nat)(w':G)(y:w'.ownsRow w.heap.size 175 1 (D (K ⟨l,0,Z⟩) O.length k) O.length (bU<|O.map<|bx bs))(o:ag w w')(B:∀j∈O,j<bs.length)(q:R<O.length)(A:O.length<=85000000)(P:d8 Xs (O.drop R)≠[]):
  M 168 #[D (K ⟨l,R,Z⟩) (O.length-R) (k-R)] w' λe f=>∃t,e=aJ t/\f.ownsRow w'.heap.size 175 1 t (eH Xs<|O.drop R).length (bU<|(eH Xs<|O.drop R).map<|bx bs)/\ag w' f:=by
 have n:O≠[]:=by grind
 obtain⟨c,b,z,_,u,_,_,_,hcell⟩:=li y (by simp_all);have m:c=l/\b=k:=by
  grind
 obtain⟨rfl,rfl⟩:=m;have s:=aeK bs Xs x g mk ow w' (Q.below o) (O.drop R) (by grind) (by grind) (λa S=>B a<|KC S) c R (b-R) (λi a r=>by
  grind) P
 grind
theorem aeR(bs:V Nat)(Xs:V PB)(hB:BD Xs)(g:Nat)(mk:Nat->Bool)(ow:Nat->Option Nat)(w:G)(hW:SW g bs Xs mk ow w)(A:V Nat)(hAl:A.length<=85000000)(hA:∀a∈A,a<bs.length)(g0 cap:Nat)
  (HV:H (∀(i:Nat) a,A[i]?=K a->w.cell? ⟨g0,0+i,Z⟩=K (aF<|K ⟨bx bs a,0,Z⟩)))
  (RN:H (∀(k:Nat) s,A[k]?=K s->0<=iX Xs ((cV Xs<|A.take k).1++[s]) s->d8 Xs (((cV Xs<|A.take k).1++[s]).drop (iX Xs ((cV Xs<|A.take k).1++[s]) s).toNat)≠[])):
  M 111 #[D (K ⟨g0,0,Z⟩) A.length cap] w λe w'=>∃lv lo O rv,e=aJ lv/\RI bs w lo lv O (cF Xs A) rv w':=by
 have F:=hid<|λO s gO cO w'=>aeP bs Xs hB g mk ow w hW O s gO cO w';have T:=hid<|λO R gO cO w'=>aeQ bs Xs hB g mk ow w hW O R gO cO w';have HA:=hid hA;have gh:H (RI bs w (D Z 0 0) (D Z 0 0) (cV Xs<|A.take 0).1 (cV Xs<|A.take 0).2 [] w):=⟨ak _ _ _ _,ak _ _ _ _,rfl,λi v r h=>by simp at h,λk h=>by simp[Value.ownBlock] at h,Below.refl _ _⟩;clear hA hW hB;go_enter func111,ntmps111;go_wp2_with fail;go_loopg [3,4,10] A.length (λm lr lo iv wr=>∃k:Nat,k+m=A.length/\iv=I J k/\H (∃rv,RI bs w lo lr (cV Xs<|A.take k).1 (cV Xs<|A.take k).2 rv wr));case atStart=>exact⟨0,U,rfl,[],gh.o⟩
 obtain⟨k,hkn,rfl,HE⟩:=hrel;clear gh;by_cases hlt:k<A.length
 .obtain⟨s,hs⟩:∃s,A[k]?=K s:=⟨_,be hlt⟩;obtain⟨rv,c⟩:=HE.o;have CX:=hid c;have c1:=(c.below.cell (p:=⟨g0,0+k,Z⟩)<|apK<|HV.o k s hs).trans<|HV.o k s hs;rw[ir] at c1;have hsl:=HA.o s<|bB hs;have RO:=RN.o k s hs;have htk:A.take (k+1)=A.take k++[s]:=(by rw[fg,hs];rfl);have hfl:=zB Xs A k;have N:H (∀j∈(cV Xs<|A.take k).1++[s],j<bs.length):=λj hj=>(by rcases dm.1 hj with h|h;exact HA.o j (DH Xs A k j h);rw[cI.1 h];exact hsl);have P:H (cV Xs (A.take<|k+1)=iO Xs (cV Xs<|A.take k) s):=(by show cV Xs (A.take<|k+1)=_;rw[htk,rV]);have W:=hid RO;have iH:(k:Int)<(A.length:Int):=U;have hrl:rv.length<=k:=(by rw[c.len];exact hfl.2);have hol:=hfl.1;have ho3:=c.oo;have hbz:=c.below.size;clear c HE RO htk hs hfl;generalize cV Xs (A.take k)=st at*;obtain⟨O,Rs⟩:=st;simp only at*;have t:(wr.alloc<|.cells #[aF (K ⟨bx bs s,0,Z⟩)] 175).heap[wr.heap.size]?=K (.cells #[aF (K ⟨bx bs s,0,Z⟩)] 175 (0,0)):=aa _ _;have x:(wr.alloc<|.cells #[aF (K ⟨bx bs s,0,Z⟩)] 175).ownsRow w.heap.size 175 1 u4 O.length (bU<|O.map<|bx bs):=bH ho3 λk q=>ad _ _ _ (bn ho3 k q).2;clear ho3;go_wp2_with (at_builtin;refine nE rfl rL underlying132 x t (wr.heap.size+1) ?_;intro g' b w8 fX mO z jW);have n:=CX.o.IA s _ mO fX z;have f:(O++[s]).length=O.length+1:=E;have HI8:=hid n;obtain⟨gX,cX,RQ,_,_,hcX,hcm,hd1,hd2⟩:=li n.oo E;have hcap:O.length+1<=b/\b<=9223372036854775807:=(by injection RQ with _ _ h3;unfold maxLen at hcm;omega);have hIc:=F.o (O++[s]) s g' b w8 (by rw[f];have:=n.oo;rw[f] at this;exact this) n.below N.o hsl E U;rw[f] at hIc;have RU:=hid hIc;clear RQ hcX hcm hd1 hd2 hIc n fX mO z t x CX c1;refine RU.o.mono ?_;rintro e w9 ⟨rfl,zC⟩;have d:=hid<|HI8.o.keep zC;clear HI8 RU zC;by_cases hS:0<=iX Xs (O++[s]) s
  .have zA:=aeO Xs (O++[s]) s hS;have hTT:=W.o hS;obtain⟨R,Q⟩:=ajh hS;have l:H (cV Xs (A.take<|k+1)=((O++[s]).take R,Rs++[eH Xs ((O++[s]).drop R)])):=(by show cV Xs (A.take<|k+1)=_;rw[P.o];unfold iO;simp only;rw[y hS,Q];rfl);rw[Q,qJ] at zA hTT;rw[f] at zA;have hRO:=T.o (O++[s]) R g' b w9 (by rw[f];have:=d.o.oo;rw[f] at this;exact this) d.o.below N.o U U hTT;rw[f] at hRO;have o:=hid hRO;rw[Q];have Iw:(R:Int)≥0:=U;have al3:(R:Int)<=(O.length:Int)+1:=U;have hRc:(R:Int)<=(b:Int):=U;have hcR:¬b=R:=U;clear hRO hTT W P hS Q;go_wp2_with fail;refine o.o.mono ?_;rintro e wA ⟨lv,rfl,hoA,vx⟩;have B:=hid<|d.o.keep vx;obtain⟨so,ln,lc,rfl⟩:∃so ln lc,lv=D so ln lc:=(by rcases hoA.2 with⟨h,_⟩|⟨_,_,_,h,_⟩;exact⟨_,_,_,h⟩;exact⟨_,_,_,h⟩);have hro:=B.o.ro;have al4:=B.o.below.size;have hB9:=d.o.below.size;have hlB:∀k,(D (K ⟨g',0,Z⟩) (O.length+1) b).ownBlock=K k\/u3.ownBlock=K k->k<w9.heap.size:=λk q=>(by rcases q with q|q;exact(bn d.o.oo k q).2;exact(bn d.o.ro k q).2)
   have RX:=hid hlB;have RY:=hid hoA;have t:(wA.alloc<|.cells #[D so ln lc] 185).heap[wA.heap.size]?=K (.cells #[D so ln lc] 185 (0,0)):=aa _ _;have x:(wA.alloc<|.cells #[D so ln lc] 185).ownsRow w.heap.size 185 1 u3 rv.length rv:=bH hro λk q=>ad _ _ _ (bn hro k q).2;clear hoA vx o d hro hlB;go_wp2_with (at_builtin;refine nE rfl RK underlying183 x t (wA.heap.size+1) ?_;intro gB u wB RZ Sa C Oe);have Sb:H (RI bs w (D (K ⟨g',0,Z⟩) R b) (D (K ⟨gB,0,Z⟩) (rv.length+1) u) ((O++[s]).take R) (Rs++[eH Xs ((O++[s]).drop R)]) (rv++[D so ln lc]) wB):=
    (B.o.IB RY.o hB9 RX.o _ Sa RZ C).IC (by rw[f];omega) f.symm
   have L:H (∃Sc,RI bs w (D (K ⟨g',0,Z⟩) R b) (D (K ⟨gB,0,Z⟩) (rv.length+1) u) (cV Xs<|A.take<|k+1).1 (cV Xs<|A.take<|k+1).2 Sc wB):=(by show ∃Sc,_;rw[l.o];exact⟨_,Sb.o⟩);clear B RY RX RZ Sa C t x Sb l;go_wp2_with fail;go_roundg (gk-1);(case measure=>omega);case rel=>exact⟨k+1,U,af,L.o⟩
  .have l:H (cV Xs (A.take<|k+1)=(O++[s],Rs)):=(by show cV Xs (A.take<|k+1)=_;rw[P.o];unfold iO;simp only;rw[X hS]);have L:H (∃rv,RI bs w (D (K ⟨g',0,Z⟩) (O.length+1) b) u3 (cV Xs<|A.take<|k+1).1 (cV Xs<|A.take<|k+1).2 rv w9):=(by show ∃rv,_;rw[l.o];exact⟨rv,d.o⟩);clear d l P W N T F;generalize iX Xs (O++[s]) s=S at*;go_wp2_with fail;go_roundg (gk-1);(case measure=>omega);case rel=>exact⟨k+1,U,af,L.o⟩
 have q:k=A.length:=U;subst q;obtain⟨rv,c⟩:=HE.o;rw[dV] at c;have HF:=hid c;clear c HE HV RN F T HA;go_wp2_with fail;go_ret;exact⟨u3,u4,_,rv,rfl,HF.o⟩
def dl(Xs:V PB)(r:V Nat):Bool:=decide (0<fn (xi Xs<|r.getLastD 0) (xi Xs<|r.headD 0))
theorem aeU(c d f k m:Nat)(B:Bool)(g n cap b a:Nat)(w:G)(t:0<n)(r:n<=85000000)(cl:w.cell? ⟨g,n-1,Z⟩=K (aF<|K ⟨b,0,Z⟩))(cf:w.cell? ⟨g,0,Z⟩=K (aF<|K ⟨a,0,Z⟩))(v:w.cell? ⟨b,0,Z⟩=K (A C c d))(s:w.cell? ⟨a,0,Z⟩=K (A C f k))
  (p:H (∀w,M 101 #[A C c d,A C f k] w λe w'=>e=aJ (aA C m)/\w'=w))(q:(C.format.order m 0 == K .gt)=B):
  M 113 #[D (K ⟨g,0,Z⟩) n cap] w (ai (aC B) w):=by have:J.wrap ((n:Int)-1)=((n-1:Nat):Int):=(by rw[ah];omega);have:((n-1:Nat):Int)<(n:Int):=U;have:(0:Int)<(n:Int):=U;subst q;go_enter func113,ntmps113;go_wp2_with fail;go_region_held3 (λw'=>w'.cell? ⟨g,n-1,Z⟩=K (aF<|K ⟨b,0,Z⟩)/\w'.cell? ⟨g,0,Z⟩=K (aF<|K ⟨a,0,Z⟩)/\w'.cell? ⟨b,0,Z⟩=K (A C c d)/\w'.cell? ⟨a,0,Z⟩=K (A C f k)) (go_keep) ((go_at_call 101;refine(p.o _).mono ?_;rintro e x ⟨rfl,l⟩;subst l));all_goals (go_wp2_with fail;go_ret;exact⟨rfl,(Below.refl _ _).drew⟩)
theorem aeV(bs:V Nat)(Xs:V PB)(Q:BD Xs)(g:Nat)(mk:Nat->Bool)(ow:Nat->Option Nat)(w:G)(m:SW g bs Xs mk ow w)(r:V Nat)(p:r≠[])(s:r.length<=85000000)(k:∀a∈r,a<bs.length)(base:Nat)(v:Y)(H:w.ownsRow base 175 1 v r.length (bU<|r.map<|bx bs)):
  M 113 #[v] w (ai (aC<|dl Xs r) w):=by have c:=m.len;obtain⟨o,i,rfl,_,E,_,_,_,hcell⟩:=li H (by simp_all);have n:=fT.2 p;have hlast:r[r.length-1]?=K (r.getLastD 0):=(by grind);have b:r[0]?=K (r.headD 0):=(by cases r with|nil=>grind|cons a l=>rfl);have f:=k _<|bB hlast;have d:=k _<|bB b;have z:=m.rb.at (by rw[<-c];exact f);have y:=m.rb.at (by rw[<-c];exact d);obtain⟨R,B⟩:=Q.ld _<|gm (by rw[<-c];exact f);obtain⟨S,P⟩:=Q.ld _<|gm (by rw[<-c];exact d);obtain⟨L,j,F⟩:=zn B P;have q:=BI j jU;have t:=hcell (r.length-1) (bx bs<|r.getLastD 0) (by grind);have x:=hcell 0 (bx bs<|r.headD 0) (by grind);rw[ir] at t x;refine aeU _ _ _ _ L (dl Xs r) o r.length i _ _ w n s t x z.c0 y.c0 F ?_;rw[q];unfold dl;rw[<-zm B P];simp
def og(P:V Nat->Bool):V (V Nat)->Nat->Int
 |[],_=> -1
 |b::r,k=>if P b then(k:Int) else og P r (k+1)
theorem aeW(P:V Nat->Bool)(Rs:V (V Nat))(rv:V Y)(a:rv.length=Rs.length)(g cap:Nat)(w:G)(N:rv.length<=85000000)
  (z:H (∀(i:Nat) v,rv[i]?=K v->w.cell? ⟨g,i,Z⟩=K v/\∃u n c,v=D u n c))
  (y:H (∀(i:Nat) v r,rv[i]?=K v->Rs[i]?=K r->∀w',ag w w'->M 113 #[v] w' (ai (aC<|P r) w'))):
  M 169 #[D (K ⟨g,0,Z⟩) rv.length cap,.func (.func 113) #[] #[]] w (ai (I J<|og P Rs 0) w):=by go_enter func169,ntmps169;have o:H (og P (Rs.drop 0) 0=og P Rs 0):=rfl;have p:=hid a;clear a;go_wp2_with fail;go_loopg [8] rv.length (λm L wr=>∃k:Nat,k+m=rv.length/\L=I J k/\H (ag w wr/\og P (Rs.drop k) k=og P Rs 0));(case atStart=>exact⟨0,U,rfl,Below.refl _ _,o.o⟩);case round=>obtain⟨k,F,rfl,b⟩:=hrel;clear o;by_cases t:k<rv.length;(.obtain⟨v,Q⟩:∃v,rv[k]?=K v:=⟨_,be t⟩;obtain⟨r,S⟩:∃r,Rs[k]?=K r:=⟨_,be (by rw[<-p.o];exact t)⟩;obtain⟨x,u,O,sc,rfl⟩:=z.o k v Q;have R:=apK x;have A:=aR b.o.1 x R;have l:=hid<|y.o k _ r Q S wr b.o.1;have d:H ((if P r then(k:Int) else og P (Rs.drop<|k+1) (k+1))=og P Rs 0):=(by have:=b.o.2;rw[qx S] at this;exact this);have E:(k:Int)<(rv.length:Int):=U;clear x Q S;go_wp2_with fail;refine l.o.mono ?_;rintro e T ⟨rfl,s⟩;have f:=hid<|b.o.1.trans<|s.mono b.o.1.size;clear l s A;generalize P r=B at*;cases B;(.have q:=hid d.o;clear d;go_wp2_with fail;go_roundg (gk-1);(case measure=>omega);case rel=>exact⟨k+1,U,af,f.o,q.o⟩);have q:=hid d.o;go_wp2_with fail;go_ret;exact⟨by rw[<-q.o];rfl,f.o⟩);have C:k=rv.length:=U;subst C;have q:H ((-1:Int)=og P Rs 0):=(by have:=b.o.2;rw[p.o,KA] at this;exact this);go_wp2_with fail;go_ret;exact⟨by rw[<-q.o];rfl,b.o.1⟩
theorem Se{P:V Nat->Bool}:∀(l:V (V Nat))(k:Nat),decide (0<=og P l k)=l.any P
 |[],_=>rfl
 |a::l,k=>by show decide (0<=(if P a then(k:Int) else og P l (k+1)))=(P a||l.any P);by_cases b:P a=aP;grind;rw[X b,Se l<|k+1];grind
theorem aeX(S:Int)(g n cap:Nat)(w:G)
  (a:H (M 169 #[D (K ⟨g,0,Z⟩) n cap,.func (.func 113) #[] #[]] w (ai (I J S) w))):
  M 112 #[D (K ⟨g,0,Z⟩) n cap,.func (.func 113) #[] #[]] w (ai (aC<|decide (0<=S)) w):=by go_enter func112,ntmps112;go_wp2_with fail;refine a.o.mono ?_;rintro e w1 ⟨rfl,b⟩;go_wp2_with fail;go_ret;exact⟨rfl,b⟩
theorem aeY(X1 X2 X3 X F2 T1 T2 x P r:Nat)(F3 T3 N3:Int)(FA TA GB:Bool)(b:Nat)(w:G)
  (a0:w.cell? ⟨b,0,Z⟩=K (A C X1 X2))(a1:w.cell? ⟨b,1,Z⟩=K (aA C X3))(a2:w.cell? ⟨b,2,Z⟩=K (A C X F2))(a3:w.cell? ⟨b,3,Z⟩=K (I J F3))(a4:w.cell? ⟨b,4,Z⟩=K (A C T1 T2))(a5:w.cell? ⟨b,5,Z⟩=K (I J T3))
  (HF:H (∀w,M 100 #[u #[A C x P,I J N3],u #[A C X F2,I J F3]] w λe w'=>e=aJ (aC FA)/\Below w.heap.size w w'))
  (HT:H (∀w,M 100 #[u #[A C x P,I J N3],u #[A C T1 T2,I J T3]] w λe w'=>e=aJ (aC TA)/\Below w.heap.size w w'))
  (HL:H (∀w,M 97 #[u #[A C X1 X2,aA C X3],u #[A C x P,I J N3]] w λe w'=>e=aJ (aA C r)/\Below w.heap.size w w'))
  (hr:(C.format.order r 0 == K .gt)=GB):
  M 170 #[aF (K ⟨b,0,Z⟩),u #[A C x P,I J N3]] w λe w'=>e=aJ (aC (!FA&&TA&&GB))/\Below w.heap.size w w':=by
 have t:=apK a0;have q:Below w.heap.size w (w.alloc<|.cells #[A C x P,I J N3] 83):=(Below.refl _ _).alloc (aX _) _;have hE:=aa w<|.cells #[A C x P,I J N3] 83;have:w.heap.size<(w.alloc<|.cells #[A C x P,I J N3] 83).heap.size:=E;go_enter func170,ntmps170;go_wp2_with fail;have z0:=apL hE 0;have z1:=apL hE 1;obtain⟨z2,z3,z4,z5⟩:=ajE q t a0 a1 a2 a3;have z6:=aR q a4 t;have z7:=aR q a5 t;generalize w.alloc (.cells #[A C x P,I J N3] 83)=W at*;generalize R:w.heap.size=B at*;have p:B<W.heap.size:=U;have f:b<W.heap.size:=U;have aeZ:=q;have i:∀Q,Below W.heap.size W.drew Q->Below B w Q:=λQ h=>(aeZ.drew).trans<|h.mono<|du p;cases FA
 .cases TA
  ·
   refine aN (S:=(λw'=>w'.cell? ⟨B,0,Z⟩=K (A C x P)/\w'.cell? ⟨B,1,Z⟩=K (I J N3)/\w'.cell? ⟨b,0,Z⟩=K (A C X1 X2)/\w'.cell? ⟨b,1,Z⟩=K (aA C X3)/\w'.cell? ⟨b,2,Z⟩=K (A C X F2)/\w'.cell? ⟨b,3,Z⟩=K (I J F3)/\w'.cell? ⟨b,4,Z⟩=K (A C T1 T2)/\w'.cell? ⟨b,5,Z⟩=K (I J T3))) z ⟨z0,z1,z2,z3,z4,z5,z6,z7⟩<|λhHeld=>?_
   iterate 6
    (
     refine gY (oi:=⟨_,_,_,_,_,_⟩) (v:=?_) rfl rfl (by rfl) hHeld ?_ ?_;rotate_left
     .intro w' l;obtain⟨j,o,y,F,L,N,O,T⟩:=l;go_simp
      try with_reducible rfl
     simp only[Act.put,dh,di,cQ])
   refine aI (rs:=[6]) z E ?_;refine aK rfl (λa hK=>?_) AllReadyH.nil;go_simp;refine(HF.o _).mono ?_;rintro e Q ⟨rfl,c⟩;have n:=bg p c.size;have g:=bg f c.size;have l0:=aR c z0 p;have l1:=aR c z1 p;obtain⟨l2,l3,l4,l5⟩:=ajE c f z2 z3 z4 z5;have l6:=aR c z6 f;have l7:=aR c z7 f;go_wp2_with fail;refine hK.out _ _ ⟨l0,l1,l2,l3,l4,l5,l6,l7⟩<|λhHeld=>?_
   try simp only[Act.put,dh,di,cQ]
   iterate 8
    (
     refine gY (oi:=⟨_,_,_,_,_,_⟩) (v:=?_) rfl rfl (by rfl) hHeld ?_ ?_;rotate_left
     .intro w' l;obtain⟨j,o,y,F,L,N,O,T⟩:=l;go_simp
      try with_reducible rfl
     simp only[Act.put,dh,di,cQ])
   refine aI (rs:=[15]) z E ?_;refine aK rfl (λa hK=>?_) AllReadyH.nil;go_simp;refine(HT.o _).mono ?_;rintro e w6 ⟨rfl,d⟩;have m0:=aR d l0 n;have m1:=aR d l1 n;obtain⟨m2,m3,m4,m5⟩:=ajE d g l2 l3 l4 l5;have m6:=aR d l6 g;have m7:=aR d l7 g;go_wp2_with fail;refine hK.out _ _ ⟨m0,m1,m2,m3,m4,m5,m6,m7⟩<|λhHeld=>?_
   try simp only[Act.put,dh,di,cQ]
   iterate 2
    (
     refine gY (oi:=⟨_,_,_,_,_,_⟩) (v:=?_) rfl rfl (by rfl) hHeld ?_ ?_;rotate_left
     .intro w' l;obtain⟨j,o,y,F,L,N,O,T⟩:=l;go_simp
      try with_reducible rfl
     simp only[Act.put,dh,di,cQ])
   iterate 8
    (
     refine pL (oi:=⟨_,_,_,_,_,_⟩) rfl rfl hHeld ?_;simp only[Act.put,dh,di,cQ])
   iterate 2
    (
     refine gY (oi:=⟨_,_,_,_,_,_⟩) (v:=?_) rfl rfl (by rfl) hHeld ?_ ?_;rotate_left
     .intro w' l;obtain⟨j,o,y,F,L,N,O,T⟩:=l;go_simp
      try with_reducible rfl
     simp only[Act.put,dh,di,cQ])
   refine aO z ?_ _;go_wp2_with fail;go_ret;exact⟨rfl,by rw[R];exact(i _ c).trans<|d.mono<|du n⟩
  ·
   go_region_held3 (λw'=>atb w' B (A C x P) (I J N3)/\atd w' b (A C X1 X2) (aA C X3) (A C X F2) (I J F3) (A C T1 T2) (I J T3)) (go_keep) (first
    |(go_at_call_of 100 (u #[A C X F2,I J F3]);refine(HF.o _).mono ?_;rintro e Q ⟨rfl,c⟩;have n:B<Q.heap.size:=bg p c.size;have g:b<Q.heap.size:=bg f c.size;have l0:=aR c z0 p;have l1:=aR c z1 p;obtain⟨l2,l3,l4,l5⟩:=ajE c f z2 z3 z4 z5;have l6:=aR c z6 f;have l7:=(aR c z7 f))
    |(go_at_call_of 100 (u #[A C T1 T2,I J T3]);refine(HT.o _).mono ?_;rintro e w6 ⟨rfl,d⟩;have s:B<w6.heap.size:=bg n d.size;have m:b<w6.heap.size:=bg g d.size;have m0:=aR d l0 n;have m1:=aR d l1 n;obtain⟨m2,m3,m4,m5⟩:=ajE d g l2 l3 l4 l5;have m6:=aR d l6 g;have m7:=(aR d l7 g))
    |(go_at_call 97;refine(HL.o _).mono ?_;rintro e w7 ⟨rfl,k⟩;have:B<w7.heap.size:=bg s k.size;have:b<w7.heap.size:=bg m k.size;have:=aR k m0 s;have:=aR k m1 s;have:=aR k m2 m;have:=aR k m3 m;have:=aR k m4 m;have:=aR k m5 m;have:=aR k m6 m;have:=(aR k m7 m)))
   all_goals
    go_wp2_with fail;go_ret;exact⟨E,by rw[R];exact((i _ c).trans<|d.mono<|du n).trans<|k.mono<|du s⟩
 ·
  refine aN (S:=(λw'=>w'.cell? ⟨B,0,Z⟩=K (A C x P)/\w'.cell? ⟨B,1,Z⟩=K (I J N3)/\w'.cell? ⟨b,0,Z⟩=K (A C X1 X2)/\w'.cell? ⟨b,1,Z⟩=K (aA C X3)/\w'.cell? ⟨b,2,Z⟩=K (A C X F2)/\w'.cell? ⟨b,3,Z⟩=K (I J F3)/\w'.cell? ⟨b,4,Z⟩=K (A C T1 T2)/\w'.cell? ⟨b,5,Z⟩=K (I J T3))) z ⟨z0,z1,z2,z3,z4,z5,z6,z7⟩<|λhHeld=>?_
  iterate 6
   (
    refine gY (oi:=⟨_,_,_,_,_,_⟩) (v:=?_) rfl rfl (by rfl) hHeld ?_ ?_;rotate_left
    .intro w' l;obtain⟨j,o,y,F,L,N,O,T⟩:=l;go_simp
     try with_reducible rfl
    simp only[Act.put,dh,di,cQ])
  refine aI (rs:=[6]) z E ?_;refine aK rfl (λa hK=>?_) AllReadyH.nil;go_simp;refine(HF.o _).mono ?_;rintro e Q ⟨rfl,c⟩;have l0:=aR c z0 p;have l1:=aR c z1 p;obtain⟨l2,l3,l4,l5⟩:=ajE c f z2 z3 z4 z5;have l6:=aR c z6 f;have l7:=aR c z7 f;go_wp2_with fail;refine hK.out _ _ ⟨l0,l1,l2,l3,l4,l5,l6,l7⟩<|λhHeld=>?_
  try simp only[Act.put,dh,di,cQ]
  iterate 2
   (
    refine gY (oi:=⟨_,_,_,_,_,_⟩) (v:=?_) rfl rfl (by rfl) hHeld ?_ ?_;rotate_left
    .intro w' l;obtain⟨j,o,y,F,L,N,O,T⟩:=l;go_simp
     try with_reducible rfl
    simp only[Act.put,dh,di,cQ])
  iterate 7
   (
    refine pL (oi:=⟨_,_,_,_,_,_⟩) rfl rfl hHeld ?_;simp only[Act.put,dh,di,cQ])
  iterate 2
   (
    refine gY (oi:=⟨_,_,_,_,_,_⟩) (v:=?_) rfl rfl (by rfl) hHeld ?_ ?_;rotate_left
    .intro w' l;obtain⟨j,o,y,F,L,N,O,T⟩:=l;go_simp
     try with_reducible rfl
    simp only[Act.put,dh,di,cQ])
  iterate 8
   (
    refine pL (oi:=⟨_,_,_,_,_,_⟩) rfl rfl hHeld ?_;simp only[Act.put,dh,di,cQ])
  iterate 2
   (
    refine gY (oi:=⟨_,_,_,_,_,_⟩) (v:=?_) rfl rfl (by rfl) hHeld ?_ ?_;rotate_left
    .intro w' l;obtain⟨j,o,y,F,L,N,O,T⟩:=l;go_simp
     try with_reducible rfl
    simp only[Act.put,dh,di,cQ])
  refine aO z ?_ _;go_wp2_with fail;go_ret;exact⟨rfl,by rw[R];exact i _ c⟩
theorem ID{x:PB}(a:LD x l){n:N.Nd}(b:iI n):∃r,Fl r (l.1*n.2.1-l.2.1*n.1-l.2.2*n.2.2)/\∀w,M 97 #[u #[A C x.wa x.wb,aA C x.sh],u #[A C (aM C n.1) (aM C n.2.1),I J n.2.2]] w (ai (aA C r) w):=
 Gj a.fl.a a.fl.b a.fl.s (mp (by have:=b.x;unfold sm;omega)) (mp (by have:=b.y;unfold sm;omega)) a.jH.1 a.jH.2.1 a.jH.2.2 (by have:=b.d;unfold sm;omega) (by have:=b.x;unfold sm;omega) (by have:=b.y;unfold sm;omega)
theorem ae0{x:PB}(a:LD x l)(d:0<x.f.2.2)(n:N.Nd):(l.1*n.2.1-l.2.1*n.1-l.2.2*n.2.2).sign=(N.L (W.wv x.f x.t)<|W.wv x.f n).sign:=by have b:x.f.2.2*(l.1*n.2.1-l.2.1*n.1-l.2.2*n.2.2)=l.1*(W.wv x.f n).2+l.2.1*(-(W.wv x.f n).1):=(by have h:=a.If;unfold W.wv;grind);have c:N.L (W.wv x.f x.t) (W.wv x.f n)=(db x.f x.t).1*(W.wv x.f n).2+(db x.f x.t).2.1*(-(W.wv x.f n).1):=(by rw[(oX x.f x.t).1,(oX x.f x.t).2];unfold N.L;grind);rw[c,<-Da a.par a.pos<|alR a.pos,<-b];have:=N.xD (k:=x.f.2.2) (z:=l.1*n.2.1-l.2.1*n.1-l.2.2*n.2.2) d;omega
def jB(Xs:V PB)(n:N.Nd)(i:Nat):Bool:=
 !decide (n.1*(xi Xs i).f.2.2<(xi Xs i).f.1*n.2.2)&&decide (n.1*(xi Xs i).t.2.2<(xi Xs i).t.1*n.2.2)&&decide (0<N.L (W.wv (xi Xs i).f (xi Xs i).t) (W.wv (xi Xs i).f n))
theorem ae1(bs:V Nat)(Xs:V PB)(s:BD Xs)(w:G)(g:Nat)(B:RB w g bs Xs)(n:N.Nd)(m:iI n)(i:Nat)(p:i<Xs.length):
  M 170 #[aF (K ⟨bx bs i,0,Z⟩),iQ n] w (ai (aC<|jB Xs n i) w):=by
 have c:=B.at p;have b:=s.v _<|gm p;obtain⟨l,v⟩:=s.ld _<|gm p;obtain⟨r,fr,x⟩:=ID v m;have q:=BI fr jU;have a:sm n.1/\sm n.2.1/\sm n.2.2:=by have:=m.x;have:=m.y;have:=m.d;unfold sm;omega
 have d:sm (xi Xs i).f.1/\sm (xi Xs i).f.2.1/\sm (xi Xs i).f.2.2:=by have:=b.f.x;have:=b.f.y;have:=b.f.d;unfold sm;omega
 have k:sm (xi Xs i).t.1/\sm (xi Xs i).t.2.1/\sm (xi Xs i).t.2.2:=by have:=b.t.x;have:=b.t.y;have:=b.t.d;unfold sm;omega
 have P:decide (0<l.1*n.2.1-l.2.1*n.1-l.2.2*n.2.2)=decide (0<N.L (W.wv (xi Xs i).f (xi Xs i).t) (W.wv (xi Xs i).f n)):=by
  have:=ae0 v b.cf.pos n;grind
 unfold iQ jB;exact aeY _ _ _ _ _ _ _ _ _ r _ _ _ _ _ _ (bx bs i) w c.c0 c.c1 c.c2 c.c3 c.c4 c.c5
  (λw=>BO (mp a.1) (mp a.2.1) (mp d.1) (mp d.2.1) d.1 d.2.1 a.2.2 d.2.2 a.1 a.2.1 w)
  (λw=>BO (mp a.1) (mp a.2.1) (mp k.1) (mp k.2.1) k.1 k.2.1 a.2.2 k.2.2 a.1 a.2.1 w)
  x (q.trans P)
theorem ae2(cf:Nat->Nat->Int)(a:Nat)(r:V Nat)(g lo cap O T:Nat)(N3:Int)(w:G)(hn:r.length<=85000000)
  (R:H (∀(i:Nat) b,(a::r)[i]?=K b->w.cell? ⟨g,lo+i,Z⟩=K (aF<|K ⟨b,0,Z⟩)))
  (N:H (∀b∈a::r,∀c∈a::r,∀w',ag w w'->M 172 #[u #[A C O T,I J N3],aF<|K ⟨b,0,Z⟩,aF<|K ⟨c,0,Z⟩] w' (ai (I J<|cf b c) w'))):
  M 171 #[D (K ⟨g,lo,Z⟩) (r.length+1) cap,.func (.func 172) #[u #[A C O T,I J N3]] #[]] w (ai (aF<|K ⟨cD cf r a,0,Z⟩) w):=by have S:=R.o 0 a rfl;rw[pA] at S;have x:=apK S;go_enter func171,ntmps171;go_wp2_with fail;go_loopg [5,6] r.length (λm mv iv wr=>∃k:Nat,k+m=r.length/\iv=I J (k+1:Nat)/\mv=aF (K ⟨cD cf (r.take k) a,0,Z⟩)/\H (ag w wr));(case atStart=>exact⟨0,U,rfl,rfl,Below.refl _ _⟩);case round=>obtain⟨k,hkn,rfl,rfl,n⟩:=hrel;by_cases z:k<r.length;(.obtain⟨b,P⟩:∃b,r[k]?=K b:=⟨_,be z⟩;have W:=(n.o.cell (p:=⟨g,lo+(k+1),Z⟩) x).trans (R.o (k+1) b<|by simpa using P);have v:b∈a::r:=bW _<|bB P;have B:cD cf (r.take k) a∈a::r:=(by rcases rP cf (r.take k) a with h|h;rw[h];simp;exact bW _ (kP h));have s:=hid<|N.o b v _ B wr n.o;have t:H (cD cf (r.take<|k+1) a=if cf b (cD cf (r.take k) a)<0 then b else cD cf (r.take k) a):=(by have F:r.take (k+1)=r.take k++[b]:=(by rw[fg,P];rfl);show cD cf (r.take<|k+1) a=_;rw[F,zo]);have:((k:Int)+1)<((r.length:Int)+1):=U;have o:=bg x n.o.size;clear S P v B;generalize cD cf (r.take k) a=d at*;go_wp2_with fail;refine s.o.mono ?_;rintro e w5 ⟨rfl,l⟩;have q:=hid<|n.o.trans<|l.mono n.o.size;have:=aR l W o;clear s l W;generalize cf b d=f at*;by_cases j:f<0;(.have Q:H (cD cf (r.take<|k+1) a=b):=(by rw[t.o,y j];rfl);go_wp2_with fail;go_roundg (gk-1);(case measure=>omega);case rel=>exact⟨k+1,U,af,by rw[Q.o],q⟩);.have Q:H (cD cf (r.take<|k+1) a=d):=(by rw[t.o,X j];rfl);have:decide (f<0)=aQ:=jd j;go_wp2_with fail;go_roundg (gk-1);(case measure=>omega);case rel=>exact⟨k+1,U,af,by rw[Q.o],q⟩);have Y:k=r.length:=U;subst Y;rw[dV];clear N R;go_wp2_with fail;go_ret;exact⟨rfl,n.o⟩
def eO(Xs:V PB)(n:N.Nd)(k:Nat):V Nat:=(List.range k).filter<|jB Xs n
theorem ae3(Xs:V PB)(n:N.Nd)(k:Nat):eO Xs n (k+1)=eO Xs n k++(if jB Xs n k then[k] else[]):=by unfold eO;rw[lZ,nr];grind
theorem IE(Xs:V PB)(n:N.Nd)(k:Nat):∀j∈eO Xs n k,j<k:=λ_ a=>gV.1 (et.1 a).1
theorem Sf(Xs:V PB)(n:N.Nd)(k:Nat):(eO Xs n k).length<=k:=by have:=pB (jB Xs n)<|List.range k;rw[Kz] at this;exact this
theorem ae4(bs:V Nat)(Xs:V PB)(n:N.Nd)(b c:Nat)(N3:Int)(g cap bM:Nat)(w:G)(hR:RB w g bs Xs)(hl:bs.length<=85000000)
  (HI:H (∀i,i<bs.length->∀w',ag w w'->M 170 #[aF (K ⟨bx bs i,0,Z⟩),u #[A C b c,I J N3]] w' (ai (aC<|jB Xs n i) w')))
  (HM:H (∀lv wr,wr.ownsRow w.heap.size 175 1 lv (eO Xs n bs.length).length (bU<|(eO Xs n bs.length).map<|bx bs)->ag w wr->M 171 #[lv,.func (.func 172) #[u #[A C b c,I J N3]] #[]] wr (ai (aF<|K ⟨bM,0,Z⟩) wr))):
  M 114 #[D (K ⟨g,0,Z⟩) bs.length cap,u #[A C b c,I J N3]] w (ai (aF<|K ⟨bM,0,Z⟩) w):=by have r:=hid hR;have X:=aa w<|.cells #[A C b c,I J N3] 83;have hs0:(w.alloc<|.cells #[A C b c,I J N3] 83).heap.size=w.heap.size+1:=E;have z:H ((w.alloc<|.cells #[A C b c,I J N3] 83).ownsRow (w.heap.size+1) 175 1 (D Z 0 0) (eO Xs n 0).length (bU<|(eO Xs n 0).map<|bx bs)/\ag w (w.alloc<|.cells #[A C b c,I J N3] 83)/\(w.alloc<|.cells #[A C b c,I J N3] 83).heap[w.heap.size]?=K (.cells #[A C b c,I J N3] 83 (0,0))/\w.heap.size+1<=(w.alloc<|.cells #[A C b c,I J N3] 83).heap.size):=⟨ak _ _ _ _,aj _ _,X,U⟩;clear hR X hs0;go_enter func114,ntmps114;go_wp2_with fail;generalize w.alloc (.cells #[A C b c,I J N3] 83)=W0 at*;go_loopg [5,10] bs.length (λm lv iv wr=>∃k:Nat,k+m=bs.length/\iv=I J k/\H (wr.ownsRow (w.heap.size+1) 175 1 lv (eO Xs n k).length (bU<|(eO Xs n k).map<|bx bs)/\ag w wr/\wr.heap[w.heap.size]?=K (.cells #[A C b c,I J N3] 83 (0,0))/\w.heap.size+1<=wr.heap.size));(case atStart=>exact⟨0,U,rfl,z.o⟩);case round=>obtain⟨k,hkn,rfl,HE⟩:=hrel;clear z;obtain⟨S,l,f,adG⟩:=HE.o;have t0:=bz f;have t1:=bw f;have a:H (wr.ownsRow (w.heap.size+1) 175 1 u5 (eO Xs n k).length (bU<|(eO Xs n k).map<|bx bs)/\ag w wr/\wr.heap[w.heap.size]?=K (.cells #[A C b c,I J N3] 83 (0,0))):=⟨S,l,f⟩;by_cases R:k<bs.length;(.have c1:=(l.cell (p:=⟨g,k,Z⟩)<|apK<|r.o.row k _<|rQ R).trans<|r.o.row k _<|rQ R;have F:=hid<|HI.o k R wr l;have s:=hid<|ae3 Xs n k;have:=Sf Xs n k;have:(k:Int)<(bs.length:Int):=U;clear S l f HE HI HM r;generalize jB Xs n k=B at*;generalize eO Xs n k=T at*;generalize hbb:bx bs k=bS at*;go_wp2_with fail;refine F.o.mono ?_;rintro e x ⟨rfl,q⟩;have d:=bH a.o.1 λk v=>q.block k (bn a.o.1 k v).2;have y:=hid<|a.o.2.1.trans<|q.mono U;have O:=hid<|(q.block _<|apJ a.o.2.2).trans a.o.2.2;have xK:w.heap.size+1<=x.heap.size:=(by have:=q.size;omega);have HBB:=hid hbb;clear q F a c1 t0 t1 hbb;cases B;(.have P:H (x.ownsRow (w.heap.size+1) 175 1 u5 (eO Xs n<|k+1).length (bU<|(eO Xs n<|k+1).map<|bx bs)/\ag w x/\x.heap[w.heap.size]?=K (.cells #[A C b c,I J N3] 83 (0,0))/\w.heap.size+1<=x.heap.size):=(by show _/\_;have e:eO Xs n (k+1)=T:=(by rw[s.o];simp);rw[e];exact⟨d,y.o,O.o,xK⟩);clear d s;go_wp2_with fail;go_roundg (gk-1);(case measure=>omega);case rel=>exact⟨k+1,U,af,P.o⟩);.have hnb:(x.alloc<|.cells #[aF (K ⟨bS,0,Z⟩)] 175).heap[x.heap.size]?=K (.cells #[aF (K ⟨bS,0,Z⟩)] 175 (0,0)):=aa _ _;have mj:(x.alloc<|.cells #[aF (K ⟨bS,0,Z⟩)] 175).ownsRow (w.heap.size+1) 175 1 u5 T.length (bU<|T.map<|bx bs):=bH d λk v=>ad _ _ _ (bn d k v).2;have Q:=hid d;clear d;go_wp2_with (at_builtin;refine ii rfl rL underlying132 mj hnb ?_;intro g' W w8 fX t jW);have P:H (w8.ownsRow (w.heap.size+1) 175 1 (D (K ⟨g',0,Z⟩) (T.length+1) W) (eO Xs n<|k+1).length (bU<|(eO Xs n<|k+1).map<|bx bs)/\ag w w8/\w8.heap[w.heap.size]?=K (.cells #[A C b c,I J N3] 83 (0,0))/\w.heap.size+1<=w8.heap.size):=(by show _/\_;have e:eO Xs n (k+1)=T++[k]:=(by rw[s.o];simp);rw[e,bG,abb];have e2:bU (T.map (bx bs)++[k].map (bx bs))=bU (T.map<|bx bs)++[aF (K ⟨bS,0,Z⟩)]:=(by simp[bU,HBB.o]);rw[e2];have hzz:=t.size;refine⟨fX,(y.o.alloc U _).grown t aq (λk v=>by have:=(bn Q.o k v).1;omega),?_,by simp at hzz;omega⟩;have hne:∀k,u5.ownBlock=K k->k≠w.heap.size:=λk v=>(by have:=(bn Q.o k v).1;omega);exact(t.block _ aq<|λe=>hne _ e.symm rfl).trans<|(ad _ _ _ U).trans O.o);clear fX t hnb mj Q s;go_wp2_with fail;go_roundg (gk-1);(case measure=>omega);case rel=>exact⟨k+1,U,af,P.o⟩);have v:k=bs.length:=U;subst v;have L:=hid<|HM.o u5 wr (mQ a.o.1 U) a.o.2.1;have o:=hid a.o.2.1;clear S l f HE HI HM r a;go_wp2_with fail;refine L.o.mono ?_;rintro e w9 ⟨rfl,Y⟩;have HF:=hid<|o.o.trans<|Y.mono U;clear Y L o;go_wp2_with fail;go_ret;exact⟨rfl,HF.o⟩
theorem ae5(z N X3 F O Y3 i j ra rb P Q im:Nat)(N3 p q R:Int)(b c:Nat)(w:G)
  (a0:w.cell? ⟨b,0,Z⟩=K (A C z N))(a1:w.cell? ⟨b,1,Z⟩=K (aA C X3))(c0:w.cell? ⟨c,0,Z⟩=K (A C F O))(c1:w.cell? ⟨c,1,Z⟩=K (aA C Y3))
  (HLa:H (∀w,M 97 #[u #[A C z N,aA C X3],u #[A C i j,I J N3]] w λe w'=>e=aJ (aA C ra)/\Below w.heap.size w w'))
  (HLb:H (∀w,M 97 #[u #[A C F O,aA C Y3],u #[A C i j,I J N3]] w λe w'=>e=aJ (aA C rb)/\Below w.heap.size w w'))
  (al6:∀t w,(binOp .mul t (aA C ra)<|aA C F).run prog w=.ok (aA C P) w)(al7:∀t w,(binOp .mul t (aA C rb)<|aA C z).run prog w=.ok (aA C Q) w)
  (GH:H (∀w,M 183 #[aA C P,aA C Q] w λr w'=>r=aJ (I J p)/\w'=w))
  (F9:H (∀w,M 101 #[A C z N,A C F O] w λe w'=>e=aJ (aA C im)/\w'=w))
  (xM:H (∀w,M 183 #[aA C im,aA C 0] w λr w'=>r=aJ (I J q)/\w'=w))
  (HO:H (∀b cap w,w.cell? ⟨b,0,Z⟩=K (I J p)->w.cell? ⟨b,1,Z⟩=K (I J q)->M 182 #[D (K ⟨b,0,Z⟩) 2 cap] w λr w'=>r=aJ (I J R)/\w'=w)):
  M 172 #[u #[A C i j,I J N3],aF<|K ⟨b,0,Z⟩,aF<|K ⟨c,0,Z⟩] w λe w'=>e=aJ (I J R)/\Below w.heap.size w w':=by have hbz:=apK a0;have hcz:=apK c0;have m:Below w.heap.size w (w.alloc<|.cells #[A C i j,I J N3] 83):=(Below.refl _ _).alloc (aX _) _;have hE:=aa w<|.cells #[A C i j,I J N3] 83;have hz:w.heap.size<(w.alloc<|.cells #[A C i j,I J N3] 83).heap.size:=E;go_enter func172,ntmps172;go_wp2_with fail;have z0:=apL hE 0;have z1:=apL hE 1;have z2:=aR m a0 hbz;have z3:=aR m a1 hbz;have z4:=aR m c0 hcz;have z5:=aR m c1 hcz;generalize w.alloc (.cells #[A C i j,I J N3] 83)=W at*;generalize hBB:w.heap.size=B at*;have S:B<W.heap.size:=U;have o:b<W.heap.size:=U;have y:c<W.heap.size:=U;have aeZ:=m;clear hE hz a0 a1 c0 c1 m;go_region_held3 (λw'=>atb w' B (A C i j) (I J N3)/\atb w' b (A C z N) (aA C X3)/\atb w' c (A C F O) (aA C Y3)) (go_keep) (first|(go_at_call_of 97 (u #[A C z N,aA C X3]);refine(HLa.o _).mono ?_;rintro e w5 ⟨rfl,a⟩;have k:B<w5.heap.size:=bg S a.size;have n:b<w5.heap.size:=bg o a.size;have v:c<w5.heap.size:=bg y a.size;have l0:=aR a z0 S;have l1:=aR a z1 S;have l2:=aR a z2 o;have l3:=aR a z3 o;have l4:=aR a z4 y;have l5:=aR a z5 y;have T:Below B w w5:=aeZ.drew.trans<|a.mono<|du S)|(go_at_call_of 97 (u #[A C F O,aA C Y3]);refine(HLb.o _).mono ?_;rintro e L ⟨rfl,d⟩;have l:B<L.heap.size:=bg k d.size;have s:b<L.heap.size:=bg n d.size;have x:c<L.heap.size:=bg v d.size;have m0:=aR d l0 k;have m1:=aR d l1 k;have m2:=aR d l2 n;have m3:=aR d l3 n;have m4:=aR d l4 v;have m5:=aR d l5 v;have V:Below B w L:=T.trans<|d.mono<|du k)|(go_at_call_of 183 (aA C P);refine(GH.o _).mono ?_;rintro e w7 ⟨rfl,g⟩;replace g:=g.symm;subst g)|(go_at_call 101;refine(F9.o _).mono ?_;rintro e w7 ⟨rfl,g⟩;replace g:=g.symm;subst g)|(go_at_call_of 183 (aA C im);refine(xM.o _).mono ?_;rintro e w7 ⟨rfl,g⟩;replace g:=g.symm;subst g)|(go_at_call 182;refine(HO.o _ _ _ (apL (aa _ _) 0) (apL (aa _ _) 1)).mono ?_;rintro e w8 ⟨rfl,hw8⟩;have f:Below L.heap.size L w8:=(by(rw[hw8];exact(Below.refl _ _).alloc (aX _) _));have:B<w8.heap.size:=bg l f.size;have:b<w8.heap.size:=bg s f.size;have:c<w8.heap.size:=bg x f.size;have:=aR f m0 l;have:=aR f m1 l;have:=aR f m2 s;have:=aR f m3 s;have:=aR f m4 x;have:=aR f m5 x;have X:Below B w w8:=V.trans (f.mono (du l));clear hw8));all_goals (go_wp2_with fail;go_ret;exact⟨rfl,by rw[hBB];exact X⟩)
def zD(n:N.Nd)(x y:PB):Int:=(N.L (W.wv x.f x.t) (W.wv x.f n)*(y.f.2.2*(W.wv y.f y.t).1)-N.L (W.wv y.f y.t) (W.wv y.f n)*(x.f.2.2*(W.wv x.f x.t).1)).sign
def oh(n:N.Nd)(x y:PB):Int:=if zD n x y=0 then fn x y else zD n x y
theorem Sh{x:PB}(f:LD x l)(n:N.Nd):∃c b:Int,0<c/\0<b/\b*(x.f.2.2*(l.1*n.2.1-l.2.1*n.1-l.2.2*n.2.2))=c*N.L (W.wv x.f x.t) (W.wv x.f n)/\b*l.1=c*(W.wv x.f x.t).1:=by have k:=f.par;have a:=f.pos;have h:=f.If;rw[(oX x.f x.t).1,(oX x.f x.t).2] at k a;refine⟨l.1*(W.wv x.f x.t).1+l.2.1*(W.wv x.f x.t).2,N.i (W.wv x.f x.t)<|W.wv x.f x.t,a,W.dI ?_,?_,?_⟩;grind;have g:x.f.2.2*(l.1*n.2.1-l.2.1*n.1-l.2.2*n.2.2)=l.1*(W.wv x.f n).2-l.2.1*(W.wv x.f n).1:=(by have e0:(W.wv x.f n).1=x.f.2.2*n.1-n.2.2*x.f.1:=rfl;have d:(W.wv x.f n).2=x.f.2.2*n.2.1-n.2.2*x.f.2.1:=rfl;grind);rw[g];generalize W.wv x.f x.t=D at*;generalize W.wv x.f n=v at*;unfold N.i N.L;grind;generalize W.wv x.f x.t=D at*;unfold N.i;grind
theorem ae7{x y:PB}(R:LD x l)(S:LD y m)(e:0<x.f.2.2)(f:0<y.f.2.2)(n:N.Nd):((l.1*n.2.1-l.2.1*n.1-l.2.2*n.2.2)*m.1-(m.1*n.2.1-m.2.1*n.1-m.2.2*n.2.2)*l.1).sign=zD n x y:=by
 obtain⟨r,c,o,w,t,v⟩:=Sh R n;obtain⟨s,d,u,C,P,Q⟩:=Sh S n;unfold zD;generalize l.1*n.2.1-l.2.1*n.1-l.2.2*n.2.2=A at*;generalize m.1*n.2.1-m.2.1*n.1-m.2.2*n.2.2=B at*;generalize N.L (W.wv x.f x.t) (W.wv x.f n)=g at*;generalize N.L (W.wv y.f y.t) (W.wv y.f n)=h at*;generalize(W.wv x.f x.t).1=k at*;generalize(W.wv y.f y.t).1=p at*;generalize x.f.2.2=a at*;generalize y.f.2.2=b at*;have i:0<c*d*(a*b):=bD (bD w C)<|bD e f;have j:0<r*s:=bD o u;rw[<-N.xD (z:=A*m.1-B*l.1) i,<-N.xD (z:=g*(b*p)-h*(a*k)) j];congr 1;grind
theorem ae8(x y:PB)(a:LD x l)(d:LD y m)(s:0<x.f.2.2)(v:0<y.f.2.2)(n:N.Nd)(h:iI n)(b c:Nat)(w:G)(p:il w b x)(R:il w c y):
  M 172 #[iQ n,aF<|K ⟨b,0,Z⟩,aF<|K ⟨c,0,Z⟩] w (ai (I J<|oh n x y) w):=by
 obtain⟨O,z,q⟩:=ID a h;obtain⟨T,fb,r⟩:=ID d h;have B:∀(k:N.Ln),k.1.natAbs<=100->k.2.1.natAbs<=100->k.2.2.natAbs<=10000->(k.1*n.2.1-k.2.1*n.1-k.2.2*n.2.2).natAbs<=1000000000:=λk F H L=>by
  have:(k.1*n.2.1).natAbs<=100*3000000:=by rw[kz];exact uj F h.y
  have:(k.2.1*n.1).natAbs<=100*3000000:=by rw[kz];exact uj H h.x
  have:(k.2.2*n.2.2).natAbs<=10000*20000:=by rw[kz];exact uj L (by have:=h.d;omega)
  omega
 have ba:=B l a.b1 a.b2 a.b3;have bb:=B m d.b1 d.b2 d.b3;have:((l.1*n.2.1-l.2.1*n.1-l.2.2*n.2.2)*m.1).natAbs<=1000000000*100:=by rw[kz];exact uj ba d.b1
 have:((m.1*n.2.1-m.2.1*n.1-m.2.2*n.2.2)*l.1).natAbs<=1000000000*100:=by rw[kz];exact uj bb a.b1
 obtain⟨P,S,o⟩:=z.mul d.fl.a U;obtain⟨Q,i,u⟩:=fb.mul a.fl.a U;obtain⟨E,j,D⟩:=zn a d;have f:=λw=>tF o u w;rw[ae7 a d s v n] at f;have g:=λw=>tF j jU w;rw[uu,zm a d] at g;unfold iQ;exact ae5 _ _ _ _ _ _ _ _ O T P Q E _ _ _ _ b c w p.c0 p.c1 R.c0 R.c1 q r (λt w=>ahy (P:=prog) w .mul t C _ _ P S) (λt w=>ahy (P:=prog) w .mul t C _ _ Q i) f D g<|λb cap w A p=>Cs _ _ b cap w A p
def gI(Xs:V PB)(n:N.Nd):Nat:=cD (λi j=>oh n (xi Xs i)<|xi Xs j) (eO Xs n Xs.length).tail<|(eO Xs n Xs.length).headD 0
theorem Si{Xs:V PB}{n:N.Nd}(h:eO Xs n Xs.length≠[]):gI Xs n∈eO Xs n Xs.length:=by unfold gI;generalize eO Xs n Xs.length=T at*;cases T with|nil=>grind|cons a t=>rcases rP (λi j=>oh n (xi Xs i)<|xi Xs j) t a with e|e;grind;grind
theorem ae9(bs:V Nat)(Xs:V PB)(l:BD Xs)(f:bs.Nodup)(n:N.Nd)(O:iI n)(g cap:Nat)(w:G)(s:RB w g bs Xs)(F:eO Xs n Xs.length≠[]):
  M 114 #[D (K ⟨g,0,Z⟩) bs.length cap,iQ n] w (ai (aF<|K ⟨bx bs<|gI Xs n,0,Z⟩) w):=by
 have d:=s.len;have o:bs.length<=85000000:=(by rw[d];exact l.len);refine ae4 bs Xs n _ _ _ g cap (bx bs<|gI Xs n) w s o (λi y w' p=>ae1 bs Xs l w' g (s.below p) n O i (by omega)) ?_;intro lv wr W p;rw[d] at W;have Q:∀j∈eO Xs n Xs.length,j<Xs.length:=IE Xs n Xs.length;have R:=Sf Xs n Xs.length;have:=l.len;have q:gI Xs n=cD (λi j=>oh n (xi Xs i)<|xi Xs j) (eO Xs n Xs.length).tail ((eO Xs n Xs.length).headD 0):=rfl;rw[q];generalize eO Xs n Xs.length=T at*;obtain⟨h,tr,rfl⟩:∃h tr,T=h::tr:=(by cases T with|nil=>grind|cons a t=>simp)
 obtain⟨gT,X,rfl,_,_,_,_,_,hcell⟩:=li W E;have P:=s.below p;have L:=ae2 (λb B=>oh n (xi Xs<|bs.idxOf b)<|xi Xs<|bs.idxOf B) (bx bs h) (tr.map<|bx bs) gT 0 X (aM C n.1) (aM C n.2.1) n.2.2 wr (by grind)
  (λi b y=>hcell i b y)
  (λb h1 c h2 H hw=>by
   have r:∀b,b∈bx bs h::tr.map (bx bs)->∃j,j<Xs.length/\b=bx bs j:=λb p=>by
    grind
   obtain⟨j1,v,rfl⟩:=r b h1;obtain⟨j2,x,rfl⟩:=r c h2;have m:=P.below hw;rw[kK f (by omega),kK f (by omega)];obtain⟨l1,Y⟩:=l.ld _ (gm v);obtain⟨l2,d2⟩:=l.ld _ (gm x);exact ae8 _ _ Y d2 (l.v _ (gm v)).cf.pos (l.v _ (gm x)).cf.pos n O _ _ H (m.at v) (m.at x))
 have e1:cD (λb B=>oh n (xi Xs<|bs.idxOf b)<|xi Xs<|bs.idxOf B) (tr.map<|bx bs) (bx bs h)=bx bs (cD (λi j=>oh n (xi Xs i)<|xi Xs j) (h::tr).tail<|(h::tr).headD 0):=(by refine zq _ _ λj z k hk=>?_;simp only[kK f (by rw[d];exact Q j z),kK f (by rw[d];exact Q k hk)]);grind
abbrev VR:=Y×V Nat
def gb(P:V Nat->Bool)(a:VR)(Z:V VR):VR:=Z.foldl (λb p=>if P p.2 then p else b) a
def gd(P:V Nat->Bool)(Z:V VR):V VR:=Z.filter λp=> !P p.2
theorem afa(P:V Nat->Bool)(a:VR)(Z:V VR)(p:VR):gb P a (Z++[p])=if P p.2 then p else gb P a Z:=by unfold gb;simp
theorem afb(P:V Nat->Bool)(Z:V VR)(p:VR):gd P (Z++[p])=gd P Z++(if P p.2 then[] else[p]):=by unfold gd;grind
structure TK(w:G)(base pb:Nat)(hv:Y)(s' h':Y)(hs:V Y)(wr:G):Prop where
 jC:wr.heap[pb]?=K (.cells #[s',h'] 187 (0,0))
 own:wr.ownsRow base 185 1 h' hs.length hs
 mo:Mo (pb::hv.ownBlock.toList) w wr
 fresh:∀k,h'.ownBlock=K k->hv.ownBlock=K k\/w.heap.size<=k
 ne:h'.ownBlock≠K pb
theorem TK.below(h:TK w base pb hv s' h' hs wr)(a:ag wr w'):TK w base pb hv s' h' hs w':=
 ⟨(a.block _<|apJ h.jC).trans h.jC,bH h.own λk b=>a.block k (bn h.own k b).2,h.mo.trans<|Mo.of _ a,h.fresh,h.ne⟩
theorem TK.shell(h:TK w base pb hv s' h' hs wr)(v:Y):TK w base pb hv v h' hs (wr.setCell ⟨pb,0,Z⟩ v):=by refine⟨?_,bH h.own λk a=>aaj _ _ _ _ (λe=>h.ne<|by rw[a,e]),h.mo.trans<|Mo.setCell (pb::hv.ownBlock.toList) wr (p:=⟨pb,0,Z⟩) (E4 ..) v,h.fresh,h.ne⟩;rw[setCell_new h.jC];rfl
theorem TK.hole(h:TK w base pb hv s' h' hs wr)(q:pb<w.heap.size)(v:Y)(o:Obj)(g:(wr.alloc o).grownBy w8 h'.ownBlock)
  (m:w8.ownsRow base 185 1 (D (K ⟨g',0,Z⟩) (hs.length+1) cap') (hs.length+1) (hs++[v]))(a:h'.ownBlock=K g'\/g'=wr.heap.size+1):
  TK w base pb hv s' (D (K ⟨g',0,Z⟩) (hs.length+1) cap') (hs++[v]) (w8.setCell ⟨pb,1,Z⟩<|D (K ⟨g',0,Z⟩) (hs.length+1) cap'):=by
 have n:=apJ h.jC;have r:=h.mo.size;have b:w8.heap[pb]?=K (.cells #[s',h'] 187 (0,0)):=(g.block pb aq<|λe=>h.ne e.symm).trans<|(ad _ _ _ n).trans h.jC;have c:g'≠pb:=λe=>(by subst e;rcases a with a|a;exact h.ne a;omega);refine⟨?_,?_,?_,λk f=>?_,λe=>?_⟩;rw[setCell_new b];rfl
 .rw[bG];exact bH m λk f=>aaj _ _ _ _ (λe=>by
   have:g'=k:=by simpa[Value.ownBlock] using f
   grind)
 have s:Mo (pb::hv.ownBlock.toList) w w8:=(by refine h.mo.below ((Mo.alloc h'.ownBlock.toList wr o).trans<|Mo.grown g (λk f=>by grind)) λk f l=>?_;have d:h'.ownBlock=K k:=(by grind);rcases h.fresh k d with e|e;grind;omega);exact s.trans<|Mo.setCell (pb::hv.ownBlock.toList) w8 (p:=⟨pb,1,Z⟩) (E4 ..) _;have d:g'=k:=(by simpa[Value.ownBlock] using f);subst d;rcases a with a|a;exact h.fresh _ a;omega;have:g'=pb:=(by simpa[Value.ownBlock] using e);omega
theorem Sj(P:V Nat->Bool)(d:V VR)(x:VR)(s gR amR base:Nat)(R:Y)(t:V Y)(w:G)(hn:d.length<=85000000)(hhs:t.length<=85000000)(hbase:base<=w.heap.size)
  (hI:TK w base s R x.1 R t w)(hgR:gR≠s/\R.ownBlock≠K gR)
  (HV:H (∀(i:Nat) p,d[i]?=K p->w.cell? ⟨gR,i,Z⟩=K p.1/\∃u n c,p.1=D u n c))
  (HC:H (∀p∈d,∀w',Mo (s::R.ownBlock.toList) w w'->M 113 #[p.1] w' (ai (aC<|P p.2) w'))):
  M 115 #[aF (K ⟨s,0,Z⟩),D (K ⟨gR,0,Z⟩) d.length amR] w λe w'=>e=aJ (aG #[])/\∃f,TK w base s R (gb P x d).1 f (t++(gd P d).map (·.1)) w':=by
 have gh:H (∃f,TK w base s R (gb P x<|d.take 0).1 f (t++(gd P<|d.take 0).map (·.1)) w):=⟨R,by simpa[gb,gd] using hI⟩;have hpw:=apJ hI.jC;have z:=hid hgR;clear hI hgR;go_enter func115,ntmps115;go_wp2_with fail;go_loopg [8] d.length (λm iv wr=>∃k:Nat,k+m=d.length/\iv=I J k/\H (∃f,TK w base s R (gb P x<|d.take k).1 f (t++(gd P<|d.take k).map (·.1)) wr));case atStart=>exact⟨0,U,rfl,gh.o⟩
 case round=>
  obtain⟨k,hkn,rfl,HE⟩:=hrel;clear gh;by_cases hlt:k<d.length
  .obtain⟨p,hp⟩:∃p,d[k]?=K p:=⟨_,be hlt⟩;obtain⟨h',o⟩:=HE.o;obtain⟨c0,u,X,sc,hsv⟩:=HV.o k p hp;have tE:=apK c0;have c1:=(o.mo.cell (p:=⟨gR,k,Z⟩) tE (by
    intro hk;rcases bK.1 hk with e|e
    .exact z.o.1 e
    .exact z.o.2 (by simpa using e))).trans c0
   have hcall:=HC.o p (bB hp) wr o.mo;have W:d.take (k+1)=d.take k++[p]:=(by rw[fg,hp];rfl);have j:H (gb P x (d.take<|k+1)=if P p.2 then p else gb P x (d.take k)):=(by show gb P x (d.take<|k+1)=_;rw[W,afa]);have S:H (gd P (d.take<|k+1)=gd P (d.take k)++(if P p.2 then[] else[p])):=(by show gd P (d.take<|k+1)=_;rw[W,afb]);have C:H ((t++(gd P<|d.take k).map (·.1)).length<=85000000+k):=(by show _<=_;have:=pB (λp:VR=> !P p.2)<|d.take k;rw[bG,eK];unfold gd;rw[fU] at this;omega);have iH:(k:Int)<(d.length:Int):=U;obtain⟨v,r⟩:=p;simp only at*;subst hsv;have HCk:=hid hcall;have HTK:=hid o;clear c0 hp o HE hcall W;generalize(gb P x<|d.take k)=sa at*;generalize(gd P<|d.take k)=hb at*;have amT:H (t++hb.map (·.1)=t++hb.map (·.1)):=rfl;generalize hgl:t++hb.map (·.1)=hl at*;have HGL:=hid hgl;clear amT hgl;generalize P r=B at*;go_wp2_with fail;refine HCk.o.mono ?_;rintro e w5 ⟨rfl,jS⟩;have q:=HTK.o.below jS;have g:=hid q;have f0:=bE q.jC 0;have q0:=bz q.jC;have q1:=bw q.jC;clear HCk HTK c1 jS;have hbw:=q.mo.size;obtain⟨N,L,F,rfl⟩:∃a b c,h'=D a b c:=(by rcases q.own.2 with⟨h,_⟩|⟨_,_,_,h,_⟩;exact⟨_,_,_,h⟩;exact⟨_,_,_,h⟩);have hll:=C.o;clear q;cases B;(.have l:H (t++(gd P<|d.take<|k+1).map (·.1)=hl++[D u X sc]/\gb P x (d.take<|k+1)=sa):=(by refine⟨?_,j.o⟩;rw[S.o,abb,<-aaU,HGL.o];rfl);have hnb:(w5.alloc<|.cells #[D u X sc] 185).heap[w5.heap.size]?=K (.cells #[D u X sc] 185 (0,0)):=aa _ _;have T:=g.o.own;have rW:(w5.alloc<|.cells #[D u X sc] 185).ownsRow base 185 1 (D N L F) hl.length hl:=bH T λk hk=>ad _ _ _ (bn T k hk).2;have HP8:H (∀w8,(w5.alloc<|.cells #[D u X sc] 185).grownBy w8 (D N L F).ownBlock->w8.heap[s]?=K (.cells #[sa.1,D N L F] 187 (0,0))):=λw8 Q=>(Q.block s (by have:=apJ g.o.jC;simp;omega)<|λe=>g.o.ne e.symm).trans<|(ad _ _ _<|apJ g.o.jC).trans g.o.jC;clear T j S C;go_wp2_with (at_builtin;refine nE rfl RK underlying183 rW hnb (w5.heap.size+1) ?_;intro g' cap' w8 fX Q y jW;have O:=HP8.o w8 Q;have f81:=bE O 1;have c81:=bw O);have A:H (∃f,TK w base s R (gb P x<|d.take<|k+1).1 f (t++(gd P<|d.take<|k+1).map (·.1))<|w8.setCell ⟨s,1,Z⟩<|D (K ⟨g',0,Z⟩) (hl.length+1) cap'):=(by show ∃f,_;rw[l.o.1,l.o.2];exact⟨_,g.o.hole hpw _ _ Q fX y⟩);clear fX Q y O HP8 hnb rW g l;go_wp2_with fail;go_roundg (gk-1);(case measure=>omega);case rel=>exact⟨k+1,U,af,A.o⟩);.have l:H (t++(gd P<|d.take<|k+1).map (·.1)=hl/\gb P x (d.take<|k+1)=(D u X sc,r)):=(by refine⟨?_,j.o⟩;rw[S.o];simp only[jk,lY];exact HGL.o);have A:H (∃f,TK w base s R (gb P x<|d.take<|k+1).1 f (t++(gd P<|d.take<|k+1).map (·.1))<|w5.setCell ⟨s,0,Z⟩<|D u X sc):=(by show ∃f,_;rw[l.o.1,l.o.2];exact⟨_,g.o.shell _⟩);clear g l j S C q1;go_wp2_with fail;go_roundg (gk-1);(case measure=>omega);case rel=>exact⟨k+1,U,af,A.o⟩
  have hk:k=d.length:=U;subst hk;have HF:H (∃f,TK w base s R (gb P x d).1 f (t++(gd P d).map (·.1)) wr):=(by have:=HE.o;rw[dV] at this;exact this);clear HE HV HC z;go_wp2_with fail;go_end0;exact⟨rfl,HF.o⟩
end
end Go.Proofs.YtkjhhooecopolaaGreatDoor

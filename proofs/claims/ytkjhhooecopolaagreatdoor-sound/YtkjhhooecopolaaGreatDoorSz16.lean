import Derived.Test.YtkjhhooecopolaaGreatDoorSz15
import Derived.Test.YtkjhhooecopolaaGreatDoorSz11
set_option maxRecDepth 100000
set_option maxHeartbeats 4000000
namespace Go.Proofs.YtkjhhooecopolaaGreatDoor
open Tryz
open Value renaming int->az,complex->aA,float->aB,agg->aC,bool->aD,string->aF,slice->aG,pointer->aH,tuple->aI
open IntKind renaming i64->aJ
open FloatKind renaming f64->aK
open Ending renaming returned->aL
open Go renaming World->aM,Value->aN,floatOfInt->aO
namespace Gb
open Ge Ga
abbrev NP:=List Nd×List (List Nd)
def ndP(Xs:List PB)(p:Pg):NP:=(Go.Proofs.YtkjhhooecopolaaGreatDoor.fr Xs p.1,p.2.map (Go.Proofs.YtkjhhooecopolaaGreatDoor.fr Xs))
def fin(Xs:List PB):List NP:=(wG Xs (bH Xs Xs.length).ps).map (ndP Xs)
def yC(c:List Nd):List UInt8:=40::(Pl.bI Pl.dJ ((c++c.take 1).map Ge.aU)++[41])
def pS(F:List NP):List UInt8:=CP (F.map λp=>wH (yC p.1) (p.2.map yC))
theorem OB(Xs:List PB):yA Xs=pS (fin Xs):=by
 unfold yA pS fin Oq;rw[gq];congr 1;refine wS λp _=>?_
 show nI Xs p=wH (yC (Go.Proofs.YtkjhhooecopolaaGreatDoor.fr Xs p.1)) ((p.2.map (Go.Proofs.YtkjhhooecopolaaGreatDoor.fr Xs)).map yC);unfold nI;rw[gq];rfl
structure Canon(S:List Sg)(nx:Sg->Sg)(l:List Nd)(F:List NP):Prop where
 nd:∀p∈F,(∀n∈p.1,n∈l)/\∀h∈p.2,∀n∈h,n∈l
 c1:∀p∈F,∃R,LR S nx R/\shl R/\p.1.map (PM (aW l))=cM R/\∀h∈p.2,∃H,LR S nx H/\¬shl H/\h.map (PM (aW l))=cM H/\∀a∈R,∀s∈H,Fc S a s
 c2:∀R,LR S nx R->shl R->∃p∈F,p.1.map (PM (aW l))=cM R
 c3:∀H,LR S nx H->¬shl H->∃p∈F,∃h∈p.2,h.map (PM (aW l))=cM H
 s1:F.Pairwise λp q=>gD p.1 q.1<0
 s2:∀p∈F,p.2.Pairwise λa b=>gD a b<0
theorem Vp{α:Type}{lt:α->α->Prop}(CT:∀x,¬lt x x)(oI:∀x y,lt x y->¬lt y x):∀{A B:List α},A.Pairwise lt->B.Pairwise lt->(∀x,x∈A↔x∈B)->A=B
 |[],[],_,_,_=>rfl
 |[],b::B,_,_,h=>by have:=(h b).2 af;simp at this
 |a::A,[],_,_,h=>by have:=(h a).1 af;simp at this
 |a::A,b::B,hA,hB,h=>by
  obtain⟨a1,a2⟩:=gN.1 hA;obtain⟨b1,b2⟩:=gN.1 hB;have e:a=b:=by
   rcases bU.1 ((h a).1 af) with q|q
   .exact q
   .rcases bU.1 ((h b).2 af) with w|w
    .exact w.symm
    .exact absurd (a1 b w) (oI _ _ (b1 a q))
  subst e;congr 1;refine Vp CT oI a2 b2 λx=>?_
  constructor
  .intro hx;rcases bU.1 ((h x).1 (bV _ hx)) with q|q
   .exact absurd (a1 x hx) (by rw[q];exact CT _)
   .exact q
  .intro hx;rcases bU.1 ((h x).2 (bV _ hx)) with q|q
   .exact absurd (b1 x hx) (by rw[q];exact CT _)
   .exact q
theorem Vq{α β:Type}{k:α->β}{lt:β->β->Prop}(CT:∀x,¬lt x x):∀{A:List α},A.Pairwise (λx y=>lt (k x) (k y))->∀{x y},x∈A->y∈A->k x=k y->x=y
 |[],_,_,_,h,_,_=>by simp at h
 |a::A,hA,x,y,hx,hy,e=>by
  obtain⟨a1,a2⟩:=gN.1 hA;rcases bU.1 hx with q|q<;>rcases bU.1 hy with w|w
  .rw[q,w]
  .have:=a1 y w;rw[<-q,e] at this;exact absurd this (CT _)
  .have:=a1 x q;rw[<-w,e] at this;exact absurd this (CT _)
  .exact Vq CT a2 q w e
theorem OD(r:List Nd):¬gD r r<0:=by rw[Oe];omega
section
variable{es:List (Pt×Pt)}{l:List Nd}{S:List Sg}{nx:Sg->Sg}
theorem OE(hN:di es l):∀{a b:List Nd},(∀n∈a,n∈l)->(∀n∈b,n∈l)->a.map (PM (aW l))=b.map (PM (aW l))->a=b
 |[],[],_,_,_=>rfl
 |[],_::_,_,_,h=>by simp at h
 |_::_,[],_,_,h=>by simp at h
 |a::A,b::B,ha,hb,h=>by
  rw[gM,gM] at h;injection h with h1 h2;rw[vX hN (ha a af) (hb b af) h1,OE hN (λn hn=>ha n (by simp[hn])) (λn hn=>hb n (by simp[hn])) h2]
theorem afu(hN:di es l){a b:List Nd}(ha:∀n∈a,n∈l)(hb:∀n∈b,n∈l)(h:gD a b<0):¬gD b a<0:=λk=>by
 have:=Oh a b a (λn hn=>hN.can n (ha n hn)) (λn hn=>hN.can n (hb n hn)) (λn hn=>hN.can n (ha n hn)) h k
 rw[Oe] at this;omega
theorem Canon.eq(h:Wd S nx)(hN:di es l){F F':List NP}(c:Canon S nx l F)(c':Canon S nx l F'):F=F':=by
 have half:∀{F F':List NP},Canon S nx l F->Canon S nx l F'->∀p∈F,∃p'∈F',p'.1=p.1/\∀x∈p.2,x∈p'.2:=by
  intro F F' c c' p hp;obtain⟨R,r1,r2,r3,r4⟩:=c.c1 p hp;obtain⟨p',hp',e'⟩:=c'.c2 R r1 r2;have k1:p'.1=p.1:=OE hN (c'.nd p' hp').1 (c.nd p hp).1 (e'.trans r3.symm);refine⟨p',hp',k1,λx hx=>?_⟩
  obtain⟨H,h1,h2,h3,h4⟩:=r4 x hx;obtain⟨p'',OG,y,hy,ey⟩:=c'.c3 H h1 h2;have exy:y=x:=OE hN ((c'.nd p'' OG).2 y hy) ((c.nd p hp).2 x hx) (ey.trans h3.symm);obtain⟨R'',s1,s2,s3,s4⟩:=c'.c1 p'' OG;obtain⟨H'',t1,t2,t3,t4⟩:=s4 y hy;have eH:H''=H:=t1.Gt h h1 (t3.symm.trans ey);rw[eH] at t4;obtain⟨a,_,ha,_⟩:=mE r1.ring.ne;obtain⟨a'',_,afv,_⟩:=mE s1.ring.ne;obtain⟨b,_,hb,_⟩:=mE h1.ring.ne;have eR:R=R'':=r1.one h s1 r2 s2 ha afv ((h4 a (rQ ha) b (rQ hb)).trans (t4 a'' (rQ afv) b (rQ hb)).symm);have k2:p''.1=p'.1:=OE hN (c'.nd p'' OG).1 (c'.nd p' hp').1 (by rw[s3,e',eR])
  have k3:p''=p':=Vq (k:=Prod.fst) (lt:=λa b=>gD a b<0) OD c'.s1 OG hp' k2
  rw[<-k3,<-exy];exact hy
 have full:∀{F F':List NP},Canon S nx l F->Canon S nx l F'->∀p∈F,p∈F':=by
  intro F F' c c' p hp;obtain⟨p',hp',e1,e2⟩:=half c c' p hp;obtain⟨q,hq,f1,f2⟩:=half c' c p' hp';have:q=p:=Vq (k:=Prod.fst) (lt:=λa b=>gD a b<0) OD c.s1 hq hp (f1.trans e1)
  rw[this] at f2;have eh:p.2=p'.2:=by
   have hin:∀x∈p.2,∀n∈x,n∈l:=λx hx=>(c.nd p hp).2 x hx
   have hin':∀x∈p'.2,∀n∈x,n∈l:=λx hx=>(c'.nd p' hp').2 x hx
   refine Vp (lt:=λa b=>(∀n∈a,n∈l)/\(∀n∈b,n∈l)/\gD a b<0) (λx k=>OD x k.2.2) (λx y k k2=>afu hN k.1 k.2.1 k.2.2 k2.2.2) ?_ ?_ λx=>⟨e2 x,f2 x⟩
   .exact wU (λha hb k=>⟨hin _ ha,hin _ hb,k⟩) (c.s2 p hp)
   .exact wU (λha hb k=>⟨hin' _ ha,hin' _ hb,k⟩) (c'.s2 p' hp')
  have:p=p':=dN e1.symm eh;rw[this];exact hp'
 have hin:∀{F:List NP},Canon S nx l F->F.Pairwise (λp q=>(∀n∈p.1,n∈l)/\(∀n∈q.1,n∈l)/\gD p.1 q.1<0):=λc=>wU (λha hb k=>⟨(c.nd _ ha).1,(c.nd _ hb).1,k⟩) c.s1
 exact Vp (lt:=λp q:NP=>(∀n∈p.1,n∈l)/\(∀n∈q.1,n∈l)/\gD p.1 q.1<0) (λx k=>OD x.1 k.2.2) (λx y k k2=>afu hN k.1 k.2.1 k.2.2 k2.2.2) (hin c) (hin c') λx=>⟨full c c' x,full c' c x⟩
variable{S':List Sg}{nx':Sg->Sg}
theorem arj{a x y:Pt}(ha:a≠(0,0))(hx:x≠(0,0))(hy:y≠(0,0))(h1:bg x a=false)(h2:bg y a=false)(h3:bg x y=false):cw a x y=true\/cw a y x=true:=by
 have t1:=jx hx ha;have t2:=jx hy ha;have t3:=jx hx hy;rw[h1] at t1;rw[h2] at t2;rw[h3] at t3;rw[oc,oc];cases a1:bf x a<;>cases a2:bf a x<;>rw[a1,a2] at t1<;>simp[bb] at t1<;>cases b1:bf y a<;>cases b2:bf a y<;>rw[b1,b2] at t2<;>simp[bb] at t2<;>cases c1:bf x y<;>cases c2:bf y x<;>rw[c1,c2] at t3<;>simp[bb] at t3<;>simp
theorem ark(h:Wd S nx)(h':Wd S' nx')(hS:∀s,s∈S↔s∈S'){s:Sg}(hs:s∈S):nx s=nx' s:=by
 obtain⟨a1,a2⟩:=h.DA s hs;obtain⟨b1,b2⟩:=h'.DA s ((hS s).1 hs);have sW:=(hS _).2 b1;have k1:=h.w1 s hs _ sW b2;have k2:=h'.w1 s ((hS s).1 hs) _ ((hS _).1 a1) a2;cases q:bg (dr (nx s)) (dr (nx' s))
 .rcases arj (kE (h.gw hs)) (h.gw a1) (h.gw sW) (h.two _ a1 _ hs a2) (h.two _ sW _ hs b2) q with w|w
  .rw[k2] at w;cases w
  .rw[k1] at w;cases w
 .exact h.one _ a1 _ sW (a2.trans b2.symm) q
theorem Vr(h:Wd S nx)(h':Wd S' nx')(hS:∀s,s∈S↔s∈S'){s:Sg}(hs:s∈S):∀k,it nx k s=it nx' k s
 |0=>rfl
 |k+1=>by
  show nx (it nx k s)=nx' (it nx' k s);rw[<-Vr h h' hS hs k];exact ark h h' hS (h.pY hs k)
theorem LR.same(h:Wd S nx)(h':Wd S' nx')(hS:∀s,s∈S↔s∈S'){R:List Sg}(k:LR S nx R):LR S' nx' R:=by
 have od:∀{s t},t∈S->vd nx s t->vd nx' s t:=by
  rintro s t ht ⟨e,n,e1,e2⟩;refine⟨e,n,by rw[<-Vr h h' hS ht];exact e1,λj j1 j2=>?_⟩
  rw[<-Vr h h' hS ht];exact e2 j j1 j2
 refine⟨⟨k.ring.ne,λs hs=>(hS s).1 (k.ring.mem s hs),k.ring.o6,λi s t hs ht=>od (k.ring.mem t (bA ht)) (k.ring.od i s t hs ht),λs t hs ht=>od (k.ring.mem t (rQ ht)) (k.ring.cls s t hs ht)⟩,k.least⟩
theorem Fc.same(hS:∀s,s∈S↔s∈S'){s u:Sg}(k:Fc S s u):Fc S' s u:=λes hc hi=>k es hc λe he=>by
 rcases hi e he with q|q
 .exact aS ((hS _).2 q)
 .exact aR ((hS _).2 q)
theorem Canon.same(h:Wd S nx)(h':Wd S' nx')(hS:∀s,s∈S↔s∈S'){F:List NP}(c:Canon S nx l F):Canon S' nx' l F:=by
 have bY:∀s,s∈S'↔s∈S:=λs=>(hS s).symm
 refine⟨c.nd,λp hp=>?_,λR hR=>c.c2 R (hR.same h' h bY),λH hH=>c.c3 H (hH.same h' h bY),c.s1,c.s2⟩
 obtain⟨R,r1,r2,r3,r4⟩:=c.c1 p hp;refine⟨R,r1.same h h' hS,r2,r3,λx hx=>?_⟩
 obtain⟨H,h1,h2,h3,h4⟩:=r4 x hx;exact⟨H,h1.same h h' hS,h2,h3,λa ha s hs=>(h4 a ha s hs).same hS⟩
end
theorem JC{β:Type}(cf:β->β->Int)(L:List β)(hO:Sort.SWO (ltOf λi j:Fin L.length=>cf L[i] L[j])):(jS cf L).Perm L/\(jS cf L).Pairwise (λx y=>¬cf y x<0):=by
 unfold jS;by_cases h:0<L.length
 .rw[yN h];obtain⟨hd,p3,p4⟩:=U8 _ hO h;refine⟨?_,?_⟩
  .have k:=p3.map (λi:Fin L.length=>L[i])
   have e3:(Array.ofFn (id:Fin L.length->Fin L.length)).toList.map (λi:Fin L.length=>L[i])=L:=by
    apply AO
    .simp
    .intro i h1 h2;simp
   rw[e3] at k;exact k
  .rw[lF,lW];intro i j hi hj hij;exact p4 i j (by simpa using hi) (by simpa using hj) hij
 .rw[FV h];have:L=[]:=iX.1 aa
  subst this;exact⟨Kb _,List.Pairwise.nil⟩
section
variable{rg:List (List Pt)}{l:List Nd}{r:Int}{Xs:List PB}
theorem Rel.nodes(h:SX rg l r Xs){q:List Nat}(hq:∀a∈q,a<Xs.length):∀n∈Go.Proofs.YtkjhhooecopolaaGreatDoor.fr Xs q,n∈l:=λn hn=>by
 obtain⟨a,ha,rfl⟩:=bQ.1 hn;exact(SX.rF h (hq a ha)).1
theorem SX.canon(h:SX rg l r Xs)(hB:BD Xs):Canon (sS (aW l) Xs) (lh (aW l) Xs) l (fin Xs):=by
 have hW:=SX.wd h hB;obtain⟨PL,e1,hok,OH⟩:=SX.ym h hB;have Fv:=h.pn hB Xs.length (aY _);have arl:(sS (aW l) Xs).Nodup:=by
  unfold sS;rw[List.Nodup,lF,lW];intro i j hi hj hij e;have gx:∀{i:Nat}(hi:i<Xs.length),xi Xs i=Xs[i]:=λhi=>vU (bo hi)
  have:=SX.EX h hi hj (by rw[gx hi,gx hj];exact e)
  omega
 have hnd:(lD PL).Nodup:=OH.nodup_iff.2 arl;obtain⟨nd1,nd2⟩:=ahA.1 hnd;rw[lF] at nd2;have aro:∀p∈PL,(yt p).Nodup:=λp hp=>nd1 _ (bQ.2 ⟨p,hp,rfl⟩)
 have yD:∀p∈PL,(∀a∈p.1.1,a<Xs.length)/\∀z∈p.2,∀a∈z.1,a<Xs.length:=λp hp=>by
  have:=Fv (oU p) (by rw[e1];exact bQ.2 ⟨p,hp,rfl⟩)
  exact⟨this.1.lt,λz hz=>(this.2 z.1 (bQ.2 ⟨z,hz,rfl⟩)).lt⟩
 have can:∀q:List Nat,(∀a∈q,a<Xs.length)->∀n∈Go.Proofs.YtkjhhooecopolaaGreatDoor.fr Xs q,Ge.Can n:=λq hq n hn=>h.nl.can n (Rel.nodes h hq n hn)
 have hole:∀p∈PL,(jS (tD Xs) (p.2.map Prod.fst)).Perm (p.2.map Prod.fst)/\((jS (tD Xs) (p.2.map Prod.fst)).map (Go.Proofs.YtkjhhooecopolaaGreatDoor.fr Xs)).Pairwise λa b=>gD a b<0:=λp hp=>by
  obtain⟨s1,s2⟩:=JC (tD Xs) (p.2.map Prod.fst) (yw (λi:Fin (p.2.map Prod.fst).length=>Go.Proofs.YtkjhhooecopolaaGreatDoor.fr Xs (p.2.map Prod.fst)[i]) λi a ha=>by
   have hm:(p.2.map Prod.fst)[i]∈p.2.map Prod.fst:=iw _;obtain⟨z,hz,e⟩:=bQ.1 hm;have ha':a∈Go.Proofs.YtkjhhooecopolaaGreatDoor.fr Xs (p.2.map Prod.fst)[i]:=ha;rw[<-e] at ha';exact can z.1 ((yD p hp).2 z hz) a ha')
  refine⟨s1,?_⟩;have hk:(p.2.map λz=>Go.Proofs.YtkjhhooecopolaaGreatDoor.fr Xs z.1).Nodup:=by
   have hd:=(Pq.1 (aro p hp)).2.1;obtain⟨_,d2⟩:=ahA.1 hd;rw[lF] at d2;rw[List.Nodup,lF];refine wU (λ{z w} hz hw k e=>?_) d2
   have rz:=((hok p hp).hole z hz).1;have JD:=((hok p hp).hole w hw).1;have ee:=rz.lr.Gt hW JD.lr (by rw[<-rz.cM,<-JD.cM,e])
   obtain⟨a,_,ha,_⟩:=mE rz.lr.ring.ne;have ma:=rQ ha;exact k a ma a (by rw[<-ee];exact ma) rfl
  have hk2:((jS (tD Xs) (p.2.map Prod.fst)).map (Go.Proofs.YtkjhhooecopolaaGreatDoor.fr Xs)).Nodup:=by
   refine((s1.map (Go.Proofs.YtkjhhooecopolaaGreatDoor.fr Xs)).nodup_iff).2 ?_;rw[gq];exact hk
  rw[lF];rw[List.Nodup,lF] at hk2;refine wU (λ{x y} hx hy k=>?_) (s2.and hk2)
  have mem:∀x∈jS (tD Xs) (p.2.map Prod.fst),∀n∈Go.Proofs.YtkjhhooecopolaaGreatDoor.fr Xs x,Ge.Can n:=λx hx=>by
   obtain⟨z,hz,rfl⟩:=bQ.1 (s1.mem_iff.1 hx);exact can z.1 ((yD p hp).2 z hz)
  rcases Og (Go.Proofs.YtkjhhooecopolaaGreatDoor.fr Xs x) (Go.Proofs.YtkjhhooecopolaaGreatDoor.fr Xs y) (mem x hx) (mem y hy) with q|q|q
  .exact q
  .exact absurd q k.1
  .exact absurd q k.2
 have hsw:Sort.SWO (ltOf λi j:Fin ((bH Xs Xs.length).ps.map (eK Xs)).length=>oQ Xs ((bH Xs Xs.length).ps.map (eK Xs))[i] ((bH Xs Xs.length).ps.map (eK Xs))[j]):=
  yw (λi:Fin ((bH Xs Xs.length).ps.map (eK Xs)).length=>Go.Proofs.YtkjhhooecopolaaGreatDoor.fr Xs ((bH Xs Xs.length).ps.map (eK Xs))[i].1) λi a ha=>by
   have hm:((bH Xs Xs.length).ps.map (eK Xs))[i]∈(bH Xs Xs.length).ps.map (eK Xs):=iw _;obtain⟨g,hg,eg⟩:=bQ.1 hm;have hg':g∈PL.map oU:=by rw[<-e1];exact hg
   obtain⟨p,hp,rfl⟩:=bQ.1 hg';have ha':a∈Go.Proofs.YtkjhhooecopolaaGreatDoor.fr Xs ((bH Xs Xs.length).ps.map (eK Xs))[i].1:=ha;have e2:((bH Xs Xs.length).ps.map (eK Xs))[i].1=p.1.1:=by rw[<-eg];rfl
   rw[e2] at ha';exact can p.1.1 (yD p hp).1 a ha'
 obtain⟨t1,t2⟩:=JC (oQ Xs) ((bH Xs Xs.length).ps.map (eK Xs)) hsw;have hmem:∀x,x∈fin Xs↔∃p∈PL,x=(Go.Proofs.YtkjhhooecopolaaGreatDoor.fr Xs p.1.1,(jS (tD Xs) (p.2.map Prod.fst)).map (Go.Proofs.YtkjhhooecopolaaGreatDoor.fr Xs)):=λx=>by
  unfold fin wG;rw[bQ];constructor
  .rintro⟨g,hg,rfl⟩;have:=t1.mem_iff.1 hg;rw[e1,gq] at this;obtain⟨p,hp,rfl⟩:=bQ.1 this;exact⟨p,hp,rfl⟩
  .rintro⟨p,hp,rfl⟩;refine⟨eK Xs (oU p),t1.mem_iff.2 ?_,rfl⟩;rw[e1,gq];exact bQ.2 ⟨p,hp,rfl⟩
 have find:∀R,LR (sS (aW l) Xs) (lh (aW l) Xs) R->∃p∈PL,p.1.2=R\/∃z∈p.2,z.2=R:=λR hR=>by
  obtain⟨a,_,ha,_⟩:=mE hR.ring.ne;have ma:=rQ ha;obtain⟨L,hL,UH⟩:=Dj.1 (OH.mem_iff.2 (hR.ring.mem a ma));obtain⟨p,hp,rfl⟩:=bQ.1 hL;rcases dF.1 UH with q|q
  .exact⟨p,hp,aS ((hok p hp).shell.lr.eq hW hR q ma)⟩
  .obtain⟨H,hH,haH⟩:=Dj.1 q;obtain⟨z,hz,rfl⟩:=bQ.1 hH;exact⟨p,hp,aR ⟨z,hz,((hok p hp).hole z hz).1.lr.eq hW hR haH ma⟩⟩
 refine⟨λx hx=>?_,λx hx=>?_,λR hR hs=>?_,λH hH hs=>?_,?_,λx hx=>?_⟩
 .obtain⟨p,hp,rfl⟩:=(hmem x).1 hx;refine⟨Rel.nodes h (yD p hp).1,λy hy=>?_⟩
  obtain⟨q,hq,rfl⟩:=bQ.1 hy;obtain⟨z,hz,rfl⟩:=bQ.1 ((hole p hp).1.mem_iff.1 hq);exact Rel.nodes h ((yD p hp).2 z hz)
 .obtain⟨p,hp,rfl⟩:=(hmem x).1 hx;have ok:=hok p hp;refine⟨p.1.2,ok.shell.lr,ok.Vm,ok.shell.cM,λy hy=>?_⟩
  obtain⟨q,hq,rfl⟩:=bQ.1 hy;obtain⟨z,hz,rfl⟩:=bQ.1 ((hole p hp).1.mem_iff.1 hq);exact⟨z.2,(ok.hole z hz).1.lr,(ok.hole z hz).2,(ok.hole z hz).1.cM,ok.part z hz⟩
 .obtain⟨p,hp,q|⟨z,hz,q⟩⟩:=find R hR
  .exact⟨_,(hmem _).2 ⟨p,hp,rfl⟩,by rw[<-q];exact(hok p hp).shell.cM⟩
  .rw[<-q] at hs;exact absurd hs ((hok p hp).hole z hz).2
 .obtain⟨p,hp,q|⟨z,hz,q⟩⟩:=find H hH
  .rw[<-q] at hs;exact absurd (hok p hp).Vm hs
  .exact⟨_,(hmem _).2 ⟨p,hp,rfl⟩,Go.Proofs.YtkjhhooecopolaaGreatDoor.fr Xs z.1,bQ.2 ⟨z.1,(hole p hp).1.mem_iff.2 (bQ.2 ⟨z,hz,rfl⟩),rfl⟩,by rw[<-q];exact((hok p hp).hole z hz).1.cM⟩
 .unfold fin wG;rw[lF];have hk:((bH Xs Xs.length).ps.map (eK Xs)).Pairwise λa b=>Go.Proofs.YtkjhhooecopolaaGreatDoor.fr Xs a.1≠Go.Proofs.YtkjhhooecopolaaGreatDoor.fr Xs b.1:=by
   rw[e1,gq,lF];refine wU (λ{p q} hp hq k e=>?_) nd2
   have rz:=(hok p hp).shell;have JD:=(hok q hq).shell;have e':Go.Proofs.YtkjhhooecopolaaGreatDoor.fr Xs p.1.1=Go.Proofs.YtkjhhooecopolaaGreatDoor.fr Xs q.1.1:=e;have ee:=rz.lr.Gt hW JD.lr (by rw[<-rz.cM,<-JD.cM,e'])
   obtain⟨a,_,ha,_⟩:=mE rz.lr.ring.ne;have ma:=rQ ha;exact k a (Ap _ ma) a (Ap _ (by rw[<-ee];exact ma)) rfl
  have hk2:(jS (oQ Xs) ((bH Xs Xs.length).ps.map (eK Xs))).Pairwise λa b=>Go.Proofs.YtkjhhooecopolaaGreatDoor.fr Xs a.1≠Go.Proofs.YtkjhhooecopolaaGreatDoor.fr Xs b.1:=t1.symm.pairwise hk (λk e=>k e.symm)
  refine wU (λ{x y} hx hy k=>?_) (t2.and hk2)
  have mem:∀x∈jS (oQ Xs) ((bH Xs Xs.length).ps.map (eK Xs)),∀n∈Go.Proofs.YtkjhhooecopolaaGreatDoor.fr Xs x.1,Ge.Can n:=λx hx=>by
   have:=t1.mem_iff.1 hx;rw[e1,gq] at this;obtain⟨p,hp,rfl⟩:=bQ.1 this;exact can p.1.1 (yD p hp).1
  rcases Og (Go.Proofs.YtkjhhooecopolaaGreatDoor.fr Xs x.1) (Go.Proofs.YtkjhhooecopolaaGreatDoor.fr Xs y.1) (mem x hx) (mem y hy) with q|q|q
  .exact q
  .exact absurd q k.1
  .exact absurd q k.2
 .obtain⟨p,hp,rfl⟩:=(hmem x).1 hx;exact(hole p hp).2
theorem arq{DZ:List (List Pt)}{r':Int}{JE:List PB}(h:SX rg l r Xs)(hB:BD Xs)(h':SX DZ l r' JE)(hB':BD JE)(hs:∀a b,Sd (aT rg) l (takes r) a b↔Sd (aT DZ) l (takes r') a b):yA Xs=yA JE:=by
 have hW:=SX.wd h hB;have hW':=SX.wd h' hB';have hS:∀s,s∈sS (aW l) Xs↔s∈sS (aW l) JE:=λs=>by
  unfold sS;rw[bQ,bQ];constructor
  .rintro⟨x,hx,rfl⟩;obtain⟨y,hy,e1,e2⟩:=h'.all _ _ ((hs _ _).1 (h.mem x hx));exact⟨y,hy,by unfold ph;rw[e1,e2]⟩
  .rintro⟨x,hx,rfl⟩;obtain⟨y,hy,e1,e2⟩:=h.all _ _ ((hs _ _).2 (h'.mem x hx));exact⟨y,hy,by unfold ph;rw[e1,e2]⟩
 rw[OB,OB,((SX.canon h hB).same hW hW' hS).eq hW' h'.nl (SX.canon h' hB')]
end
end Gb
section
open Go.RowKit
theorem ars(s:ByteArray)(r:Int)(w:aM)(hm:s.size<=maxLen)(CU:Gl w)(h0:(Pl.err s.data.toList).1≠0):
  ak 39 #[aF s,az .u8 r] w λe w'=>e=aL (aI #[aF ⟨#[]⟩,az aJ (Pl.err s.data.toList).1,az aJ (Pl.err s.data.toList).2])/\aj w w':=by
 have hne:(((Pl.err s.data.toList).1:Int) != 0)=true:=by rw[Az];omega
 have HR:Hid (∀w1,Gl w1->ak 33 #[aF s] w1 λe w'=>aj w1 w'/\∃pv,e=aL (aI #[aH pv,az aJ (Pl.err s.data.toList).1,az aJ (Pl.err s.data.toList).2])):=λw1 g1=>by
  refine(LC s w1 hm g1).mono ?_;rintro e w' ⟨hb,pv,rfl,_⟩;exact⟨hb,pv,rfl⟩
 generalize(Pl.err s.data.toList).1=E at*;generalize(Pl.err s.data.toList).2=Pp at*;clear h0
 go_enter func39,ntmps39
 go_wp2_with fail
 refine(HR.out _ CU).mono ?_;rintro e w1 ⟨hb1,pv,rfl⟩
 go_wp2_with fail
 refine bodyPost_ret (v:=aI #[aF ⟨#[]⟩,az aJ E,az aJ Pp]) (by simp[results,results39,go_sem]) rfl ⟨rfl,hb1⟩
theorem afx(s:ByteArray)(hm:s.size<=maxLen)(h0:(Pl.err s.data.toList).1=0):∀w1,Gl w1->ak 33 #[aF s] w1 λe w'=>aj w1 w'/\∃rb rv,e=aL (aI #[aH (some ⟨rb,0,none⟩),az aJ 0,az aJ 0])/\
  w'.cell? ⟨rb,6,none⟩=some rv/\rb<w'.heap.size/\BB w' rv (Pl.rings s.data.toList):=λw1 g1=>by
 have hp2:=(BA h0).2.1;refine(LC s w1 hm g1).mono ?_;rintro e w' ⟨hb,pv,rfl,mJ⟩;obtain⟨rb,rfl,_,hR⟩:=mJ h0;obtain⟨c,t,r,tv,rv,hc,hl',hbk,hown,art⟩:=hR;exact⟨hb,rb,rv,by rw[h0,hp2];rfl,cell_of hbk 6,lt_of_heap hbk,ajY art⟩
theorem aru(s:ByteArray)(r:Int)(w:aM)(hm:s.size<=maxLen)(CU:Gl w)(h0:(Pl.err s.data.toList).1=0)(hr:Ge.rule r=false):
  ak 39 #[aF s,az .u8 r] w λe w'=>e=aL (aI #[aF ⟨#[]⟩,az aJ 4,az aJ 0])/\aj w w':=by
 have HR:Hid (∀w1,Gl w1->ak 33 #[aF s] w1 λe w'=>aj w1 w'/\∃rb rv,e=aL (aI #[aH (some ⟨rb,0,none⟩),az aJ 0,az aJ 0])/\
  w'.cell? ⟨rb,6,none⟩=some rv/\rb<w'.heap.size/\BB w' rv (Pl.rings s.data.toList)):=afx s hm h0
 have HI:Hid (∀w,ak 66 #[az .u8 r] w λe w'=>e=aL (aD false)/\w'=w):=λw=>by
  have:=ZM r w;rw[hr] at this;exact this
 clear hr h0
 go_enter func39,ntmps39
 go_wp2_with fail
 refine(HR.out _ CU).mono ?_;rintro e w1 ⟨hb1,rb,rv,rfl,_⟩;have zO:Hid (aj w w1):=hb1;clear hb1 HR
 go_wp2_with fail
 refine(HI.out _).mono ?_;rintro e w2 ⟨rfl,rfl⟩;clear HI
 go_wp2_with fail
 refine bodyPost_ret (v:=aI #[aF ⟨#[]⟩,az aJ 4,az aJ 0]) (by simp[results,results39,go_sem]) rfl ⟨rfl,zO.out⟩
def CV(rg:List (List Ge.Pt))(r:Int)(TX:List UInt8):Prop:=∃Ps l,l.map Ge.aU=Ge.ja (Ge.aT rg)/\(∀n∈l,Ge.Can n)/\qi (Ge.aT rg) l Ps/\(oG r (Ge.aT rg) Ps).length<=85000000/\TX=yA (oG r (Ge.aT rg) Ps)
theorem arv(s:ByteArray)(r:Int)(w:aM)(hm:s.size<=maxLen)(CU:Gl w)(h0:(Pl.err s.data.toList).1=0)(hr:Ge.rule r=true):
  ak 39 #[aF s,az .u8 r] w λe w'=>(∃TX,e=aL (aI #[aF (ba TX),az aJ 0,az aJ 0])/\CV (Pl.rings s.data.toList) r TX)/\aj w w':=by
 have HR:Hid (∀w1,Gl w1->ak 33 #[aF s] w1 λe w'=>aj w1 w'/\∃rb rv,e=aL (aI #[aH (some ⟨rb,0,none⟩),az aJ 0,az aJ 0])/\
  w'.cell? ⟨rb,6,none⟩=some rv/\rb<w'.heap.size/\BB w' rv (Pl.rings s.data.toList)):=afx s hm h0
 have HI:Hid (∀w,ak 66 #[az .u8 r] w λe w'=>e=aL (aD true)/\w'=w):=λw=>by
  have:=ZM r w;rw[hr] at this;exact this
 obtain⟨hro,hrl,mK,hel⟩:=Zr h0;have afy:=Pl.akh h0;have HEO:Hid (∀v w1,BB w1 v (Pl.rings s.data.toList)->ak 36 #[v] w1 λe w'=>∃v,e=aL v/\jL w' v (Ge.aT (Pl.rings s.data.toList))/\aj w1 w'):=λv w1 hv=>aj3 _ v w1 hv hro hrl
 have Vs:Hid (∀v w1,jL w1 v (Ge.aT (Pl.rings s.data.toList))->Gl w1->ak 68 #[v,az .u8 r] w1 λe w'=>∃lv,e=aL lv/\ak 69 #[lv] w' λe w2=>∃lp,e=aL lp/\aj w1 w2/\ak 67 #[lp] w2 λe w3=>(∃TX,e=aL (aF (ba TX))/\CV (Pl.rings s.data.toList) r TX)/\aj w1 w3):=λv w1 hv dv=>by
  refine(amF _ r v w1 hv afy mK (λe he=>Ge.K1 he)).mono ?_
  rintro e w' ⟨lv,rfl,Ps,l,wb,bs,kU,lQ,uz,hbb,lg,hbl⟩;refine⟨lv,rfl,?_⟩;refine(aqI kU lQ mK uz lg hbl (dv.below hbb dv.sz)).mono ?_;rintro e w2 ⟨lp,rfl,hb2,hW⟩;have Vt:aj w1 w2:=hbb.trans (hb2.mono hbb.size);refine⟨lp,rfl,Vt,hW.mono ?_⟩;rintro e w3 ⟨rfl,hb3⟩;exact⟨⟨_,rfl,Ps,l,kU,lQ,uz,by rw[<-lg.len];exact hbl,rfl⟩,Vt.trans (hb3.mono Vt.size)⟩
 have Fw:Hid (∃P:List UInt8->Prop,P=CV (Pl.rings s.data.toList) r):=⟨_,rfl⟩;obtain⟨P,hP⟩:=Fw.out;rw[<-hP] at Vs;rw[<-hP];clear hr h0 hro hrl mK hel afy Fw hP;generalize Pl.rings s.data.toList=RG at*;generalize Ge.aT RG=ES at*
 go_enter func39,ntmps39
 go_wp2_with fail
 refine(HR.out _ CU).mono ?_;rintro e w1 ⟨hb1,rb,rv,rfl,c6,hlt,hrr⟩;have dv:=CU.below hb1 CU.sz
 go_wp2_with fail
 refine(HI.out _).mono ?_;rintro e w2 ⟨rfl,rfl⟩;clear HI HR
 go_wp2_with fail
 refine(HEO.out _ _ hrr).mono ?_;rintro e w3 ⟨ev,rfl,zg,hb3⟩;have jy:aj w w3:=hb1.trans (hb3.mono hb1.size);have ud:=dv.below hb3 dv.sz;have vS:Hid (aj w w3):=jy;have hcall:=Vs.out _ _ zg ud;clear Vs HEO hrr zg hb3 jy hb1 c6
 go_wp2_with fail
 refine hcall.mono ?_;rintro e w4 ⟨lv,rfl,afB⟩;clear hcall
 go_wp2_with fail
 refine afB.mono ?_;rintro e w5 ⟨lp,rfl,bh,afC⟩;clear afB
 go_wp2_with fail
 refine afC.mono ?_;rintro e w6 ⟨⟨TX,rfl,hTX⟩,bp⟩;have HX':Hid (P TX):=hTX;have Jv:Hid (aj w w6):=vS.out.trans (bp.mono vS.out.size);clear afC bh bp hTX
 go_wp2_with fail
 refine bodyPost_ret (v:=aI #[aF (ba TX),az aJ 0,az aJ 0]) (by simp[results,results39,go_sem]) rfl ⟨⟨TX,rfl,HX'.out⟩,Jv.out⟩
namespace Gb
open Ge Ga
theorem afE:∀{l l':List Nd},(∀n∈l,Ge.Can n)->(∀n∈l',Ge.Can n)->l.map aU=l'.map aU->l=l'
 |[],[],_,_,_=>rfl
 |[],_::_,_,_,h=>by simp at h
 |_::_,[],_,_,h=>by simp at h
 |a::A,b::B,ha,hb,h=>by
  rw[gM,gM] at h;injection h with h1 h2;have e:a=b:=Ge.xD (ha a af) (hb b af) (by rw[h1];exact Ge.Bp _)
  rw[e,afE (λn hn=>ha n (by simp[hn])) (λn hn=>hb n (by simp[hn])) h2]
end Gb
end
section
namespace Pl
theorem OI(u:Nat):∀c∈Lib.decDigits u,bZ c=true:=by
 induction u using Nat.strongRecOn with
 |_ u ih=>
  intro c hc;rw[Lib.decDigits] at hc;have one:∀d,d<10->bZ (UInt8.ofNat (48+d))=true:=λd hd=>by
   unfold bZ;have:(UInt8.ofNat (48+d)).toNat=48+d:=by rw[UInt8.toNat_ofNat'];exact Di aa
   rw[this];simp;omega
  by_cases h:u<10
  .rw[yN h] at hc;rw[dB.1 hc];exact one u h
  .rw[FV h] at hc;rcases dF.1 hc with q|q
   .exact ih (u/10) aa c q
   .rw[dB.1 q];exact one _ aa
theorem afF(u:Nat):fH (Lib.decDigits u)=u:=by
 induction u using Nat.strongRecOn with
 |_ u ih=>
  rw[Lib.decDigits];have one:∀d,d<10->(UInt8.ofNat (48+d)).toNat-48=d:=λd hd=>by
   rw[UInt8.toNat_ofNat',Di aa];omega
  by_cases h:u<10
  .rw[yN h];show 10*0+((UInt8.ofNat (48+u)).toNat-48)=u;rw[one u h];omega
  .rw[FV h,Le,ih (u/10) aa,one _ aa]
   omega
theorem Vu(u:Nat):Lib.decDigits u≠[]:=by
 rw[Lib.decDigits];by_cases h:u<10
 .rw[yN h];simp
 .rw[FV h];simp
theorem Vv:∀(k u:Nat),u<10 ^ (k+1)->(Lib.decDigits u).length<=k+1
 |0,u,h=>by
  rw[Lib.decDigits,yN (by simpa using h)];simp
 |k+1,u,h=>by
  rw[Lib.decDigits];by_cases h1:u<10
  .rw[yN h1];simp
  .rw[FV h1,bX];have:=Vv k (u/10) (by rw[yM] at h;omega)
   simp;omega
theorem OJ{p:UInt8->Bool}:∀{A rest:List UInt8},(∀c∈A,p c=true)->(∀c r,rest=c::r->p c=false)->(A++rest).takeWhile p=A
 |[],rest,_,h=>by
  cases rest with
  |nil=>rfl
  |cons c r=>rw[tE,Ax,h c r rfl];rfl
 |a::A,rest,hA,h=>by
  rw[mr,Ax,hA a af]
  simp only[lG];rw[OJ (λc hc=>hA c (bV _ hc)) h]
def Sep(rest:List UInt8):Prop:=∀c r,rest=c::r->c=32\/c=40\/c=41\/c=44\/c=47
theorem Sep.dig{rest:List UInt8}(h:Sep rest):∀c r,rest=c::r->bZ c=false:=λc r e=>by
 rcases h c r e with q|q|q|q|q<;>rw[q]<;>decide
theorem Sep.let{rest:List UInt8}(h:Sep rest):∀c r,rest=c::r->isLet c=false:=λc r e=>by
 rcases h c r e with q|q|q|q|q<;>rw[q]<;>decide
theorem Sep.of(c:UInt8)(r:List UInt8)(h:c=32\/c=40\/c=41\/c=44\/c=47):Sep (c::r):=λd r' e=>by
 injection e with e1 _;rw[<-e1];exact h
theorem arx{n:Int}(h1: -1000000000<n)(h2:n<1000000000){rest:List UInt8}(hs:Sep rest)(i:Nat):dI (Lib.itoa n++rest) i=⟨110,Lib.itoa n,n,i⟩:=by
 unfold Lib.itoa;by_cases hn:n<0
 .rw[aV hn];have e:=OJ (rest:=rest) (OI n.natAbs) hs.dig;have hl:=Vv 8 n.natAbs aa
  have hv:=afF n.natAbs;have hne:=Vu n.natAbs;show dI ((45:UInt8)::(Lib.decDigits n.natAbs++rest)) i=_;unfold dI;simp only;rw[e];rw[aP ah,aP ah,aV ah,aP (by intro k;rcases k with k|k;exact hne k;omega),hv]
  congr 1;omega
 .rw[aP hn];have e:=OJ (rest:=rest) (OI n.toNat) hs.dig;have hl:=Vv 8 n.toNat aa
  have hv:=afF n.toNat;have hd:=OI n.toNat;have hne:=Vu n.toNat;cases hD:Lib.decDigits n.toNat with
  |nil=>exact absurd hD hne
  |cons c r=>
   rw[hD] at e hl hv hd;have hc:=ia (hd c af)
   rw[mr] at e⊢;unfold dI;simp only;rw[e];have hnl:¬isLet c=true:=λk=>by have:=ia k;omega
   rw[aP aa,aP hnl,aP aa,aP (by intro k;rcases k with k|k;exact absurd k af;omega),hv]
   congr 1;omega
theorem ary{q:List UInt8}(hq:q≠[])(hl:∀c∈q,isLet c=true){rest:List UInt8}(hs:Sep rest)(i:Nat):dI (q++rest) i=⟨119,q,0,i⟩:=by
 have e:=OJ (rest:=rest) hl hs.let;cases q with
 |nil=>exact absurd rfl hq
 |cons c r=>
  have hc:=hl c af
  have hc':=ia hc;rw[mr] at e⊢;unfold dI;simp only;rw[e,aP aa,aV hc]
theorem arz{c:UInt8}(h:c=40\/c=41\/c=44\/c=47)(rest:List UInt8)(i:Nat):dI (c::rest) i=⟨c.toNat,[c],0,i⟩:=by
 unfold dI;simp only;rw[aV];rcases h with q|q|q|q<;>rw[q]<;>decide
def Lex(s:List UInt8):Nat->List Tk->Nat->Prop
 |i,[],j=>i=j
 |i,t::c,j=>tk s i=t/\¬(t.k=101\/t.k=120)/\Lex s (t.pl+t.raw.length) c j
theorem Lex.append{s:List UInt8}:∀{c:List Tk}{i j k:Nat}{d:List Tk},Lex s i c j->Lex s j d k->Lex s i (c++d) k
 |[],_,_,_,_,h,h2=>by
  have:_=_:=h;subst this;exact h2
 |_::_,_,_,_,_,h,h2=>⟨h.1,h.2.1,Lex.append h.2.2 h2⟩
theorem Lex.iF{s:List UInt8}:∀{c:List Tk}{i j:Nat}(f:Nat),Lex s i c j->iF s (f+c.length) i=c++iF s f j
 |[],_,_,_,h=>by
  have:_=_:=h;subst this;rfl
 |t::c,i,j,f,h=>by
  have ih:=Lex.iF f h.2.2;show Pl.iF s ((f+c.length)+1) i=_;have hk:¬((tk s i).k=101\/(tk s i).k=120):=by rw[h.1];exact h.2.1
  rw[Pl.iF,aP hk,h.1,ih];rfl
theorem Lex.len{s:List UInt8}:∀{c:List Tk}{i j:Nat},i<=s.length->Lex s i c j->i+c.length<=j/\j<=s.length
 |[],_,_,hi,h=>by
  have:_=_:=h;subst this;exact⟨aY _,hi⟩
 |t::c,i,j,hi,h=>by
  have hn:=Gu s i hi;rw[h.1] at hn;have ih:=Lex.len hn.1 h.2.2;have:=h.2.1;rw[dG];omega
theorem Fx{s A rest:List UInt8}{i:Nat}(h:s.drop i=A++rest):s.drop (i+A.length)=rest:=by
 rw[<-AW,h,ahp]
theorem OL{s l:List UInt8}{i:Nat}(h:s.drop i=l)(hb:∀c r,l=c::r->iZ c=false):tk s i=dI l i:=by
 have e:bl s i=i:=by
  unfold bl;rw[h];cases l with
  |nil=>rfl
  |cons c r=>rw[Ax,hb c r rfl];rfl
 unfold tk;rw[e,h]
theorem arA{s l:List UInt8}{i:Nat}(h:s.drop i=32::l)(hb:∀c r,l=c::r->iZ c=false):tk s i=tk s (i+1):=by
 have h1:s.drop (i+1)=l:=by rw[<-AW,h];rfl
 have e:bl s i=i+1:=by
  unfold bl;rw[h,Ax];have:iZ 32=true:=ah
  rw[this];simp only[lG,dG];cases l with
  |nil=>rfl
  |cons c r=>rw[Ax,hb c r rfl];rfl
 have e2:bl s (i+1)=i+1:=by
  unfold bl;rw[h1];cases l with
  |nil=>rfl
  |cons c r=>rw[Ax,hb c r rfl];rfl
 unfold tk;rw[e,e2]
theorem Lex.blank{s l:List UInt8}{i j:Nat}{c:List Tk}(h:s.drop i=32::l)(hb:∀c r,l=c::r->iZ c=false)(hc:c≠[])(hl:Lex s (i+1) c j):Lex s i c j:=by
 cases c with
 |nil=>exact absurd rfl hc
 |cons t c=>exact⟨(arA h hb).trans hl.1,hl.2⟩
theorem afH(n:Int):∃a r,Lib.itoa n=a::r/\iZ a=false:=by
 unfold Lib.itoa;by_cases h:n<0
 .rw[aV h];exact⟨45,_,rfl,ah⟩
 .rw[aP h];cases hD:Lib.decDigits n.toNat with
  |nil=>exact absurd hD (Vu _)
  |cons c r=>
   have:=ia (OI n.toNat c (by rw[hD];simp))
   exact⟨c,r,rfl,jU aa⟩
theorem OM{A rest:List UInt8}(h:∃a r,A=a::r/\iZ a=false):∀c r,A++rest=c::r->iZ c=false:=λc r e=>by
 obtain⟨a,r',rfl,hb⟩:=h;rw[mr] at e;injection e with e1 _;rw[<-e1];exact hb
theorem Vw{s rest:List UInt8}{i:Nat}{n:Int}(h1: -1000000000<n)(h2:n<1000000000)(h:s.drop i=Lib.itoa n++rest)(hs:Sep rest):Lex s i [⟨110,Lib.itoa n,n,i⟩] (i+(Lib.itoa n).length):=by
 refine⟨?_,by show ¬((110:Nat)=101\/(110:Nat)=120);decide,rfl⟩
 rw[OL h (OM (afH n)),arx h1 h2 hs]
theorem Fy{s rest:List UInt8}{i:Nat}{c:UInt8}(hc:c=40\/c=41\/c=44\/c=47)(h:s.drop i=c::rest):Lex s i [⟨c.toNat,[c],0,i⟩] (i+1):=by
 refine⟨?_,?_,rfl⟩
 .rw[OL h (λd r e=>by
   injection e with e1 _;rw[<-e1];rcases hc with q|q|q|q<;>rw[q]<;>decide),arz hc]
 .show ¬(c.toNat=101\/c.toNat=120);rcases hc with q|q|q|q<;>rw[q]<;>decide
theorem arB{s rest q:List UInt8}{i:Nat}(hq:q≠[])(hl:∀c∈q,isLet c=true)(h:s.drop i=q++rest)(hs:Sep rest):Lex s i [⟨119,q,0,i⟩] (i+q.length):=by
 refine⟨?_,by show ¬((119:Nat)=101\/(119:Nat)=120);decide,rfl⟩
 rw[OL h (OM ?_),ary hq hl hs];cases q with
 |nil=>exact absurd rfl hq
 |cons a r=>
  have:=ia (hl a af)
  exact⟨a,r,rfl,jU aa⟩
theorem arC:(∀c∈EMPTY,isLet c=true)/\(∀c∈jZ,isLet c=true)/\(∀c∈fI,isLet c=true):=ah
end Pl
end
section
open Go.RowKit
theorem afI(n:Int)(w:aM)(h1: -9223372036854775808<=n)(h2:n<=9223372036854775807):
  ak 19 #[az aJ n] w λe w'=>e=aL (az aJ n)/\w'=w:=by
 have hw:IntKind.i64.wrap n=n:=by rw[IntKind.wrap_i64];omega
 go_enter func19,ntmps19
 go_wp2_with fail
 go_ret
 exact⟨rfl,rfl⟩
theorem afJ(s:List UInt8):(Pl.err s).1<=3:=by
 unfold Pl.err;split
 .decide
 .split
  .split
   .exact aY 3
   .exact iW 3
  .show 2<=3;decide
theorem arD(s:ByteArray)(w:aM)(hm:s.size<=maxLen)(hG:Gl w):
  ak 20 #[aF s] w λe w'=>e=aL (aC #[aF ⟨(Pl.vB s.data.toList).toArray⟩,az aJ (Pl.err s.data.toList).1,az aJ (Pl.err s.data.toList).2])/\aj w w':=by
 have HP:Hid (∀w1,Gl w1->ak 40 #[aF s] w1 λe w'=>e=aL (aI #[aF ⟨(Pl.vB s.data.toList).toArray⟩,az aJ (Pl.err s.data.toList).1,az aJ (Pl.err s.data.toList).2])/\aj w1 w'):=λw1 g1=>ajR s w1 hm g1
 have he:=afJ s.data.toList;generalize(Pl.err s.data.toList).1=E at*;generalize(Pl.err s.data.toList).2=Pp at*;generalize Pl.vB s.data.toList=PT at*;have HN:Hid (∀w1,ak 19 #[az aJ (E:Int)] w1 λe w'=>e=aL (az aJ (E:Int))/\w'=w1):=λw1=>afI E w1 aa aa
 clear he
 go_enter func20,ntmps20
 go_wp2_with fail
 have hb0:aj w (w.alloc (.cells #[aF ⟨#[]⟩,az aJ 0,az aJ 0] 38)):=aw _ _;refine(HP.out _ (hG.alloc _)).mono ?_;rintro e w1 ⟨rfl,hb1⟩;have jJ:w1.heap[w.heap.size]?=some (.cells #[aF ⟨#[]⟩,az aJ 0,az aJ 0] 38):=(hb1.block _ af).trans (heap_alloc_new _ _)
 have c0:=cL jJ;have c1:=cK jJ;have c2:=eN jJ;have z0:=bK jJ 0;have z1:=bK jJ 1;have z2:=bK jJ 2;have aX:=hb0.trans (hb1.mono hb0.size);clear jJ
 go_wp2_with fail
 refine(HN.out _).mono ?_;rintro e w2 ⟨rfl,rfl⟩
 go_wp2_with fail
 refine bodyPost_ret (v:=aC #[aF ⟨PT.toArray⟩,az aJ E,az aJ Pp]) (by simp[results,results20,go_sem,c0,c1,c2]) rfl ⟨rfl,?_⟩
 exact((aX.setCell (aY _) _).setCell (aY _) _).setCell (aY _) _
def Ai(s:List UInt8)(r:Int)(T:List UInt8)(E P:Nat):Prop:=
 ((Pl.err s).1≠0/\T=[]/\E=(Pl.err s).1/\P=(Pl.err s).2)\/((Pl.err s).1=0/\Ge.rule r=false/\T=[]/\E=4/\P=0)\/((Pl.err s).1=0/\Ge.rule r=true/\CV (Pl.rings s) r T/\E=0/\P=0)
theorem arE(s:ByteArray)(r:Int)(w:aM)(hm:s.size<=maxLen)(hG:Gl w):
  ak 39 #[aF s,az .u8 r] w λe w'=>(∃T E P,e=aL (aI #[aF (ba T),az aJ (E:Nat),az aJ (P:Nat)])/\Ai s.data.toList r T E P)/\aj w w':=by
 by_cases h0:(Pl.err s.data.toList).1=0
 .cases hr:Ge.rule r
  .refine(aru s r w hm hG h0 hr).mono ?_;rintro e w' ⟨rfl,hb⟩;exact⟨⟨[],4,0,rfl,aR (aS ⟨h0,hr,rfl,rfl,rfl⟩)⟩,hb⟩
  .refine(arv s r w hm hG h0 hr).mono ?_;rintro e w' ⟨⟨T,rfl,hT⟩,hb⟩;exact⟨⟨T,0,0,rfl,aR (aR ⟨h0,hr,hT,rfl,rfl⟩)⟩,hb⟩
 .refine(ars s r w hm hG h0).mono ?_;rintro e w' ⟨rfl,hb⟩;exact⟨⟨[],_,_,rfl,aS ⟨h0,rfl,rfl,rfl⟩⟩,hb⟩
theorem Ai.small{s:List UInt8}{r:Int}{T:List UInt8}{E P:Nat}(h:Ai s r T E P):E<=4:=by
 have:=afJ s;rcases h with⟨_,_,h,_⟩|⟨_,_,_,h,_⟩|⟨_,_,_,h,_⟩<;>omega
theorem afK(s:ByteArray)(r:Int)(w:aM)(hm:s.size<=maxLen)(hG:Gl w):
  ak 18 #[aF s,az .u8 r] w λe w'=>(∃T E P,e=aL (aC #[aF (ba T),az aJ (E:Nat),az aJ (P:Nat)])/\Ai s.data.toList r T E P)/\aj w w':=by
 have HP:Hid (∀w1,Gl w1->ak 39 #[aF s,az .u8 r] w1 λe w'=>(∃T E P,e=aL (aI #[aF (ba T),az aJ (E:Nat),az aJ (P:Nat)])/\Hid (Ai s.data.toList r T E P))/\aj w1 w'):=λw1 g1=>arE s r w1 hm g1
 have HE:Hid (∀T E P,Ai s.data.toList r T E P->E<=4):=λT E P h=>h.small
 go_enter func18,ntmps18
 go_wp2_with fail
 have hb0:aj w (w.alloc (.cells #[aF ⟨#[]⟩,az aJ 0,az aJ 0] 38)):=aw _ _;refine(HP.out _ (hG.alloc _)).mono ?_;rintro e w1 ⟨⟨T,E,Pp,rfl,HF⟩,hb1⟩;have he:=HE.out T E Pp HF.out;have HN:Hid (∀w1,ak 19 #[az aJ (E:Int)] w1 λe w'=>e=aL (az aJ (E:Int))/\w'=w1):=λw1=>afI E w1 aa aa
 have jJ:w1.heap[w.heap.size]?=some (.cells #[aF ⟨#[]⟩,az aJ 0,az aJ 0] 38):=(hb1.block _ af).trans (heap_alloc_new _ _)
 have c0:=cL jJ;have c1:=cK jJ;have c2:=eN jJ;have z0:=bK jJ 0;have z1:=bK jJ 1;have z2:=bK jJ 2;have aX:=hb0.trans (hb1.mono hb0.size);clear jJ he HE HP;generalize sy:ba T=TT
 go_wp2_with fail
 refine(HN.out _).mono ?_;rintro e w2 ⟨rfl,rfl⟩
 go_wp2_with fail
 refine bodyPost_ret (v:=aC #[aF TT,az aJ E,az aJ Pp]) (by simp[results,results18,go_sem,c0,c1,c2]) rfl ⟨⟨T,E,Pp,by rw[sy],HF.out⟩,?_⟩
 exact((aX.setCell (aY _) _).setCell (aY _) _).setCell (aY _) _
namespace Gb
open Ge Ga
def OO(es:List (Pt×Pt))(l:List Nd):List (Nd×Nd):=es.flatMap λe=>nexts (held e l)
def OP(es:List (Pt×Pt))(l:List Nd)(r:Int):List (Nd×Nd):=
 ((OO es l).filter λp=>takes r (LL es p.1 p.2)&& !takes r (RR es p.1 p.2))++(((OO es l).filter λp=>takes r (RR es p.1 p.2)&& !takes r (LL es p.1 p.2)).map λp=>(p.2,p.1))
theorem afL{es:List (Pt×Pt)}{l:List Nd}{r:Int}{a b:Nd}:Sd es l (takes r) a b↔(a,b)∈OP es l r:=by
 have hp:∀f t,fk es l f t↔(f,t)∈OO es l:=λf t=>by unfold fk OO;rw[oW]
 unfold Sd OP;rw[dF,jr,bQ,hp,hp];constructor
 .rintro(⟨h1,h2,h3⟩|⟨h1,h2,h3⟩)
  .exact aS ⟨h1,by simp[h2,h3]⟩
  .exact aR ⟨(b,a),jr.2 ⟨h1,by simp[h2,h3]⟩,rfl⟩
 .rintro(⟨h1,h2⟩|⟨q,hq,e⟩)
  .simp at h2;exact aS ⟨h1,h2.1,h2.2⟩
  .obtain⟨q1,q2⟩:=q;injection e with e1 e2;subst e1 e2;obtain⟨h1,h2⟩:=jr.1 hq;simp at h2;exact aR ⟨h1,h2.1,h2.2⟩
def Vx(p:Nd×Nd):PB:=⟨aO aK (p.2.1-p.1.1),aO aK (p.2.2.1-p.1.2.1),aO aK ((p.2.1-p.1.1)*p.1.2.1-(p.2.2.1-p.1.2.1)*p.1.1),p.1,p.2⟩
def gP:List (List Pt):=[[(0,0),(4,4),(0,4),(4,0)]]
def l0:List Nd:=[(0,0,1),(0,4,1),(2,2,1),(4,0,1),(4,4,1)]
def L0:List (Nd×Nd):=[((0,0,1),(4,0,1)),((0,4,1),(2,2,1)),((2,2,1),(0,0,1)),((2,2,1),(4,4,1)),((4,0,1),(2,2,1)),((4,4,1),(0,4,1))]
theorem nl0:l0.map aU=ja (aT gP):=by decide+kernel
theorem sd0:(∀p∈L0,p∈OP (aT gP) l0 101)/\(∀p∈OP (aT gP) l0 101,p∈L0):=by decide+kernel
def X0:List PB:=L0.map Vx
theorem Vy{x:PB}(h:x∈X0):∃p∈L0,x=Vx p:=by
 obtain⟨p,hp,rfl⟩:=bQ.1 h;exact⟨p,hp,rfl⟩
theorem afO:∀p∈L0,(p.1.2.2=1/\p.2.2.2=1)/\(p.1.1.natAbs<=4/\p.1.2.1.natAbs<=4/\p.2.1.natAbs<=4/\p.2.2.1.natAbs<=4)/\0<(p.2.1-p.1.1)*(p.2.1-p.1.1)+(p.2.2.1-p.1.2.1)*(p.2.2.1-p.1.2.1)/\((p.2.1-p.1.1)*p.1.2.1-(p.2.2.1-p.1.2.1)*p.1.1).natAbs<=100:=by decide+kernel
theorem JF{n:Nd}(h:n.2.2=1):Ge.Can n:=by
 obtain⟨a,b,c⟩:=n;have:c=1:=h;subst this;exact Sy (a,b)
theorem bd0:BD X0:=by
 refine⟨λx hx=>?_,λx hx=>?_,by decide+kernel,ah⟩
 .obtain⟨p,hp,rfl⟩:=Vy hx;obtain⟨⟨h1,h2⟩,⟨h3,h4,h5,h6⟩,_⟩:=afO p hp;refine⟨⟨by show p.1.1.natAbs<=_;omega,by show p.1.2.1.natAbs<=_;omega,by show 0<p.1.2.2/\p.1.2.2<=_;omega⟩,⟨by show p.2.1.natAbs<=_;omega,by show p.2.2.1.natAbs<=_;omega,by show 0<p.2.2.2/\p.2.2.2<=_;omega⟩,JF h1,JF h2⟩
 .obtain⟨p,hp,rfl⟩:=Vy hx;obtain⟨⟨h1,h2⟩,⟨h3,h4,h5,h6⟩,h7,h8⟩:=afO p hp;refine⟨(p.2.1-p.1.1,p.2.2.1-p.1.2.1,(p.2.1-p.1.1)*p.1.2.1-(p.2.2.1-p.1.2.1)*p.1.1),⟨tZ aa,tZ aa,tZ (by show((p.2.1-p.1.1)*p.1.2.1-(p.2.2.1-p.1.2.1)*p.1.1).natAbs<_;omega)⟩,by show(p.2.1-p.1.1).natAbs<=100;omega,by show(p.2.2.1-p.1.2.1).natAbs<=100;omega,by show((p.2.1-p.1.1)*p.1.2.1-(p.2.2.1-p.1.2.1)*p.1.1).natAbs<=10000;omega,?_,?_,?_,?_⟩
  .show(p.2.1-p.1.1)*(p.2.2.1*p.1.2.2-p.1.2.1*p.2.2.2)=(p.2.2.1-p.1.2.1)*(p.2.1*p.1.2.2-p.1.1*p.2.2.2);rw[h1,h2];grind
  .show 0<(p.2.1-p.1.1)*(p.2.1*p.1.2.2-p.1.1*p.2.2.2)+(p.2.2.1-p.1.2.1)*(p.2.2.1*p.1.2.2-p.1.2.1*p.2.2.2);rw[h1,h2];simpa using h7
  .show(p.2.1-p.1.1)*p.1.2.1-(p.2.2.1-p.1.2.1)*p.1.1=((p.2.1-p.1.1)*p.1.2.1-(p.2.2.1-p.1.2.1)*p.1.1)*p.1.2.2;rw[h1];simp
  .show(p.2.1-p.1.1)*p.2.2.1-(p.2.2.1-p.1.2.1)*p.2.1=((p.2.1-p.1.1)*p.1.2.1-(p.2.2.1-p.1.2.1)*p.1.1)*p.2.2.2;rw[h2];grind
theorem afP:∀n∈l0,n.2.2=1:=ah
theorem arG:∀i,i<6->∀j,j<6->(xi X0 i).f=(xi X0 j).f->(xi X0 i).t=(xi X0 j).t->i=j:=by decide+kernel
theorem sx0:SX gP l0 101 X0:=by
 refine⟨⟨nl0,λn hn=>JF (afP n hn),λe he=>K1 he⟩,λx hx=>?_,λa b h=>?_,λi j hi hj=>arG i hi j hj⟩
 .obtain⟨p,hp,rfl⟩:=Vy hx;exact afL.2 (sd0.1 p hp)
 .exact⟨Vx (a,b),bQ.2 ⟨(a,b),sd0.2 _ (afL.1 h),rfl⟩,rfl,rfl⟩
theorem ps0:(bH X0 X0.length).ps=[([0,4,2],[]),([1,3,5],[])]:=by decide+kernel
theorem fr0:Go.Proofs.YtkjhhooecopolaaGreatDoor.fr X0 [0,4,2]=[(0,0,1),(4,0,1),(2,2,1)]/\Go.Proofs.YtkjhhooecopolaaGreatDoor.fr X0 [1,3,5]=[(0,4,1),(2,2,1),(4,4,1)]:=by decide+kernel
theorem arJ:∀e∈aT gP,gS e:=by
 have:∀e∈aT gP,(e.1.1.natAbs<=4/\e.1.2.natAbs<=4)/\e.2.1.natAbs<=4/\e.2.2.natAbs<=4:=by decide+kernel
 intro e he;obtain⟨⟨h1,h2⟩,h3,h4⟩:=this e he;exact⟨⟨aa,aa⟩,⟨aa,aa⟩,⟨aa,aa⟩,⟨aa,aa⟩⟩
end Gb
namespace Gb
open Ge Ga
def P0:List Pg:=[([0,4,2],[]),([1,3,5],[])]
theorem arK:∀p∈P0,∀n∈Go.Proofs.YtkjhhooecopolaaGreatDoor.fr X0 p.1,n.2.2=1:=by decide+kernel
theorem arL:oQ X0 ([0,4,2],[]) ([1,3,5],[])<0:=by decide+kernel
theorem arM:jS (oQ X0) P0=P0:=by
 obtain⟨s1,s2⟩:=JC (oQ X0) P0 (yw (λi:Fin P0.length=>Go.Proofs.YtkjhhooecopolaaGreatDoor.fr X0 P0[i].1) λi a ha=>JF (arK _ (iw _) a ha))
 generalize jS (oQ X0) P0=Z at s1 s2⊢;have hl:=s1.length_eq;have hn:Z.Nodup:=s1.nodup_iff.2 ah
 match Z,hl,hn,s1,s2 with
 |[x,y],_,hn,s1,s2=>
  have hx:x=([0,4,2],[])\/x=([1,3,5],[]):=by
   have:x∈P0:=s1.mem_iff.1 af
   simpa[P0] using this
  have hy:y=([0,4,2],[])\/y=([1,3,5],[]):=by
   have:y∈P0:=s1.mem_iff.1 af
   simpa[P0] using this
  rcases hx with rfl|rfl<;>rcases hy with rfl|rfl
  .simp at hn
  .rfl
  .have:=(gN.1 s2).1 _ (by simp:(([0,4,2],[]):Pg)∈[([0,4,2],[])])
   exact absurd arL this
  .simp at hn
theorem arN:fin X0=[([(0,0,1),(4,0,1),(2,2,1)],[]),([(0,4,1),(2,2,1),(4,4,1)],[])]:=by
 have hm:(bH X0 X0.length).ps.map (eK X0)=P0:=by
  rw[ps0];simp[eK,jS,P0]
 unfold fin wG;rw[hm,arM];simp[P0,ndP,fr0.1,fr0.2]
theorem it0:Lib.itoa 0=[48]:=by simp[Lib.itoa,Lib.decDigits]
theorem it2:Lib.itoa 2=[50]:=by simp[Lib.itoa,Lib.decDigits]
theorem it4:Lib.itoa 4=[52]:=by simp[Lib.itoa,Lib.decDigits]
theorem nq(a b:Int)(h:a=0\/a=2\/a=4)(k:b=0\/b=2\/b=4):aU (a,b,1)=((a,1),(b,1)):=by
 rcases h with rfl|rfl|rfl<;>rcases k with rfl|rfl|rfl<;>decide+kernel
def T0:List UInt8:=[77,85,76,84,73,80,79,76,89,71,79,78,32,40,40,40,48,32,48,44,32,52,32,48,44,32,50,32,50,44,32,48,32,48,41,41,44,32,40,40,48,32,52,44,32,50,32,50,44,32,52,32,52,44,32,48,32,52,41,41,41]
theorem text0:yA X0=T0:=by
 rw[OB,arN];simp[pS,CP,wH,yC,Pl.bI,Pl.dJ,Pl.fO,nq,it0,it2,it4,yz,Lib.join,T0]
theorem arP{T:List UInt8}(h:CV gP 101 T):T=T0:=by
 obtain⟨Ps,l,h1,h2,h3,h4,rfl⟩:=h;have e:l=l0:=afE h2 (λn hn=>JF (afP n hn)) (h1.trans nl0.symm)
 subst e;rw[<-text0];exact arq (M4 h1 h2 h3) (Ot h1 arJ h3 h4) sx0 bd0 (λ_ _=>JV)
end Gb
def S0:List UInt8:=[80,79,76,89,71,79,78,32,40,40,48,32,48,44,32,52,32,52,44,32,48,32,52,44,32,52,32,48,41,41]
def S1:List UInt8:=[80,79,76,89,71,79,78,40,40,48,32,48,44,48,52,32,45,48,44,48,32,52,41,41]
def T1:List UInt8:=[80,79,76,89,71,79,78,32,40,40,48,32,48,44,32,52,32,48,44,32,48,32,52,41,41]
theorem arQ:Pl.err S0=(0,0):=by decide+kernel
theorem Vz:Pl.err S1=(0,0):=by decide+kernel
theorem arR:Pl.rings S0=Gb.gP:=by decide+kernel
theorem afT:(Pl.wd Pl.jZ (Pl.all S1)).1=true/\(Pl.dU (Pl.all S1)).2.2=[[[(0,0),(4,0),(0,4)]]]:=by decide+kernel
theorem arS:Pl.vB S1=T1:=by
 obtain⟨gs,h1,_,h3⟩:=Pl.Zf (by rw[Vz]) afT.1
 unfold Pl.vB;rw[aV (by rw[Vz]),h3]
 have e:gs=[[(0,0),(4,0),(0,4)]]:=(List.cons.inj (h1.symm.trans afT.2)).1;subst e;simp[Pl.nI,Pl.kO,Pl.bI,Pl.Ee,Gb.it0,Gb.it4,Pl.jZ,T1]
def arT(w:aM)(b o:Nat)(K x y d r:Int)(s:ByteArray):Prop:=
 w.cell? ⟨b,o,none⟩=some (az aJ K)/\w.cell? ⟨b,o+1,none⟩=some (az aJ x)/\w.cell? ⟨b,o+2,none⟩=some (az aJ y)/\w.cell? ⟨b,o+3,none⟩=some (az aJ d)/\
  w.cell? ⟨b,o+4,none⟩=some (az .u8 r)/\w.cell? ⟨b,o+5,none⟩=some (aF s)
def VA(w:aM)(so:Option Addr)(n:Nat):Prop:=
 ∀k,k<n->∃b o K x y d r s,so=some ⟨b,o,none⟩/\b<w.heap.size/\s.size<=maxLen/\arT w b (o+k*6) K x y d r s
theorem Aj{w w':aM}(h:Gl w)(hb:aj w w'):Gl w':=h.below hb h.sz
structure Nx(w W w':aM)(o:Obj)(W':aM)(X:Nat):Prop where
 eq:W'=w'.alloc o
 gl:Gl W'
 gb:aj w W'
 nw:W'.heap[X]?=some o
 old:∀(k:Nat)(ob:Obj),W.heap[k]?=some ob->W'.heap[k]?=some ob
theorem afU{w W w':aM}(o:Obj)(hG:Gl W)(hB:aj w W)(hb:aj W w'):Nx w W w' o (w'.alloc o) w'.heap.size:=by
 have h:=hB.trans (hb.mono hB.size);refine⟨rfl,(Aj hG hb).alloc _,h.alloc h.size _,heap_alloc_new _ _,λk ob hk=>?_⟩
 have hl:=lt_of_heap hk;rw[Below.heap_alloc _ _ _ (bW hl hb.size),hb.block k hl];exact hk
theorem arU{T:List UInt8}{E P:Nat}(h:Ai S0 101 T E P):T=Gb.T0/\E=0/\P=0:=by
 rcases h with⟨a1,_⟩|⟨_,a2,_⟩|⟨_,_,a3,a4,a5⟩
 .rw[arQ] at a1;exact absurd rfl a1
 .exact absurd a2 ah
 .rw[arR] at a3;exact⟨Gb.arP a3,a4,a5⟩
theorem afV(w:aM)(hG:Gl w):
  ak 22 #[] w λe w'=>e=aL (aD true)/\Below w.heap.size w w':=by
 have HP:Hid (∀w1,Gl w1->ak 20 #[aF (ba S1)] w1 λe w'=>e=aL (aC #[aF (ba T1),az aJ 0,az aJ 0])/\Below w1.heap.size w1 w'):=λw1 g1=>by
  refine(arD (ba S1) w1 (by unfold maxLen;decide) g1).mono ?_
  rintro e w' ⟨rfl,hb⟩;refine⟨?_,hb⟩;have e1:(ba S1).data.toList=S1:=rfl;rw[e1,Vz,arS];rfl
 have HF:Hid (∀w1,Gl w1->ak 18 #[aF (ba S0),az .u8 101] w1 λe w'=>e=aL (aC #[aF (ba Gb.T0),az aJ 0,az aJ 0])/\Below w1.heap.size w1 w'):=λw1 g1=>by
  refine(afK (ba S0) 101 w1 (by unfold maxLen;decide) g1).mono ?_
  rintro e w' ⟨⟨T,E,P,rfl,h⟩,hb⟩;obtain⟨rfl,rfl,rfl⟩:=arU h;exact⟨rfl,hb⟩
 go_enter func22,ntmps22
 go_wp2_with fail
 refine(HP.out _ hG).mono ?_;rintro e w1 ⟨rfl,hb1⟩;have g1:Gl w1:=Aj hG hb1;generalize qU:ba T1=B1;have n1:=afU (.cells #[aF B1,az aJ 0,az aJ 0] 38) hG (Below.refl _ _) hb1
 go_wp2_with fail
 generalize w1.alloc (.cells #[aF B1,az aJ 0,az aJ 0] 38)=W1 at*;generalize w1.heap.size=X1 at*;have zy:=n1.gl;have hXa:=n1.nw;have hBa:=n1.gb;clear n1 hb1 g1;refine(HF.out _ zy).mono ?_;rintro e w2 ⟨rfl,hb2⟩;generalize SZ:ba Gb.T0=B2;have n2:=afU (.cells #[aF B2,az aJ 0,az aJ 0] 38) zy hBa hb2;have OQ:=n2.old _ _ hXa;have OS:=n2.nw;have hBb:=n2.gb;have a0:(w2.alloc (.cells #[aF B2,az aJ 0,az aJ 0] 38)).cell? ⟨X1,0,none⟩=some (aF B1):=cell_of OQ 0;have a1:(w2.alloc (.cells #[aF B2,az aJ 0,az aJ 0] 38)).cell? ⟨X1,1,none⟩=some (az aJ 0):=cell_of OQ 1;have a2:(w2.alloc (.cells #[aF B2,az aJ 0,az aJ 0] 38)).cell? ⟨X1,2,none⟩=some (az aJ 0):=cell_of OQ 2;have b0:(w2.alloc (.cells #[aF B2,az aJ 0,az aJ 0] 38)).cell? ⟨w2.heap.size,0,none⟩=some (aF B2):=cell_of OS 0;have b1:(w2.alloc (.cells #[aF B2,az aJ 0,az aJ 0] 38)).cell? ⟨w2.heap.size,1,none⟩=some (az aJ 0):=cell_of OS 1;have b2:(w2.alloc (.cells #[aF B2,az aJ 0,az aJ 0] 38)).cell? ⟨w2.heap.size,2,none⟩=some (az aJ 0):=cell_of OS 2;clear n2 hXa OQ OS zy hb2 hBa
 go_wp2_with fail
 .go_ret
  exact⟨rfl,hBb⟩
 .rename_i h
  refine absurd ?_ h;rw[<-SZ];exact ByteArray.toList_mk _
 .rename_i h
  refine absurd ?_ h;rw[<-qU];exact ByteArray.toList_mk _
theorem afX(T:List UInt8):(ba T).data.toList=T:=rfl
theorem arV(T:List UInt8):(ba T).size=T.length:=by
 show T.toArray.size=_;simp
theorem afY{w:aM}{a:Addr}{v:aN}{o:Obj}(h:w.cell? a=some v):(w.alloc o).cell? a=some v:=(World.cell?_alloc_some w a o (by rw[h];rfl)).trans h
theorem VB(w7:aM)(i:Nat)(hi:i<3):(w7.alloc (.cells #[aF ⟨#[]⟩,az aJ 0,az aJ 0] 38)).frozen? ⟨w7.heap.size,i,none⟩=false:=by
 match i,hi with
 |0,_=>exact bK (heap_alloc_new _ _) 0
 |1,_=>exact bK (heap_alloc_new _ _) 1
 |2,_=>exact bK (heap_alloc_new _ _) 2
structure Old(w W:aM)(bl:List (Nat×Obj)):Prop where
 gb:aj w W
 gl:Gl W
 ob:∀p∈bl,W.heap[p.1]?=some p.2
section
variable{w W W':aM}{bl:List (Nat×Obj)}
theorem Old.next(h:Old w W bl)(hb:aj W W'):Old w W' bl:=⟨h.gb.trans (hb.mono h.gb.size),Aj h.gl hb,λp hp=>(hb.block _ (lt_of_heap (h.ob p hp))).trans (h.ob p hp)⟩
theorem Old.drew(h:Old w W bl):Old w W.drew bl:=⟨h.gb.drew,h.gl.drew,h.ob⟩
theorem Old.alloc(h:Old w W bl)(o:Obj):Old w (W.alloc o) ((W.heap.size,o)::bl):=by
 refine⟨h.gb.alloc h.gb.size _,h.gl.alloc _,λp hp=>?_⟩
 rcases bU.1 hp with q|q
 .rw[q];exact heap_alloc_new _ _
 .exact(Below.heap_alloc _ _ _ (lt_of_heap (h.ob p q))).trans (h.ob p q)
theorem Old.set(hG:Gl w){B o:Nat}{c:Array aN}{T:TypeId}(h:Old w W ((B,.cells c T (0,0))::bl))(hB:w.heap.size<=B)(hn:∀p∈bl,p.1≠B)(v:aN):Old w (W.setCell ⟨B,o,none⟩ v) ((B,.cells (c.setIfInBounds o v) T (0,0))::bl):=by
 have hb:aj w (W.setCell ⟨B,o,none⟩ v):=h.gb.setCell hB _;refine⟨hb,Aj hG hb,λp hp=>?_⟩
 rcases bU.1 hp with q|q
 .rw[q];exact heap_set (h.ob _ (Kc ..)) v
 .exact(dS (hn p q) v).trans (h.ob p (bV _ q))
theorem Old.h1{x:Nat×Obj}(h:Old w W (x::bl)):W.heap[x.1]?=some x.2:=h.ob x (Kc ..)
end
def GlB(wr:aM):Prop:=Gl (wr.alloc (.cells #[aF ⟨#[]⟩,az aJ 0,az aJ 0] 38)).drew
theorem arX{w w7:aM}{bl:List (Nat×Obj)}(T:ByteArray)(E Pp:Int)(h:Old w w7 bl):∃WF XF,WF=w7.alloc (.cells #[aF T,az aJ E,az aJ Pp] 38)/\XF=w7.heap.size/\Hid (Old w WF ((XF,.cells #[aF T,az aJ E,az aJ Pp] 38 (0,0))::bl)):=⟨_,_,rfl,rfl,h.alloc _⟩
theorem arY{w w7:aM}{B:Nat}{bl:List (Nat×Obj)}(hG:Gl w)(T:ByteArray)(E Pp:Int)(h:Old w w7 ((B,(.cells #[aF ⟨#[]⟩,az aJ 0,az aJ 0] 38 (0,0)))::bl)/\w.heap.size<=B/\∀p∈bl,p.1≠B):∃WF XF,WF=((w7.setCell ⟨B,0,none⟩ (aF T)).setCell ⟨B,1,none⟩ (az aJ E)).setCell ⟨B,2,none⟩ (az aJ Pp)/\XF=B/\Hid (Old w WF ((XF,.cells #[aF T,az aJ E,az aJ Pp] 38 (0,0))::bl)):=by
 obtain⟨h1,h2,h3⟩:=h;exact⟨_,_,rfl,rfl,((h1.set hG h2 h3 _).set hG h2 h3 _).set hG h2 h3 _⟩
def nT(q0:Ge.Qt):List Ge.Qt->List UInt8
 |[]=>Pl.dJ q0++[41]
 |q::g=>Pl.dJ q++([44,32]++nT q0 g)
def iT:Bool->List (List Ge.Qt)->List UInt8
 |_,[]=>[41]
 |f,g::gs=>(if f then[] else[44,32])++([40]++(nT (g.headD ((0,1),(0,1))) g++iT false gs))
def oT:Bool->List (List (List Ge.Qt))->List UInt8
 |_,[]=>[41]
 |f,p::ps=>(if f then[] else[44,32])++([40]++(iT true p++oT false ps))
def okq(ps:List (List (List Ge.Qt))):Prop:=∀p∈ps,∀g∈p,g≠[]/\∀q∈g,fY q
theorem VC(S:ByteArray)(l:List UInt8):(S++(⟨l.toArray⟩:ByteArray)).data.toList=S.data.toList++l:=by
 rw[ByteArray.data_append,Array.toList_append]
theorem VD(S:ByteArray):S.data.toList.length=S.size:=jw
theorem Ak(S:ByteArray)(l:List UInt8):(S++(⟨l.toArray⟩:ByteArray)).size=S.size+l.length:=by
 rw[<-VD,VC,bX,VD]
theorem arZ{S:ByteArray}{T:List UInt8}(h:S.data.toList=T):S=⟨T.toArray⟩:=by
 apply ByteArray.ext;rw[<-h]
structure jD(TT:List UInt8)(S:ByteArray)(R:List UInt8):Prop where
 eq:S.data.toList++R=TT
theorem jD.step{TT:List UInt8}{S:ByteArray}{l R:List UInt8}(h:jD TT S (l++R)):jD TT (S++⟨l.toArray⟩) R:=⟨by rw[VC,fL];exact h.eq⟩
theorem jD.le{TT:List UInt8}{S:ByteArray}{R:List UInt8}(h:jD TT S R)(hT:TT.length<=20000000402):S.size+R.length<=20000000402:=by
 have:=aZ List.length h.eq;rw[bX,VD] at this;omega
theorem ar0(TT:List UInt8)(ps:List (List (List Ge.Qt)))(v:aN)(w:aM)(hG:Gl w)(hR:oL w v ps)(hne:ps≠[])(hok:okq ps)(sy:TT=yz++oT true ps)(mi:TT.length<=20000000402)(hl:ps.length<=20000000402)(hl2:∀p∈ps,p.length<=20000000402/\∀g∈p,g.length<=20000000402):
  ak 45 #[v] w λe w'=>e=aL (aF ⟨TT.toArray⟩)/\aj w w':=by
 obtain⟨so,cap,rfl⟩:=Ef hR;have HR:Hid (oL w (aG so ps.length cap) ps):=hR;have qX:Hid (okq ps/\∀p∈ps,p.length<=20000000402/\∀g∈p,g.length<=20000000402):=⟨hok,hl2⟩;have hn0:((ps.length:Int) == 0)=false:=by
  have:=jk.2 hne;rw[tJ];omega
 have H0:Hid ((⟨#[77,85,76,84,73,80,79,76,89,71,79,78,32,40]⟩:ByteArray).data.toList++oT true ps=TT):=sy.symm;clear hR hok hne sy hl2
 go_enter func45,ntmps45
 go_wp2_with fail
 go_loopg [3,4] ps.length (λg sv iv wr=>∃(i:Nat)(S:ByteArray),i+g=ps.length/\iv=az aJ i/\sv=aF S/\S.size<=20000000402/\Hid (jD TT S (oT (decide (i=0)) (ps.drop i)))/\Hid (aj w wr/\Gl wr))
 case atStart=>exact⟨0,_,aa,rfl,rfl,ah,⟨H0.out⟩,Below.refl _ _,hG⟩
 case round=>
  obtain⟨i,S,hin,rfl,rfl,hS,HT,HB⟩:=hrel;clear H0;by_cases hlt:i<ps.length
  .have Ix:(i:Int)<(ps.length:Int):=aa
   obtain⟨p,hp⟩:∃p,ps[i]?=some p:=⟨_,bo hlt⟩;obtain⟨b,u,rfl,hb,e0,ug⟩:=xA HR.out hp;obtain⟨us,uc,rfl⟩:=Ef ug;have HRU:Hid (zZ w (aG us p.length uc) p):=ug;have hd:ps.drop i=p::ps.drop (i+1):=by rw[rK hlt,(cG.1 hp).2]
   have jE:=HT.out;rw[hd] at jE;have xY:wr.cell? ⟨b,i,none⟩=some (aG us p.length uc):=aQ HB.out.1 e0 hb;obtain⟨S1,OT,hv1⟩:∃S1:ByteArray,Hid (jD TT S1 (iT true p++oT false (ps.drop (i+1))))/\S1=(if i=0 then S else S++⟨#[44,32]⟩)++⟨#[40]⟩:=by
    refine⟨_,?_,rfl⟩;by_cases h0:i=0
    .subst h0;rw[aV rfl];exact jD.step (l:=[40]) (by simpa[oT] using jE)
    .rw[aP h0];exact jD.step (l:=[40]) (jD.step (l:=[44,32]) (by simpa[oT,h0] using jE))
   have HIJ:Hid (i+gk=ps.length/\i<ps.length):=⟨hin,hlt⟩;have OU:Hid ((∀g∈p,g≠[]/\∀q∈g,fY q)/\p.length<=20000000402/\∀g∈p,g.length<=20000000402):=⟨qX.out.1 p (bA hp),qX.out.2 p (bA hp)⟩;have af1:=OT.out.le mi;have hs1:¬9223372036854775807<S.size+1:=aa
   have hs2:¬9223372036854775807<S.size+2:=aa
   have hs3:¬9223372036854775807<S.size+2+1:=aa
   obtain⟨m1,mf⟩:∃m1,m1=gk:=⟨_,rfl⟩;have E8:Hid (m1=gk):=mf;have E0:Hid (w.cell? ⟨b,i,none⟩=some (aG us p.length uc)):=e0;clear jE HT ug hd hp e0 mf hin af1;rcases Decidable.em (i=0) with h0|h0
   all_goals first
    |(have hq0:decide (0<(i:Int))=false:=(by(simp;omega));have hq1:decide (0<i)=false:=(by(simp;omega));rw[aV h0] at hv1;clear h0;go_wp2_with fail;rw[<-hv1];clear hv1 hq0 hq1)
    |(have hq0:decide (0<(i:Int))=true:=(by(simp;omega));have hq1:decide (0<i)=true:=(by(simp;omega));rw[aP h0] at hv1;clear h0;go_wp2_with fail;rw[<-hv1];clear hv1 hq0 hq1)
   all_goals
    clear hs1 hs2 hs3;have af1:=OT.out.le mi
    go_loopg [3,5] p.length (λg sv iv wr=>∃(k:Nat)(S:ByteArray),k+g=p.length/\iv=az aJ k/\sv=aF S/\S.size<=20000000402/\Hid (jD TT S (iT (decide (k=0)) (p.drop k)++oT false (ps.drop (i+1))))/\Hid (aj w wr/\Gl wr))
    case atStart=>exact⟨0,S1,aa,rfl,rfl,aa,OT,HB⟩
    case round=>
     obtain⟨k,S,hkn,rfl,rfl,hS,HT,HB⟩:=hrel;clear xY OT;have xY:wr.cell? ⟨b,i,none⟩=some (aG us p.length uc):=aQ HB.out.1 E0.out hb;by_cases ik:k<p.length
     .have hkk:(k:Int)<(p.length:Int):=aa
      obtain⟨g,hg⟩:∃g,p[k]?=some g:=⟨_,bo ik⟩;obtain⟨b2,u2,NG,hb2,e2,hrg⟩:=xA HRU.out hg;subst NG;obtain⟨gs,gc,rfl⟩:=zz hrg;have qY:Hid (nK w (aG gs g.length gc) g):=hrg;have hr1:wr.cell? ⟨b2,k,none⟩=some (aG gs g.length gc):=aQ HB.out.1 e2 hb2;have E2:Hid (w.cell? ⟨b2,k,none⟩=some (aG gs g.length gc)):=e2;have hd:p.drop k=g::p.drop (k+1):=by rw[rK ik,(cG.1 hg).2]
      have jE:=HT.out;rw[hd] at jE;obtain⟨S2,Cs,hv2⟩:∃S2:ByteArray,Hid (jD TT S2 (nT (g.headD ((0,1),(0,1))) g++(iT false (p.drop (k+1))++oT false (ps.drop (i+1)))))/\S2=(if k=0 then S else S++⟨#[44,32]⟩)++⟨#[40]⟩:=by
       refine⟨_,?_,rfl⟩;by_cases h0:k=0
       .subst h0;rw[aV rfl];exact jD.step (l:=[40]) (by simpa[iT] using jE)
       .rw[aP h0];exact jD.step (l:=[40]) (jD.step (l:=[44,32]) (by simpa[iT,h0] using jE))
      obtain⟨Jg,hgq⟩:=OU.out.1 g (bA hg);have hgl:=OU.out.2.2 g (bA hg);obtain⟨q0,hq0⟩:∃q0,g[0]?=some q0:=⟨_,bo (jk.2 Jg)⟩;have Jj:g.headD ((0,1),(0,1))=q0:=by
       cases g with
       |nil=>simp at hq0
       |cons a g=>simpa using hq0
      rw[Jj] at Cs;have JG:Hid ((∀q∈g,fY q)/\g[0]?=some q0):=⟨hgq,hq0⟩;have HKJ:Hid (k+gk=p.length/\k<p.length/\p.length<=20000000402):=⟨hkn,ik,OU.out.2.1⟩;have hpl:p.length<=20000000402:=OU.out.2.1;have ar2:=Cs.out.le mi;have hs1:¬9223372036854775807<S.size+1:=aa
      have hs2:¬9223372036854775807<S.size+2:=aa
      have hs3:¬9223372036854775807<S.size+2+1:=aa
      obtain⟨m2,hm2⟩:∃m2,m2=gk:=⟨_,rfl⟩;have Nu:Hid (m2=gk):=hm2;clear jE HT hrg hd hg e2 hm2 hkn ar2 Jg hgq hq0 Jj;rcases Decidable.em (k=0) with h0|h0
      all_goals first
       |(have hq0:decide (0<(k:Int))=false:=(by(simp;omega));have hq1:decide (0<k)=false:=(by(simp;omega));rw[aV h0] at hv2;clear h0;go_wp2_with fail;rw[<-hv2];clear hv2 hq0 hq1)
       |(have hq0:decide (0<(k:Int))=true:=(by(simp;omega));have hq1:decide (0<k)=true:=(by(simp;omega));rw[aP h0] at hv2;clear h0;go_wp2_with fail;rw[<-hv2];clear hv2 hq0 hq1)
      all_goals
       clear hs1 hs2 hs3;have af4:=Cs.out.le mi
       go_loopg [3,6] g.length (λz sv iv wr=>∃(n:Nat)(S:ByteArray),n+z=g.length/\iv=az aJ n/\sv=aF S/\S.size<=20000000402/\Hid (jD TT S (nT q0 (g.drop n)++(iT false (p.drop (k+1))++oT false (ps.drop (i+1)))))/\Hid (aj w wr/\Gl wr))
       case atStart=>exact⟨0,S2,aa,rfl,rfl,aa,Cs,HB⟩
       case round=>
        obtain⟨n,S,hnn,rfl,rfl,hS,HT,HB⟩:=hrel;clear xY hr1 Cs;have xY:wr.cell? ⟨b,i,none⟩=some (aG (some ⟨b2,0,none⟩) p.length uc):=aQ HB.out.1 E0.out hb;have hr1:wr.cell? ⟨b2,k,none⟩=some (aG gs g.length gc):=aQ HB.out.1 E2.out hb2;by_cases sG:n<g.length
        .have BW:(n:Int)<(g.length:Int):=aa
         obtain⟨q,hq⟩:∃q,g[n]?=some q:=⟨_,bo sG⟩;obtain⟨b3,vv,hb3,a0,a1,a2,a3⟩:=zA qY.out hq;subst vv;have r0:wr.cell? ⟨b3,n*4,none⟩=some (az aJ q.1.1):=aQ HB.out.1 a0 hb3;have r1:wr.cell? ⟨b3,n*4+1,none⟩=some (az aJ q.1.2):=aQ HB.out.1 a1 hb3;have r2:wr.cell? ⟨b3,n*4+2,none⟩=some (az aJ q.2.1):=aQ HB.out.1 a2 hb3;have r3:wr.cell? ⟨b3,n*4+3,none⟩=some (az aJ q.2.2):=aQ HB.out.1 a3 hb3;have VE:Hid (∀w1,Gl w1->ak 74 #[aC #[az aJ q.1.1,az aJ q.1.2,az aJ q.2.1,az aJ q.2.2]] w1 λe w'=>e=aL (aF ⟨(Pl.dJ q).toArray⟩)/\aj w1 w'):=λw1 g1=>Zi q w1 g1 (JG.out.1 q (bA hq))
         have hd:g.drop n=q::g.drop (n+1):=by rw[rK sG,(cG.1 hq).2]
         have jE:=HT.out;rw[hd] at jE;have yE:Hid (jD TT ((S++⟨(Pl.dJ q).toArray⟩)++⟨#[44,32]⟩) (nT q0 (g.drop (n+1))++(iT false (p.drop (k+1))++oT false (ps.drop (i+1))))):=jD.step (l:=[44,32]) (jD.step (by simpa[nT] using jE))
         have CW:=yE.out.le mi;rw[Ak _ [44,32],Ak] at CW;have HNJ:Hid (n+gk=g.length/\n<g.length):=⟨hnn,sG⟩;clear jE HT hd hq a0 a1 a2 a3 hnn sG;generalize Pl.dJ q=X at*;have rC:Hid (S.size+X.length+2<=20000000402):=by simp at CW;show _<=_;omega
         have hs1:¬9223372036854775807<S.size+X.length:=by have:=rC.out;omega
         have hs2:¬9223372036854775807<S.size+X.length+2:=by have:=rC.out;omega
         clear CW
         go_wp2_with fail
         refine(VE.out _ HB.out.2).mono ?_;rintro e w7 ⟨rfl,bu⟩;have pF:Hid (aj w w7/\Gl w7):=⟨HB.out.1.trans (bu.mono HB.out.1.size),Aj HB.out.2 bu⟩;clear bu
         go_wp2_with fail
         go_roundg (gk-1)
         case measure=>have:=HNJ.out;omega
         case rel=>
          refine⟨n+1,_,by have:=HNJ.out;omega,ai,rfl,?_,yE,pF⟩
          rw[Ak _ [44,32],Ak];exact rC.out
        .have BW:decide ((n:Int)<(g.length:Int))=false:=by simp;omega
         obtain⟨b3,vv,hb3,a0,a1,a2,a3⟩:=zA qY.out JG.out.2;subst vv;rw[wR] at a0 a1 a2 a3;rw[jH] at a1 a2 a3;have r0:wr.cell? ⟨b3,0,none⟩=some (az aJ q0.1.1):=aQ HB.out.1 a0 hb3;have r1:wr.cell? ⟨b3,1,none⟩=some (az aJ q0.1.2):=aQ HB.out.1 a1 hb3;have r2:wr.cell? ⟨b3,2,none⟩=some (az aJ q0.2.1):=aQ HB.out.1 a2 hb3;have r3:wr.cell? ⟨b3,3,none⟩=some (az aJ q0.2.2):=aQ HB.out.1 a3 hb3;have VE:Hid (∀w1,Gl w1->ak 74 #[aC #[az aJ q0.1.1,az aJ q0.1.2,az aJ q0.2.1,az aJ q0.2.2]] w1 λe w'=>e=aL (aF ⟨(Pl.dJ q0).toArray⟩)/\aj w1 w'):=λw1 g1=>Zi q0 w1 g1 (JG.out.1 q0 (bA JG.out.2))
         have jE:=HT.out;rw[Ay aa] at jE
         have yE:Hid (jD TT ((S++⟨(Pl.dJ q0).toArray⟩)++⟨#[41]⟩) (iT false (p.drop (k+1))++oT false (ps.drop (i+1)))):=jD.step (l:=[41]) (jD.step (by simpa[nT] using jE))
         have CW:=yE.out.le mi;rw[Ak _ [41],Ak] at CW;have hg0:(0:Int)<(g.length:Int):=by have:=(cG.1 JG.out.2).1;omega
         clear jE HT a0 a1 a2 a3 hnn;generalize Pl.dJ q0=X at*;have rC:Hid (S.size+X.length+1<=20000000402):=by simp at CW;show _<=_;omega
         have hs1:¬9223372036854775807<S.size+X.length:=by have:=rC.out;omega
         have hs2:¬9223372036854775807<S.size+X.length+1:=by have:=rC.out;omega
         clear CW
         go_wp2_with fail
         refine(VE.out _ HB.out.2).mono ?_;rintro e w7 ⟨rfl,bu⟩;have pF:Hid (aj w w7/\Gl w7):=⟨HB.out.1.trans (bu.mono HB.out.1.size),Aj HB.out.2 bu⟩;clear bu
         go_wp2_with fail
         go_roundg (m2-1)
         case measure=>have:=Nu.out;have:=HKJ.out;omega
         case rel=>
          refine⟨k+1,_,by have:=Nu.out;have:=HKJ.out;omega,ai,rfl,?_,yE,pF⟩
          rw[Ak _ [41],Ak];exact rC.out
     .have hkk:decide ((k:Int)<(p.length:Int))=false:=by simp;omega
      have jE:=HT.out;rw[Ay aa] at jE
      have OV:Hid (jD TT (S++⟨#[41]⟩) (oT false (ps.drop (i+1)))):=jD.step (l:=[41]) jE;have af4:=OV.out.le mi;have hsz:(S++(⟨#[41]⟩:ByteArray)).size<=20000000402:=aa
      have YP:Hid ((S++(⟨#[41]⟩:ByteArray)).size<=20000000402):=hsz;have hs1:¬9223372036854775807<S.size+1:=aa
      clear jE HT hsz af4
      go_wp2_with fail
      go_roundg (m1-1)
      case measure=>have:=E8.out;have:=HIJ.out;omega
      case rel=>exact⟨i+1,_,by have:=E8.out;have:=HIJ.out;omega,ai,rfl,YP.out,OV,HB⟩
  .have Ix:decide ((i:Int)<(ps.length:Int))=false:=by simp;omega
   have jE:=HT.out;rw[Ay aa] at jE
   obtain⟨aX,_⟩:=HB.out;have hs1:¬9223372036854775807<S.size+1:=aa
   have OV:Hid (jD TT S [41]):=jE;clear jE HT HB
   go_wp2_with fail
   go_ret
   refine⟨?_,aX⟩;rw[<-arZ (S:=S++⟨#[41]⟩) ((VC S [41]).trans OV.out.eq)];rfl
end
section
theorem Ge.ar3{a:Ge.Fr}(h:Ge.Bo a):Ge.bO a.1 a.2=a:=by
 have hp:=h.pos;obtain⟨g,g0,h1,h2,h3⟩:=Ge.vt (n:=a.1) (d:=a.2) aa
 have hr:=Ge.se (n:=a.1) (d:=a.2) aa
 have hg:0<g:=h3.2 hp;have e:=h.co;rw[h1,h2,Wp] at e;have e2:g.natAbs=1:=Nat.eq_one_of_mul_eq_one_right e;have e3:g=1:=aa
 rw[e3,wQ] at h1 h2;exact dN h1.symm h2.symm
structure okF(a:Ge.Fr):Prop where
 red:Ge.Bo a
 n: -10000000<=a.1/\a.1<=10000000
 d:a.2<=1000000
namespace Pl
def Fz{α:Type}(ok:α->Prop)(txt:α->List UInt8)(P:List Tk->Tk->List Tk->α->Prop):Prop:=
 ∀x,ok x->∀s i rest,s.drop i=txt x++rest->(∃c r,rest=c::r/\(c=44\/c=41))->∃c,Lex s i c (i+(txt x).length)/\(∀t r,(t.k=44\/t.k=41)->P (c++t::r) t r x)/\c≠[]
def OW{α:Type}(ok:α->Prop)(txt:α->List UInt8):Prop:=∀x,ok x->∃a r,txt x=a::r/\iZ a=false
def FB{α:Type}(P:List Tk->Tk->List Tk->α->Prop):List Tk->List Tk->List α->Prop
 |_,_,[]=>False
 |l,l',[x]=>∃t r,P l t r x/\t.k=41/\l'=t::r
 |l,l',x::y::xs=>∃t r,P l t r x/\t.k=44/\FB P r l' (y::xs)
theorem VF{α:Type}{ok:α->Prop}{txt:α->List UInt8}{P:List Tk->Tk->List Tk->α->Prop}(hI:Fz ok txt P)(hH:OW ok txt):∀(xs:List α),xs≠[]->(∀x∈xs,ok x)->∀s i rest,s.drop i=bI txt xs++(41::rest)->
  ∃c,Lex s i c (i+(bI txt xs).length)/\(∀t r,t.k=41->FB P (c++t::r) (t::r) xs)/\c≠[]
 |[],h,_,_,_,_,_=>absurd rfl h
 |[x],_,hok,s,i,rest,h=>by
  obtain⟨c,l1,p1,n1⟩:=hI x (hok x af) s i (41::rest) h ⟨_,_,rfl,aR rfl⟩
  exact⟨c,l1,λt r ht=>⟨t,r,p1 t r (aR ht),ht,rfl⟩,n1⟩
 |x::y::xs,_,hok,s,i,rest,h=>by
  have e0:bI txt (x::y::xs)++(41::rest)=txt x++(44::(32::(bI txt (y::xs)++(41::rest)))):=by simp[bI]
  rw[e0] at h;obtain⟨c,l1,p1,n1⟩:=hI x (hok x af) s i _ h ⟨_,_,rfl,aS rfl⟩
  have d2:=Fx h;have l2:=Fy (c:=44) af d2
  have d3:s.drop (i+(txt x).length+1)=32::(bI txt (y::xs)++(41::rest)):=by rw[<-AW,d2];rfl
  have d4:s.drop (i+(txt x).length+1+1)=bI txt (y::xs)++(41::rest):=by rw[<-AW,d3];rfl
  obtain⟨c',l3,p3,n3⟩:=VF hI hH (y::xs) af (λz hz=>hok z (bV _ hz)) s _ rest d4
  have hb:∀b q,bI txt (y::xs)++(41::rest)=b::q->iZ b=false:=by
   obtain⟨a,r2,ea,hb⟩:=hH y (hok y af)
   refine OM ?_;cases xs with
   |nil=>exact⟨a,r2,ea,hb⟩
   |cons z xs=>exact⟨a,r2++([44,32]++bI txt (z::xs)),by show txt y++([44,32]++bI txt (z::xs))=_;rw[ea];rfl,hb⟩
  have l3':=Lex.blank d3 hb n3 l3;have el:(bI txt (x::y::xs)).length=(txt x).length+2+(bI txt (y::xs)).length:=by simp[bI];omega
  refine⟨c++([⟨(44:UInt8).toNat,[44],0,i+(txt x).length⟩]++c'),?_,λt r ht=>?_,af⟩
  .rw[el,show i+((txt x).length+2+(bI txt (y::xs)).length)=i+(txt x).length+1+1+(bI txt (y::xs)).length by omega]
   exact l1.append (l2.append l3')
  .have e:c++([⟨(44:UInt8).toNat,[44],0,i+(txt x).length⟩]++c')++t::r=c++⟨(44:UInt8).toNat,[44],0,i+(txt x).length⟩::(c'++t::r):=af
   rw[e];exact⟨_,_,p1 _ _ (aS rfl),rfl,p3 t r ht⟩
theorem af6(a:Ge.Fr):∃b r,fO a=b::r/\iZ b=false:=by
 obtain⟨b,r,e,hb⟩:=afH a.1;unfold fO;split
 .exact⟨b,r,e,hb⟩
 .exact⟨b,r++([47]++Lib.itoa a.2),by rw[e];rfl,hb⟩
theorem af7{a:Ge.Fr}(h:okF a){s rest:List UInt8}{i:Nat}(hd:s.drop i=fO a++rest)(hs:∃c r,rest=c::r/\(c=44\/c=41\/c=32)):∃c,Lex s i c (i+(fO a).length)/\(∀t r,t.k≠47->sZ (c++t::r) (t::r) a)/\∃t r,c=t::r/\t.k=110:=by
 have hn:=h.n;have hp:=h.red.pos;have hdd:=h.d;have Jz:Sep rest:=by
  obtain⟨c,r,rfl,q⟩:=hs;refine Sep.of _ _ ?_;rcases q with q|q|q<;>simp[q]
 unfold fO at hd⊢;by_cases h1:a.2=1
 .rw[aV h1] at hd⊢;have l1:=Vw (n:=a.1) aa aa hd Jz
  exact⟨_,l1,λt r ht=>aS ⟨_,t,r,rfl,rfl,rfl,ht,dN rfl h1⟩,_,_,rfl,rfl⟩
 .rw[aP h1] at hd⊢;have e:Lib.itoa a.1++([47]++Lib.itoa a.2)++rest=Lib.itoa a.1++(47::(Lib.itoa a.2++rest)):=af
  rw[e] at hd;have l1:=Vw (n:=a.1) aa aa hd (Sep.of 47 _ af)
  have d2:=Fx hd;have l2:=Fy (c:=47) af d2
  have d3:s.drop (i+(Lib.itoa a.1).length+1)=Lib.itoa a.2++rest:=by rw[<-AW,d2];rfl
  have l3:=Vw (n:=a.2) aa aa d3 Jz
  refine⟨[⟨110,Lib.itoa a.1,a.1,i⟩]++([⟨(47:UInt8).toNat,[47],0,i+(Lib.itoa a.1).length⟩]++[⟨110,Lib.itoa a.2,a.2,i+(Lib.itoa a.1).length+1⟩]),?_,λt r _=>aR ⟨⟨110,Lib.itoa a.1,a.1,i⟩,⟨(47:UInt8).toNat,[47],0,i+(Lib.itoa a.1).length⟩,⟨110,Lib.itoa a.2,a.2,i+(Lib.itoa a.1).length+1⟩,t::r,rfl,rfl,rfl,rfl,rfl,by show 2<=a.2;omega,by show a.2<=1000000000;omega,by show -1000000000<=a.1/\a.1<=1000000000;omega,Ge.ar3 h.red,rfl⟩,⟨110,Lib.itoa a.1,a.1,i⟩,_,rfl,rfl⟩
  have el:(Lib.itoa a.1++([47]++Lib.itoa a.2)).length=(Lib.itoa a.1).length+1+(Lib.itoa a.2).length:=by simp;omega
  rw[el,show i+((Lib.itoa a.1).length+1+(Lib.itoa a.2).length)=i+(Lib.itoa a.1).length+1+(Lib.itoa a.2).length by omega]
  exact l1.append (l2.append l3)
def CZ(q:Ge.Qt):Prop:=okF q.1/\okF q.2
def PtT(l:List Tk)(t:Tk)(r:List Tk)(p:Ge.Qt):Prop:=∃l1,sZ l l1 p.1/\sZ l1 (t::r) p.2
theorem ar5:Fz CZ dJ PtT:=λq hq s i rest h hr=>by
 have e:dJ q++rest=fO q.1++(32::(fO q.2++rest)):=by simp[dJ]
 rw[e] at h;obtain⟨c1,l1,p1,t1,r1,e1,k1⟩:=af7 hq.1 h ⟨32,_,rfl,af⟩
 have d2:=Fx h;have d3:s.drop (i+(fO q.1).length+1)=fO q.2++rest:=by rw[<-AW,d2];rfl
 obtain⟨c,r,er,hc⟩:=hr;obtain⟨c2,l2,p2,t2,r2,e2,k2⟩:=af7 hq.2 d3 ⟨c,r,er,by rcases hc with q|q<;>simp[q]⟩
 have VG:=Lex.blank d2 (OM (af6 q.2)) (by rw[e2];simp) l2
 refine⟨c1++c2,?_,λt r ht=>⟨c2++t::r,?_,p2 t r aa⟩,by rw[e1];simp⟩
 .have el:(dJ q).length=(fO q.1).length+1+(fO q.2).length:=by simp[dJ];omega
  rw[el,show i+((fO q.1).length+1+(fO q.2).length)=i+(fO q.1).length+1+(fO q.2).length by omega]
  exact l1.append VG
 .rw[fL,e2,mr];exact p1 t2 _ aa
theorem ar6:OW CZ dJ:=λq _=>by
 obtain⟨b,r,e,hb⟩:=af6 q.1;exact⟨b,r++([32]++fO q.2),by unfold dJ;rw[e];rfl,hb⟩
theorem af9:∀{xs:List Ge.Qt}{l l':List Tk},FB PtT l l' xs->Cw l l' xs
 |[],_,_,h=>h.elim
 |[_],_,_,h=>by
  obtain⟨t,r,⟨l1,h1,h2⟩,h3,h4⟩:=h;exact⟨l1,t,r,h1,h2,h3,h4⟩
 |_::_::_,_,_,h=>by
  obtain⟨t,r,⟨l1,h1,h2⟩,h3,h4⟩:=h;exact⟨l1,t,r,h1,h2,h3,af9 h4⟩
theorem aga{α:Type}{ok:α->Prop}{txt:α->List UInt8}{P:List Tk->Tk->List Tk->α->Prop}(hI:Fz ok txt P)(hH:OW ok txt){Q:List Tk->Tk->List Tk->List α->Prop}{JH:List α->Prop}(h1:∀xs,JH xs->xs≠[]/\∀x∈xs,ok x)
  (hQ:∀xs t r t2 t3 r3,JH xs->t.k=40->FB P r (t2::t3::r3) xs->t2.k=41->Q (t::r) t3 r3 xs):Fz JH (λxs=>40::(bI txt xs++[41])) Q:=λxs hxs s i rest h hr=>by
 have e:(40::(bI txt xs++[41]))++rest=40::(bI txt xs++(41::rest)):=af
 rw[e] at h;have l1:=Fy (c:=40) af h
 have d1:s.drop (i+1)=bI txt xs++(41::rest):=by rw[<-AW,h];rfl
 obtain⟨c,l2,p2,n2⟩:=VF hI hH xs (h1 xs hxs).1 (h1 xs hxs).2 s (i+1) rest d1;have d2:=Fx d1;have l3:=Fy (c:=41) af d2
 refine⟨[⟨(40:UInt8).toNat,[40],0,i⟩]++(c++[⟨(41:UInt8).toNat,[41],0,i+1+(bI txt xs).length⟩]),?_,λt r _=>?_,af⟩
 .have el:(40::(bI txt xs++[41])).length=1+(bI txt xs).length+1:=by simp;omega
  rw[el,show i+(1+(bI txt xs).length+1)=i+1+(bI txt xs).length+1 by omega]
  exact l1.append (l2.append l3)
 .have e2:[⟨(40:UInt8).toNat,[40],0,i⟩]++(c++[⟨(41:UInt8).toNat,[41],0,i+1+(bI txt xs).length⟩])++t::r=(⟨(40:UInt8).toNat,[40],0,i⟩:Tk)::(c++⟨(41:UInt8).toNat,[41],0,i+1+(bI txt xs).length⟩::t::r):=af
  rw[e2];exact hQ xs _ _ _ t r hxs rfl (p2 _ (t::r) rfl) rfl
theorem agb{α:Type}{JH:List α->Prop}{txt:α->List UInt8}:OW JH (λxs=>40::(bI txt xs++[41])):=λxs _=>⟨40,_,rfl,ah⟩
def rX(g:List Ge.Qt):List UInt8:=40::(bI dJ g++[41])
def pX(gs:List (List Ge.Qt)):List UInt8:=40::(bI rX gs++[41])
def okR(g:List Ge.Qt):Prop:=xB g/\∀q∈g,CZ q
def VH(gs:List (List Ge.Qt)):Prop:=gs≠[]/\gs.length<=20000000402/\∀g∈gs,okR g
theorem ar7:Fz okR rX IZ:=aga ar5 ar6 (λxs h=>⟨λe=>by have:=h.1.1;rw[e] at this;simp at this,h.2⟩) λxs t r t2 t3 r3 h h1 h2 h3=>⟨t,r,t2,rfl,h1,af9 h2,h3,h.1⟩
theorem agd:∀{xs:List (List Ge.Qt)}{l l':List Tk},FB IZ l l' xs->E7 l l' xs
 |[],_,_,h=>h.elim
 |[_],_,_,h=>h
 |_::_::_,_,_,h=>by
  obtain⟨t,r,h1,h3,h4⟩:=h;exact⟨t,r,h1,h3,agd h4⟩
theorem ar8:Fz VH pX I0:=aga ar7 agb (λ_ h=>⟨h.1,h.2.2⟩) λ_ t r t2 _ _ h h1 h2 h3=>⟨t,r,t2,rfl,h1,agd h2,h3,h.2.1⟩
theorem age:∀{xs:List (List (List Ge.Qt))}{l l':List Tk},FB I0 l l' xs->Cz l l' xs
 |[],_,_,h=>h.elim
 |[_],_,_,h=>h
 |_::_::_,_,_,h=>by
  obtain⟨t,r,h1,h3,h4⟩:=h;exact⟨t,r,h1,h3,age h4⟩
theorem ar9{ps:List (List (List Ge.Qt))}(hne:ps≠[])(hok:∀p∈ps,VH p):∃t1 r1 t2 te,all (fI++([32,40]++(bI pX ps++[41])))=⟨119,fI,0,0⟩::t1::r1/\t1.k=40/\Cz r1 [t2,te] ps/\t2.k=41/\te.k=101:=by
 generalize hs:fI++([32,40]++(bI pX ps++[41]))=s;have h0:s.drop 0=fI++(32::(40::(bI pX ps++(41::[])))):=by rw[<-hs];simp
 have l1:=arB (q:=fI) ah arC.2.2 h0 (Sep.of 32 _ af)
 have d1:=Fx h0;rw[jH] at l1 d1;have d2:s.drop (fI.length+1)=40::(bI pX ps++(41::[])):=by rw[<-AW,d1];rfl
 have l2:=Fy (c:=40) af d2
 have VG:=Lex.blank d1 (λc r e=>by injection e with e _;rw[<-e];decide) af l2
 have d3:s.drop (fI.length+1+1)=bI pX ps++(41::[]):=by rw[<-AW,d2];rfl
 obtain⟨c,l3,p3,_⟩:=VF ar8 agb ps hne hok s _ [] d3;have d4:=Fx d3;have l4:=Fy (c:=41) af d4
 have L:=l1.append (VG.append (l3.append l4));have hend:s.length=fI.length+1+1+(bI pX ps).length+1:=by rw[<-hs];simp;omega
 have htk:tk s (fI.length+1+1+(bI pX ps).length+1)=⟨101,[],0,fI.length+1+1+(bI pX ps).length+1⟩:=by
  rw[OL (l:=[]) (by rw[List.drop_eq_nil_iff];omega) (λc r e=>by cases e)]
  rfl
 have hlen:=(L.len (iW _)).1;obtain⟨K,hK⟩:∃K:List Tk,K=[⟨119,fI,0,0⟩]++([⟨(40:UInt8).toNat,[40],0,fI.length+1⟩]++(c++[⟨(41:UInt8).toNat,[41],0,fI.length+1+1+(bI pX ps).length⟩])):=⟨_,rfl⟩;rw[<-hK] at L hlen;have hf:s.length+1-K.length+K.length=s.length+1:=aa
 have ht:=L.iF (s.length+1-K.length);rw[hf] at ht;have he:∀f,iF s f (fI.length+1+1+(bI pX ps).length+1)=[⟨101,[],0,fI.length+1+1+(bI pX ps).length+1⟩]:=λf=>by
  cases f with
  |zero=>rw[Pl.iF,htk]
  |succ f=>rw[Pl.iF,htk,aV (aS rfl)]
 rw[he] at ht;refine⟨⟨(40:UInt8).toNat,[40],0,fI.length+1⟩,c++[⟨(41:UInt8).toNat,[41],0,fI.length+1+1+(bI pX ps).length⟩,⟨101,[],0,fI.length+1+1+(bI pX ps).length+1⟩],_,_,?_,rfl,age (p3 _ [_] rfl),rfl,rfl⟩
 .show Pl.iF _ _ 0=_;rw[ht,hK];simp
end Pl
end
namespace Gb
open Ge Ga
section
variable{rg:List (List Pt)}{l:List Nd}{r:Int}{Xs:List PB}
theorem SX.nodup(h:SX rg l r Xs):(sS (aW l) Xs).Nodup:=by
 unfold sS;rw[List.Nodup,lF,lW];intro i j hi hj hij e;have gx:∀{i:Nat}(hi:i<Xs.length),xi Xs i=Xs[i]:=λhi=>vU (bo hi)
 have:=SX.EX h hi hj (by rw[gx hi,gx hj];exact e)
 omega
end
section
variable{rg:List (List Pt)}{l:List Nd}{r:Int}{Xs:List PB}
def yF(F:List NP):List (List Nd):=F.flatMap λp=>p.1::p.2
theorem SX.rsF(h:SX rg l r Xs)(hB:BD Xs):∃RL,Rs (sS (aW l) Xs) (lh (aW l) Xs) RL/\((yF (fin Xs)).map (·.map (PM (aW l)))).Perm (RL.map cM):=by
 obtain⟨PL,e1,hok,OH⟩:=SX.ym h hB;have Fv:=h.pn hB Xs.length (aY _);have yD:∀p∈PL,(∀a∈p.1.1,a<Xs.length)/\∀z∈p.2,∀a∈z.1,a<Xs.length:=λp hp=>by
  have:=Fv (oU p) (by rw[e1];exact bQ.2 ⟨p,hp,rfl⟩)
  exact⟨this.1.lt,λz hz=>(this.2 z.1 (bQ.2 ⟨z,hz,rfl⟩)).lt⟩
 have can:∀q:List Nat,(∀a∈q,a<Xs.length)->∀n∈Go.Proofs.YtkjhhooecopolaaGreatDoor.fr Xs q,Ge.Can n:=λq hq n hn=>h.nl.can n (Rel.nodes h hq n hn)
 have hole:∀p∈PL,(jS (tD Xs) (p.2.map Prod.fst)).Perm (p.2.map Prod.fst):=λp hp=>by
  refine(JC (tD Xs) (p.2.map Prod.fst) (yw (λi:Fin (p.2.map Prod.fst).length=>Go.Proofs.YtkjhhooecopolaaGreatDoor.fr Xs (p.2.map Prod.fst)[i]) λi a ha=>?_)).1
  have hm:(p.2.map Prod.fst)[i]∈p.2.map Prod.fst:=iw _;obtain⟨z,hz,e⟩:=bQ.1 hm;have ha':a∈Go.Proofs.YtkjhhooecopolaaGreatDoor.fr Xs (p.2.map Prod.fst)[i]:=ha;rw[<-e] at ha';exact can z.1 ((yD p hp).2 z hz) a ha'
 have hsw:Sort.SWO (ltOf λi j:Fin ((bH Xs Xs.length).ps.map (eK Xs)).length=>oQ Xs ((bH Xs Xs.length).ps.map (eK Xs))[i] ((bH Xs Xs.length).ps.map (eK Xs))[j]):=
  yw (λi:Fin ((bH Xs Xs.length).ps.map (eK Xs)).length=>Go.Proofs.YtkjhhooecopolaaGreatDoor.fr Xs ((bH Xs Xs.length).ps.map (eK Xs))[i].1) λi a ha=>by
   have hm:((bH Xs Xs.length).ps.map (eK Xs))[i]∈(bH Xs Xs.length).ps.map (eK Xs):=iw _;obtain⟨g,hg,eg⟩:=bQ.1 hm;have hg':g∈PL.map oU:=by rw[<-e1];exact hg
   obtain⟨p,hp,rfl⟩:=bQ.1 hg';have ha':a∈Go.Proofs.YtkjhhooecopolaaGreatDoor.fr Xs ((bH Xs Xs.length).ps.map (eK Xs))[i].1:=ha;have e2:((bH Xs Xs.length).ps.map (eK Xs))[i].1=p.1.1:=by rw[<-eg];rfl
   rw[e2] at ha';exact can p.1.1 (yD p hp).1 a ha'
 have t1:=(JC (oQ Xs) ((bH Xs Xs.length).ps.map (eK Xs)) hsw).1;refine⟨PL.flatMap λp=>p.1.2::p.2.map Prod.snd,⟨λR hR=>?_,?_⟩,?_⟩
 .obtain⟨p,hp,hR⟩:=oW.1 hR;rcases bU.1 hR with q|q
  .rw[q];exact(hok p hp).shell.lr
  .obtain⟨z,hz,rfl⟩:=bQ.1 q;exact((hok p hp).hole z hz).1.lr
 .have:∀lV:List uM,(lV.flatMap λp=>p.1.2::p.2.map Prod.snd).flatten=lD lV:=λlV=>by
   unfold lD;induction lV with
   |nil=>rfl
   |cons p lV ih=>
    rw[qB,Ws,gM,Dd,ih];rfl
  rw[this];exact OH
 .have p1:(yF (fin Xs)).Perm (((bH Xs Xs.length).ps.map (eK Xs)).flatMap λg=>Go.Proofs.YtkjhhooecopolaaGreatDoor.fr Xs g.1::g.2.map (Go.Proofs.YtkjhhooecopolaaGreatDoor.fr Xs)):=by
   unfold yF fin;rw[WK];exact t1.flatMap_right _
  rw[e1,gq,WK] at p1;have p2:(PL.flatMap λp=>Go.Proofs.YtkjhhooecopolaaGreatDoor.fr Xs (eK Xs (oU p)).1::(eK Xs (oU p)).2.map (Go.Proofs.YtkjhhooecopolaaGreatDoor.fr Xs)).Perm (PL.flatMap λp=>Go.Proofs.YtkjhhooecopolaaGreatDoor.fr Xs p.1.1::p.2.map λz=>Go.Proofs.YtkjhhooecopolaaGreatDoor.fr Xs z.1):=by
   have:∀lV:List uM,(∀p∈lV,p∈PL)->(lV.flatMap λp=>Go.Proofs.YtkjhhooecopolaaGreatDoor.fr Xs (eK Xs (oU p)).1::(eK Xs (oU p)).2.map (Go.Proofs.YtkjhhooecopolaaGreatDoor.fr Xs)).Perm (lV.flatMap λp=>Go.Proofs.YtkjhhooecopolaaGreatDoor.fr Xs p.1.1::p.2.map λz=>Go.Proofs.YtkjhhooecopolaaGreatDoor.fr Xs z.1):=by
    intro lV;induction lV with
    |nil=>intro _;exact Kb _
    |cons p lV ih=>
     intro hm;rw[qB,qB];refine ahz ?_ (ih λx hx=>hm x (bV _ hx))
     refine List.Perm.cons _ ?_;have:=(hole p (hm p af)).map (Go.Proofs.YtkjhhooecopolaaGreatDoor.fr Xs)
     rw[gq] at this;exact this
   exact this PL λ_ h=>h
  refine((p1.trans p2).map _).trans (List.Perm.of_eq ?_);rw[List.map_flatMap,List.map_flatMap];have:∀lV:List uM,(∀p∈lV,p∈PL)->(lV.flatMap λp=>(Go.Proofs.YtkjhhooecopolaaGreatDoor.fr Xs p.1.1::p.2.map λz=>Go.Proofs.YtkjhhooecopolaaGreatDoor.fr Xs z.1).map (·.map (PM (aW l))))=lV.flatMap λp=>(p.1.2::p.2.map Prod.snd).map cM:=by
   intro lV;induction lV with
   |nil=>intro _;rfl
   |cons p lV ih=>
    intro hm;rw[qB,qB,ih λx hx=>hm x (bV _ hx)]
    congr 1;have ok:=hok p (hm p af)
    rw[gM,gM,ok.shell.cM,gq,gq];congr 1;refine wS λz hz=>?_
    exact(ok.hole z hz).1.cM
  exact this PL λ_ h=>h
end
theorem asb(g:List Pt):(closing g).map Prod.fst=g:=by
 cases g with
 |nil=>rfl
 |cons a r=>
  show((a::r).zip (r++[a])).map Prod.fst=a::r;rw[List.map_fst_zip];simp
section
variable{M:Int}{S:List Sg}{nx:Sg->Sg}{RL:List (List Sg)}{DZ:List (List Pt)}{l':List Nd}
end
section
variable{M:Int}{S:List Sg}{nx:Sg->Sg}{RL:List (List Sg)}{DZ:List (List Pt)}{l':List Nd}{r':Int}{JE:List PB}
end
section
variable{rg:List (List Pt)}{l:List Nd}{r:Int}{Xs:List PB}
end
end Gb
section
namespace Pl
end Pl
end
namespace Gb
open Ge Ga
theorem JI{α:Type}(f:α->List UInt8):∀l:List α,Lib.join (l.map f) [44,32]=Pl.bI f l
 |[]=>by simp[Lib.join,List.intercalate,Pl.bI]
 |[x]=>by simp[Lib.join,List.intercalate,Pl.bI]
 |x::y::r=>by
  have ih:=JI f (y::r);simp only[Lib.join,List.intercalate,gM,List.intersperse,Dd,Pl.bI] at ih⊢;rw[ih]
theorem ase{rg:List (List Pt)}{r:Int}{T:List UInt8}(hs:∀e∈aT rg,gS e)(h:CV rg r T):T.length<=20000000000:=by
 obtain⟨Ps,l,h1,h2,h3,h4,hT⟩:=h;have hX:=M4 (r:=r) h1 h2 h3;have hB:=Ot (r:=r) h1 hs h3 h4;generalize oG r (aT rg) Ps=Xs at*;have Fv:=hX.pn hB Xs.length (aY _);have ht:=hX.fE hB Xs.length (aY _);have hst:=ae4 hB Fv;have hJ:=aeZ hB (ae3 hB Fv);have hL:=hB.len;rw[hT];unfold yA Oq CP;split
 .decide
 .rw[bX,bX];have:yz.length=14:=rfl;simp only[dG,ib];omega
end Gb
end Go.Proofs.YtkjhhooecopolaaGreatDoor
namespace Go.Proofs.YtkjhhooecopolaaGreatDoor
open Tryz
open Value renaming int->az,complex->aA,float->aB,agg->aC,bool->aD,string->aF,slice->aG,pointer->aH,tuple->aI
open IntKind renaming i64->aJ
open FloatKind renaming f64->aK
open Ending renaming returned->aL
open Go renaming World->aM,Value->aN,floatOfInt->aO
namespace Gb
open Ge Ga
theorem LR.agf{S:List Sg}{nx:Sg->Sg}(h:Wd S nx){R:List Sg}(k:LR S nx R):3<=(cM R).length:=by
 obtain⟨a,T,t,U,rfl,e2,e3,hd⟩:=k.Gs h;rw[e3];cases U with
 |cons u U=>simp
 |nil=>
  exfalso;have hl:(a::T).getLast?=some (T.getLastD a):=by rw[FK,nG]
  have hz:=k.ring.mem _ (rH hl);have ha:=k.ring.mem a af
  have hp:=k.ring.path (a:=a) rfl;have go:∀(T:List Sg)(b:Sg)(e:Pt),b∈S->(∀s∈T,s∈S)->Path b.2 T e->∀t,tG b T=[t]->bg (dr (t.1,e)) (dr (T.getLastD b))=true:=by
   intro T;induction T with
   |nil=>intro b e _ _ _ t ht;simp[tG] at ht
   |cons s T ih=>
    intro b e hb hT hp t ht;have hs:=hT s af
    have hT':∀x∈T,x∈S:=λx hx=>hT x (bV _ hx)
    rw[List.getLastD_cons];have ht':(if cr (dr b) (dr s)=0 then tG s T else s::tG s T)=[t]:=ht
    by_cases q:cr (dr b) (dr s)=0
    .rw[aV q] at ht';exact ih s e hs hT' hp.2 t ht'
    .rw[aP q] at ht';injection ht' with h1 h2;subst h1;have k1:=(h.Qp T s e hs hT' hp.2).1 h2;have k2:=h.Ou T s s e hs hT' hp.2 (qK (h.gw hs));rw[h2] at k2;exact ve k1 k2
  have g:=go T a a.1 ha (λs hs=>k.ring.mem s (bV _ hs)) hp.2 t e2
  have z2:a.1=(T.getLastD a).2:=(k.ring.cls _ a hl rfl).1;have tw:=h.two a ha _ hz z2;have e:dr (t.1,a.1)=neg (dr (a.1,t.1)):=rR (a.1,t.1);rw[e] at g;have g2:bg (dr (a.1,t.1)) (neg (dr (T.getLastD a)))=true:=by
   rw[dm] at g⊢;rw[fU,pV] at g;rw[fG,kI];omega
  rw[ve (Bh hd) g2] at tw;cases tw
end Gb
open Ge Go.RowKit
def cq(c:List Nd):List Qt:=(c++c.take 1).map aU
def pq(p:Gb.NP):List (List Qt):=(p.1::p.2).map cq
def oq(p:Gb.NP):List (List Qt):=(p.1::p.2).map (·.map aU)
theorem asf{c:List Nd}(h:c≠[]):opn (cq c)=c.map aU:=by
 cases c with
 |nil=>exact absurd rfl h
 |cons a r=>
  show((a::r++[a]).map aU).dropLast=_;rw[jV,List.map_singleton,List.dropLast_concat]
theorem OX{F:List Gb.NP}(h:F≠[]):Gb.pS F=Pl.fI++([32,40]++(Pl.bI Pl.pX (F.map pq)++[41])):=by
 have e:(F.map λp=>wH (Gb.yC p.1) (p.2.map Gb.yC))=(F.map pq).map Pl.pX:=by
  rw[gq];refine wS λp _=>?_
  show wH (Gb.yC p.1) (p.2.map Gb.yC)=Pl.pX (pq p);unfold wH Pl.pX;rw[<-Gb.JI];unfold pq;rw[gq];rfl
 unfold Gb.pS CP;rw[e,aP (by simpa using h),Gb.JI]
 simp[yz,Pl.fI]
def jT{α:Type}(f:α->List UInt8):Bool->List α->List UInt8
 |_,[]=>[41]
 |b,x::xs=>(if b then[] else[44,32])++(f x++jT f false xs)
theorem VI{α:Type}(f:α->List UInt8):∀xs:List α,jT f true xs=Pl.bI f xs++[41]
 |[]=>rfl
 |[x]=>by simp[jT,Pl.bI]
 |x::y::xs=>by
  have ih:=VI f (y::xs);simp[jT,Pl.bI] at ih⊢;exact ih
theorem agh(q0:Qt):∀g:List Qt,nT q0 g=Pl.bI Pl.dJ (g++[q0])++[41]
 |[]=>rfl
 |[x]=>by simp[nT,Pl.bI]
 |x::y::g=>by
  have ih:=agh q0 (y::g);simp[nT,Pl.bI] at ih⊢;exact ih
def rO(g:List Qt):List UInt8:=[40]++nT (g.headD ((0,1),(0,1))) g
def pO(gs:List (List Qt)):List UInt8:=[40]++iT true gs
theorem agi:∀(b:Bool)(gs:List (List Qt)),iT b gs=jT rO b gs
 |_,[]=>rfl
 |b,g::gs=>by
  unfold iT jT rO;rw[agi false gs,fL];rfl
theorem agj:∀(b:Bool)(ps:List (List (List Qt))),oT b ps=jT pO b ps
 |_,[]=>rfl
 |b,p::ps=>by
  unfold oT jT pO;rw[agj false ps,fL];rfl
theorem agk{α β:Type}{f:α->List UInt8}{g:β->List UInt8}:∀{xs:List α}{ys:List β},xs.map f=ys.map g->Pl.bI f xs=Pl.bI g ys:=λ{xs ys} h=>by
 rw[<-Gb.JI,<-Gb.JI,h]
theorem asg{c:List Nd}(h:c≠[]):rO (c.map aU)=Pl.rX (cq c):=by
 cases c with
 |nil=>exact absurd rfl h
 |cons a r=>
  unfold rO Pl.rX cq;rw[agh];simp
theorem ash{F:List Gb.NP}(h:F≠[])(hne:∀p∈F,p.1≠[]/\∀g∈p.2,g≠[]):Gb.pS F=yz++oT true (F.map oq):=by
 rw[OX h,agj,VI];have e:Pl.bI pO (F.map oq)=Pl.bI Pl.pX (F.map pq):=agk (by
  rw[gq,gq];refine wS λp hp=>?_
  show pO (oq p)=Pl.pX (pq p);unfold pO Pl.pX;rw[agi,VI];have e2:Pl.bI rO (oq p)=Pl.bI Pl.rX (pq p):=agk (by
   unfold oq pq;rw[gq,gq];refine wS λc hc=>?_
   show rO (c.map aU)=Pl.rX (cq c);refine asg ?_;rcases bU.1 hc with q|q
   .rw[q];exact(hne p hp).1
   .exact(hne p hp).2 c q)
  rw[e2];rfl)
 rw[e];simp[yz,Pl.fI]
theorem Al{α:Type}{f:α->List UInt8}(hf:∀x,1<=(f x).length):∀xs:List α,xs.length<=(Pl.bI f xs).length
 |[]=>af
 |[x]=>by simpa[Pl.bI] using hf x
 |x::y::xs=>by
  have ih:=Al hf (y::xs);simp[Pl.bI] at ih⊢;omega
theorem JJ{α:Type}{f:α->List UInt8}:∀{xs:List α}{x:α},x∈xs->(f x).length<=(Pl.bI f xs).length
 |[],_,h=>by simp at h
 |[y],x,h=>by
  have:x=y:=by simpa using h
  rw[this];exact aY _
 |y::z::xs,x,h=>by
  rcases bU.1 h with q|q
  .rw[q];simp[Pl.bI]
  .have ih:=JJ (f:=f) q;simp[Pl.bI] at ih⊢;omega
theorem agl(s:List UInt8):∀(f i:Nat),(Pl.iF s f i).length<=f+1
 |0,i=>by simp[Pl.iF]
 |f+1,i=>by
  rw[Pl.iF];split
  .simp
  .have:=agl s f ((Pl.tk s i).pl+(Pl.tk s i).raw.length);simp;omega
theorem agm{n d:Int}(hd:0<d):(bO n d).1.natAbs<=n.natAbs/\(bO n d).2<=d/\0<(bO n d).2:=by
 obtain⟨g,g0,h1,h2,h3⟩:=vt (n:=n) (d:=d) aa
 have hg:0<g:=h3.2 hd;have hp:=(se (n:=n) (d:=d) aa).pos
 refine⟨?_,?_,hp⟩
 .have e:=aZ Int.natAbs h1;rw[oX] at e;rw[e];exact atp _ aa
 .have:=ahb (show 1<=g by omega) (show 0<=(bO n d).2 by omega)
  rw[wQ,<-h2] at this;exact this
theorem asi{n:Nd}(hc:Ge.Can n)(hn:nj n):Pl.CZ (aU n):=by
 have hp:=hc.pos;have h1:=agm (n:=n.1) hp;have h2:=agm (n:=n.2.1) hp;have hx:=hn.x;have hy:=hn.y;have hd:=hn.d;refine⟨⟨se aa,?_,?_⟩,⟨se aa,?_,?_⟩⟩
 .show -10000000<=(bO n.1 n.2.2).1/\(bO n.1 n.2.2).1<=10000000;omega
 .show(bO n.1 n.2.2).2<=1000000;omega
 .show -10000000<=(bO n.2.1 n.2.2).1/\(bO n.2.1 n.2.2).1<=10000000;omega
 .show(bO n.2.1 n.2.2).2<=1000000;omega
theorem agn{q:Qt}(h:Pl.CZ q):fY q:=⟨h.1.n,⟨h.1.red.pos,h.1.d⟩,h.2.n,⟨h.2.red.pos,h.2.d⟩⟩
structure VJ(F:List Gb.NP):Prop where
 q:∀p∈F,∀c∈p.1::p.2,3<=c.length/\∀n∈c,Pl.CZ (aU n)
theorem asj{F:List Gb.NP}(hF:VJ F)(hne:F≠[])(hl:(Gb.pS F).length<=20000000000)(w:aM)(hG:Gl w):
  ak 24 #[aF (ba (Gb.pS F))] w λe w'=>∃v,e=aL (aI #[v,aD true])/\oL w' v (F.map oq)/\aj w w':=by
 have e1:=OX hne;have OY:∀p∈F,∀c∈p.1::p.2,c≠[]:=λp hp c hc e=>by
  have:=(hF.q p hp c hc).1;rw[e] at this;simp at this
 have e2:=ash hne λp hp=>⟨OY p hp _ af,λg hg=>OY p hp g (by simp[hg])⟩
 have hJ:(Pl.bI Pl.pX (F.map pq)).length<=20000000000:=by
  rw[e1] at hl;simp at hl;omega
 have hpl:∀gs:List (List Qt),gs∈F.map pq->gs.length<=20000000000/\∀g∈gs,g.length<=20000000000:=λgs vv=>by
  have h1:=JJ (f:=Pl.pX) vv;have h2:(Pl.pX gs).length=(Pl.bI Pl.rX gs).length+2:=by simp[Pl.pX]
  have h3:=Al (f:=Pl.rX) (λx=>by simp[Pl.rX]) gs
  refine⟨aa,λg hg=>?_⟩
  have h4:=JJ (f:=Pl.rX) hg;have h5:(Pl.rX g).length=(Pl.bI Pl.dJ g).length+2:=by simp[Pl.rX]
  have h6:=Al (f:=Pl.dJ) (λx=>by simp[Pl.dJ];omega) g
  omega
 have hok:∀gs∈F.map pq,Pl.VH gs:=λgs vv=>by
  obtain⟨p,hp,rfl⟩:=bQ.1 vv;obtain⟨k1,k2⟩:=hpl _ vv;refine⟨by unfold pq;simp,aa,λg hg=>?_⟩
  have hgl:=k2 g hg;obtain⟨c,hc,rfl⟩:=bQ.1 hg;obtain⟨c3,cn⟩:=hF.q p hp c hc;cases c with
  |nil=>simp at c3
  |cons a r=>
   refine⟨⟨?_,aa,?_⟩,λq hq=>?_⟩
   .simp[cq] at c3⊢;omega
   .simp[cq]
   .obtain⟨n,hn,rfl⟩:=bQ.1 hq;rcases dF.1 hn with z|z
    .exact cn n z
    .exact cn n (rN z)
 obtain⟨t1,r1,t2,te,ha,ht1,NA,ht2,hte⟩:=Pl.ar9 (ps:=F.map pq) (by simpa using hne) hok
 rw[<-e1] at ha;have KF:(F.map pq).map (·.map opn)=F.map oq:=by
  rw[gq];refine wS λp hp=>?_
  show(pq p).map opn=oq p;unfold pq oq;rw[gq];exact wS λc hc=>asf (OY p hp c hc)
 have hal:(Pl.all (Gb.pS F)).length<=(Gb.pS F).length+2:=agl _ _ _;have hFl:F.length<=20000000000:=by
  have:=Al (f:=Pl.pX) (λx=>by simp[Pl.pX]) (F.map pq)
  rw[gG] at this;omega
 have main:=an1 (ba (Gb.pS F)) w (by rw[arV];omega) ⟨119,Pl.fI,0,0⟩ te (t1::r1) [] (F.map pq) (by rw[afX];exact ha) (by rw[afX];omega) rfl rfl (by rw[gG];omega) ⟨t1,r1,t2,rfl,ht1,NA,ht2⟩ hte (λw1 v hb hR=>by
  rw[KF] at hR;refine ar0 (Gb.pS F) (F.map oq) v w1 (Aj hG hb) hR (by simpa using hne) ?_ e2 aa (by rw[gG];omega) ?_
  .intro o ho g hg;obtain⟨p,hp,rfl⟩:=bQ.1 ho;obtain⟨c,hc,rfl⟩:=bQ.1 hg;refine⟨by simpa using OY p hp c hc,λq hq=>?_⟩
   obtain⟨n,hn,rfl⟩:=bQ.1 hq;exact agn ((hF.q p hp c hc).2 n hn)
  .intro o ho;obtain⟨p,hp,rfl⟩:=bQ.1 ho;obtain⟨k1,k2⟩:=hpl (pq p) (bQ.2 ⟨p,hp,rfl⟩);refine⟨by simp[oq,pq] at k1⊢;omega,λg hg=>?_⟩
   obtain⟨c,hc,rfl⟩:=bQ.1 hg;have:=k2 (cq c) (bQ.2 ⟨c,hc,rfl⟩);simp[cq] at this⊢;omega)
 rw[KF] at main;exact main
end Go.Proofs.YtkjhhooecopolaaGreatDoor

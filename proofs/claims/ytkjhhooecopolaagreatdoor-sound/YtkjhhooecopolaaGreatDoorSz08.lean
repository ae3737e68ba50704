import Derived.Test.YtkjhhooecopolaaGreatDoorSz07
import Derived.Test.YtkjhhooecopolaaGreatDoorProg
set_option maxRecDepth 100000
set_option maxHeartbeats 4000000
namespace Go.Proofs.YtkjhhooecopolaaGreatDoor
open Tryz
open Value renaming int->az,complex->aA,float->aB,agg->aC,bool->aD,string->aF,slice->aG,pointer->aH,tuple->aI
open IntKind renaming i64->aJ
open FloatKind renaming f64->aK
open Ending renaming returned->aL
open Go renaming World->aM,Value->aN,floatOfInt->aO
namespace Ga
open Ge
variable{bw:Int->Bool}{rg:List (List Pt)}{l:List Nd}{n a b c:Nd}{d d' z:Pt}
theorem MB(z w:Pt):bg z w=bg w z:=by
 unfold bg;rw[dh z w,jI];congr 1;exact decide_eq_decide.2 aa
theorem Ce(h:bg d d'=true):bz d↔bz d':=by
 obtain⟨h1,h2⟩:=(dm _ _).1 h;have hd:=dC (wX (D:=d') (r:=d) (by rw[jI];omega))
 have e1:d'.1*dt d d=d.1*dt d d':=by unfold cr at h1;unfold dt;grind
 have e2:d'.2*dt d d=d.2*dt d d':=by unfold cr at h1;unfold dt;grind
 have a1:=bT (z:=d'.1) hd;have a2:=bT (z:=d.1) h2;have a3:=dP (z:=d'.1) hd;have a4:=dP (z:=d.1) h2;have a5:=bT (z:=d'.2) hd;have a6:=bT (z:=d.2) h2;rw[gF] at a1 a2 a3 a4 a5 a6;unfold bz;omega
theorem ux(h:bg d d'=true)(z:Pt):(0<cr z d↔0<cr z d')/\(cr z d=0↔cr z d'=0):=by
 obtain⟨h1,h2⟩:=(dm _ _).1 h;have hd:=dC (wX (D:=d') (r:=d) (by rw[jI];omega))
 have e:=wY (D:=z) h1;have a1:=bT (z:=cr z d') hd;have a2:=bT (z:=cr z d) h2;have a3:=dP (z:=cr z d') hd;have a4:=dP (z:=cr z d) h2;rw[gF] at a1 a2 a3 a4;omega
theorem SA(h:bg d d'=true):d≠(0,0)/\d'≠(0,0):=by
 obtain⟨_,h2⟩:=(dm _ _).1 h;exact⟨wX (D:=d') (by rw[jI];omega),wX (D:=d) aa⟩
theorem MC(h:bg d d'=true)(z:Pt):bf z d=bf z d':=by
 have h1:=Ce h;have h2:=(ux h z).1;have a:=mS (z:=z) (w:=d);have b:=mS (z:=z) (w:=d');rw[<-h1,<-h2] at b;exact mP.2 (a.trans b.symm)
theorem SB(h:bg d d'=true)(z:Pt):bf d z=bf d' z:=by
 have h1:=Ce h;have h2:=ux h z;have a:=mS (z:=d) (w:=z);have b:=mS (z:=d') (w:=z);rw[dh z d] at a;rw[dh z d',<-h1] at b;have h5:(0< -cr z d)↔(0< -cr z d'):=aa
 rw[<-h5] at b;exact mP.2 (a.trans b.symm)
theorem SC{x y:Pt}(h1:bg x y=true)(h2:bg y z=true):bg x z=true:=by
 obtain⟨a1,a2⟩:=(dm _ _).1 h1;obtain⟨b1,b2⟩:=(dm _ _).1 h2;have hy:=dC (SA h1).2;refine(dm _ _).2 ⟨((ux h2 x).2).1 a1,?_⟩;have e2:dt x z*dt y y=dt x y*dt y z+cr y x*cr y z:=by unfold dt cr;grind
 rw[b1] at e2;have:=bJ a2 b2;have q:=bT (z:=dt x z) hy;rw[gF] at q;exact q.1 aa
theorem SD(h:bg d d'=true)(z:Pt):bg z d=bg z d':=by
 cases h1:bg z d<;>cases h2:bg z d'
 .rfl
 .rw[SC h2 (by rw[MB];exact h)] at h1;cases h1
 .rw[SC h1 h] at h2;cases h2
 .rfl
theorem abt{es:List (Pt×Pt)}{n:N3}(h:bg d d'=true):eO es n d=eO es n d'/\fV es n d=fV es n d':=by
 have e1:AS es n (λz=>nz z&&bf z d)=AS es n (λz=>nz z&&bf z d'):=Km λe _ _=>by simp only[MC h];exact⟨trivial,trivial⟩
 have e2:AS es n (λz=>bg z d)=AS es n (λz=>bg z d'):=Km λe _ _=>by simp only[SD h];exact⟨trivial,trivial⟩
 unfold fV eO;rw[e1,e2];exact⟨rfl,rfl⟩
theorem gu(a b:N3):wv b a=neg (wv a b):=by unfold wv neg;exact dN (by simp only;omega) (by simp only;omega)
theorem MD(h1:bz z)(h2:bz (neg z)):False:=by
 unfold bz neg at*;simp only at h2;omega
theorem al1{es:List (Pt×Pt)}(hN:di es l)(hn:n∈l)(hz:z∈arms es n):∃m,m∈l/\(fk es l n m\/fk es l m n)/\bg (wv n m) z=true:=by
 obtain⟨gH,e,he,ho,xa⟩:=lY.1 hz;have cn:=hN.can n hn;obtain⟨p,hp,hpl,kf⟩:∃p:Pt,on (rl (p.1,p.2,1) e.1) (rl (p.1,p.2,1) e.2)=true/\(p.1,p.2,1)∈l/\z=rl n p:=by
  have h0:∀p:Pt,rl (p.1,p.2,1) p=(0,0):=λp=>by unfold rl rel;exact dN (by simp only;omega) (by simp only;omega)
  rcases xa with h|h
  .exact⟨e.1,pW _ _ (aS (h0 _)),(hN.Ii he).1,h⟩
  .exact⟨e.2,pW _ _ (aR (h0 _)),(hN.Ii he).2,h⟩
 have cp:=hN.can _ hpl;have hwz:wv n (p.1,p.2,1)=z:=by rw[Ij,kf]
 have i1:n∈held e l:=je.2 ⟨hn,ho⟩;have i2:(p.1,p.2,1)∈held e l:=je.2 ⟨hpl,hp⟩;have hc:∀m∈held e l,Ge.Can m:=λm hm=>hN.can m (je.1 hm).1
 by_cases hr:bz z
 .have hlt:lt (aU n) (aU (p.1,p.2,1)):=(pA cn cp).2 (by rw[hwz];exact hr)
  obtain⟨t,ht⟩:=abg (hN.Ie e) hc i1 i2 hlt;have hpc:fk es l n t:=⟨e,he,ht⟩;obtain⟨_,htl,hrt⟩:=hpc.facts hN;refine⟨t,htl,aS hpc,(dm _ _).2 ?_⟩;have hL:=Ih (hN.can t htl).pos hrt ho (je.1 (uw ht).2).2;have hcr:cr (wv n t) z=0:=by
   rcases xa with h|h
   .rw[h];exact hL.1
   .rw[h];exact hL.2
  exact⟨hcr,mD hrt hr hcr⟩
 .have hr':=ie gH hr;have hlt:lt (aU (p.1,p.2,1)) (aU n):=(pA cp cn).2 (by rw[gu,hwz];exact hr')
  obtain⟨f,hf⟩:=abh (hN.Ie e) hc i1 i2 hlt;have hpc:fk es l f n:=⟨e,he,hf⟩;obtain⟨hfl,_,hrf⟩:=hpc.facts hN;have hL:=Ih cn.pos hrf (je.1 (uw hf).1).2 ho;have hL1:=(tS (hN.can f hfl).pos cn.pos hrf e.1).2 hL.1;have hL2:=(tS (hN.can f hfl).pos cn.pos hrf e.2).2 hL.2;have hcr:cr (wv f n) z=0:=by
   rcases xa with h|h
   .rw[h];exact hL1
   .rw[h];exact hL2
  refine⟨f,hfl,aR hpc,(dm _ _).2 ?_⟩;have hd:=mD hrf hr' (by rw[fG];omega)
  rw[kI] at hd;rw[gu f n,fU,pV];omega
def Sd(es:List (Pt×Pt))(l:List Nd)(bw:Int->Bool)(a b:Nd):Prop:=
 (fk es l a b/\bw (LL es a b)=true/\bw (RR es a b)=false)\/(fk es l b a/\bw (RR es b a)=true/\bw (LL es b a)=false)
theorem Sd.pc{es:List (Pt×Pt)}(h:Sd es l bw a b):fk es l a b\/fk es l b a:=by
 rcases h with h|h
 .exact aS h.1
 .exact aR h.1
theorem iP{es:List (Pt×Pt)}(hN:di es l)(h:fk es l a b\/fk es l b a):wv a b≠(0,0)/\a∈l/\b∈l:=by
 rcases h with h|h
 .obtain⟨h1,h2,h3⟩:=h.facts hN;exact⟨mR h3,h1,h2⟩
 .obtain⟨h1,h2,h3⟩:=h.facts hN;exact⟨by rw[gu b a];exact kE (mR h3),h2,h1⟩
theorem Sd.leave(hN:di (aT rg) l)(h:Sd (aT rg) l bw a b):bw (eO (aT rg) a (wv a b))=false/\bw (fV (aT rg) a (wv a b))=true:=by
 rcases h with⟨h,h1,h2⟩|⟨h,h1,h2⟩
 .obtain⟨k1,k2⟩:=yY (h.qJ hN);rw[k1] at h2;rw[k2] at h1;exact⟨h2,h1⟩
 .obtain⟨k1,k2⟩:=F9 (h.qJ hN);rw[k1,<-gu] at h1;rw[k2,<-gu] at h2;exact⟨h2,h1⟩
theorem Sd.Cf(hN:di (aT rg) l)(h:Sd (aT rg) l bw a b):bw (eO (aT rg) b (wv b a))=true/\bw (fV (aT rg) b (wv b a))=false:=by
 rcases h with⟨h,h1,h2⟩|⟨h,h1,h2⟩
 .obtain⟨k1,k2⟩:=F9 (h.qJ hN);rw[k1,<-gu] at h2;rw[k2,<-gu] at h1;exact⟨h1,h2⟩
 .obtain⟨k1,k2⟩:=yY (h.qJ hN);rw[k1] at h1;rw[k2] at h2;exact⟨h1,h2⟩
theorem Sd.of(hN:di (aT rg) l)(h:fk (aT rg) l a b\/fk (aT rg) l b a)(h1:bw (eO (aT rg) a (wv a b))=false)(h2:bw (fV (aT rg) a (wv a b))=true):Sd (aT rg) l bw a b:=by
 rcases h with h|h
 .obtain⟨k1,k2⟩:=yY (h.qJ hN);exact aS ⟨h,by rw[k2];exact h2,by rw[k1];exact h1⟩
 .obtain⟨k1,k2⟩:=F9 (h.qJ hN);rw[<-gu] at k1 k2;exact aR ⟨h,by rw[k1];exact h2,by rw[k2];exact h1⟩
theorem ME(hN:di (aT rg) l)(hn:n∈l)(hz:Ba (aT rg) n bw z):∃m,Sd (aT rg) l bw n m/\bg (wv n m) z=true:=by
 obtain⟨m,hm,hp,hs⟩:=al1 hN hn hz.mem;obtain⟨e1,e2⟩:=abt (es:=aT rg) (n:=n) hs;exact⟨m,Sd.of hN hp (by rw[e1];exact hz.out) (by rw[e2];exact hz.bw),hs⟩
theorem Sd.next(hN:di (aT rg) l)(h:Sd (aT rg) l bw a b):∃c,Sd (aT rg) l bw b c:=by
 obtain⟨h1,h2⟩:=h.Cf hN;obtain⟨hne,_,hb⟩:=iP hN h.pc;obtain⟨z,hz⟩:=ahX (by rw[gu a b];exact kE hne) h1 h2
 obtain⟨c,hc,_⟩:=ME hN hb hz;exact⟨c,hc⟩
theorem Sd.sM(hN:di (aT rg) l)(h:Sd (aT rg) l bw a b)(h':Sd (aT rg) l bw b c):bg (wv b c) (wv b a)=false:=by
 cases hs:bg (wv b c) (wv b a)
 .rfl
 .obtain⟨e1,_⟩:=abt (es:=aT rg) (n:=b) hs;have k1:=(h.Cf hN).1;have k2:=(h'.leave hN).1;rw[e1,k1] at k2;cases k2
theorem Il{es:List (Pt×Pt)}(hN:di es l){t t':Nd}(h:fk es l n t\/fk es l t n)(h':fk es l n t'\/fk es l t' n)(hs:bg (wv n t) (wv n t')=true):t=t':=by
 have fE:∀{x y:Nd},x∈l->y∈l->x=y\/lt (aU x) (aU y)\/lt (aU y) (aU x):=λ{x y} hx hy=>by
  have cx:=hN.can x hx;have cy:=hN.can y hy;unfold lt;rcases gf (pc (aU x) (aU y)) 0 with h|h|h
  .exact aR (aS h)
  .exact aS (xD cx cy h)
  .exact aR (aR (by rw[Lb];omega))
 have mv:∀x y:Nd,(∀i:Int,i=i)->n.2.2*(wv x y).1=x.2.2*(wv n y).1-y.2.2*(wv n x).1/\n.2.2*(wv x y).2=x.2.2*(wv n y).2-y.2.2*(wv n x).2:=λx y _=>by
  unfold wv;constructor<;>(simp only;grind)
 obtain⟨_,hn,ht⟩:=iP hN h;obtain⟨_,_,ht'⟩:=iP hN h';have cn:=hN.can n hn;have key:∀{x y:Nd},x∈l->y∈l->fk es l n y->bg (wv n x) (wv n y)=true->lt (aU x) (aU y)->False:=λ{x y} hx hy hpc hsm hl=>by
  obtain⟨_,_,hr⟩:=hpc.facts hN;obtain⟨s1,s2⟩:=(dm _ _).1 hsm;have SE:=(pA (hN.can x hx) (hN.can y hy)).1 hl;have c1:cr (wv n y) (wv n x)=0:=by rw[dh];omega
  have c2:cr (wv n y) (wv x y)=0:=by
   obtain⟨m1,m2⟩:=mv x y (λ_=>rfl)
   have:n.2.2*cr (wv n y) (wv x y)=(wv n y).1*(n.2.2*(wv x y).2)-(wv n y).2*(n.2.2*(wv x y).1):=by unfold cr;grind
   rw[m1,m2] at this;refine(dP cn.pos).1 (this.trans ?_);unfold cr at c1
   grind
  exact hpc.gap hN hx ⟨ql hr c1 (by rw[jI];exact s2),ql hr c2 (mD hr SE c2)⟩
 have key':∀{x y:Nd},x∈l->y∈l->fk es l y n->bg (wv n x) (wv n y)=true->lt (aU y) (aU x)->False:=λ{x y} hx hy hpc hsm hl=>by
  obtain⟨_,_,hr⟩:=hpc.facts hN;obtain⟨s1,s2⟩:=(dm _ _).1 hsm;have SE:=(pA (hN.can y hy) (hN.can x hx)).1 hl;have e1:wv y n=neg (wv n y):=gu n y;have e2:wv x n=neg (wv n x):=gu n x;have c1:cr (wv y n) (wv x n)=0:=by rw[e1,e2,fU,fG,dh (wv n x)];omega
  have c2:cr (wv y n) (wv y x)=0:=by
   obtain⟨m1,m2⟩:=mv y x (λ_=>rfl)
   have:n.2.2*cr (wv n y) (wv y x)=(wv n y).1*(n.2.2*(wv y x).2)-(wv n y).2*(n.2.2*(wv y x).1):=by unfold cr;grind
   rw[m1,m2] at this;have k:cr (wv n y) (wv y x)=0:=by
    refine(dP cn.pos).1 (this.trans ?_);have c3:cr (wv n y) (wv n x)=0:=by rw[dh];omega
    unfold cr at c3
    grind
   rw[e1,fU];omega
  exact hpc.gap hN hx ⟨ql hr c2 (mD hr SE c2),ql hr c1 (by rw[e1,e2,pV,kI,jI];omega)⟩
 have hs':bg (wv n t') (wv n t)=true:=by rw[MB];exact hs
 have sK:=Ce hs;rcases h with h|h<;>rcases h' with h'|h'
 .rcases fE ht ht' with k|k|k
  .exact k
  .exact(key ht ht' h' hs k).elim
  .exact(key ht' ht h hs' k).elim
 .exfalso;have r1:=(h.facts hN).2.2;have r2:=(h'.facts hN).2.2;rw[gu n t'] at r2;exact MD (sK.1 r1) r2
 .exfalso;have r1:=(h.facts hN).2.2;have r2:=(h'.facts hN).2.2;rw[gu n t] at r1;exact MD (sK.2 r2) r1
 .rcases fE ht ht' with k|k|k
  .exact k
  .exact(key' ht' ht h hs' k).elim
  .exact(key' ht ht' h' hs k).elim
theorem MF{a l l' k:Pt}(h:bg l k=true):cw a l l'=cw a k l':=by
 unfold cw;rw[SB h,MC h,MC h]
theorem al3(hN:di (aT rg) l){a':Nd}(h:Sd (aT rg) l bw a b)(h':Sd (aT rg) l bw a' b)(hc:Sd (aT rg) l bw b c)
  (hm:∀c',Sd (aT rg) l bw b c'->¬tC (wv a b) (wv b c') (wv b c)<0)(hm':∀c',Sd (aT rg) l bw b c'->¬tC (wv a' b) (wv b c') (wv b c)<0):a=a':=by
 obtain⟨n1,_,hb⟩:=iP hN h.pc;obtain⟨n2,_,_⟩:=iP hN h'.pc;obtain⟨n3,_,_⟩:=iP hN hc.pc;have m1:wv b a≠(0,0):=by rw[gu a b];exact kE n1
 have m2:wv b a'≠(0,0):=by rw[gu a' b];exact kE n2
 cases hs:bg (wv b a) (wv b a')
 .exfalso;obtain⟨h1,h2⟩:=h.Cf hN;obtain⟨h1',h2'⟩:=h'.Cf hN;obtain⟨z,hz,nL⟩:=Xe m1 m2 hs h1 h2 h1' h2' n3 (h.sM hN hc) (h'.sM hN hc);obtain⟨c',hc',hsm⟩:=ME hN hb hz;obtain⟨n4,_,_⟩:=iP hN hc'.pc;rcases nL with k|k
  .rw[<-MF hsm] at k;have:=(Gf m1 n4 n3 (h.sM hN hc') (h.sM hN hc)).2 k;rw[<-gu] at this;exact hm c' hc' this
  .rw[<-MF hsm] at k;have:=(Gf m2 n4 n3 (h'.sM hN hc') (h'.sM hN hc)).2 k;rw[<-gu] at this;exact hm' c' hc' this
 .exact Il hN h.pc.symm h'.pc.symm hs
theorem Sd.straight(hN:di (aT rg) l)(h:Sd (aT rg) l bw a b)(h':Sd (aT rg) l bw b c)(hc:cr (wv a b) (wv b c)=0):bg (wv a b) (wv b c)=true:=by
 refine(dm _ _).2 ⟨hc,?_⟩;have hb:=h.sM hN h';obtain⟨n1,_,_⟩:=iP hN h.pc;obtain⟨n3,_,_⟩:=iP hN h'.pc;have hd:=Qd hb (by rw[gu a b,fG,dh (wv a b)];omega)
 rw[gu a b,kI,jI] at hd;have hne:dt (wv a b) (wv b c)≠0:=λh0=>by
  have e:dt (wv a b) (wv b c)*dt (wv a b) (wv b c)+cr (wv a b) (wv b c)*cr (wv a b) (wv b c)=dt (wv a b) (wv a b)*dt (wv b c) (wv b c):=by unfold dt cr;grind
  have:=bJ (dC n1) (dC n3);rw[h0,hc] at e;omega
 omega
end Ga
namespace Gb
open Ge Ga
variable{u u' v v':Pt}
theorem al4{a b:List Sg}(h:a.Perm b)(n:N3)(Q:Pt->Bool):Ga.AS a n Q=Ga.AS b n Q:=ah2 h
def mL(R:List Sg)(s t:Sg):Prop:=(∃k,R[k]?=some s/\R[k+1]?=some t)\/(R.getLast?=some s/\R.head?=some t)
theorem mL.DJ{R:List Sg}{s t:Sg}(h:mL R s t):∃A B,R=A++B/\(B++A).head?=some t/\(B++A).getLast?=some s:=by
 rcases h with⟨k,h1,h2⟩|⟨h1,h2⟩
 .obtain⟨l2,_⟩:=cG.1 h2;refine⟨R.take (k+1),R.drop (k+1),(AE _ _).symm,?_,?_⟩
  .rw[List.head?_append,List.head?_drop,h2];rfl
  .have ne:R.take (k+1)≠[]:=by
    intro e;have:=aZ List.length e;rw[iE,ib] at this;omega
   rw[KH _ ne,List.getLast?_take];simp[h1]
 .exact⟨[],R,rfl,by simpa using h2,by simpa using h1⟩
section
variable{S:List Sg}{nx:Sg->Sg}
theorem gI.al5(h:Wd S nx){R:List Sg}(k:gI S nx R){a z:Sg}(ha:R.head?=some a)(hz:R.getLast?=some z)(Q:Pt->Bool):Ga.AS R (n1 a.1) Q=bb (Q (dr a))-bb (Q (neg (dr z))):=by
 have hp:=k.path ha;have z2:z.2=a.1:=(k.cls z a hz ha).1.symm;cases R with
 |nil=>cases ha
 |cons b T=>
  obtain rfl:b=a:=jt ha;have hT:T≠[]:=λe=>by
   rw[e] at hp;exact h.ne b (k.mem b af) hp.2.symm
  obtain⟨M,y,e⟩:∃M y,T=M++[y]:=⟨T.dropLast,T.getLast hT,(atl hT).symm⟩;obtain rfl:y=z:=by
   rw[e] at hz;simpa[List.getLast?_cons,List.getLast?_append] using hz
  have once:∀s∈M++[y],s.1≠b.1:=λs hs=>((gN.1 k.o6).1 s (by rw[e];exact hs)).symm
  have hp':=hp.2;rw[e] at hp';have hM:=Path.Gh hp' once;have z1:Ga.AS M (n1 b.1) Q=0:=Gj λx hx=>by
   cases ho:on (dr (b.1,x.1)) (dr (b.1,x.2))
   .rfl
   .rcases h.Bc b (k.mem b af) x (k.mem x (by rw[e];simp[hx])) ho with q|q
    .exact absurd q.symm (once x (by simp[hx]))
    .exact absurd q.symm (hM x hx)
  have s1:Ga.AS [b] (n1 b.1) Q=bb (Q (dr b))-bb (Q (0,0)):=by
   unfold Ga.AS;rw[ic,yR,Qi rfl];omega
  have s2:Ga.AS [y] (n1 b.1) Q=bb (Q (0,0))-bb (Q (neg (dr y))):=by
   unfold Ga.AS;rw[ic,yR,Qh z2];omega
  have e':b::T=[b]++(M++[y]):=by rw[e];rfl
  rw[e',Bd,Bd,z1,s1,s2];omega
theorem mL.od{R:List Sg}(k:gI S nx R){s t:Sg}(f:mL R s t):vd nx s t/\s∈S/\t∈S:=by
 rcases f with⟨i,h1,h2⟩|⟨h1,h2⟩
 .exact⟨k.od i s t h1 h2,k.mem s (bA h1),k.mem t (bA h2)⟩
 .exact⟨k.cls s t h1 h2,k.mem s (rH h1),k.mem t (rQ h2)⟩
theorem mL.AS(h:Wd S nx){R:List Sg}(k:gI S nx R){s t:Sg}(f:mL R s t)(Q:Pt->Bool):Ga.AS R (n1 t.1) Q=bb (Q (dr t))-bb (Q (neg (dr s))):=by
 obtain⟨A,B,e,h1,h2⟩:=f.DJ;rw[e] at k⊢;rw[<-k.DJ.al5 h h1 h2 Q];exact al4 J1 _ _
theorem gI.cl(h:Wd S nx){R:List Sg}(k:gI S nx R):Cl R/\In S R:=by
 obtain⟨a,_,ha,_⟩:=mE k.ne;exact⟨Cl.path (k.path ha) λs hs=>h.ne s (k.mem s hs),λe he=>aS (k.mem e he)⟩
theorem Wd.al6(h:Wd S nx){R R':List Sg}(k:gI S nx R)(k':gI S nx R'){s t s' t':Sg}(f:mL R s t)(f':mL R' s' t')(hv:t.1=t'.1)(st:cr (dr s) (dr t)=0)(st':cr (dr s') (dr t')=0):t=t':=by
 obtain⟨rh,hs,ht⟩:=f.od k;obtain⟨rh',hs',ht'⟩:=f'.od k';have e1:=rh.1;have mF:=rh'.1;have d1:=h.DK hs ht e1 st;have KO:=h.DK hs' ht' mF st';apply iV;intro hne;have hsm:bg (dr t) (dr t')=false:=by
  cases q:bg (dr t) (dr t')
  .rfl
  .exact absurd (h.one t ht t' ht' hv q) hne
 have abv:bg (dr t) (neg (dr t'))=false:=by
  cases q:bg (dr t) (neg (dr t'))
  .rfl
  .have k1:=h.two t ht s' hs' (hv.trans mF);have Cg:bg (neg (dr s')) (neg (dr t'))=true:=by
    rw[dm] at KO⊢;rw[fU,fG,pV,kI];omega
   rw[ve q (Bh Cg)] at k1;cases k1
 have nt:=h.gw ht;have nt':=h.gw ht';have hcr:cr (dr t) (dr t')≠0:=λq=>by
  have k1:=Ga.dC nt;have k2:=Ga.dC nt';have hp:=(par nt (by unfold cr;grind:cr (dr t) (dr t)=0) q)
  have k3:dt (dr t) (dr t')≠0:=λw=>by
   have k4:=hp.2;have k5:=bJ k1 k2;have k6:=(par nt (by unfold cr;grind:cr (dr t) (dr t)=0) q).2
   have k7:=(par nt q q).2;rw[w,AA] at k7;omega
  rcases Wy k3 with w|w
  .have:bg (dr t) (neg (dr t'))=true:=(dm _ _).2 ⟨by rw[fG];omega,by rw[kI];omega⟩
   rw[this] at abv;cases abv
  .have:bg (dr t) (dr t')=true:=(dm _ _).2 ⟨q,aa⟩
   rw[this] at hsm;cases hsm
 obtain⟨c1,c2⟩:=k.cl h;have hL:=rh'.fc h ht' R c1 c2;rw[(h.at_end c1 c2 hs').1] at hL;have hL2:eO R (n1 t.1) (neg (dr s'))=fV R (n1 t.1) (dr t'):=by
  rw[hv];rw[<-mF] at hL;exact hL
 unfold fV eO at hL2;rw[f.AS h k,f.AS h k,f.AS h k] at hL2;have rn:∀{z:Pt},z≠(0,0)->(bz (neg z)↔¬bz z):=λ{z} hz=>by
  have:¬(z.1=0/\z.2=0):=λk=>hz (dN k.1 k.2)
  unfold bz neg;simp only;omega
 have dn:∀{x y:Pt},bg x y=true->bg (neg x) (neg y)=true:=λ{x y} q=>by
  rw[dm] at q⊢;rw[fU,fG,pV,kI];omega
 have m1:=dn d1;have m2:=dn KO;have r1:bz (neg (dr s))↔¬bz (dr t):=(Ce m1).trans (rn nt);have r2:bz (neg (dr s'))↔¬bz (dr t'):=(Ce m2).trans (rn nt');have ns:=kE (h.gw hs);have sw:∀x y:Pt,(0<cr x y↔cr y x<0):=λx y=>by rw[dh x y];omega
 have c1':0<cr (dr t) (neg (dr s'))↔cr (dr t) (dr t')<0:=by
  rw[(ux m2 (dr t)).1,fG];omega
 obtain⟨x1,x2⟩:=ux m1 (dr t');have e5:cr (dr t') (neg (dr t))=cr (dr t) (dr t'):=by rw[fG,dh (dr t) (dr t')];omega
 have e6:=dh (dr t') (neg (dr s));rw[e5] at x1 x2;have c2':0<cr (neg (dr s)) (dr t')↔cr (dr t) (dr t')<0:=aa
 have c3':0<cr (neg (dr s)) (neg (dr s'))↔0<cr (dr t) (dr t'):=by
  rw[(ux m2 (neg (dr s))).1,fG];omega
 have f1:bg (neg (dr s)) (dr t')=false:=by
  cases q:bg (neg (dr s)) (dr t')
  .rfl
  .have w:=(dm _ _).1 q;omega
 simp only[y8 nt,y8 ns,hsm,f1,FI] at hL2;have a1:bf (dr t) (dr t')=true↔(bz (dr t)/\¬bz (dr t'))\/((bz (dr t)↔bz (dr t'))/\0<cr (dr t) (dr t')):=mS;have a2:bf (dr t) (neg (dr s'))=true↔(bz (dr t)/\¬bz (neg (dr s')))\/((bz (dr t)↔bz (neg (dr s')))/\0<cr (dr t) (neg (dr s'))):=mS;have a3:bf (neg (dr s)) (dr t')=true↔(bz (neg (dr s))/\¬bz (dr t'))\/((bz (neg (dr s))↔bz (dr t'))/\0<cr (neg (dr s)) (dr t')):=mS;have a4:bf (neg (dr s)) (neg (dr s'))=true↔(bz (neg (dr s))/\¬bz (neg (dr s')))\/((bz (neg (dr s))↔bz (neg (dr s')))/\0<cr (neg (dr s)) (neg (dr s'))):=mS;rw[r2,c1'] at a2;rw[r1,c2'] at a3;rw[r1,r2,c3'] at a4;have hc:cr (dr t) (dr t')<0\/0<cr (dr t) (dr t'):=aa
 generalize bf (dr t) (dr t')=A1 at*;generalize bf (dr t) (neg (dr s'))=A2 at*;generalize bf (neg (dr s)) (dr t')=A3 at*;generalize bf (neg (dr s)) (neg (dr s'))=A4 at*;generalize cr (dr t) (dr t')=C at*;generalize bz (dr t)=P at*;generalize bz (dr t')=Q at*;rcases hc with hc|hc
 .have hn:¬0<C:=aa
  cases A1<;>cases A2<;>cases A3<;>cases A4<;>simp[bb,hc,hn] at a1 a2 a3 a4 hL2<;>grind
 .have hn:¬C<0:=aa
  cases A1<;>cases A2<;>cases A3<;>cases A4<;>simp[bb,hc,hn] at a1 a2 a3 a4 hL2<;>grind
end
def aW:List Nd->Int
 |[]=>1
 |n::l=>n.2.2*aW l
theorem abx:∀{l:List Nd},(∀n∈l,0<n.2.2)->0<aW l
 |[],_=>by show(0:Int)<1;decide
 |n::l,h=>bJ (h n af) (abx λm hm=>h m (bV _ hm))
theorem aby:∀{l:List Nd}{n:Nd},n∈l->n.2.2∣aW l
 |[],_,h=>by simp at h
 |m::l,n,h=>by
  rcases bU.1 h with e|e
  .rw[e];exact⟨aW l,rfl⟩
  .exact FT (aby e) ⟨m.2.2,gF _ _⟩
def PM(M:Int)(n:Nd):Pt:=(n.1*(M/n.2.2),n.2.1*(M/n.2.2))
theorem EI{M:Int}(hM:0<M){n:Nd}(hn:0<n.2.2)(hd:n.2.2∣M):∃k,0<k/\n.2.2*k=M/\PM M n=(n.1*k,n.2.1*k):=by
 obtain⟨k,e⟩:=hd;have hk:M/n.2.2=k:=by rw[e];exact Int.mul_ediv_cancel_left k aa
 refine⟨k,?_,e.symm,by unfold PM;rw[hk]⟩
 exact(bT hn).1 aa
def Pm(u v:Pt):Prop:=∃p q:Int,0<p/\0<q/\p*u.1=q*v.1/\p*u.2=q*v.2
theorem kX{p q x y:Int}(hp:0<p)(hq:0<q)(h:p*x=q*y):(0<x↔0<y)/\(x<0↔y<0)/\(x=0↔y=0):=by
 have a:=bT (z:=x) hp;have b:=bT (z:=y) hq;have c:=neg_mul (z:=x) hp;have d:=neg_mul (z:=y) hq;have e:=dP (z:=x) hp;have f:=dP (z:=y) hq;rw[h] at a c e;exact⟨a.symm.trans b,c.symm.trans d,e.symm.trans f⟩
theorem Pm.cr(h:Pm u u')(k:Pm v v'):(0<Ge.cr u v↔0<Ge.cr u' v')/\(Ge.cr u v<0↔Ge.cr u' v'<0)/\(Ge.cr u v=0↔Ge.cr u' v'=0):=by
 obtain⟨p,q,hp,hq,e1,e2⟩:=h;obtain⟨r,s,hr,hs,e3,e4⟩:=k;refine kX (p:=p*r) (q:=q*s) (bJ hp hr) (bJ hq hs) ?_;have a:p*r*Ge.cr u v=(p*u.1)*(r*v.2)-(p*u.2)*(r*v.1):=by unfold Ge.cr;grind
 rw[a,e1,e2,e3,e4];unfold Ge.cr
 grind
theorem Pm.dt(h:Pm u u')(k:Pm v v'):(0<Ge.dt u v↔0<Ge.dt u' v')/\(Ge.dt u v<0↔Ge.dt u' v'<0)/\(Ge.dt u v=0↔Ge.dt u' v'=0):=by
 obtain⟨p,q,hp,hq,e1,e2⟩:=h;obtain⟨r,s,hr,hs,e3,e4⟩:=k;refine kX (p:=p*r) (q:=q*s) (bJ hp hr) (bJ hq hs) ?_;have a:p*r*Ge.dt u v=(p*u.1)*(r*v.1)+(p*u.2)*(r*v.2):=by unfold Ge.dt;grind
 rw[a,e1,e2,e3,e4];unfold Ge.dt
 grind
theorem Pm.neg(h:Pm u v):Pm (Ga.neg u) (Ga.neg v):=by
 obtain⟨p,q,hp,hq,e1,e2⟩:=h;refine⟨p,q,hp,hq,?_,?_⟩
 .show p*(-u.1)=q*(-v.1);rw[Ao,Ao,e1]
 .show p*(-u.2)=q*(-v.2);rw[Ao,Ao,e2]
theorem Pm.bz(h:Pm u v):Ga.bz u↔Ga.bz v:=by
 obtain⟨p,q,hp,hq,e1,e2⟩:=h;have a:=kX hp hq e1;have b:=kX hp hq e2;unfold Ga.bz;omega
theorem Pm.zero(h:Pm u v):u=(0,0)↔v=(0,0):=by
 obtain⟨p,q,hp,hq,e1,e2⟩:=h;have a:=kX hp hq e1;have b:=kX hp hq e2;rw[Prod.ext_iff,Prod.ext_iff];simp only;omega
theorem Pm.bg(h:Pm u u')(k:Pm v v'):Ga.bg u v=Ga.bg u' v':=by
 refine mP.2 ?_;rw[dm,dm,(h.cr k).2.2,(h.dt k).1]
theorem Pm.bf(h:Pm u u')(k:Pm v v'):Ga.bf u v=Ga.bf u' v':=by
 refine mP.2 ?_;rw[mS,mS,h.bz,k.bz,(h.cr k).1]
theorem Pm.cw{a a':Pt}(g:Pm a a')(h:Pm u u')(k:Pm v v'):Ga.cw a u v=Ga.cw a' u' v':=by
 unfold Ga.cw;rw[h.bf g,k.bf g,k.bf h,g.bf k,g.bf h]
theorem Pm.on(h:Pm u u')(k:Pm v v'):Ge.on u v=Ge.on u' v':=by
 refine mP.2 ?_;rw[jX,jX,(h.cr k).2.2];have:=(h.dt k).1;constructor<;>(rintro⟨x,y⟩;exact⟨x,aa⟩)
section
variable{M:Int}
structure OK(M:Int)(n:Nd):Prop where
 p:0<n.2.2
 d:n.2.2∣M
theorem abz(x:Pt):0<=dt x x:=by
 by_cases h:x=(0,0)
 .rw[h];decide
 .have:=dC h;omega
theorem kZ(hM:0<M){a b:Nd}(ha:OK M a)(hb:OK M b):Pm (dr (PM M a,PM M b)) (wv a b):=by
 obtain⟨k,hk,e,e1⟩:=EI hM ha.p ha.d;obtain⟨j,hj,f,f1⟩:=EI hM hb.p hb.d;refine⟨a.2.2*b.2.2,M,bJ ha.p hb.p,hM,?_,?_⟩
 .rw[e1,f1];show a.2.2*b.2.2*(b.1*j-a.1*k)=M*(a.2.2*b.1-b.2.2*a.1);have:a.2.2*b.2.2*(b.1*j-a.1*k)=a.2.2*b.1*(b.2.2*j)-b.2.2*a.1*(a.2.2*k):=by grind
  rw[this,e,f]
  grind
 .rw[e1,f1];show a.2.2*b.2.2*(b.2.1*j-a.2.1*k)=M*(a.2.2*b.2.1-b.2.2*a.2.1);have:a.2.2*b.2.2*(b.2.1*j-a.2.1*k)=a.2.2*b.2.1*(b.2.2*j)-b.2.2*a.2.1*(a.2.2*k):=by grind
  rw[this,e,f]
  grind
def cZ(M:Int)(u:Pt):Pt:=(M*u.1,M*u.2)
theorem MG(hM:0<M){a:Nd}(ha:OK M a):∃k,0<k/\∀u,dr (PM M a,cZ M u)=Ga.sc k (rl a u):=by
 obtain⟨k,hk,e,e1⟩:=EI hM ha.p ha.d;refine⟨k,hk,λu=>?_⟩
 rw[e1];unfold dr cZ Ga.sc rl rel;refine dN ?_ ?_
 .show M*u.1-a.1*k=k*(a.2.2*u.1-a.1);rw[<-e];grind
 .show M*u.2-a.2.1*k=k*(a.2.2*u.2-a.2.1);rw[<-e];grind
theorem Ci{k:Int}(hk:0<k)(u:Pt):Pm (Ga.sc k u) u:=⟨1,k,ah,hk,by unfold Ga.sc;simp,by unfold Ga.sc;simp⟩
theorem MH{p q x y x' y':Int}(hp:0<p)(hq:0<q)(h:p*x=q*x')(k:p*y=q*y'):x<y↔x'<y':=by
 have:=(kX hp hq (x:=y-x) (y:=y'-x') (by rw[rP,rP,h,k])).1
 omega
theorem abA(hM:0<M){f t:Nd}(hf:OK M f)(ht:OK M t){u v:Pt}(h:lX f t (wv f t) u v):lX (n1 (PM M f)) (n1 (PM M t)) (dr (PM M f,PM M t)) (cZ M u) (cZ M v):=by
 obtain⟨k,hk,ek⟩:=MG hM hf;obtain⟨j,hj,ej⟩:=MG hM ht;obtain⟨p,q,hp,hq,e1,e2⟩:=kZ hM hf ht;have hl:∀z,p*lam (dr (PM M f,PM M t)) (n1 (PM M f)) (cZ M z)=(q*k)*lam (wv f t) f z:=λz=>by
  unfold lam;rw[eo,ek];have:p*cr (dr (PM M f,PM M t)) (Ga.sc k (rl f z))=k*((p*(dr (PM M f,PM M t)).1)*(rl f z).2-(p*(dr (PM M f,PM M t)).2)*(rl f z).1):=by unfold cr Ga.sc;grind
  rw[this,e1,e2];unfold cr
  grind
 have MJ:0<q*k:=bJ hq hk;have su:=kX hp MJ (hl u);have sv:=kX hp MJ (hl v);have l1:=MH hp MJ (hl u) (hl v);have l2:=MH hp MJ (hl v) (hl u);have c1:=(Ci hk (rl f u)).cr (Ci hk (rl f v));have c2:=(Ci hj (rl t u)).cr (Ci hj (rl t v));rw[<-ek,<-ek] at c1;rw[<-ej,<-ej] at c2;unfold lX at h⊢;rw[eo,eo,eo,eo];omega
theorem al9{F T D u v A B:Pt}{N α β:Int}(hN:0<N)(ha0:0<=α)(SF:α<=N)(hb0:0<=β)(xI:β<=N)(a1:N*(A.1-u.1)=α*(v.1-u.1))(a2:N*(A.2-u.2)=α*(v.2-u.2))(b1:N*(B.1-u.1)=β*(v.1-u.1))(b2:N*(B.2-u.2)=β*(v.2-u.2))
  (h:lX (n1 F) (n1 T) D u v):lX (n1 F) (n1 T) D A B:=by
 have la:N*lam D (n1 F) A=(N-α)*lam D (n1 F) u+α*lam D (n1 F) v:=by
  unfold lam;rw[eo,eo,eo];unfold cr dr;simp only;have:N*(D.1*(A.2-F.2)-D.2*(A.1-F.1))=D.1*(N*(A.2-u.2)+N*(u.2-F.2))-D.2*(N*(A.1-u.1)+N*(u.1-F.1)):=by grind
  rw[this,a1,a2];grind
 have lb:N*lam D (n1 F) B=(N-β)*lam D (n1 F) u+β*lam D (n1 F) v:=by
  unfold lam;rw[eo,eo,eo];unfold cr dr;simp only;have:N*(D.1*(B.2-F.2)-D.2*(B.1-F.1))=D.1*(N*(B.2-u.2)+N*(u.2-F.2))-D.2*(N*(B.1-u.1)+N*(u.1-F.1)):=by grind
  rw[this,b1,b2];grind
 have cc:∀G:Pt,N*N*cr (dr (G,A)) (dr (G,B))=N*((β-α)*cr (dr (G,u)) (dr (G,v))):=λG=>by
  unfold cr dr;simp only;have:N*N*((A.1-G.1)*(B.2-G.2)-(A.2-G.2)*(B.1-G.1))=(N*(A.1-u.1)+N*(u.1-G.1))*(N*(B.2-u.2)+N*(u.2-G.2))-(N*(A.2-u.2)+N*(u.2-G.2))*(N*(B.1-u.1)+N*(u.1-G.1)):=by grind
  rw[this,a1,a2,b1,b2];grind
 have cF:=kX (bJ hN hN) hN (cc F);have cT:=kX (bJ hN hN) hN (cc T);unfold lX at h⊢;rw[eo,eo,eo,eo] at h⊢;generalize lam D (n1 F) u=lu at*;generalize lam D (n1 F) v=lv at*;generalize lam D (n1 F) A=lA at*;generalize lam D (n1 F) B=lB at*;generalize cr (dr (F,A)) (dr (F,B))=X at*;generalize cr (dr (T,A)) (dr (T,B))=Y at*;generalize cr (dr (F,u)) (dr (F,v))=x at*;generalize cr (dr (T,u)) (dr (T,v))=y at*;have key:∀{α β lA lB X Y:Int},0<=α->α<=N->0<=β->β<=N->N*lA=(N-α)*lu+α*lv->N*lB=(N-β)*lu+β*lv->((0<X↔0<(β-α)*x)/\(X<0↔(β-α)*x<0)/\(X=0↔(β-α)*x=0))->((0<Y↔0<(β-α)*y)/\(Y<0↔(β-α)*y<0)/\(Y=0↔(β-α)*y=0))->lA<=0->0<=lB->lA<lB->X<=0\/0<=Y:=by
  intro α β lA lB X Y ha0 SF hb0 xI la lb cF cT h1 h2 h3;have hd:N*(lB-lA)=(β-α)*(lv-lu):=by rw[rP,la,lb];grind
  have hpos:0<(β-α)*(lv-lu):=by rw[<-hd];exact bJ hN aa
  rcases gf α β with q|q|q
  .have hvu:0<lv-lu:=(bT (show 0<β-α by omega)).1 hpos
   have e1:N*(lA-lu)=α*(lv-lu):=by rw[rP,la];grind
   have e2:N*(lv-lB)=(N-β)*(lv-lu):=by rw[rP,lb];grind
   have g1:0<=α*(lv-lu):=jF ha0 aa
   have g2:0<=(N-β)*(lv-lu):=jF aa aa
   have n1:¬lA-lu<0:=λw=>by have:=(neg_mul (z:=lA-lu) hN).2 w;omega
   have n2:¬lv-lB<0:=λw=>by have:=(neg_mul (z:=lv-lB) hN).2 w;omega
   have r:=h.1 aa aa aa
   have px:=bT (z:=x) (show 0<β-α by omega)
   have py:=neg_mul (z:=y) (show 0<β-α by omega)
   omega
  .subst q;simp at hpos
  .have hvu:lv-lu<0:=by
    have e:(β-α)*(lv-lu)=(α-β)*(lu-lv):=by grind
    rw[e] at hpos;have:=(bT (show 0<α-β by omega)).1 hpos
    omega
   have e1:N*(lA-lv)=(N-α)*(lu-lv):=by rw[rP,la];grind
   have e2:N*(lu-lB)=β*(lu-lv):=by rw[rP,lb];grind
   have g1:0<=(N-α)*(lu-lv):=jF aa aa
   have g2:0<=β*(lu-lv):=jF hb0 aa
   have n1:¬lA-lv<0:=λw=>by have:=(neg_mul (z:=lA-lv) hN).2 w;omega
   have n2:¬lu-lB<0:=λw=>by have:=(neg_mul (z:=lu-lB) hN).2 w;omega
   have r:=h.2 aa aa aa
   have ex:(β-α)*x= -((α-β)*x):=by grind
   have ey:(β-α)*y= -((α-β)*y):=by grind
   have px:=neg_mul (z:=x) (show 0<α-β by omega)
   have py:=bT (z:=y) (show 0<α-β by omega)
   omega
 refine⟨λh1 h2 h3=>key ha0 SF hb0 xI la lb cF cT h1 h2 h3,λh1 h2 h3=>?_⟩
 have e1:∀z:Int,(α-β)*z= -((β-α)*z):=λz=>by grind
 have r:=key (X:= -X) (Y:= -Y) hb0 xI ha0 SF lb la (by rw[e1];omega) (by rw[e1];omega) h1 h2 h3
 omega
theorem abB(hM:0<M){a:Nd}(ha:OK M a){e:Pt×Pt}(_hne:e.1≠e.2)(ho:on (rl a e.1) (rl a e.2)=true):∃α,0<=α/\α<=dt (dr (cZ M e.1,cZ M e.2)) (dr (cZ M e.1,cZ M e.2))/\
  dt (dr (cZ M e.1,cZ M e.2)) (dr (cZ M e.1,cZ M e.2))*((PM M a).1-(cZ M e.1).1)=α*((cZ M e.2).1-(cZ M e.1).1)/\dt (dr (cZ M e.1,cZ M e.2)) (dr (cZ M e.1,cZ M e.2))*((PM M a).2-(cZ M e.1).2)=α*((cZ M e.2).2-(cZ M e.1).2):=by
 obtain⟨k,hk,ek⟩:=MG hM ha;have ho':on (dr (PM M a,cZ M e.1)) (dr (PM M a,cZ M e.2))=true:=by
  rw[ek,ek,(Ci hk _).on (Ci hk _)];exact ho
 rw[jX] at ho';obtain⟨h1,h2⟩:=ho';generalize PM M a=A at*;generalize cZ M e.1=u at*;generalize cZ M e.2=v at*;refine⟨dt (dr (u,v)) (dr (u,A)),?_,?_,?_,?_⟩
 .have:dt (dr (u,v)) (dr (u,A))=dt (dr (A,u)) (dr (A,u))-dt (dr (A,u)) (dr (A,v)):=by unfold dt dr;grind
  have s:=abz (dr (A,u));omega
 .have:dt (dr (u,v)) (dr (u,v))-dt (dr (u,v)) (dr (u,A))=dt (dr (A,v)) (dr (A,v))-dt (dr (A,u)) (dr (A,v)):=by unfold dt dr;grind
  have s:=abz (dr (A,v));omega
 .have c:cr (dr (u,v)) (dr (u,A))=0:=by
   have:cr (dr (u,v)) (dr (u,A))=cr (dr (A,u)) (dr (A,v)):=by unfold cr dr;grind
   omega
  have:dt (dr (u,v)) (dr (u,v))*(A.1-u.1)=dt (dr (u,v)) (dr (u,A))*(v.1-u.1)-cr (dr (u,v)) (dr (u,A))*(v.2-u.2):=by unfold dt cr dr;grind
  rw[this,c];simp
 .have c:cr (dr (u,v)) (dr (u,A))=0:=by
   have:cr (dr (u,v)) (dr (u,A))=cr (dr (A,u)) (dr (A,v)):=by unfold cr dr;grind
   omega
  have:dt (dr (u,v)) (dr (u,v))*(A.2-u.2)=dt (dr (u,v)) (dr (u,A))*(v.2-u.2)+cr (dr (u,v)) (dr (u,A))*(v.1-u.1):=by unfold dt cr dr;grind
  rw[this,c];simp
end
theorem abC{es:List (Pt×Pt)}{l:List Nd}{M:Int}(hM:0<M)(hO:∀n∈l,OK M n)(hN:di es l){f t a b:Nd}(h:fk es l f t)(h':fk es l a b\/fk es l b a):Pf (PM M f,PM M t) (PM M a,PM M b):=by
 obtain⟨hfl,htl,hr⟩:=h.facts hN;obtain⟨_,hal,hbl⟩:=iP hN h';have hP:=h.qJ hN;have cc:∀n∈l,oY (n1 (PM M f)) (n1 (PM M t)) (dr (PM M f,PM M t)) (PM M n):=λn hn hl=>by
  have p0:=kZ hM (hO f hfl) (hO t htl);have p1:=kZ hM (hO f hfl) (hO n hn);have p2:=kZ hM (hO n hn) (hO t htl);unfold lam at hl;rw[eo] at hl⊢;rw[eo];have c1:=((p0.cr p1).2.2).1 hl;apply iV;intro hk;have k1:0<dt (dr (PM M f,PM M t)) (dr (PM M f,PM M n)):=aa
  have k2:0<dt (dr (PM M f,PM M t)) (dr (PM M n,PM M t)):=by
   have e:dr (PM M t,PM M n)=neg (dr (PM M n,PM M t)):=rR (PM M n,PM M t);rw[e,kI] at hk;omega
  have c2:cr (wv f t) (wv n t)=0:=by
   refine((p0.cr p2).2.2).1 ?_;have:cr (dr (PM M f,PM M t)) (dr (PM M n,PM M t))= -cr (dr (PM M f,PM M t)) (dr (PM M f,PM M n)):=by unfold cr dr;grind
   omega
  exact h.gap hN hn ⟨ql hr c1 ((p0.dt p1).1.1 k1),ql hr c2 ((p0.dt p2).1.1 k2)⟩
 refine⟨?_,cc a hal,cc b hbl⟩;obtain⟨e,he,hea,heb⟩:∃e∈es,on (rl a e.1) (rl a e.2)=true/\on (rl b e.1) (rl b e.2)=true:=by
  rcases h' with⟨e,he,hq⟩|⟨e,he,hq⟩
  .have:=uw hq;exact⟨e,he,(je.1 this.1).2,(je.1 this.2).2⟩
  .have:=uw hq;exact⟨e,he,(je.1 this.2).2,(je.1 this.1).2⟩
 have hne:=hN.ne e he;obtain⟨α,q1,q2,q3,q4⟩:=abB hM (hO a hal) hne hea;obtain⟨β,r1,r2,r3,r4⟩:=abB hM (hO b hbl) hne heb;refine al9 ?_ q1 q2 r1 r2 q3 q4 r3 r4 (abA hM (hO f hfl) (hO t htl) (hP.s e he));refine dC λe0=>hne ?_
 have:=lZ.1 e0;unfold cZ at this;have x1:=aZ Prod.fst this;have x2:=aZ Prod.snd this;simp only at x1 x2;exact dN (Dh aa x1) (Dh aa x2)
end Gb
namespace Ga
open Ge
variable{W Y S:Int}{n f t z:N3}{D u v a b:Pt}{α:Type}
def fR{α:Type}(w:α->Int)(p:α->Bool)(l:List α):Int:=(l.map λx=>if p x then w x else 0).sum
theorem uy(w:α->Int)(p:α->Bool)(x:α)(l:List α):fR w p (x::l)=(if p x then w x else 0)+fR w p l:=by simp[fR]
theorem SH(w:α->Int){p:α->Bool}:∀{l:List α},(∀x∈l,p x=false)->fR w p l=0
 |[],_=>rfl
 |x::l,h=>by rw[uy,h x af,SH w λy hy=>h y (bV _ hy)];rfl
theorem SJ(w:α->Int){p q:α->Bool}:∀{l:List α},(∀x∈l,p x=q x)->fR w p l=fR w q l
 |[],_=>rfl
 |x::l,h=>by rw[uy,uy,h x af,SJ w λy hy=>h y (bV _ hy)]
theorem EJ(w:α->Int){p q r:α->Bool}:∀{l:List α},(∀x∈l,bb (p x)=bb (q x)+bb (r x))->fR w p l=fR w q l+fR w r l
 |[],_=>rfl
 |x::l,h=>by
  have ih:=EJ w (l:=l) λy hy=>h y (bV _ hy)
  have hx:=h x af
  rw[uy,uy,uy,ih];revert hx;unfold bb;cases p x<;>cases q x<;>cases r x<;>simp<;>omega
theorem SL{lt:α->α->Bool}(ht:∀x y z,lt x y=true->lt y z=true->lt x z=true)(hi:∀x,lt x x=false)(T:α->Bool)(l:List α):∀(m:Nat)(z:α),z∈l->T z=true->(l.countP λy=>T y&&lt z y)<=m->∃z∈l,T z=true/\∀y∈l,T y=true->lt z y=false:=by
 intro m;induction m with
 |zero=>
  intro z hz hT hc;refine⟨z,hz,hT,λy hy EK=>?_⟩
  cases h:lt z y
  .rfl
  .have:0<l.countP (λy=>T y&&lt z y):=O9.2 ⟨y,hy,by simp[EK,h]⟩
   omega
 |succ m ih=>
  intro z hz hT hc;by_cases hb:∀y∈l,T y=true->lt z y=false
  .exact⟨z,hz,hT,hb⟩
  .have hb':∃y∈l,T y=true/\lt z y=true:=by
    apply iV;intro hk;apply hb;intro y hy EK;cases h:lt z y
    .rfl
    .exact absurd ⟨y,hy,EK,h⟩ hk
   obtain⟨y,hy,EK,hlt⟩:=hb';have:(l.countP λx=>T x&&lt y x)<(l.countP λx=>T x&&lt z x):=AZ l (λx _ hx=>by
    simp only[tH] at hx⊢;exact⟨hx.1,ht z y x hlt hx.2⟩) ⟨y,hy,by simp[EK,hlt],by simp[hi y]⟩
   exact ih y hy EK aa
theorem abD{lt:α->α->Bool}(ht:∀x y z,lt x y=true->lt y z=true->lt x z=true)(hi:∀x,lt x x=false)(hw:∀x y z,lt x y=true->lt z y=true\/lt x z=true)(w:α->Int)(bw:Int->Bool)(h0:bw 0=false)(l:List α):
  ∀(m:Nat)(T:α->Bool),(∀x y,T y=true->lt y x=false->T x=true)->l.countP T<=m->bw (fR w T l)=true->∃z∈l,T z=true/\bw (fR w (λy=>lt y z) l)=false/\bw (fR w (λy=>lt y z) l+fR w (λy=> !lt y z&& !lt z y) l)=true:=by
 intro m;induction m with
 |zero=>
  intro T hT hc h;exfalso;rw[SH w λx hx=>by
   cases hk:T x
   .rfl
   .have:=O9.2 ⟨x,hx,hk⟩;omega,h0] at h
  cases h
 |succ m ih=>
  intro T hT hc h;by_cases hb:∀x∈l,T x=false
  .exfalso;rw[SH w hb,h0] at h;cases h
  .have hb':∃x∈l,T x=true:=by
    apply iV;intro hk;apply hb;intro x hx;cases h:T x
    .rfl
    .exact absurd ⟨x,hx,h⟩ hk
   obtain⟨x,hx,hTx⟩:=hb';obtain⟨z,hz,sO,hmax⟩:=SL ht hi T l _ x hx hTx (aY _);have asym:∀a b,lt a b=true->lt b a=false:=λa b h1=>by
    cases h2:lt b a
    .rfl
    .have:=ht a b a h1 h2;rw[hi] at this;cases this
   have e:fR w T l=fR w (λy=>lt y z) l+fR w (λy=> !lt y z&& !lt z y) l:=EJ w λy hy=>by
    cases hy1:lt y z
    .cases hy2:lt z y
     .have:T y=true:=hT y z sO hy2;rw[this];rfl
     .have:T y=false:=by
       cases hk:T y
       .rfl
       .rw[hmax y hy hk] at hy2;cases hy2
      rw[this];rfl
    .have:T y=true:=hT y z sO (asym y z hy1);rw[this];rfl
   cases hbz:bw (fR w (λy=>lt y z) l)
   .exact⟨z,hz,sO,hbz,by rw[<-e];exact h⟩
   .have hlt:l.countP (λy=>lt y z)<l.countP T:=AZ l (λy _ hy=>hT y z sO (asym y z hy)) ⟨z,hz,sO,hi z⟩
    obtain⟨z',hz',k1,k2,k3⟩:=ih (λy=>lt y z) (λa b hb hab=>by
     rcases hw b z a hb with k|k
     .exact k
     .rw[hab] at k;cases k) aa hbz
    exact⟨z',hz',hT z' z sO (asym z' z k1),k2,k3⟩
def kW(n:N3)(e:Pt×Pt):Int:=if(rl n e.1).1<=0/\0<(rl n e.2).1 then(rl n e.2).1-(rl n e.1).1 else if(rl n e.2).1<=0/\0<(rl n e.1).1 then(rl n e.1).1-(rl n e.2).1 else 1
def kY(n:N3)(e:Pt×Pt):Int:=if(rl n e.1).1<=0/\0<(rl n e.2).1 then -cr (rl n e.1) (rl n e.2) else if(rl n e.2).1<=0/\0<(rl n e.1).1 then -cr (rl n e.2) (rl n e.1) else 0
def kS(n:N3)(e:Pt×Pt):Int:=if(rl n e.1).1<=0/\0<(rl n e.2).1 then(rl n e.2).2-(rl n e.1).2 else if(rl n e.2).1<=0/\0<(rl n e.1).1 then(rl n e.1).2-(rl n e.2).2 else 0
def wt(n:N3)(e:Pt×Pt):Int:=if(rl n e.1).1<=0/\0<(rl n e.2).1 then 1 else if(rl n e.2).1<=0/\0<(rl n e.1).1 then -1 else 0
theorem vO(n:N3)(e:Pt×Pt):0<kW n e:=by
 unfold kW
 repeat' split
 all_goals omega
def cC(n:N3)(e e':Pt×Pt):Bool:=decide (kY n e*kW n e'<kY n e'*kW n e\/(kY n e*kW n e'=kY n e'*kW n e/\kS n e*kW n e'<kS n e'*kW n e))
theorem EL{e e':Pt×Pt}:cC n e e'=true↔kY n e*kW n e'<kY n e'*kW n e\/(kY n e*kW n e'=kY n e'*kW n e/\kS n e*kW n e'<kS n e'*kW n e):=by unfold cC;simp
theorem Im(n:N3)(e:Pt×Pt):cC n e e=false:=by
 unfold cC;simp
theorem EM(n:N3)(x y z:Pt×Pt)(h1:cC n x y=true)(h2:cC n y z=true):cC n x z=true:=by
 rw[EL] at*;have px:=vO n x;have py:=vO n y;have pz:=vO n z;rcases h1 with h1|⟨h1,h1'⟩
 .rcases h2 with h2|⟨h2,_⟩
  .exact aS (zo px py pz h1 (fA h2))
  .exact aS (zo px py pz h1 (Pk h2))
 .rcases h2 with h2|⟨h2,h2'⟩
  .exact aS (QX px py pz (Pk h1) h2)
  .exact aR ⟨QY py h1 h2,zo px py pz h1' (fA h2')⟩
theorem EN(n:N3)(x y z:Pt×Pt)(h:cC n x y=true):cC n z y=true\/cC n x z=true:=by
 have px:=vO n x;have py:=vO n y;have pz:=vO n z;cases h1:cC n z y
 .right;have h1':¬_:=λk=>by rw[EL.2 k] at h1;cases h1
  rw[EL] at h⊢;have e1:kY n y*kW n z<=kY n z*kW n y:=aa
  rcases h with h|⟨h,h'⟩
  .exact aS (zo px py pz h e1)
  .rcases Int.lt_or_eq_of_le e1 with e2|e2
   .exact aS (QX px py pz (Pk h) e2)
   .refine aR ⟨QY py h e2,zo px py pz h' ?_⟩;omega
 .exact aS rfl
def cV(n:N3)(W Y:Int):N3:=(n.1*W,n.2.1*W+Y,n.2.2*W)
theorem vP(n:N3)(W Y:Int)(p:Pt):rl (cV n W Y) p=(W*(rl n p).1,W*(rl n p).2-Y):=by
 unfold rl rel cV;exact dN (by simp only;grind) (by simp only;grind)
theorem amd(n:N3)(W Y:Int)(u v:Pt):cr (rl (cV n W Y) u) (rl (cV n W Y) v)=W*(W*cr (rl n u) (rl n v)+Y*((rl n v).1-(rl n u).1)):=by
 rw[vP,vP];unfold cr;simp only
 grind
theorem abE(hW:0<W)(hD:0<D.1)(hDS:D.1*S=D.2*W)(h1:(rl n u).1<=0)(h2:0<(rl n v).1):
  right (rl (cV n W Y) u) (rl (cV n W Y) v)+cA (cV n W Y) D u v=bb (decide (-cr (rl n u) (rl n v)*W<Y*((rl n v).1-(rl n u).1)\/(-cr (rl n u) (rl n v)*W=Y*((rl n v).1-(rl n u).1)/\((rl n v).2-(rl n u).2)*W<S*((rl n v).1-(rl n u).1)))):=by
 have hc:=amd n W Y u v;have lv:cr D (rl (cV n W Y) v)=D.1*(W*(rl n v).2-Y-S*(rl n v).1):=by
  rw[vP];unfold cr;simp only
  grind
 have lu:cr D (rl (cV n W Y) u)=D.1*(W*(rl n u).2-Y-S*(rl n u).1):=by
  rw[vP];unfold cr;simp only
  grind
 have xu:(rl (cV n W Y) u).1=W*(rl n u).1:=by rw[vP]
 have xv:(rl (cV n W Y) v).1=W*(rl n v).1:=by rw[vP]
 unfold right cA;rw[hc,lv,lu,xu,xv];have e1: -cr (rl n u) (rl n v)*W= -(W*cr (rl n u) (rl n v)):=by grind
 rw[e1];have eu:((rl n v).1-(rl n u).1)*(W*(rl n u).2-Y-S*(rl n u).1)= -(W*cr (rl n u) (rl n v)+Y*((rl n v).1-(rl n u).1))+(((rl n v).2-(rl n u).2)*W-S*((rl n v).1-(rl n u).1))*(rl n u).1:=by unfold cr;grind
 have ev:((rl n v).1-(rl n u).1)*(W*(rl n v).2-Y-S*(rl n v).1)= -(W*cr (rl n u) (rl n v)+Y*((rl n v).1-(rl n u).1))+(((rl n v).2-(rl n u).2)*W-S*((rl n v).1-(rl n u).1))*(rl n v).1:=by unfold cr;grind
 generalize hC:W*cr (rl n u) (rl n v)+Y*((rl n v).1-(rl n u).1)=C at*;generalize hE:((rl n v).2-(rl n u).2)*W-S*((rl n v).1-(rl n u).1)=E at*;generalize W*(rl n u).2-Y-S*(rl n u).1=A at*;generalize W*(rl n v).2-Y-S*(rl n v).1=B at*;have pw:0<(rl n v).1-(rl n u).1:=aa
 generalize(rl n u).1=a at*;generalize(rl n v).1=b at*;have p1:=bT (z:=C) hW;have p2:=dP (z:=C) hW;have p3:=neg_mul (z:=C) hW;have q1:=neg_mul (z:=B) hD;have q2:=neg_mul (z:=A) hD;have r1:=bT (z:=b) hW;have r2:=bT (z:=a) hW;have s1:=neg_mul (z:=B) pw;have s2:=neg_mul (z:=A) pw;have t1:=neg_mul (z:=E) h2;rw[gF b E] at t1;have t2:E<0->0<=E*a:=λh=>uQ aa h1
 have c1:(-(W*cr (rl n u) (rl n v))<Y*(b-a))↔0<C:=aa
 have c2:(-(W*cr (rl n u) (rl n v))=Y*(b-a))↔C=0:=aa
 have c3:((rl n v).2-(rl n u).2)*W<S*(b-a)↔E<0:=aa
 rw[aP (show ¬(0<W*a/\W*b<=0/\W*C<0) by omega)]
 rw[aP (show ¬(W*C=0/\0<W*a/\D.1*A<0/\0<=D.1*B) by omega)]
 simp only[c1,c2,c3];clear c1 c2 c3 hC hE lv lu xu xv hc e1 hDS;rcases gf C 0 with h|h|h
 .rw[aP aa,aP aa]
  have:decide (0<C\/C=0/\E<0)=false:=jU aa
  rw[this];rfl
 .rw[h] at eu ev⊢;rw[aP aa]
  by_cases hE:E<0
  .have:=t2 hE;rw[aV aa]
   have:decide ((0:Int)<0\/(0:Int)=0/\E<0)=true:=iD aa
   rw[this];rfl
  .rw[aP aa]
   have:decide ((0:Int)<0\/(0:Int)=0/\E<0)=false:=jU aa
   rw[this];rfl
 .rw[aV aa,aP aa]
  have:decide (0<C\/C=0/\E<0)=true:=iD aa
  rw[this];rfl
theorem amf(n:N3)(D u v:Pt):cA n D v u= -cA n D u v:=by
 unfold cA;rw[dh (rl n u) (rl n v)]
 repeat' split
 all_goals omega
theorem amg(hW:0<W)(h:¬((rl n u).1<=0/\0<(rl n v).1))(h':¬((rl n v).1<=0/\0<(rl n u).1)):
  right (rl (cV n W Y) u) (rl (cV n W Y) v)+cA (cV n W Y) D u v=0:=by
 have xu:(rl (cV n W Y) u).1=W*(rl n u).1:=by rw[vP]
 have xv:(rl (cV n W Y) v).1=W*(rl n v).1:=by rw[vP]
 have r1:=bT (z:=(rl n v).1) hW;have r2:=bT (z:=(rl n u).1) hW;have e0:cr (rl (cV n W Y) u) (rl (cV n W Y) v)=0->cr D (rl (cV n W Y) u)*(rl (cV n W Y) v).1=(rl (cV n W Y) u).1*cr D (rl (cV n W Y) v):=λhc=>by
  unfold cr at*
  grind
 unfold right cA;rw[aP (by rw[xu,xv];omega),aP (by rw[xu,xv];omega)]
 have k:¬(cr (rl (cV n W Y) u) (rl (cV n W Y) v)=0/\0<(rl (cV n W Y) v).1/\cr D (rl (cV n W Y) v)<0/\0<=cr D (rl (cV n W Y) u)):=by
  rintro⟨a,b,c,d⟩;have e:=e0 a;have hu:0<(rl (cV n W Y) u).1:=aa
  have:=wK hu c;have:=jF d (fA b);omega
 have k':¬(cr (rl (cV n W Y) u) (rl (cV n W Y) v)=0/\0<(rl (cV n W Y) u).1/\cr D (rl (cV n W Y) u)<0/\0<=cr D (rl (cV n W Y) v)):=by
  rintro⟨a,b,c,d⟩;have e:=e0 a;have hv:0<(rl (cV n W Y) v).1:=aa
  have:=uR c hv;have:=jF (fA b) d;omega
 rw[aP k,aP k'];rfl
theorem abF{P:Nd->Prop}:∀{m:List Nd},Cb m->(∀x∈m,∀y∈m,lt (aU x) (aU y)->P y->P x)->∀{a b:Nd},a∈m->P a->b∈m->¬P b->∃f t,(f,t)∈nexts m/\P f/\¬P t
 |[],_,_,_,_,h,_,_,_=>by simp at h
 |[x],_,_,a,b,h,h1,h',h2=>by
  have e1:a=x:=by simpa using h
  have e2:b=x:=by simpa using h'
  rw[e1] at h1;rw[e2] at h2;exact absurd h1 h2
 |x::y::r,hp,hm,a,b,ha,SM,hb,EA=>by
  obtain⟨p1,p2⟩:=gN.1 hp;by_cases hy:P y
  .have hx:P x:=hm x af y af (p1 y af) hy
   have hb':b∈y::r:=by
    rcases bU.1 hb with e|h
    .rw[e] at EA;exact absurd hx EA
    .exact h
   obtain⟨f,t,h1,h2,h3⟩:=abF p2 (λu hu v hv=>hm u (bV _ hu) v (bV _ hv)) (Kc ..) hy hb' EA
   exact⟨f,t,bV _ h1,h2,h3⟩
  .have hx:P x:=by
    rcases bU.1 ha with e|h
    .rw[<-e];exact SM
    .exfalso;apply hy;rcases bU.1 h with e|h
     .rw[<-e];exact SM
     .exact hm y af a (by simp[h]) ((gN.1 p2).1 a h) SM
   exact⟨x,y,by simp[nexts],hx,hy⟩
theorem MK(n x y:N3):n.2.2*(wv x y).1=x.2.2*(wv n y).1-y.2.2*(wv n x).1/\n.2.2*(wv x y).2=x.2.2*(wv n y).2-y.2.2*(wv n x).2:=by
 unfold wv;constructor<;>(simp only;grind)
theorem abG{es:List (Pt×Pt)}{l:List Nd}(hN:di es l){n:Nd}(hn:n∈l){e:Pt×Pt}(he:e∈es)(hab:(a=e.1/\b=e.2)\/(a=e.2/\b=e.1))(h1:(rl n a).1<=0)(h2:0<(rl n b).1):
  ∃f t,fk es l f t/\(wv n f).1<=0/\0<(wv n t).1/\0<(wv f t).1/\lam (wv f t) f a=0/\lam (wv f t) f b=0:=by
 have cn:=hN.can n hn;have h0:∀p:Pt,rl (p.1,p.2,1) p=(0,0):=λp=>by unfold rl rel;exact dN (by simp only;omega) (by simp only;omega)
 have hend:(a.1,a.2,1)∈held e l/\(b.1,b.2,1)∈held e l:=by
  have k:=hN.Ii he;rcases hab with⟨ha,hb⟩|⟨ha,hb⟩<;>rw[ha,hb]
  .exact⟨je.2 ⟨k.1,pW _ _ (aS (h0 _))⟩,je.2 ⟨k.2,pW _ _ (aR (h0 _))⟩⟩
  .exact⟨je.2 ⟨k.2,pW _ _ (aR (h0 _))⟩,je.2 ⟨k.1,pW _ _ (aS (h0 _))⟩⟩
 obtain⟨f,t,hft,hf,ht⟩:=abF (P:=λx=>(wv n x).1<=0) (hN.Ie e) (λx hx y hy hlt hy'=>by
   have cx:=hN.can x (je.1 hx).1;have cy:=hN.can y (je.1 hy).1;have hr:=Dx ((pA cx cy).1 hlt);have m:=(MK n x y).1;have k1:=jF (fA cn.pos) hr;have k2:=bT (z:=(wv n y).1) cx.pos;have k3:=bT (z:=(wv n x).1) cy.pos;show(wv n x).1<=0
   change(wv n y).1<=0 at hy'
   omega) hend.1 (by show(wv n (a.1,a.2,1)).1<=0;rw[Ij];exact h1) hend.2 (by show ¬(wv n (b.1,b.2,1)).1<=0;rw[Ij];omega)
 have hpc:fk es l f t:=⟨e,he,hft⟩;obtain⟨hfl,htl,hr⟩:=hpc.facts hN;have cf:=hN.can f hfl;have ct:=hN.can t htl;have hD:0<(wv f t).1:=by
  have m:=(MK n f t).1;have k1:=bT (z:=(wv n t).1) cf.pos;have k2:=bT (z:=(wv n f).1) ct.pos;have k3:=bT (z:=(wv f t).1) cn.pos;omega
 have hL:=Ih ct.pos hr (je.1 (uw hft).1).2 (je.1 (uw hft).2).2;refine⟨f,t,hpc,hf,aa,hD,?_,?_⟩
 .rcases hab with⟨ha,_⟩|⟨ha,_⟩<;>rw[ha]
  .exact hL.1
  .exact hL.2
 .rcases hab with⟨_,hb⟩|⟨_,hb⟩<;>rw[hb]
  .exact hL.2
  .exact hL.1
structure ZP(n f t:N3)(W Y S:Int):Prop where
 w:0<W
 d:0<(wv f t).1
 s:(wv f t).1*S=(wv f t).2*W
 zf:wv f (cV n W Y)=(0,0)\/Behind f (cV n W Y) (wv f t)
 zt:Behind (cV n W Y) t (wv f t)
 lz:∀p,lam (wv f t) f p=0↔lam (wv f t) (cV n W Y) p=0
theorem abH(hn:0<n.2.2)(hf:0<f.2.2)(ht:0<t.2.2)(h1:(rl n a).1<=0)(h2:0<(rl n b).1)(k1:(wv n f).1<=0)(k2:0<(wv n t).1)(hD:0<(wv f t).1)(la:lam (wv f t) f a=0)(lb:lam (wv f t) f b=0):
  ZP n f t ((rl n b).1-(rl n a).1) (-cr (rl n a) (rl n b)) ((rl n b).2-(rl n a).2):=by
 have hr:bz (wv f t):=aS hD;have hW:0<(rl n b).1-(rl n a).1:=aa
 have hs:(wv f t).1*((rl n b).2-(rl n a).2)=(wv f t).2*((rl n b).1-(rl n a).1):=by
  have e1:f.2.2*((wv f t).1*(b.2-a.2)-(wv f t).2*(b.1-a.1))=lam (wv f t) f b-lam (wv f t) f a:=by unfold lam cr rl rel;simp only;grind
  rw[la,lb] at e1;have e2:=(dP hf).1 (e1.trans ah)
  have e3:(wv f t).1*((rl n b).2-(rl n a).2)-(wv f t).2*((rl n b).1-(rl n a).1)=n.2.2*((wv f t).1*(b.2-a.2)-(wv f t).2*(b.1-a.1)):=by unfold rl rel;simp only;grind
  rw[e2] at e3;omega
 have ez:lam (wv f t) (cV n ((rl n b).1-(rl n a).1) (-cr (rl n a) (rl n b))) a=0:=by
  unfold lam;rw[vP];unfold cr at*;simp only;have e:((rl n b).1-(rl n a).1)*(rl n a).2- -((rl n a).1*(rl n b).2-(rl n a).2*(rl n b).1)=((rl n b).2-(rl n a).2)*(rl n a).1:=by grind
  rw[e];have e':(wv f t).1*(((rl n b).2-(rl n a).2)*(rl n a).1)-(wv f t).2*(((rl n b).1-(rl n a).1)*(rl n a).1)=((wv f t).1*((rl n b).2-(rl n a).2)-(wv f t).2*((rl n b).1-(rl n a).1))*(rl n a).1:=by grind
  rw[e',hs]
  grind
 generalize hz:cV n ((rl n b).1-(rl n a).1) (-cr (rl n a) (rl n b))=z at*;have hz1:z.1=n.1*((rl n b).1-(rl n a).1):=by rw[<-hz];rfl
 have hz3:z.2.2=n.2.2*((rl n b).1-(rl n a).1):=by rw[<-hz];rfl
 have vQ:0<z.2.2:=by rw[hz3];exact bJ hn hW
 have cfz:cr (wv f t) (wv f z)=0:=by
  obtain⟨e1,e2⟩:=mQ f z a;have k:f.2.2*lam (wv f t) z a=z.2.2*lam (wv f t) f a-cr (wv f t) (wv f z):=by
   have:f.2.2*lam (wv f t) z a=(wv f t).1*(f.2.2*(rl z a).2)-(wv f t).2*(f.2.2*(rl z a).1):=by unfold lam cr;grind
   rw[this,e1,e2];unfold lam cr
   grind
  rw[ez,la] at k;omega
 have lta:=(tS hf ht hr a).2 la;have czt:cr (wv f t) (wv z t)=0:=by
  obtain⟨e1,e2⟩:=mQ z t a;have k:z.2.2*lam (wv f t) t a=t.2.2*lam (wv f t) z a-cr (wv f t) (wv z t):=by
   have:z.2.2*lam (wv f t) t a=(wv f t).1*(z.2.2*(rl t a).2)-(wv f t).2*(z.2.2*(rl t a).1):=by unfold lam cr;grind
   rw[this,e1,e2];unfold lam cr
   grind
  rw[ez,lta] at k;omega
 have xfz:(wv f z).1= -(((rl n b).1-(rl n a).1)*(wv n f).1):=by
  unfold wv;simp only;rw[hz1,hz3]
  grind
 have xzt:(wv z t).1=((rl n b).1-(rl n a).1)*(wv n t).1:=by
  unfold wv;simp only;rw[hz1,hz3]
  grind
 have ML:Behind z t (wv f t):=aS ⟨hD,by rw[xzt];exact bJ hW k2,czt⟩
 have key:(wv f z=(0,0)\/Behind f z (wv f t))/\Behind z t (wv f t)/\∀p,lam (wv f t) f p=0↔lam (wv f t) z p=0:=by
  refine⟨?_,ML,λp=>?_⟩
  .by_cases h0:(wv n f).1=0
   .left;have x0:(wv f z).1=0:=by rw[xfz,h0];omega
    refine dN x0 ?_;have k:(wv f t).1*(wv f z).2-(wv f t).2*(wv f z).1=0:=cfz;rw[x0] at k;exact(dP hD).1 aa
   .right;have:=(neg_mul (z:=(wv n f).1) hW).2 aa
    exact aS ⟨hD,by rw[xfz];omega,cfz⟩
  .have s1:=qH vQ ht ML p;have s2:=qH hf ht (AX hr) p;omega
 exact⟨hW,hD,hs,by rw[hz];exact key.1,by rw[hz];exact key.2.1,by rw[hz];exact key.2.2⟩
theorem amk(hf:0<f.2.2)(hz:0<z.2.2)(h:wv f z=(0,0))(u v:Pt):right (rl z u) (rl z v)=right (rl f u) (rl f v):=by
 have k:∀p,sc f.2.2 (rl z p)=sc z.2.2 (rl f p):=λp=>by
  obtain⟨e1,e2⟩:=mQ f z p;rw[h] at e1 e2;unfold sc;exact dN (by simp only;omega) (by simp only;omega)
 rw[<-Dm hf (rl z u) (rl z v),k,k,Dm hz]
theorem aml(hf:0<f.2.2)(hz:0<z.2.2)(h:wv f z=(0,0))(D u v:Pt):cA z D u v=cA f D u v:=by
 obtain⟨a1,a2⟩:=mQ f z u;obtain⟨b1,b2⟩:=mQ f z v;rw[h] at a1 a2 b1 b2;have l1:f.2.2*cr D (rl z u)=z.2.2*cr D (rl f u):=by
  have:f.2.2*cr D (rl z u)=D.1*(f.2.2*(rl z u).2)-D.2*(f.2.2*(rl z u).1):=by unfold cr;grind
  rw[this,a1,a2];unfold cr
  grind
 have l2:f.2.2*cr D (rl z v)=z.2.2*cr D (rl f v):=by
  have:f.2.2*cr D (rl z v)=D.1*(f.2.2*(rl z v).2)-D.2*(f.2.2*(rl z v).1):=by unfold cr;grind
  rw[this,b1,b2];unfold cr
  grind
 have l3:f.2.2*f.2.2*cr (rl z u) (rl z v)=z.2.2*z.2.2*cr (rl f u) (rl f v):=by
  have:f.2.2*f.2.2*cr (rl z u) (rl z v)=(f.2.2*(rl z u).1)*(f.2.2*(rl z v).2)-(f.2.2*(rl z u).2)*(f.2.2*(rl z v).1):=by unfold cr;grind
  rw[this,a1,a2,b1,b2];unfold cr
  grind
 have p1:=dP (z:=cr (rl z u) (rl z v)) (bJ hf hf);have p2:=dP (z:=cr (rl f u) (rl f v)) (bJ hz hz);have p3:=bT (z:=(rl z u).1) hf;have p4:=bT (z:=(rl f u).1) hz;have p5:=bT (z:=(rl z v).1) hf;have p6:=bT (z:=(rl f v).1) hz;have p7:=neg_mul (z:=cr D (rl z u)) hf;have p8:=neg_mul (z:=cr D (rl f u)) hz;have p9:=neg_mul (z:=cr D (rl z v)) hf;have p0:=neg_mul (z:=cr D (rl f v)) hz;simp only[C9] at a1 b1;have c1:(cr (rl z u) (rl z v)=0)↔(cr (rl f u) (rl f v)=0):=aa
 have c2:(0<(rl z u).1)↔(0<(rl f u).1):=aa
 have c3:(0<(rl z v).1)↔(0<(rl f v).1):=aa
 have c4:(cr D (rl z u)<0)↔(cr D (rl f u)<0):=aa
 have c5:(cr D (rl z v)<0)↔(cr D (rl f v)<0):=aa
 have c6:(0<=cr D (rl z u))↔(0<=cr D (rl f u)):=aa
 have c7:(0<=cr D (rl z v))↔(0<=cr D (rl f v)):=aa
 unfold cA;simp only[c1,c2,c3,c4,c5,c6,c7]
theorem amm{rg:List (List Pt)}(hn:0<n.2.2)(h:wZ (aT rg) f t)(hz:ZP n f t W Y S):
  RR (aT rg) f t=PP (aT rg) (cV n W Y)+total (cA (cV n W Y) (wv f t)) (aT rg):=by
 have vQ:0<(cV n W Y).2.2:=bJ hn hz.w;have k:=W8 h.pf h.pt h.r h.s;unfold RR;rcases hz.zf with h0|hb
 .rw[k];have e1:PP (aT rg) (cV n W Y)=PP (aT rg) f:=qI λe _=>amk h.pf vQ h0 e.1 e.2
  have e2:total (cA (cV n W Y) (wv f t)) (aT rg)=total (cA f (wv f t)) (aT rg):=qI λe _=>aml h.pf vQ h0 (wv f t) e.1 e.2
  rw[e1,e2]
 .have a:=along h.pf vQ hb (rg:=rg) λe he=>PK h.pf h.pt h.pf vQ (h.s e he) (aS rfl) hb (aR hz.zt)
  have z1:total (cB (cV n W Y) (wv f t)) (aT rg)=0:=yT λe he=>by
   obtain⟨k1,k2⟩:=Dr h.pf h.pt vQ (h.s e he) hb hz.zt;unfold cB;rw[aP (λ⟨x1,_,x2,x3⟩=>k1 (fA x2) x3 (by unfold lam;omega) x1),aP (λ⟨x1,_,x2,x3⟩=>k2 (fA x2) x3 (by unfold lam;omega) x1)]
  have z2:total (cA (cV n W Y) (wv f t)) (aT rg)=0:=yT λe he=>by
   obtain⟨k1,k2⟩:=Dr h.pf h.pt vQ (h.s e he) hb hz.zt;unfold cA;rw[aP (λ⟨x1,_,x2,x3⟩=>k2 (fA x2) x3 (by unfold lam;omega) x1),aP (λ⟨x1,_,x2,x3⟩=>k1 (fA x2) x3 (by unfold lam;omega) x1)]
  omega
theorem SN(hn:0<n.2.2)(hf:0<f.2.2)(hD:0<(wv f t).1)(k1:(wv n f).1<=0)(l:lam (wv f t) f u=0)(h:dt (wv f t) (rl f u)<=0):(rl n u).1<=0:=by
 have e1:dt (wv f t) (rl f u)*(wv f t).1=(rl f u).1*dt (wv f t) (wv f t):=by unfold lam cr at l;unfold dt;grind
 have p:=bT (z:=dt (wv f t) (rl f u)) hD;have q:=bT (z:=(rl f u).1) (dC (r:=wv f t) (mR (aS hD)));rw[gF] at p q;have e2:=(mQ n f u).1;have r1:=bT (z:=(rl f u).1) hn;have r2:=bT (z:=(rl n u).1) hf;omega
theorem SP(hn:0<n.2.2)(ht:0<t.2.2)(hD:0<(wv f t).1)(k2:0<(wv n t).1)(l:lam (wv f t) t u=0)(h:0<=dt (wv f t) (rl t u)):0<(rl n u).1:=by
 have e1:dt (wv f t) (rl t u)*(wv f t).1=(rl t u).1*dt (wv f t) (wv f t):=by unfold lam cr at l;unfold dt;grind
 have p:=neg_mul (z:=dt (wv f t) (rl t u)) hD;have q:=neg_mul (z:=(rl t u).1) (dC (r:=wv f t) (mR (aS hD)));rw[gF] at p q;have e2:=(mQ n t u).1;have r1:=neg_mul (z:=(rl t u).1) hn;have r2:=bT (z:=(rl n u).1) ht;omega
theorem amn(q:N3)(D u v:Pt):fb q D v u= -fb q D u v:=by
 unfold fb;rw[uZ];split
 .rw[<-Wo];congr 1
  grind
 .rfl
theorem abK(hs:D.1*S=D.2*W)(p:Pt):lam D (cV n W Y) p=D.1*(W*(rl n p).2-Y-S*(rl n p).1):=by
 unfold lam;rw[vP];unfold cr;simp only
 grind
theorem abL(hn:0<n.2.2)(hf:0<f.2.2)(ht:0<t.2.2)(hZ:ZP n f t W Y S)(k1:(wv n f).1<=0)(k2:0<(wv n t).1)(hS:lX f t (wv f t) u v)(hu:oY f t (wv f t) u)(hv:oY f t (wv f t) v)(h1:(rl n u).1<=0)(h2:0<(rl n v).1):
  fb (cH f t) (wv f t) u v=bb (decide (-cr (rl n u) (rl n v)*W=Y*((rl n v).1-(rl n u).1)/\((rl n v).2-(rl n u).2)*W=S*((rl n v).1-(rl n u).1))):=by
 have hr:bz (wv f t):=aS hZ.d;have hq:0<(cH f t).2.2:=by show 0<f.2.2+t.2.2;omega
 have zu:=abK (n:=n) (Y:=Y) hZ.s u;have zv:=abK (n:=n) (Y:=Y) hZ.s v;have eu:((rl n v).1-(rl n u).1)*(W*(rl n u).2-Y-S*(rl n u).1)= -(W*cr (rl n u) (rl n v)+Y*((rl n v).1-(rl n u).1))+(((rl n v).2-(rl n u).2)*W-S*((rl n v).1-(rl n u).1))*(rl n u).1:=by unfold cr;grind
 have ev:((rl n v).1-(rl n u).1)*(W*(rl n v).2-Y-S*(rl n v).1)= -(W*cr (rl n u) (rl n v)+Y*((rl n v).1-(rl n u).1))+(((rl n v).2-(rl n u).2)*W-S*((rl n v).1-(rl n u).1))*(rl n v).1:=by unfold cr;grind
 have pw:0<(rl n v).1-(rl n u).1:=aa
 by_cases EO:lam (wv f t) f u=0/\lam (wv f t) f v=0
 .obtain⟨l1,l2⟩:=EO;have A0:W*(rl n u).2-Y-S*(rl n u).1=0:=(dP hZ.d).1 (zu.symm.trans ((hZ.lz u).1 l1));have B0:W*(rl n v).2-Y-S*(rl n v).1=0:=(dP hZ.d).1 (zv.symm.trans ((hZ.lz v).1 l2));have pu:=place hf ht hr hu l1;have pv:=place hf ht hr hv l2;have pu':dt (wv f t) (rl (cH f t) u)<0:=by
   rcases pu with h|h
   .exact h.2.1
   .have:=SP hn ht hZ.d k2 ((tS hf ht hr u).2 l1) h.2.2;omega
  have pv':0<dt (wv f t) (rl (cH f t) v):=by
   rcases pv with h|h
   .have:=SN hn hf hZ.d k1 l2 h.1;omega
   .exact h.2.1
  have oq:=(tR (mR hr) ((Dw hf ht hr u).2 l1) ((Dw hf ht hr v).2 l2)).2 (uY (fA pu') (fA pv'));have PZ:(cH f t).2.2*((wv f t).1*(v.1-u.1)+(wv f t).2*(v.2-u.2))=dt (wv f t) (rl (cH f t) v)-dt (wv f t) (rl (cH f t) u):=by
   unfold dt rl rel
   grind
  have s1:=bT (z:=(wv f t).1*(v.1-u.1)+(wv f t).2*(v.2-u.2)) hq;rw[PZ] at s1;have sgn:((wv f t).1*(v.1-u.1)+(wv f t).2*(v.2-u.2)).sign=1:=nV (s1.1 aa)
  unfold fb;rw[oq,sgn];have hE:((rl n v).2-(rl n u).2)*W=S*((rl n v).1-(rl n u).1):=by grind
  have hC: -cr (rl n u) (rl n v)*W=Y*((rl n v).1-(rl n u).1):=by
   rw[A0] at eu;have e0:((rl n v).2-(rl n u).2)*W-S*((rl n v).1-(rl n u).1)=0:=aa
   rw[e0] at eu;have e1: -cr (rl n u) (rl n v)*W= -(W*cr (rl n u) (rl n v)):=by grind
   rw[e1];omega
  rw[iD (And.intro hC hE)];rfl
 .have o1:=PY hf ht hr hS EO;unfold fb;rw[o1];have hno:¬(-cr (rl n u) (rl n v)*W=Y*((rl n v).1-(rl n u).1)/\((rl n v).2-(rl n u).2)*W=S*((rl n v).1-(rl n u).1)):=by
   rintro⟨hC,hE⟩;apply EO;have e0:((rl n v).2-(rl n u).2)*W-S*((rl n v).1-(rl n u).1)=0:=aa
   have e1: -cr (rl n u) (rl n v)*W= -(W*cr (rl n u) (rl n v)):=by grind
   rw[e1] at hC;rw[e0] at eu ev;have A0:=(dP (z:=W*(rl n u).2-Y-S*(rl n u).1) pw).1 aa
   have B0:=(dP (z:=W*(rl n v).2-Y-S*(rl n v).1) pw).1 aa
   rw[A0] at zu;rw[B0] at zv;exact⟨(hZ.lz u).2 aa,(hZ.lz v).2 aa⟩
  rw[jU hno];rfl
theorem amr(hn:0<n.2.2)(hf:0<f.2.2)(ht:0<t.2.2)(hZ:ZP n f t W Y S)(k1:(wv n f).1<=0)(k2:0<(wv n t).1)(hS:lX f t (wv f t) u v)(hu:oY f t (wv f t) u)(hv:oY f t (wv f t) v)(h:¬((rl n u).1<=0/\0<(rl n v).1))(h':¬((rl n v).1<=0/\0<(rl n u).1)):
  fb (cH f t) (wv f t) u v=0:=by
 have hr:bz (wv f t):=aS hZ.d;have o1:on (rl (cH f t) u) (rl (cH f t) v)=false:=by
  by_cases EO:lam (wv f t) f u=0/\lam (wv f t) f v=0
  .obtain⟨l1,l2⟩:=EO;have pu:=place hf ht hr hu l1;have pv:=place hf ht hr hv l2;cases ho:on (rl (cH f t) u) (rl (cH f t) v)
   .rfl
   .exfalso;have oq:=(tR (mR hr) ((Dw hf ht hr u).2 l1) ((Dw hf ht hr v).2 l2)).1 ho;rcases pu with⟨x1,x2,x3⟩|⟨x1,x2,x3⟩<;>rcases pv with⟨y1,y2,y3⟩|⟨y1,y2,y3⟩
    .exact yX x2 y2 oq
    .have a:=SN hn hf hZ.d k1 l1 x1;have b:=SP hn ht hZ.d k2 ((tS hf ht hr v).2 l2) y3;exact h ⟨a,b⟩
    .have a:=SN hn hf hZ.d k1 l2 y1;have b:=SP hn ht hZ.d k2 ((tS hf ht hr u).2 l1) x3;exact h' ⟨a,b⟩
    .exact AY x2 y2 oq
  .exact PY hf ht hr hS EO
 unfold fb;rw[o1];rfl
theorem MM{F:Pt->Pt->Int}{p:Pt×Pt->Bool}:∀{es:List (Pt×Pt)},(∀e∈es,F e.1 e.2=if p e then wt n e else 0)->total F es=fR (wt n) p es
 |[],_=>rfl
 |e::l,h=>by rw[ic,uy,h e af,MM λx hx=>h x (bV _ hx)]
theorem SQ(es:List (Pt×Pt))(n:N3):PP es n=fR (wt n) (λe=>decide (kY n e<0)) es:=by
 refine MM λe _=>?_
 unfold right wt kY;have:=dh (rl n e.1) (rl n e.2);by_cases h1:(rl n e.1).1<=0/\0<(rl n e.2).1
 .rw[aV h1,aV h1];by_cases hc:0<cr (rl n e.1) (rl n e.2)
  .rw[aV ⟨h1.1,h1.2,hc⟩,iD aa];rfl
  .rw[aP aa,aP aa,jU aa];rfl
 .by_cases h2:(rl n e.2).1<=0/\0<(rl n e.1).1
  .rw[aP h1,aV h2,aP h1,aV h2,aP aa]
   by_cases hc:cr (rl n e.1) (rl n e.2)<0
   .rw[aV ⟨h2.2,h2.1,hc⟩,iD aa];rfl
   .rw[aP aa,jU aa];rfl
  .rw[aP h1,aP h2,aP h1,aP h2,aP aa,aP aa]
   split<;>rfl
theorem abM(p:Bool):(if p then(1:Int) else 0)=bb p:=rfl
theorem abN{rg:List (List Pt)}{e0:Pt×Pt}(hn:0<n.2.2)(h:wZ (aT rg) f t)(hZ:ZP n f t (kW n e0) (kY n e0) (kS n e0))(k1:(wv n f).1<=0)(k2:0<(wv n t).1):
  RR (aT rg) f t=fR (wt n) (λe=>cC n e e0) (aT rg)/\total (fb (cH f t) (wv f t)) (aT rg)=fR (wt n) (λe=> !cC n e e0&& !cC n e0 e) (aT rg):=by
 have sP:∀e,kS n e*kW n e0=kS n e0*kW n e/\kY n e*kW n e0=kY n e0*kW n e↔(!cC n e e0&& !cC n e0 e)=true:=λe=>by
  unfold cC;simp only[tH,Wz,WA];omega
 constructor
 .rw[amm hn h hZ];unfold PP;rw[<-Kh];refine MM λe _=>?_
  by_cases h1:(rl n e.1).1<=0/\0<(rl n e.2).1
  .rw[abE hZ.w hZ.d hZ.s h1.1 h1.2];unfold wt;rw[aV h1,abM];congr 1;unfold cC;have a:kY n e= -cr (rl n e.1) (rl n e.2):=aV h1;have b:kW n e=(rl n e.2).1-(rl n e.1).1:=aV h1;have c:kS n e=(rl n e.2).2-(rl n e.1).2:=aV h1;rw[a,b,c]
  .by_cases h2:(rl n e.2).1<=0/\0<(rl n e.1).1
   .have g:=abE (Y:=kY n e0) hZ.w hZ.d hZ.s h2.1 h2.2;rw[PC (rl (cV n (kW n e0) (kY n e0)) e.1),amf] at g;have a:kY n e= -cr (rl n e.2) (rl n e.1):=(aP h1).trans (aV h2);have b:kW n e=(rl n e.1).1-(rl n e.2).1:=(aP h1).trans (aV h2);have c:kS n e=(rl n e.1).2-(rl n e.2).2:=(aP h1).trans (aV h2);rw[<-a,<-b,<-c] at g;have hw:wt n e= -1:=(aP h1).trans (aV h2);rw[hw];have g': -(right (rl (cV n (kW n e0) (kY n e0)) e.1) (rl (cV n (kW n e0) (kY n e0)) e.2)+cA (cV n (kW n e0) (kY n e0)) (wv f t) e.1 e.2)=bb (cC n e e0):=by
     rw[<-show _=bb (cC n e e0) from g]
     omega
    cases hk:cC n e e0<;>rw[hk] at g'<;>unfold bb at g'<;>simp at g'⊢ <;>omega
   .have hw:wt n e=0:=(aP h1).trans (aP h2);rw[amg hZ.w h1 h2,hw];split<;>rfl
 .refine MM λe he=>?_
  by_cases h1:(rl n e.1).1<=0/\0<(rl n e.2).1
  .rw[abL hn h.pf h.pt hZ k1 k2 (h.s e he) (h.c e he).1 (h.c e he).2 h1.1 h1.2];have hw:wt n e=1:=aV h1;have a:kY n e= -cr (rl n e.1) (rl n e.2):=aV h1;have b:kW n e=(rl n e.2).1-(rl n e.1).1:=aV h1;have c:kS n e=(rl n e.2).2-(rl n e.1).2:=aV h1;have k:=sP e;rw[a,b,c] at k;rw[hw,abM];congr 1;refine mP.2 (Iff.trans ?_ k);rw[uV];exact And.comm
  .by_cases h2:(rl n e.2).1<=0/\0<(rl n e.1).1
   .have g:=abL hn h.pf h.pt hZ k1 k2 (u:=e.2) (v:=e.1) (by
      have:=h.s e he;refine⟨λx y z=>?_,λx y z=>?_⟩
      .have:=this.2 x y z;rw[dh (rl f e.1) (rl f e.2),dh (rl t e.1) (rl t e.2)];omega
      .have:=this.1 x y z;rw[dh (rl f e.1) (rl f e.2),dh (rl t e.1) (rl t e.2)];omega) (h.c e he).2 (h.c e he).1 h2.1 h2.2
    rw[amn] at g;have hw:wt n e= -1:=(aP h1).trans (aV h2);have a:kY n e= -cr (rl n e.2) (rl n e.1):=(aP h1).trans (aV h2);have b:kW n e=(rl n e.1).1-(rl n e.2).1:=(aP h1).trans (aV h2);have c:kS n e=(rl n e.1).2-(rl n e.2).2:=(aP h1).trans (aV h2);have k:=sP e;rw[<-a,<-b,<-c] at g;have k':decide (kY n e*kW n e0=kY n e0*kW n e/\kS n e*kW n e0=kS n e0*kW n e)=(!cC n e e0&& !cC n e0 e):=by
     refine mP.2 (Iff.trans ?_ k);rw[uV];exact And.comm
    rw[k'] at g;rw[hw];cases hk:(!cC n e e0&& !cC n e0 e)<;>rw[hk] at g<;>unfold bb at g<;>simp at g⊢ <;>omega
   .have hw:wt n e=0:=(aP h1).trans (aP h2);rw[amr hn h.pf h.pt hZ k1 k2 (h.s e he) (h.c e he).1 (h.c e he).2 h1 h2,hw];split<;>rfl
theorem ams{rg:List (List Pt)}{l:List Nd}(hN:di (aT rg) l){bw:Int->Bool}(h0:bw 0=false){n:Nd}(hn:n∈l)(h:bw (PP (aT rg) n)=true):
  ∃f t,Sd (aT rg) l bw f t/\(wv n f).1<=0/\0<(wv n t).1/\0<cr (wv f t) (wv f n):=by
 have cn:=hN.can n hn;rw[SQ] at h;obtain⟨e0,MA,hT,hb,ha⟩:=abD (EM n) (Im n) (EN n) (wt n) bw h0 (aT rg) _ (λe=>decide (kY n e<0)) (λx y hy hyx=>by
   have hy':=ia hy;refine iD ?_;have auG:¬_:=λk=>by rw[EL.2 k] at hyx;cases hyx
   have px:=vO n x;have py:=vO n y;have q1:=(neg_mul (z:=kY n y) px).2 hy';have q2:=neg_mul (z:=kY n x) py;rw[gF] at q1 q2;exact q2.1 aa) (aY _) h
 have hT':=ia hT;obtain⟨a,b,hab,h1,h2,hW,hY,hS⟩:∃a b,((a=e0.1/\b=e0.2)\/(a=e0.2/\b=e0.1))/\(rl n a).1<=0/\0<(rl n b).1/\kW n e0=(rl n b).1-(rl n a).1/\kY n e0= -cr (rl n a) (rl n b)/\kS n e0=(rl n b).2-(rl n a).2:=by
  by_cases k1:(rl n e0.1).1<=0/\0<(rl n e0.2).1
  .exact⟨e0.1,e0.2,aS ⟨rfl,rfl⟩,k1.1,k1.2,aV k1,aV k1,aV k1⟩
  .by_cases k2:(rl n e0.2).1<=0/\0<(rl n e0.1).1
   .exact⟨e0.2,e0.1,aR ⟨rfl,rfl⟩,k2.1,k2.2,(aP k1).trans (aV k2),(aP k1).trans (aV k2),(aP k1).trans (aV k2)⟩
   .exfalso;have:kY n e0=0:=(aP k1).trans (aP k2);omega
 obtain⟨f,t,hpc,k1,k2,hD,la,lb⟩:=abG hN hn MA hab h1 h2;have hP:=hpc.qJ hN;have hZ:=abH cn.pos hP.pf hP.pt h1 h2 k1 k2 hD la lb;rw[<-hW,<-hY,<-hS] at hZ;obtain⟨r1,r2⟩:=abN cn.pos hP hZ k1 k2;refine⟨f,t,aS ⟨hpc,?_,?_⟩,k1,k2,?_⟩
 .unfold LL;have:PP (aT rg) (cH f t)=RR (aT rg) f t:=rfl;rw[this,r1,r2];exact ha
 .rw[r1];exact hb
 .have vQ:0<(cV n (kW n e0) (kY n e0)).2.2:=bJ cn.pos hZ.w;obtain⟨m1,m2⟩:=MK (cV n (kW n e0) (kY n e0)) f n;have c0:cr (wv f t) (wv (cV n (kW n e0) (kY n e0)) f)=0:=by
   have:cr (wv f t) (wv f (cV n (kW n e0) (kY n e0)))=0:=by
    rcases hZ.zf with k|k
    .rw[k];exact(Dt _).2.1
    .exact WV k
   rw[gu f,fG];omega
  have ezn:wv (cV n (kW n e0) (kY n e0)) n=(0, -(n.2.2*kY n e0)):=by
   unfold wv cV;exact dN (by simp only;grind) (by simp only;grind)
  have hpos:0<cr (wv f t) (wv (cV n (kW n e0) (kY n e0)) n):=by
   rw[ezn];unfold cr;simp only;have:=(neg_mul (z:=kY n e0) cn.pos).2 hT';have:=bJ hD (show 0< -(n.2.2*kY n e0) by omega)
   omega
  have e:(cV n (kW n e0) (kY n e0)).2.2*cr (wv f t) (wv f n)=f.2.2*cr (wv f t) (wv (cV n (kW n e0) (kY n e0)) n)-n.2.2*cr (wv f t) (wv (cV n (kW n e0) (kY n e0)) f):=by
   have:(cV n (kW n e0) (kY n e0)).2.2*cr (wv f t) (wv f n)=(wv f t).1*((cV n (kW n e0) (kY n e0)).2.2*(wv f n).2)-(wv f t).2*((cV n (kW n e0) (kY n e0)).2.2*(wv f n).1):=by unfold cr;grind
   rw[this,m1,m2];unfold cr
   grind
  rw[c0] at e;have:=bJ hP.pf hpos;exact(bT vQ).1 aa
end Ga
section
open Go.RowKit
variable{w wr:aM}
def zJ(x:PB)(wk:Bool)(ow:Option Addr):Array aN:=(x.cells++[Value.bool wk,Value.pointer ow]).toArray
def bC(bs:List Nat):List aN:=bs.map λb=>aH (some ⟨b,0,none⟩)
theorem amu{v:aN}{l:List PB}(h:uk w v l):∃so cap,v=aG so l.length cap:=by
 rcases h.2 with⟨hv,h0⟩|⟨b,cap,cur,hv,_⟩
 .exact⟨none,0,by rw[hv,h0]⟩
 .exact⟨_,cap,hv⟩
theorem amv{so:Option Addr}{n cap:Nat}{l:List PB}(h:uk w (aG so n cap) l){k:Nat}{x:PB}(he:l[k]?=some x):
  ∃b,so=some ⟨b,0,none⟩/\b<w.heap.size/\w.cell? ⟨b,k*6,none⟩=some (aA aK x.wa x.wb)/\w.cell? ⟨b,k*6+1,none⟩=some (aB aK x.sh)/\w.cell? ⟨b,k*6+2,none⟩=some (aA aK (aO aK x.f.1) (aO aK x.f.2.1))/\w.cell? ⟨b,k*6+3,none⟩=some (az aJ x.f.2.2)/\w.cell? ⟨b,k*6+4,none⟩=some (aA aK (aO aK x.t.1) (aO aK x.t.2.1))/\w.cell? ⟨b,k*6+5,none⟩=some (az aJ x.t.2.2):=by
 have g:=Mt l k x he;obtain⟨b,c,hv,hb,hc⟩:=DU h (g 0 aa)
 injection hv with hv;exact⟨b,hv,hb,hc _ _ (g 0 aa),hc _ _ (g 1 aa),hc _ _ (g 2 aa),hc _ _ (g 3 aa),hc _ _ (g 4 aa),hc _ _ (g 5 aa)⟩
structure BS(w:aM)(lv:aN)(bs:List Nat)(Xs:List PB)(wr:aM):Prop where
 own:wr.ownsRow w.heap.size 175 1 lv bs.length (bC bs)
 len:bs.length=Xs.length
 lies:∀(i:Nat) b x,bs[i]?=some b->Xs[i]?=some x->w.heap.size<=b/\wr.heap[b]?=some (.cells (zJ x false none) 177 (0,0))
 ne:∀b∈bs,lv.ownBlock≠some b
 nd:bs.Nodup
 below:aj w wr
theorem BS.keep{lv:aN}{bs:List Nat}{Xs:List PB}{w':aM}(h:BS w lv bs Xs wr)(hb:aj wr w'):BS w lv bs Xs w':=
 ⟨bG h.own λk hk=>hb.block k (bn h.own k hk).2,h.len,λi b x h1 h2=>⟨(h.lies i b x h1 h2).1,(hb.block _ (lt_of_heap (h.lies i b x h1 h2).2)).trans (h.lies i b x h1 h2).2⟩,h.ne,h.nd,h.below.trans (hb.mono h.below.size)⟩
theorem BS.lt{lv:aN}{bs:List Nat}{Xs:List PB}(h:BS w lv bs Xs wr){b:Nat}(hb:b∈bs):b<wr.heap.size:=by
 obtain⟨i,hi,rfl⟩:=jG.1 hb;have hx:i<Xs.length:=by rw[<-h.len];exact hi
 exact lt_of_heap (h.lies i _ _ (bo hi) (bo hx)).2
theorem BS.snoc{lv:aN}{bs:List Nat}{Xs:List PB}(h:BS w lv bs Xs wr)(x:PB)(o:Obj){g cap:Nat}{w8:aM}
  (cI:((wr.alloc (.cells (zJ x false none) 177)).alloc o).grownBy w8 lv.ownBlock)
  (dW:w8.ownsRow w.heap.size 175 1 (aG (some ⟨g,0,none⟩) (bs.length+1) cap) (bs.length+1) (bC bs++[aH (some ⟨wr.heap.size,0,none⟩)]))
  (hat:lv.ownBlock=some g\/g=wr.heap.size+2):BS w (aG (some ⟨g,0,none⟩) (bs.length+1) cap) (bs++[wr.heap.size]) (Xs++[x]) w8:=by
 have hsz:((wr.alloc (.cells (zJ x false none) 177)).alloc o).heap.size=wr.heap.size+2:=af
 have hsz1:(wr.alloc (.cells (zJ x false none) 177)).heap.size=wr.heap.size+1:=af
 have hown:∀k,lv.ownBlock=some k->k<wr.heap.size:=λk hk=>(bn h.own k hk).2
 have hold:∀b,b<wr.heap.size->lv.ownBlock≠some b->w8.heap[b]?=wr.heap[b]?:=λb hb hne=>
  (cI.block b aa (λe=>hne e.symm)).trans ((Below.heap_alloc _ _ _ aa).trans (Below.heap_alloc _ _ _ hb))
 refine⟨?_,by rw[bX,bX,h.len];rfl,λi b y h1 h2=>?_,λb hb=>?_,?_,?_⟩
 .have e:bC (bs++[wr.heap.size])=bC bs++[aH (some ⟨wr.heap.size,0,none⟩)]:=by simp[bC]
  rw[e,bX];exact dW
 .by_cases hi:i<bs.length
  .rw[fM hi] at h1;rw[fM (by rw[<-h.len];exact hi)] at h2
   obtain⟨k1,k2⟩:=h.lies i b y h1 h2;exact⟨k1,(hold b (lt_of_heap k2) (h.ne b (bA h1))).trans k2⟩
  .have hi2:i=bs.length:=by
    have:=(cG.1 h1).1;simp at this;omega
   subst hi2;have e1:b=wr.heap.size:=by simpa using h1.symm
   have e2:y=x:=by rw[h.len] at h2;simpa using h2.symm
   subst e1 e2;refine⟨h.below.size,(cI.block _ aa (λe=>ahj _ (hown _ e.symm))).trans ((Below.heap_alloc _ _ _ aa).trans (heap_alloc_new _ _))⟩
 .intro he;have he':g=b:=by simpa[Value.ownBlock] using he
  subst he';rcases dF.1 hb with hb|hb
  .rcases hat with hat|hat
   .exact h.ne g hb hat
   .have:=h.lt hb;omega
  .rw[dB] at hb;rcases hat with hat|hat
   .have:=hown g hat;omega
   .omega
 .rw[Pq];refine⟨h.nd,af,λa ha b hb=>?_⟩
  rw[dB.1 hb];have:=h.lt ha;omega
 .exact((h.below.alloc h.below.size _).alloc (by have:=h.below.size;omega) _).grown cI (by have:=h.below.size;omega) (λk hk=>(bn h.own k hk).1)
theorem abO:∀{m:List Ge.Nd},m.Pairwise (λa b=>Ge.lt (Ge.aU a) (Ge.aU b))->∀{q:Ge.Nd×Ge.Nd},q∈Ge.nexts m->Ge.lt (Ge.aU q.1) (Ge.aU q.2)
 |[],_,_,h=>by simp[Ge.nexts] at h
 |[_],_,_,h=>by simp[Ge.nexts] at h
 |a::b::r,hp,q,h=>by
  rcases bU.1 h with h|h
  .rw[h];exact(gN.1 hp).1 b af
  .exact abO (gN.1 hp).2 h
theorem amw{es:List Ed}{l:List Ge.Nd}(hl:l.map Ge.aU=Ge.ja es)(e:Ed):(Ge.held e l).Pairwise (λa b=>Ge.lt (Ge.aU a) (Ge.aU b)):=by
 have ha:Ge.vq (l.map Ge.aU):=by rw[hl];exact(Ge.Eh es).2.1
 exact ahr _ (lF.1 ha)
theorem MN{es:List Ed}{l:List Ge.Nd}{Ps:List PB}(h:qi es l Ps)(hl:l.map Ge.aU=Ge.ja es)(p:PB)(hp:p∈Ps):Ge.lt (Ge.aU p.f) (Ge.aU p.t):=by
 obtain⟨e,he⟩:=h.ap.mem p hp;have hq:=he.2.2;have hh:=amw hl e;generalize Ge.held e l=H at*;have k:=abO hh hq;exact k
def gL(r:Int)(es:List Ed)(p:PB):List PB:=
 if Ge.takes r (sL es p.f p.t)=true/\Ge.takes r (qj es p.f p.t)=false then[p]
 else if Ge.takes r (qj es p.f p.t)=true/\Ge.takes r (sL es p.f p.t)=false then[p.rev] else[]
theorem Cj:(Tryz.prog.info? 175).map (λi=>(i.zero,i.size,i.bytes))=some (some (aH none),1,8):=ag
theorem amx(es:List Ed)(r:Int)(v:aN)(w:aM)(hR:jL w v es)(hl:es.length<=402)(hs:∀e∈es,gS e)(hne:∀e∈es,e.1≠e.2)
  (Q:aN->aM->Prop)
  (HS:Hid (∀Ps l,l.map Ge.aU=Ge.ja es->(∀n∈l,Ge.Can n)->qi es l Ps->∀w1 lv bs wr,aj w w1->BS w1 lv bs (Ps.flatMap (gL r es)) wr->bs.length<=85000000->ak 108 #[lv,.func (.func 109) #[] #[]] wr λe w'=>e=aL (aI #[])/\Q lv w')):
  ak 68 #[v,az .u8 r] w λe w'=>∃lv,e=aL lv/\Q lv w':=by
 obtain⟨so,cap,rfl⟩:=K9 hR;obtain⟨i0,hi,hz0,hz1,hz2⟩:=info_parts Cj;have HP:Hid (ak 104 #[aG so es.length cap] w λr w'=>∃v' Ps,r=aL v'/\uk w' v' Ps/\aj w w'/\Ps.length<=85000000/\∃l,l.map Ge.aU=Ge.ja es/\(∀n∈l,Ge.Can n)/\qi es l Ps):=alL es _ w hR hl hs
 have HR:Hid (jL w (aG so es.length cap) es):=hR;have MO:Hid (∀t w,ak 106 #[az .u8 r,az aJ t] w λe w'=>e=aL (aD (Ge.takes r t))/\w'=w):=λt w=>akx r t w
 go_enter func68,ntmps68
 go_wp2_with fail
 refine HP.out.mono ?_;rintro r' w1 ⟨pv,Ps,rfl,SR,hb1,zK,l,kU,lQ,uz⟩;obtain⟨ps,pc,rfl⟩:=amu SR;have EP:Hid (uk w1 (aG ps Ps.length pc) Ps):=SR;have Ck:Hid (jL w1 (aG so es.length cap) es):=aaq HR.out hb1;have SS:Hid (∀p∈Ps,∀v w,jL w v es->ak 105 #[aC p.cells.toArray,v] w λr w'=>r=aL (aI #[az aJ (sL es p.f p.t),az aJ (qj es p.f p.t)])/\aj w w'):=λp hp=>alQ p es l hne (uz.v p hp) (MN uz kU p hp) (uz.ap.mem p hp) hl hs
 have abP:=HS.out Ps l kU lQ uz w1;have abQ:Hid (∀lv bs wr,BS w1 lv bs (Ps.flatMap (gL r es)) wr->bs.length<=85000000->ak 108 #[lv,.func (.func 109) #[] #[]] wr λe w'=>e=aL (aI #[])/\Q lv w'):=λlv bs wr h1 h2=>abP lv bs wr hb1 h1 h2
 clear abP HS uz lQ kU SR HP HR hR hs hne;have cQ:Hid (∃bs,BS w1 (aG none 0 0) bs ((Ps.take 0).flatMap (gL r es)) w1/\bs.length<=0):=⟨[],⟨World.ownsRow_nil _ _ _ _,af,λi b x h=>by simp at h,λb h=>by simp at h,af,Below.refl _ _⟩,af⟩
 go_wp2_with fail
 go_loopg [5,15] Ps.length (λm lv iv wr=>∃k:Nat,k+m=Ps.length/\iv=az aJ k/\Hid (∃bs,BS w1 lv bs ((Ps.take k).flatMap (gL r es)) wr/\bs.length<=k))
 case atStart=>exact⟨0,aa,rfl,cQ⟩
 case round=>
  obtain⟨k,hkn,rfl,HE⟩:=hrel;clear cQ;obtain⟨bs,lg,hbl⟩:=HE.out;have Cm:Hid (BS w1 u5 bs ((Ps.take k).flatMap (gL r es)) wr):=lg;clear HE;by_cases hlt:k<Ps.length
  .obtain⟨p,hpk⟩:∃p,Ps[k]?=some p:=⟨_,bo hlt⟩;obtain⟨b,rfl,hb,c0,c1,c2,c3,c4,c5⟩:=amv EP.out hpk;have aX:=lg.below;have r0:=aQ aX c0 hb;have r1:=aQ aX c1 hb;have r2:=aQ aX c2 hb;have r3:=aQ aX c3 hb;have r4:=aQ aX c4 hb;have r5:=aQ aX c5 hb;have hbr:b<wr.heap.size:=bW hb aX.size;have ij:(k:Int)<(Ps.length:Int):=aa
   have SU:=SS.out p (bA hpk);have ER:Hid (∀w,ak 107 #[aC p.cells.toArray] w λe w'=>e=aL (aC p.rev.cells.toArray)/\aj w w'):=λw=>akV p w
   have MQ:Hid ((Ps.take (k+1)).flatMap (gL r es)=(Ps.take k).flatMap (gL r es)++gL r es p):=by
    have htk:Ps.take (k+1)=Ps.take k++[p]:=by rw[ju,hpk];rfl
    show(Ps.take (k+1)).flatMap (gL r es)=_;rw[htk,Pr,qB,agW,qC]
   have MR:Hid (gL r es p=if Ge.takes r (sL es p.f p.t)=true/\Ge.takes r (qj es p.f p.t)=false then[p] else if Ge.takes r (qj es p.f p.t)=true/\Ge.takes r (sL es p.f p.t)=false then[p.rev] else[]):=rfl
   have SV:=MO.out (sL es p.f p.t);have Hz:=MO.out (qj es p.f p.t);clear c0 c1 c2 c3 c4 c5 hpk lg;generalize sL es p.f p.t=TL at*;generalize qj es p.f p.t=TR at*;have vR:Hid (p.cells=[aA aK p.wa p.wb,aB aK p.sh,aA aK (aO aK p.f.1) (aO aK p.f.2.1),az aJ p.f.2.2,aA aK (aO aK p.t.1) (aO aK p.t.2.1),az aJ p.t.2.2]):=rfl;have SY:Hid (p.rev.cells=[aA aK (Op.negFloat aK p.wa) (Op.negFloat aK p.wb),aB aK (Op.negFloat aK p.sh),aA aK (aO aK p.t.1) (aO aK p.t.2.1),az aJ p.t.2.2,aA aK (aO aK p.f.1) (aO aK p.f.2.1),az aJ p.f.2.2]):=rfl;have MS:=ER.out;rw[vR.out] at SU MS;rw[SY.out] at MS;clear ER;generalize Op.negFloat aK p.wa=N1 at*;generalize Op.negFloat aK p.wb=N2 at*;generalize Op.negFloat aK p.sh=N3 at*;generalize p.wa=A1 at*;generalize p.wb=A2 at*;generalize p.sh=A3 at*;generalize aO aK p.f.1=A4 at*;generalize aO aK p.f.2.1=A5 at*;generalize p.f.2.2=A6 at*;generalize aO aK p.t.1=A7 at*;generalize aO aK p.t.2.1=A8 at*;generalize p.t.2.2=A9 at*;have abR:Hid (∀v w,jL w v es->ak 105 #[aC #[aA aK A1 A2,aB aK A3,aA aK A4 A5,az aJ A6,aA aK A7 A8,az aJ A9],v] w λr w'=>r=aL (aI #[az aJ TL,az aJ TR])/\aj w w'):=SU
   have ER:Hid (∀w,ak 107 #[aC #[aA aK A1 A2,aB aK A3,aA aK A4 A5,az aJ A6,aA aK A7 A8,az aJ A9]] w λe w'=>e=aL (aC #[aA aK N1 N2,aB aK N3,aA aK A7 A8,az aJ A9,aA aK A4 A5,az aJ A6])/\aj w w'):=MS
   have HSC:Hid (zJ p false none= #[aA aK A1 A2,aB aK A3,aA aK A4 A5,az aJ A6,aA aK A7 A8,az aJ A9,aD false,aH none]):=by
    show(p.cells++[Value.bool false,Value.pointer none]).toArray=_;rw[vR.out];rfl
   have HSR:Hid (zJ p.rev false none= #[aA aK N1 N2,aB aK N3,aA aK A7 A8,az aJ A9,aA aK A4 A5,az aJ A6,aD false,aH none]):=by
    show(p.rev.cells++[Value.bool false,Value.pointer none]).toArray=_;rw[SY.out];rfl
   have HL:Hid (∀w,ak 106 #[az .u8 r,az aJ TL] w λe w'=>e=aL (aD (Ge.takes r TL))/\w'=w):=SV
   have HRr:Hid (∀w,ak 106 #[az .u8 r,az aJ TR] w λe w'=>e=aL (aD (Ge.takes r TR))/\w'=w):=Hz
   have hb0:aj wr (wr.alloc (.cells #[aA aK A1 A2,aB aK A3,aA aK A4 A5,az aJ A6,aA aK A7 A8,az aJ A9] 171)):=aw _ _;have um:=heap_alloc_new wr (.cells #[aA aK A1 A2,aB aK A3,aA aK A4 A5,az aJ A6,aA aK A7 A8,az aJ A9] 171);have hz0':wr.heap.size<(wr.alloc (.cells #[aA aK A1 A2,aB aK A3,aA aK A4 A5,az aJ A6,aA aK A7 A8,az aJ A9] 171)).heap.size:=af
   have abT:Hid (jL (wr.alloc (.cells #[aA aK A1 A2,aB aK A3,aA aK A4 A5,az aJ A6,aA aK A7 A8,az aJ A9] 171)) (aG so es.length cap) es):=aaq Ck.out (aX.alloc aX.size _);clear SU MS SV Hz vR SY MO SS;generalize Ge.takes r TL=bL at*;generalize Ge.takes r TR=bR at*
   go_wp2_with (simp only[iH,qO];go_simp)
   generalize wr.alloc (.cells #[aA aK A1 A2,aB aK A3,aA aK A4 A5,az aJ A6,aA aK A7 A8,az aJ A9] 171)=W0 at*;refine(abR.out _ _ abT.out).mono ?_;rintro r' w2 ⟨rfl,hb2⟩;have fg:=(hb2.block _ hz0').trans um;have SZ:aj wr w2:=hb0.trans (hb2.mono (fF hz0'));have fw:Hid (BS w1 u5 bs ((Ps.take k).flatMap (gL r es)) w2):=Cm.out.keep SZ;have e0:=cL fg;have e1:=cK fg;have e2:=eN fg;have e3:=kA fg;have e4:=yP fg;have e5:=yQ fg;have amA:wr.heap.size<w2.heap.size:=lt_of_heap fg;clear r0 r1 r2 r3 r4 r5 abR abT Cm um hb0 hb2
   go_wp2_with fail
   refine(HL.out _).mono ?_;rintro r' w3 ⟨rfl,rfl⟩
   go_wp2_with fail
   refine(HRr.out _).mono ?_;rintro r' w3 ⟨rfl,rfl⟩;clear HL HRr;cases bL<;>cases bR
   .have dw:Hid (∃bs,BS w1 u5 bs ((Ps.take (k+1)).flatMap (gL r es)) w3/\bs.length<=k+1):=by
     have e1:gL r es p=[]:=by rw[MR.out];simp
     rw[MQ.out,e1,qC];exact⟨bs,fw.out,aa⟩
    clear fw
    go_wp2_with fail
    go_roundg (gk-1)
    case measure=>omega
    case rel=>exact⟨k+1,aa,ai,dw⟩
   .go_wp2_with fail
    refine(ER.out _).mono ?_;rintro r' w4 ⟨rfl,hb4⟩;have vS:Hid (BS w1 u5 bs ((Ps.take k).flatMap (gL r es)) w4):=fw.out.keep hb4;have nr:=vS.out.own;have hbz:=vS.out.below.size;have hnb:((w4.alloc (.cells #[aA aK N1 N2,aB aK N3,aA aK A7 A8,az aJ A9,aA aK A4 A5,az aJ A6,aD false,aH none] 177)).alloc (.cells #[aH (some ⟨w4.heap.size,0,none⟩)] 175)).heap[w4.heap.size+1]?=some (.cells #[aH (some ⟨w4.heap.size,0,none⟩)] 175 (0,0)):=by
     have:=heap_alloc_new (w4.alloc (.cells #[aA aK N1 N2,aB aK N3,aA aK A7 A8,az aJ A9,aA aK A4 A5,az aJ A6,aD false,aH none] 177)) (.cells #[aH (some ⟨w4.heap.size,0,none⟩)] 175);simpa using this
    clear e0 e1 e2 e3 e4 e5 fg hb4 fw ER
    go_wp2_with (at_builtin;refine wpList_append_lies _ rfl (.tmp 47) (.tmp 52) 133 rfl w1.heap.size 175 i0 _ 1 8 underlying133 hi hz0 hz1 hz2 rfl ah u5 bs.length (bC bs) rfl (bG nr (λk hk=>(Below.heap_alloc _ _ _ (by have:=(bn nr k hk).2;simp;omega)).trans (Below.heap_alloc _ _ _ (bn nr k hk).2))) ⟨w4.heap.size+1,0,none⟩ 1 1 [aH (some ⟨w4.heap.size,0,none⟩)] rfl rfl (World.news_of_block (cs:= #[aH (some ⟨w4.heap.size,0,none⟩)]) (t:=175) (fr:=(0,0)) hnb) (by simp[Value.oneCell']) ah (by unfold maxLen;omega) aa (by have:=hbz;simp;omega) (w4.heap.size+2) af ?_;intro g' cap' w8 dW cI iN sH)
    have dw:Hid (∃bs',BS w1 (aG (some ⟨g',0,none⟩) (bs.length+1) cap') bs' ((Ps.take (k+1)).flatMap (gL r es)) w8/\bs'.length<=k+1):=by
     have e1:gL r es p=[p.rev]:=by rw[MR.out];simp
     rw[<-HSR.out] at cI;rw[MQ.out,e1];exact⟨bs++[w4.heap.size],vS.out.snoc p.rev _ cI dW iN,by rw[bX];simp;omega⟩
    clear cI dW iN hnb nr vS
    go_wp2_with fail
    go_roundg (gk-1)
    case measure=>omega
    case rel=>exact⟨k+1,aa,ai,dw⟩
   .have nr:=fw.out.own;have vS:=fw;have hbz:=fw.out.below.size;have hnb:((w3.alloc (.cells #[aA aK A1 A2,aB aK A3,aA aK A4 A5,az aJ A6,aA aK A7 A8,az aJ A9,aD false,aH none] 177)).alloc (.cells #[aH (some ⟨w3.heap.size,0,none⟩)] 175)).heap[w3.heap.size+1]?=some (.cells #[aH (some ⟨w3.heap.size,0,none⟩)] 175 (0,0)):=by
     have:=heap_alloc_new (w3.alloc (.cells #[aA aK A1 A2,aB aK A3,aA aK A4 A5,az aJ A6,aA aK A7 A8,az aJ A9,aD false,aH none] 177)) (.cells #[aH (some ⟨w3.heap.size,0,none⟩)] 175);simpa using this
    clear fw ER
    go_wp2_with (at_builtin;refine wpList_append_lies _ rfl (.tmp 36) (.tmp 40) 133 rfl w1.heap.size 175 i0 _ 1 8 underlying133 hi hz0 hz1 hz2 rfl ah u5 bs.length (bC bs) rfl (bG nr (λk hk=>(Below.heap_alloc _ _ _ (by have:=(bn nr k hk).2;simp;omega)).trans (Below.heap_alloc _ _ _ (bn nr k hk).2))) ⟨w3.heap.size+1,0,none⟩ 1 1 [aH (some ⟨w3.heap.size,0,none⟩)] rfl rfl (World.news_of_block (cs:= #[aH (some ⟨w3.heap.size,0,none⟩)]) (t:=175) (fr:=(0,0)) hnb) (by simp[Value.oneCell']) ah (by unfold maxLen;omega) aa (by have:=hbz;simp;omega) (w3.heap.size+2) af ?_;intro g' cap' w8 dW cI iN sH)
    have dw:Hid (∃bs',BS w1 (aG (some ⟨g',0,none⟩) (bs.length+1) cap') bs' ((Ps.take (k+1)).flatMap (gL r es)) w8/\bs'.length<=k+1):=by
     have e1:gL r es p=[p]:=by rw[MR.out];simp
     rw[<-HSC.out] at cI;rw[MQ.out,e1];exact⟨bs++[w3.heap.size],vS.out.snoc p _ cI dW iN,by rw[bX];simp;omega⟩
    clear cI dW iN hnb nr vS
    go_wp2_with fail
    go_roundg (gk-1)
    case measure=>omega
    case rel=>exact⟨k+1,aa,ai,dw⟩
   .have dw:Hid (∃bs,BS w1 u5 bs ((Ps.take (k+1)).flatMap (gL r es)) w3/\bs.length<=k+1):=by
     have e1:gL r es p=[]:=by rw[MR.out];simp
     rw[MQ.out,e1,qC];exact⟨bs,fw.out,aa⟩
    clear fw
    go_wp2_with fail
    go_roundg (gk-1)
    case measure=>omega
    case rel=>exact⟨k+1,aa,ai,dw⟩
  .have hk:k=Ps.length:=aa
   subst hk;have h1:=Cm.out;rw[gv] at h1;have HC:=abQ.out _ bs _ h1 aa
   have Ia:Hid (ak 108 #[u5,.func (.func 109) #[] #[]] wr λe w'=>e=aL (aI #[])/\Q u5 w'):=HC
   clear HC h1 Cm abQ SS EP Ck MO
   go_wp2_with fail
   refine Ia.out.mono ?_;rintro e w5 ⟨rfl,hQ⟩;have HQ:Hid (Q u5 w5):=hQ;clear hQ Ia
   go_wp2_with fail
   go_ret
   exact⟨_,rfl,HQ.out⟩
structure jB(w:aM)(b:Nat)(x:PB):Prop where
 c0:w.cell? ⟨b,0,none⟩=some (aA aK x.wa x.wb)
 c1:w.cell? ⟨b,1,none⟩=some (aB aK x.sh)
 c2:w.cell? ⟨b,2,none⟩=some (aA aK (aO aK x.f.1) (aO aK x.f.2.1))
 c3:w.cell? ⟨b,3,none⟩=some (az aJ x.f.2.2)
 c4:w.cell? ⟨b,4,none⟩=some (aA aK (aO aK x.t.1) (aO aK x.t.2.1))
 c5:w.cell? ⟨b,5,none⟩=some (az aJ x.t.2.2)
theorem jB.of{b:Nat}{x:PB}{wk:Bool}{ow:Option Addr}(h:w.heap[b]?=some (.cells (zJ x wk ow) 177 (0,0))):jB w b x:=
 ⟨cell_of h 0,cell_of h 1,cell_of h 2,cell_of h 3,cell_of h 4,cell_of h 5⟩
theorem S3(x y:PB)(hx:eB x)(hy:eB y)(b c:Nat)(w:aM)(h1:jB w b x)(h2:jB w c y):
  ak 109 #[aH (some ⟨b,0,none⟩),aH (some ⟨c,0,none⟩)] w λr w'=>r=aL (az aJ (cE x.f y.f))/\aj w w'/\w.drawn<=w'.drawn:=by
 have HC:Hid (∀w,ak 125 #[aC #[aA aK (aO aK x.f.1) (aO aK x.f.2.1),az aJ x.f.2.2],aC #[aA aK (aO aK y.f.1) (aO aK y.f.2.1),az aJ y.f.2.2]] w λr w'=>r=aL (az aJ (cE x.f y.f))/\aj w w'/\w.drawn<=w'.drawn):=λw=>Hd x.f y.f hx.f.bw hy.f.bw hx.cf hy.cf w
 have a2:=h1.c2;have a3:=h1.c3;have d2:=h2.c2;have d3:=h2.c3;clear h1 h2 hx hy;generalize aO aK x.f.1=X1 at*;generalize aO aK x.f.2.1=X2 at*;generalize aO aK y.f.1=Y1 at*;generalize aO aK y.f.2.1=Y2 at*;generalize cE x.f y.f=R at*;generalize x.f.2.2=X3 at*;generalize y.f.2.2=Y3 at*
 go_enter func109,ntmps109
 go_wp2_with fail
 have hzb:b<w.heap.size:=lt_of_cell a2;have nL:c<w.heap.size:=lt_of_cell d2
 go_region_held3 (λw'=>w'.cell? ⟨b,2,none⟩=some (aA aK X1 X2)/\w'.cell? ⟨b,3,none⟩=some (az aJ X3)/\w'.cell? ⟨c,2,none⟩=some (aA aK Y1 Y2)/\w'.cell? ⟨c,3,none⟩=some (az aJ Y3)) (go_keep) (first
   |(go_at_call 125;refine(HC.out _).mono ?_;rintro e w5 ⟨rfl,bh,Ip⟩;have e0:=aQ bh a2 hzb;have e1:=aQ bh a3 hzb;have e2:=aQ bh d2 nL;have e3:=(aQ bh d3 nL)))
 all_goals
  have aX:aj w w5:=(Below.refl _ _).drew.trans bh;have HD:Hid (w.drawn<=w5.drawn):=fN (pT _) Ip;clear bh Ip
  go_wp2_with fail
  go_ret
  exact⟨rfl,aX,HD.out⟩
end
end Go.Proofs.YtkjhhooecopolaaGreatDoor
namespace Go.Proofs
open Tryz
open Value renaming int->az,complex->aA,float->aB,agg->aC,bool->aD,string->aF,slice->aG,pointer->aH,tuple->aI
open IntKind renaming i64->aJ
open FloatKind renaming f64->aK
open Ending renaming returned->aL
open Go renaming World->aM,Value->aN,floatOfInt->aO
open Go.Shelf
def Tryz.pdqSd_ren:Go.Shelf.Ren:=⟨fun |14=>163|20=>200|21=>201|22=>202|23=>203|24=>204|25=>205|26=>206|27=>207|46=>248|47=>249|48=>250|49=>251|50=>252|15=>164|57=>289|28=>208|29=>209|n=>n,fun |24=>175|22=>132|3=>3|25=>180|4=>4|0=>0|46=>274|45=>273|50=>70|66=>313|39=>238|55=>282|70=>317|76=>346|77=>172|53=>280|5=>5|9=>9|n=>n,fun |n=>n⟩
theorem Tryz.pdqSd:Go.Proofs.SlLaysF.n14 prog Tryz.pdqSd_ren:={
 mixed:=ag
 f14:=⟨Tryz.f163.name,ah,func163.trans (aZ some ag)⟩
 f15:=func164.trans (aZ some ag)
 f20:=⟨Tryz.f200.name,ah,func200.trans (aZ some ag)⟩
 f21:=⟨Tryz.f201.name,ah,func201.trans (aZ some ag)⟩
 f22:=⟨Tryz.f202.name,ah,func202.trans (aZ some ag)⟩
 f23:=⟨Tryz.f203.name,ah,func203.trans (aZ some ag)⟩
 f24:=⟨Tryz.f204.name,ah,func204.trans (aZ some ag)⟩
 f25:=⟨Tryz.f205.name,ah,func205.trans (aZ some ag)⟩
 f26:=⟨Tryz.f206.name,ah,func206.trans (aZ some ag)⟩
 f27:=⟨Tryz.f207.name,ah,func207.trans (aZ some ag)⟩
 f28:=func208.trans (aZ some ag)
 f29:=func209.trans (aZ some ag)
 f46:=⟨Tryz.f248.name,ah,func248.trans (aZ some ag)⟩
 f47:=func249.trans (aZ some ag)
 f48:=func250.trans (aZ some ag)
 f49:=⟨Tryz.f251.name,ah,func251.trans (aZ some ag)⟩
 f50:=⟨Tryz.f252.name,ah,func252.trans (aZ some ag)⟩
 f57:=⟨Tryz.f289.name,ah,func289.trans (aZ some ag)⟩
 t0:=underlying0
 a0:=isAgg0
 z0:=sizeOf0
 v0:=zeroValue0
 t3:=underlying3
 a3:=isAgg3
 z3:=sizeOf3
 v3:=zeroValue3
 t4:=underlying4
 a4:=isAgg4
 z4:=sizeOf4
 v4:=zeroValue4
 t5:=underlying5
 a5:=isAgg5
 z5:=sizeOf5
 v5:=zeroValue5
 t9:=underlying9
 a9:=isAgg9
 z9:=sizeOf9
 v9:=zeroValue9
 t22:=underlying132
 a22:=isAgg132
 z22:=sizeOf132
 v22:=zeroValue132
 a24:=isAgg175
 z24:=sizeOf175
 t25:=underlying180
 a25:=isAgg180
 z25:=sizeOf180
 v25:=zeroValue180
 t39:=underlying238
 a39:=isAgg238
 z39:=sizeOf238
 v39:=zeroValue238
 t45:=underlying273
 a45:=isAgg273
 z45:=sizeOf273
 v45:=zeroValue273
 t46:=underlying274
 a46:=isAgg274
 z46:=sizeOf274
 v46:=zeroValue274
 t50:=underlying70
 a50:=isAgg70
 z50:=sizeOf70
 v50:=zeroValue70
 t53:=underlying280
 a53:=isAgg280
 z53:=sizeOf280
 v53:=zeroValue280
 t55:=underlying282
 a55:=isAgg282
 z55:=sizeOf282
 v55:=zeroValue282
 t66:=underlying313
 a66:=isAgg313
 z66:=sizeOf313
 v66:=zeroValue313
 t70:=underlying317
 a70:=isAgg317
 z70:=sizeOf317
 v70:=zeroValue317
 t76:=underlying346
 a76:=isAgg346
 z76:=sizeOf346
 v76:=zeroValue346
 t77:=underlying172
 a77:=isAgg172
 z77:=sizeOf172
 v77:=zeroValue172}
end Go.Proofs

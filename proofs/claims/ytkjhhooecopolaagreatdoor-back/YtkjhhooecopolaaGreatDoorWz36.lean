import Derived.Test.YtkjhhooecopolaaGreatDoorWz35
set_option maxRecDepth 100000
set_option maxHeartbeats 4000000
namespace Go.Proofs.YtkjhhooecopolaaGreatDoor.Gb
open Ge Ga
theorem akg{α:Type}{lt:α->α->Bool}(ht:∀x y z,lt x y=true->lt y z=true->lt x z=true)(hi:∀x,lt x x=false)(hw:∀x y z,lt x y=true->lt z y=true\/lt x z=true)(w:α->Int)(χ:Int->Int)(h0:χ 0=0)(L E S:List α)(hE:∀z∈E,z∈L)(hS:∀z∈S,z∈L)
  (hL:∀z∈L,bV w (fun y=> !lt y z&& !lt z y) S=χ (bV w (fun y=>lt y z) E+bV w (fun y=> !lt y z&& !lt z y) E)-χ (bV w (fun y=>lt y z) E)):
  ∀(m:Nat)(T:α->Bool),(∀x y,T y=true->lt y x=false->T x=true)->L.countP T<=m->bV w T S=χ (bV w T E):=by
 have asym:∀a b,lt a b=true->lt b a=false:=fun a b h1=>by
  cases h2:lt b a
  ·rfl
  ·have:=ht a b a h1 h2;rw[hi] at this;cases this
 intro m;induction m with
 |zero=>
  intro T hT hc;have hn:∀x∈L,T x=false:=fun x hx=>by
   cases hk:T x
   ·rfl
   ·have:=Fz.2 ⟨x,hx,hk⟩;omega
  rw[yl w fun x hx=>hn x (hS x hx),yl w fun x hx=>hn x (hE x hx),h0]
 |succ m ih=>
  intro T hT hc;by_cases hb:∀x∈L,T x=false
  ·rw[yl w fun x hx=>hb x (hS x hx),yl w fun x hx=>hb x (hE x hx),h0]
  ·have hb':∃x∈L,T x=true:=by
    apply fV;intro hk;apply hb;intro x hx;cases h:T x
    ·rfl
    ·exact absurd ⟨x,hx,h⟩ hk
   obtain⟨x,hx,MQ⟩:=hb';obtain⟨z,hz,lI,hmax⟩:=I3 ht hi T L _ x hx MQ (ay _);have e:∀l:List α,(∀y∈l,y∈L)->bV w T l=bV w (fun y=>lt y z) l+bV w (fun y=> !lt y z&& !lt z y) l:=fun l hl=>vZ w fun y hy=>by
    cases hy1:lt y z
    ·cases hy2:lt z y
     ·have:T y=true:=hT y z lI hy2;rw[this];rfl
     ·have:T y=false:=by
       cases hk:T y
       ·rfl
       ·rw[hmax y (hl y hy) hk] at hy2;cases hy2
      rw[this];rfl
    ·have:T y=true:=hT y z lI (asym y z hy1);rw[this];rfl
   have hlt:L.countP (fun y=>lt y z)<L.countP T:=vq L (fun y _ hy=>hT y z lI (asym y z hy)) ⟨z,hz,lI,hi z⟩
   have k:=ih (fun y=>lt y z) (fun a b hb hab=>by
    rcases hw b z a hb with k|k
    ·exact k
    ·rw[hab] at k;cases k) (by omega)
   rw[e S hS,e E hE,k,hL z hz];omega
theorem Ph(p:Sg):∀{S:List Sg},S.Nodup->total (fun u v=>bb (decide ((u,v)=p))) S=bb (decide (p∈S))
 |[],_=>rfl
 |s::S,h=>by
  obtain⟨h1,h2⟩:=FU.1 h;rw[dZ,Ph p h2];by_cases e:s=p
  ·subst e;rw[eN (show(s.1,s.2)=s from rfl),gv h1,eN (by simp:s∈s::S)]
   rfl
  ·have e1:decide ((s.1,s.2)=p)=false:=gv e;have e2:decide (p∈s::S)=decide (p∈S):=by
    refine decide_eq_decide.2 ?_;rw[aP];exact⟨fun k=>k.resolve_left fun q=>e q.symm,ah⟩
   rw[e1,e2];simp[bb]
theorem Cl.flat:∀{Ls:List (List Sg)},(∀L∈Ls,Cl L)->Cl Ls.flatten
 |[],_=>Cl.nil
 |L::Ls,h=>by
  rw[tN];exact(h L (by simp)).append (Cl.flat fun x hx=>h x (aT _ hx))
theorem Ff{α:Type}(w:α->Int)(p:α->Bool)(l:List α):bV w p (l.filter fun x=>decide (w x≠0))=bV w p l:=by
 rw[Ek];exact Ns w fun x _ hx=>by rw[eN hx];rfl
section
variable{rg:List (List Pt)}{l:List Nd}{r:Int}{Xs:List PB}
theorem SX.nodup(h:SX rg l r Xs):(sS (aa l) Xs).Nodup:=by
 unfold sS;rw[List.Nodup,lR,kE];intro i j hi hj hij e;have gx:∀{i:Nat}(hi:i<Xs.length),xi Xs i=Xs[i]:=fun hi=>sL (aC hi)
 have:=SX.AH h hi hj (by rw[gx hi,gx hj];exact e)
 omega
theorem SX.tB(h:SX rg l r Xs){s:Sg}:s∈sS (aa l) Xs↔∃a b,Sd (ae rg) l (takes r) a b/\s=(PM (aa l) a,PM (aa l) b):=by
 unfold sS;rw[aN];constructor
 ·rintro⟨x,hx,rfl⟩;exact⟨x.f,x.t,h.mem x hx,rfl⟩
 ·rintro⟨a,b,hs,rfl⟩;obtain⟨x,hx,e1,e2⟩:=h.all a b hs;exact⟨x,hx,by unfold ph;rw[e1,e2]⟩
theorem SX.Zm(h:SX rg l r Xs){f t:Nd}(hp:cL (ae rg) l f t\/cL (ae rg) l t f):Ga.AS (sS (aa l) Xs) (n1 (PM (aa l) f)) (fun z=>ai z (dr (PM (aa l) f,PM (aa l) t)))=bb (decide ((PM (aa l) f,PM (aa l) t)∈sS (aa l) Xs))-bb (decide ((PM (aa l) t,PM (aa l) f)∈sS (aa l) Xs)):=by
 have hN:=h.nl;obtain⟨hM,hO⟩:=bC.ok hN;obtain⟨hne,hf,ht⟩:=eF hN hp;have JX:PM (aa l) f≠PM (aa l) t:=fun e=>hne (by
  have:=oW hN hf ht e;rw[this];unfold wv;exact bX (by simp) (by simp))
 rw[<-Ph _ (SX.nodup h),<-Ph _ (SX.nodup h),<-F4];unfold Ga.AS;refine nD fun s hs=>?_
 obtain⟨a,b,gf,rfl⟩:=(SX.tB h).1 hs;obtain⟨hab,ha,hb⟩:=eF hN gf.pc;have q0:ai (0,0) (dr (PM (aa l) f,PM (aa l) t))=false:=tT _;by_cases ho:on (dr (PM (aa l) f,PM (aa l) a)) (dr (PM (aa l) f,PM (aa l) b))=true
 ·rcases Np hN hf gf.pc ho with e|e
  ·subst e;rw[Gp (s:=(PM (aa l) f,PM (aa l) b)) rfl,q0];have e2:decide ((PM (aa l) f,PM (aa l) b)=(PM (aa l) t,PM (aa l) f))=false:=gv fun q=>JX (au Prod.fst q)
   have e3:ai (dr (PM (aa l) f,PM (aa l) b)) (dr (PM (aa l) f,PM (aa l) t))=decide ((PM (aa l) f,PM (aa l) b)=(PM (aa l) f,PM (aa l) t)):=by
    cases q:ai (dr (PM (aa l) f,PM (aa l) b)) (dr (PM (aa l) f,PM (aa l) t))
    ·refine(gv fun w=>?_).symm
     rw[w,jJ fun z=>JX (gS.1 z)] at q
     cases q
    ·rw[Pm.ai (fO hM (hO f hf) (hO b hb)) (fO hM (hO f hf) (hO t ht))] at q;rw[vY hN gf.pc hp q];exact(eN rfl).symm
   simp only[e2,e3]
  ·subst e;rw[Gn (s:=(PM (aa l) a,PM (aa l) f)) rfl,q0];have e2:decide ((PM (aa l) a,PM (aa l) f)=(PM (aa l) f,PM (aa l) t))=false:=gv fun q=>JX (au Prod.snd q)
   have e4:neg (dr (PM (aa l) a,PM (aa l) f))=dr (PM (aa l) f,PM (aa l) a):=(jT (PM (aa l) a,PM (aa l) f)).symm;have e3:ai (neg (dr (PM (aa l) a,PM (aa l) f))) (dr (PM (aa l) f,PM (aa l) t))=decide ((PM (aa l) a,PM (aa l) f)=(PM (aa l) t,PM (aa l) f)):=by
    rw[e4];cases q:ai (dr (PM (aa l) f,PM (aa l) a)) (dr (PM (aa l) f,PM (aa l) t))
    ·refine(gv fun w=>?_).symm
     have w':PM (aa l) a=PM (aa l) t:=au Prod.fst w;rw[w',jJ fun z=>JX (gS.1 z)] at q
     cases q
    ·rw[Pm.ai (fO hM (hO f hf) (hO a ha)) (fO hM (hO f hf) (hO t ht))] at q;rw[vY hN gf.pc.symm hp q];exact(eN rfl).symm
   simp only[e2,e3]
 ·have ho':on (rl (n1 (PM (aa l) f)) (PM (aa l) a)) (rl (n1 (PM (aa l) f)) (PM (aa l) b))=false:=by
   rw[cd,cd];exact QG.2 ho
  have e1:decide ((PM (aa l) a,PM (aa l) b)=(PM (aa l) f,PM (aa l) t))=false:=gv fun q=>ho (by
   have q':PM (aa l) a=PM (aa l) f:=au Prod.fst q;rw[q'];exact lj _ _ (ag (gS.2 rfl)))
  have e2:decide ((PM (aa l) a,PM (aa l) b)=(PM (aa l) t,PM (aa l) f))=false:=gv fun q=>ho (by
   have q':PM (aa l) b=PM (aa l) f:=au Prod.snd q;rw[q'];exact lj _ _ (ah (gS.2 rfl)))
  unfold Ga.arm;simp only[ho',e1,e2];rfl
theorem SX.chain(h:SX rg l r Xs)(hB:BD Xs):∃dm,(ae dm).Perm (sS (aa l) Xs):=by
 have hW:=SX.wd h hB;obtain⟨PL,_,hok,wQ⟩:=SX.qU h hB;have:Cl (jr PL):=Cl.flat fun L hL=>by
  obtain⟨p,hp,rfl⟩:=aN.1 hL;refine((hok p hp).shell.lr.cl hW).1.append (Cl.flat fun H hH=>?_)
  obtain⟨z,hz,rfl⟩:=aN.1 hH;exact(((hok p hp).hole z hz).1.lr.cl hW).1
 obtain⟨dm,e⟩:=this;exact⟨dm,by rw[e];exact wQ⟩
theorem SX.kK(h:SX rg l r Xs){dm:List (List Pt)}(hc:(ae dm).Perm (sS (aa l) Xs)){f t:Nd}(hp:cL (ae rg) l f t):rF (ae dm) (n1 (PM (aa l) f)) (n1 (PM (aa l) t)):=by
 have hN:=h.nl;obtain⟨hM,hO⟩:=bC.ok hN;obtain⟨hf,ht,hr⟩:=hp.facts hN;have E9:∀e∈ae dm,Pf (PM (aa l) f,PM (aa l) t) e:=fun e he=>by
  obtain⟨a,b,hs,rfl⟩:=(SX.tB h).1 (hc.mem_iff.1 he);exact MO hM hO hN hp hs.pc
 have hr':aJ (dr (PM (aa l) f,PM (aa l) t)):=(fO hM (hO f hf) (hO t ht)).aJ.2 hr;exact⟨by show(0:Int)<1;decide,by show(0:Int)<1;decide,by rw[jH];exact hr',fun e he=>by rw[jH];exact(E9 e he).fs,fun e he=>by rw[jH];exact⟨(E9 e he).c1,(E9 e he).c2⟩⟩
theorem SX.count(h:SX rg l r Xs)(h0:takes r 0=false){dm:List (List Pt)}(hc:(ae dm).Perm (sS (aa l) Xs)){f t:Nd}(hp:cL (ae rg) l f t)(hx:0<(wv f t).1):
  RR (ae dm) (n1 (PM (aa l) f)) (n1 (PM (aa l) t))=bb (takes r (RR (ae rg) f t))/\LL (ae dm) (n1 (PM (aa l) f)) (n1 (PM (aa l) t))=bb (takes r (LL (ae rg) f t)):=by
 have hN:=h.nl;obtain⟨hM,hO⟩:=bC.ok hN;obtain⟨hf,ht,hr⟩:=hp.facts hN;have pV:0<(n1 (PM (aa l) f)).2.2:=by show(0:Int)<1;decide
 have AL:∀{x y:Nd},x∈l->y∈l->(Gb.dQ (n1 (PM (aa l) f)) (PM (aa l) x) (PM (aa l) y)↔(wv f x).1<=0/\0<(wv f y).1):=fun{x y} hx hy=>by
  obtain⟨p,q,hp,hq,e1,_⟩:=fO hM (hO f hf) (hO x hx);obtain⟨p',q',hp',hq',je,_⟩:=fO hM (hO f hf) (hO y hy);have g1:=iJ hp hq e1;have g2:=iJ hp' hq' je;unfold Gb.dQ;rw[cd,cd];omega
 have oV:Gb.dQ (n1 (PM (aa l) f)) (PM (aa l) f) (PM (aa l) t):=(AL hf ht).2 ⟨by unfold wv;simp,hx⟩
 obtain⟨e1,e2⟩:=Jk hN hp;obtain⟨r1,r2⟩:=hts pV oV (Ej hN hp);obtain⟨c1,c2⟩:=hts pV oV ((SX.kK h) hc hp);rw[<-e1,<-e2,r1,r2,c1,c2];have lev:∀{f' t':Nd},cL (ae rg) l f' t'->Gb.dQ (n1 (PM (aa l) f)) (PM (aa l) f') (PM (aa l) t')->∀z,aO (n1 (PM (aa l) f)) z (PM (aa l) f',PM (aa l) t')=false->aO (n1 (PM (aa l) f)) (PM (aa l) f',PM (aa l) t') z=false->
   bV (wt (n1 (PM (aa l) f))) (fun y=> !aO (n1 (PM (aa l) f)) y z&& !aO (n1 (PM (aa l) f)) z y) (ae dm)=bb (takes r (bV (wt (n1 (PM (aa l) f))) (fun y=>aO (n1 (PM (aa l) f)) y z) (ae (rg.map (·.map (aD (aa l)))))+bV (wt (n1 (PM (aa l) f))) (fun y=> !aO (n1 (PM (aa l) f)) y z&& !aO (n1 (PM (aa l) f)) z y) (ae (rg.map (·.map (aD (aa l)))))))-bb (takes r (bV (wt (n1 (PM (aa l) f))) (fun y=>aO (n1 (PM (aa l) f)) y z) (ae (rg.map (·.map (aD (aa l))))))):=by
  intro f' t' hp' hc' z z1 z2;obtain⟨hf',ht',hr'⟩:=hp'.facts hN;obtain⟨i1,i2⟩:=Jk hN hp';obtain⟨j1,j2⟩:=hts pV hc' (Ej hN hp');have Zn:=(SX.kK h) hc hp';obtain⟨k1,k2⟩:=hts pV hc' Zn;have cg:∀x,aO (n1 (PM (aa l) f)) x (PM (aa l) f',PM (aa l) t')=aO (n1 (PM (aa l) f)) x z/\aO (n1 (PM (aa l) f)) (PM (aa l) f',PM (aa l) t') x=aO (n1 (PM (aa l) f)) z x:=fun x=>⟨(Jm z1 z2).1.symm,(Jm z1 z2).2.symm⟩
  have sp:∀E:List Sg,bV (wt (n1 (PM (aa l) f))) (fun e=> !aO (n1 (PM (aa l) f)) (PM (aa l) f',PM (aa l) t') e) E=bV (wt (n1 (PM (aa l) f))) (fun e=>aO (n1 (PM (aa l) f)) e z) E+bV (wt (n1 (PM (aa l) f))) (fun e=> !aO (n1 (PM (aa l) f)) e z&& !aO (n1 (PM (aa l) f)) z e) E:=fun E=>by
   refine vZ _ fun x _=>?_
   rw[(cg x).2];cases q1:aO (n1 (PM (aa l) f)) x z<;>cases q2:aO (n1 (PM (aa l) f)) z x
   ·rfl
   ·rfl
   ·rfl
   ·have:=wh _ _ _ _ q1 q2;rw[qM] at this;cases this
  rw[sp] at j2 k2;rw[I2 _ fun x _=>(cg x).1] at j1 k1
  rw[<-j2,<-j1,i1,i2];obtain⟨a1,a2⟩:=rG Zn;rw[jH] at a1 a2;have ea:bH (ae dm) (n1 (PM (aa l) f')) (dr (PM (aa l) f',PM (aa l) t'))=bg (ae dm) (n1 (PM (aa l) f')) (dr (PM (aa l) f',PM (aa l) t'))+Ga.AS (ae dm) (n1 (PM (aa l) f')) (fun z=>ai z (dr (PM (aa l) f',PM (aa l) t'))):=rfl
  have eS:Ga.AS (ae dm) (n1 (PM (aa l) f')) (fun z=>ai z (dr (PM (aa l) f',PM (aa l) t')))=Ga.AS (sS (aa l) Xs) (n1 (PM (aa l) f')) (fun z=>ai z (dr (PM (aa l) f',PM (aa l) t'))):=zm hc
  rw[eS,(SX.Zm h) (ag hp')] at ea;have inj:∀{a b:Nd},a∈l->b∈l->((PM (aa l) a,PM (aa l) b)∈sS (aa l) Xs↔Sd (ae rg) l (takes r) a b):=fun{a b} ha hb=>by
   rw[(SX.tB h)];constructor
   ·rintro⟨x,y,hs,e⟩;obtain⟨_,hx,hy⟩:=eF hN hs.pc;rw[oW hN ha hx (au Prod.fst e),oW hN hb hy (au Prod.snd e)];exact hs
   ·intro hs;exact⟨a,b,hs,rfl⟩
  have no:¬cL (ae rg) l t' f':=fun q=>by
   have:=(q.facts hN).2.2;rw[dU] at this;exact D3 hr' this
  have s1:Sd (ae rg) l (takes r) f' t'↔takes r (LL (ae rg) f' t')=true/\takes r (RR (ae rg) f' t')=false:=by
   constructor
   ·rintro(⟨_,q⟩|⟨q,_⟩)
    ·exact q
    ·exact absurd q no
   ·intro q;exact ag ⟨hp',q⟩
  have s2:Sd (ae rg) l (takes r) t' f'↔takes r (RR (ae rg) f' t')=true/\takes r (LL (ae rg) f' t')=false:=by
   constructor
   ·rintro(⟨q,_⟩|⟨_,q⟩)
    ·exact absurd q no
    ·exact q
   ·intro q;exact ah ⟨hp',q⟩
  have g1:=(inj hf' ht').trans s1;have g2:=(inj ht' hf').trans s2;have goal:bV (wt (n1 (PM (aa l) f))) (fun y=> !aO (n1 (PM (aa l) f)) y z&& !aO (n1 (PM (aa l) f)) z y) (ae dm)=bb (decide ((PM (aa l) f',PM (aa l) t')∈sS (aa l) Xs))-bb (decide ((PM (aa l) t',PM (aa l) f')∈sS (aa l) Xs)):=by omega
  rw[goal];have d1:decide ((PM (aa l) f',PM (aa l) t')∈sS (aa l) Xs)=(takes r (LL (ae rg) f' t')&& !takes r (RR (ae rg) f' t')):=by
   refine lg.2 ?_;rw[pE,g1];simp
  have d2:decide ((PM (aa l) t',PM (aa l) f')∈sS (aa l) Xs)=(takes r (RR (ae rg) f' t')&& !takes r (LL (ae rg) f' t')):=by
   refine lg.2 ?_;rw[pE,g2];simp
  rw[d1,d2];cases takes r (LL (ae rg) f' t')<;>cases takes r (RR (ae rg) f' t')<;>simp[bb]
 have Nu:∀u v:Pt,Gb.dQ (n1 (PM (aa l) f)) (aD (aa l) u) (aD (aa l) v)↔(rl f u).1<=0/\0<(rl f v).1:=fun u v=>by
  obtain⟨p,q,hp,hq,e1,_⟩:=pU hM (hO f hf) u;obtain⟨p',q',hp',hq',je,_⟩:=pU hM (hO f hf) v;have g1:=iJ hp hq e1;have g2:=iJ hp' hq' je;unfold Gb.dQ;omega
 have find:∀z∈ae (rg.map (·.map (aD (aa l))))++ae dm,wt (n1 (PM (aa l) f)) z≠0->∃f' t',cL (ae rg) l f' t'/\Gb.dQ (n1 (PM (aa l) f)) (PM (aa l) f') (PM (aa l) t')/\aO (n1 (PM (aa l) f)) z (PM (aa l) f',PM (aa l) t')=false/\aO (n1 (PM (aa l) f)) (PM (aa l) f',PM (aa l) t') z=false:=by
  intro z hz hwz;rcases bQ.1 hz with hz|hz
  ·rw[AJ hM] at hz;obtain⟨z0,hz0,hzz⟩:=aN.1 hz;obtain⟨u,v,Em,En⟩:∃u v,((u=z0.1/\v=z0.2)\/(u=z0.2/\v=z0.1))/\Gb.dQ (n1 (PM (aa l) f)) (aD (aa l) u) (aD (aa l) v):=by
    rcases WE hwz with q|q
    ·rw[<-hzz] at q;exact⟨z0.1,z0.2,ag ⟨rfl,rfl⟩,q⟩
    ·rw[<-hzz] at q;exact⟨z0.2,z0.1,ah ⟨rfl,rfl⟩,q⟩
   have Eo:=(Nu u v).1 En;obtain⟨f',t',hft,g1,g2,g3,la,lb⟩:=MS hN hf hz0 Em Eo.1 Eo.2;obtain⟨hfl,htl,_⟩:=hft.facts hN;have Zo:Gb.dQ (n1 (PM (aa l) f)) (PM (aa l) f') (PM (aa l) t'):=(AL hfl htl).2 ⟨g1,g2⟩;have p0:=fO hM (hO f' hfl) (hO t' htl);have pG:∀w,lam (wv f' t') f' w=0->cr (dr (PM (aa l) f',PM (aa l) t')) (dr (PM (aa l) f',aD (aa l) w))=0:=fun w hw=>by
    have:=pU hM (hO f' hfl) w;rw[cd] at this;exact(p0.cr this).2.2.2 hw
   obtain⟨s1,s2⟩:=WH En Zo (pG u la) (pG v lb) pV;refine⟨f',t',hft,Zo,?_⟩;rcases Em with⟨rfl,rfl⟩|⟨rfl,rfl⟩
   ·rw[<-hzz];exact⟨s1,s2⟩
   ·have e:z=rv (aD (aa l) z0.2,aD (aa l) z0.1):=by rw[<-hzz];rfl
    rw[e,(wH _ _ _).1,(wH _ _ _).2];exact⟨s1,s2⟩
  ·obtain⟨a,b,hs,rfl⟩:=(SX.tB h).1 (hc.mem_iff.1 hz);obtain⟨_,ha,hb⟩:=eF hN hs.pc;have Zp:∀{x y:Nd},x∈l->y∈l->Gb.dQ (n1 (PM (aa l) f)) (PM (aa l) x) (PM (aa l) y)->¬cL (ae rg) l y x:=fun{x y} hx hy q w=>by
    have hw:=(AL hx hy).1 q;have hr:=tU (w.facts hN).2.2;have cx:=(hN.can x hx).pos;have cy:=(hN.can y hy).pos;have cf:=(hN.can f hf).pos;obtain⟨m1,_⟩:=D7 f y x;have h1:f.2.2*(wv y x).1<0:=by
     have x1:=KM hw.1 cy;have x2:=aR hw.2 cx;rw[dX] at x1 x2;omega
    have:=(Ga.neg_mul (z:=(wv y x).1) cf).1 h1;omega
   rcases WE hwz with q|q
   ·have k:=hs.pc.resolve_right (Zp ha hb q);exact⟨a,b,k,q,qM _ _,qM _ _⟩
   ·have k:=hs.pc.resolve_left (Zp hb ha q);refine⟨b,a,k,q,?_,?_⟩
    ·have:=(wH (n1 (PM (aa l) f)) (PM (aa l) b,PM (aa l) a) (PM (aa l) b,PM (aa l) a)).1;rw[qM] at this;exact this
    ·have:=(wH (n1 (PM (aa l) f)) (PM (aa l) b,PM (aa l) a) (PM (aa l) b,PM (aa l) a)).2;rw[qM] at this;exact this
 have run:∀T:Sg->Bool,(∀x y,T y=true->aO (n1 (PM (aa l) f)) y x=false->T x=true)->bV (wt (n1 (PM (aa l) f))) T (ae dm)=bb (takes r (bV (wt (n1 (PM (aa l) f))) T (ae (rg.map (·.map (aD (aa l))))))):=fun T hT=>by
  have:=akg (wh (n1 (PM (aa l) f))) (qM _) (uA _) (wt (n1 (PM (aa l) f))) (fun x=>bb (takes r x)) (by rw[h0];rfl) ((ae (rg.map (·.map (aD (aa l))))++ae dm).filter fun x=>decide (wt (n1 (PM (aa l) f)) x≠0)) ((ae (rg.map (·.map (aD (aa l))))).filter fun x=>decide (wt (n1 (PM (aa l) f)) x≠0)) ((ae dm).filter fun x=>decide (wt (n1 (PM (aa l) f)) x≠0))
   (fun z hz=>by obtain⟨q1,q2⟩:=eY.1 hz;exact eY.2 ⟨nr _ q1,q2⟩) (fun z hz=>by obtain⟨q1,q2⟩:=eY.1 hz;exact eY.2 ⟨q8 _ q1,q2⟩)
   (fun z hz=>by
    obtain⟨q1,q2⟩:=eY.1 hz;obtain⟨f',t',w1,w2,w3,w4⟩:=find z q1 (gh q2);rw[Ff,Ff,Ff];exact lev w1 w2 z w3 w4) _ T hT (ay _)
  rw[Ff,Ff] at this;exact this
 refine⟨run _ fun x y hy hyx=>?_,run _ fun x y hy hyx=>?_⟩
 ·rcases uA _ _ _ x hy with q|q
  ·exact q
  ·rw[hyx] at q;cases q
 ·have hy':aO (n1 (PM (aa l) f)) (PM (aa l) f,PM (aa l) t) y=false:=by simpa using hy
  cases q:aO (n1 (PM (aa l) f)) (PM (aa l) f,PM (aa l) t) x
  ·rfl
  ·rcases uA _ _ _ y q with w|w
   ·rw[hyx] at w;cases w
   ·rw[hy'] at w;cases w
end
theorem Pj{a b:List Sg}(h:a.Perm b)(n:N3)(Q:Pt->Bool):Ga.AS a n Q=Ga.AS b n Q:=zm h
def ke(R:List Sg)(s t:Sg):Prop:=(∃k,R[k]?=some s/\R[k+1]?=some t)\/(R.getLast?=some s/\R.head?=some t)
theorem ke.zr{R:List Sg}{s t:Sg}(h:ke R s t):∃A B,R=A++B/\(B++A).head?=some t/\(B++A).getLast?=some s:=by
 rcases h with⟨k,h1,h2⟩|⟨h1,h2⟩
 ·obtain⟨l2,_⟩:=bZ.1 h2;refine⟨R.take (k+1),R.drop (k+1),(KA _ _).symm,?_,?_⟩
  ·rw[List.head?_append,List.head?_drop,h2];rfl
  ·have ne:R.take (k+1)≠[]:=by
    intro e;have:=au List.length e;rw[iE,gP] at this;omega
   rw[GC _ ne,List.getLast?_take];simp[h1]
 ·exact⟨[],R,rfl,by simpa using h2,by simpa using h1⟩
section
variable{S:List Sg}{nx:Sg->Sg}
theorem eo.aki(h:Wd S nx){R:List Sg}(k:eo S nx R){a z:Sg}(ha:R.head?=some a)(hz:R.getLast?=some z)(Q:Pt->Bool):Ga.AS R (n1 a.1) Q=bb (Q (dr a))-bb (Q (neg (dr z))):=by
 have hp:=k.path ha;have z2:z.2=a.1:=(k.cls z a hz ha).1.symm;cases R with
 |nil=>cases ha
 |cons b T=>
  obtain rfl:b=a:=gA ha;have hT:T≠[]:=fun e=>by
   rw[e] at hp;exact h.ne b (k.mem b (by simp)) hp.2.symm
  obtain⟨M,y,e⟩:∃M y,T=M++[y]:=⟨T.dropLast,T.getLast hT,(amo hT).symm⟩;obtain rfl:y=z:=by
   rw[e] at hz;simpa[List.getLast?_cons,List.getLast?_append] using hz
  have once:∀s∈M++[y],s.1≠b.1:=fun s hs=>((fK.1 k.mK).1 s (by rw[e];exact hs)).symm
  have hp':=hp.2;rw[e] at hp';have hM:=Path.Cf hp' once;have z1:Ga.AS M (n1 b.1) Q=0:=Cg fun x hx=>by
   cases ho:on (dr (b.1,x.1)) (dr (b.1,x.2))
   ·rfl
   ·rcases h.zk b (k.mem b (by simp)) x (k.mem x (by rw[e];simp[hx])) ho with q|q
    ·exact absurd q.symm (once x (by simp[hx]))
    ·exact absurd q.symm (hM x hx)
  have s1:Ga.AS [b] (n1 b.1) Q=bb (Q (dr b))-bb (Q (0,0)):=by
   unfold Ga.AS;rw[dZ,tR,Gp rfl];omega
  have s2:Ga.AS [y] (n1 b.1) Q=bb (Q (0,0))-bb (Q (neg (dr y))):=by
   unfold Ga.AS;rw[dZ,tR,Gn z2];omega
  have e':b::T=[b]++(M++[y]):=by rw[e];rfl
  rw[e',tV,tV,z1,s1,s2];omega
theorem ke.gU{R:List Sg}(k:eo S nx R){s t:Sg}(f:ke R s t):mM nx s t/\s∈S/\t∈S:=by
 rcases f with⟨i,h1,h2⟩|⟨h1,h2⟩
 ·exact⟨k.gU i s t h1 h2,k.mem s (aZ h1),k.mem t (aZ h2)⟩
 ·exact⟨k.cls s t h1 h2,k.mem s (pB h1),k.mem t (qj h2)⟩
theorem ke.AS(h:Wd S nx){R:List Sg}(k:eo S nx R){s t:Sg}(f:ke R s t)(Q:Pt->Bool):Ga.AS R (n1 t.1) Q=bb (Q (dr t))-bb (Q (neg (dr s))):=by
 obtain⟨A,B,e,h1,h2⟩:=f.zr;rw[e] at k⊢;rw[<-k.zr.aki h h1 h2 Q];exact Pj FH _ _
theorem eo.cl(h:Wd S nx){R:List Sg}(k:eo S nx R):Cl R/\In S R:=by
 obtain⟨a,_,ha,_⟩:=jI k.ne;exact⟨Cl.path (k.path ha) fun s hs=>h.ne s (k.mem s hs),fun e he=>ag (k.mem e he)⟩
theorem Wd.Zq(h:Wd S nx){R R':List Sg}(k:eo S nx R)(k':eo S nx R'){s t s' t':Sg}(f:ke R s t)(f':ke R' s' t')(hv:t.1=t'.1)(st:cr (dr s) (dr t)=0)(st':cr (dr s') (dr t')=0):t=t':=by
 obtain⟨rh,hs,ht⟩:=f.gU k;obtain⟨Zr,hs',ht'⟩:=f'.gU k';have e1:=rh.1;have je:=Zr.1;have d1:=h.lW hs ht e1 st;have GH:=h.lW hs' ht' je st';apply fV;intro hne;have hsm:ai (dr t) (dr t')=false:=by
  cases q:ai (dr t) (dr t')
  ·rfl
  ·exact absurd (h.one t ht t' ht' hv q) hne
 have Zt:ai (dr t) (neg (dr t'))=false:=by
  cases q:ai (dr t) (neg (dr t'))
  ·rfl
  ·have k1:=h.two t ht s' hs' (hv.trans je);have tD:ai (neg (dr s')) (neg (dr t'))=true:=by
    rw[bA] at GH⊢;rw[dI,dP,lh,ju];omega
   rw[jd q (jU tD)] at k1;cases k1
 have nt:=h.dK ht;have Zu:=h.dK ht';have hcr:cr (dr t) (dr t')≠0:=fun q=>by
  have k1:=Ga.cP nt;have k2:=Ga.cP Zu;have hp:=(par nt (by unfold cr;grind:cr (dr t) (dr t)=0) q)
  have k3:dt (dr t) (dr t')≠0:=fun w=>by
   have k4:=hp.2;have k5:=aR k1 k2;have k6:=(par nt (by unfold cr;grind:cr (dr t) (dr t)=0) q).2
   have k7:=(par nt q q).2;rw[w,uW] at k7;omega
  rcases QH k3 with w|w
  ·have:ai (dr t) (neg (dr t'))=true:=(bA _ _).2 ⟨by rw[dP];omega,by rw[ju];omega⟩
   rw[this] at Zt;cases Zt
  ·have:ai (dr t) (dr t')=true:=(bA _ _).2 ⟨q,by omega⟩
   rw[this] at hsm;cases hsm
 obtain⟨c1,c2⟩:=k.cl h;have hL:=Zr.fc h ht' R c1 c2;rw[(h.at_end c1 c2 hs').1] at hL;have hL2:bg R (n1 t.1) (neg (dr s'))=bH R (n1 t.1) (dr t'):=by
  rw[hv];rw[<-je] at hL;exact hL
 unfold bH bg at hL2;rw[f.AS h k,f.AS h k,f.AS h k] at hL2;have rn:∀{z:Pt},z≠(0,0)->(aJ (neg z)↔¬aJ z):=fun{z} hz=>by
  have:¬(z.1=0/\z.2=0):=fun k=>hz (bX k.1 k.2)
  unfold aJ neg;simp only;omega
 have dn:∀{x y:Pt},ai x y=true->ai (neg x) (neg y)=true:=fun{x y} q=>by
  rw[bA] at q⊢;rw[dI,dP,lh,ju];omega
 have m1:=dn d1;have m2:=dn GH;have r1:aJ (neg (dr s))↔¬aJ (dr t):=(yi m1).trans (rn nt);have r2:aJ (neg (dr s'))↔¬aJ (dr t'):=(yi m2).trans (rn Zu);have ns:=jc (h.dK hs);have sw:∀x y:Pt,(0<cr x y↔cr y x<0):=fun x y=>by rw[bT x y];omega
 have c1':0<cr (dr t) (neg (dr s'))↔cr (dr t) (dr t')<0:=by
  rw[(oQ m2 (dr t)).1,dP];omega
 obtain⟨x1,x2⟩:=oQ m1 (dr t');have e5:cr (dr t') (neg (dr t))=cr (dr t) (dr t'):=by rw[dP,bT (dr t) (dr t')];omega
 have e6:=bT (dr t') (neg (dr s));rw[e5] at x1 x2;have c2':0<cr (neg (dr s)) (dr t')↔cr (dr t) (dr t')<0:=by omega
 have c3':0<cr (neg (dr s)) (neg (dr s'))↔0<cr (dr t) (dr t'):=by
  rw[(oQ m2 (neg (dr s))).1,dP];omega
 have f1:ai (neg (dr s)) (dr t')=false:=by
  cases q:ai (neg (dr s)) (dr t')
  ·rfl
  ·have w:=(bA _ _).1 q;omega
 simp only[rH nt,rH ns,hsm,f1,Bv] at hL2;have a1:ak (dr t) (dr t')=true↔(aJ (dr t)/\¬aJ (dr t'))\/((aJ (dr t)↔aJ (dr t'))/\0<cr (dr t) (dr t')):=kI;have a2:ak (dr t) (neg (dr s'))=true↔(aJ (dr t)/\¬aJ (neg (dr s')))\/((aJ (dr t)↔aJ (neg (dr s')))/\0<cr (dr t) (neg (dr s'))):=kI;have a3:ak (neg (dr s)) (dr t')=true↔(aJ (neg (dr s))/\¬aJ (dr t'))\/((aJ (neg (dr s))↔aJ (dr t'))/\0<cr (neg (dr s)) (dr t')):=kI;have a4:ak (neg (dr s)) (neg (dr s'))=true↔(aJ (neg (dr s))/\¬aJ (neg (dr s')))\/((aJ (neg (dr s))↔aJ (neg (dr s')))/\0<cr (neg (dr s)) (neg (dr s'))):=kI;rw[r2,c1'] at a2;rw[r1,c2'] at a3;rw[r1,r2,c3'] at a4;have hc:cr (dr t) (dr t')<0\/0<cr (dr t) (dr t'):=by omega
 generalize ak (dr t) (dr t')=A1 at*;generalize ak (dr t) (neg (dr s'))=A2 at*;generalize ak (neg (dr s)) (dr t')=A3 at*;generalize ak (neg (dr s)) (neg (dr s'))=A4 at*;generalize cr (dr t) (dr t')=C at*;generalize aJ (dr t)=P at*;generalize aJ (dr t')=Q at*;rcases hc with hc|hc
 ·have hn:¬0<C:=by omega
  cases A1<;>cases A2<;>cases A3<;>cases A4<;>simp[bb,hc,hn] at a1 a2 a3 a4 hL2<;>grind
 ·have hn:¬C<0:=by omega
  cases A1<;>cases A2<;>cases A3<;>cases A4<;>simp[bb,hc,hn] at a1 a2 a3 a4 hL2<;>grind
end
theorem Fg{x y:Pt}(h:ai x y=true):Pm x y:=by
 obtain⟨h1,h2⟩:=(bA _ _).1 h;have hy:y≠(0,0):=fun e=>by rw[e] at h2;unfold dt at h2;simp at h2
 refine⟨dt y y,dt x y,Ga.cP hy,h2,?_,?_⟩
 ·unfold cr at h1;unfold dt;have:x.1*y.2=x.2*y.1:=by omega
  grind
 ·unfold cr at h1;unfold dt;have:x.1*y.2=x.2*y.1:=by omega
  grind
theorem Pm.trans{x y z:Pt}(h:Pm x y)(k:Pm y z):Pm x z:=by
 obtain⟨p,q,hp,hq,e1,e2⟩:=h;obtain⟨r,s,hr,hs,e3,e4⟩:=k;refine⟨p*r,q*s,aR hp hr,aR hq hs,?_,?_⟩
 ·have a:p*r*x.1=r*(p*x.1):=by grind
  have b:q*s*z.1=q*(s*z.1):=by grind
  rw[a,b,e1,<-e3]
  grind
 ·have a:p*r*x.2=r*(p*x.2):=by grind
  have b:q*s*z.2=q*(s*z.2):=by grind
  rw[a,b,e2,<-e4]
  grind
theorem Zv{u m v:Pt}:cr u m=cr u (m.1-u.1,m.2-u.2)/\cr u v=cr u (m.1-u.1,m.2-u.2)+cr u (v.1-m.1,v.2-m.2)/\cr m v=cr u (v.1-m.1,v.2-m.2)+cr (m.1-u.1,m.2-u.2) (v.1-m.1,v.2-m.2):=by
 unfold cr;refine⟨?_,?_,?_⟩<;>grind
theorem akl{u m v:Pt}(h:ai (m.1-u.1,m.2-u.2) (v.1-m.1,v.2-m.2)=true):right u m+right m v=right u v:=by
 obtain⟨a1,a2,a3⟩:=Zv (u:=u) (m:=m) (v:=v);obtain⟨b1,b2⟩:=oQ h u;obtain⟨b3,b4⟩:=oQ h (0, -1);have z:=((bA _ _).1 h).1;rw[z] at a3;rw[<-a1] at b1 b2 a2;generalize cr u (v.1-m.1,v.2-m.2)=X at*;have c1:cr (0, -1) (m.1-u.1,m.2-u.2)=m.1-u.1:=by unfold cr;simp
 have c2:cr (0, -1) (v.1-m.1,v.2-m.2)=v.1-m.1:=by unfold cr;simp
 rw[c1,c2] at b3 b4;unfold right;generalize cr u m=k1 at*;generalize cr m v=k2 at*;generalize cr u v=k3 at*;clear z h c1 c2 a1;by_cases p1:u.1<=0/\0<m.1/\0<k1
 ·rw[aj p1,af (by omega),af (by omega),aj (by omega)]
  rfl
 ·rw[af p1];by_cases p2:0<u.1/\m.1<=0/\k1<0
  ·rw[aj p2,af (by omega),af (by omega),af (by omega),aj (by omega)]
   rfl
  ·rw[af p2];by_cases p3:m.1<=0/\0<v.1/\0<k2
   ·rw[aj p3,aj (by omega)]
    rfl
   ·rw[af p3];by_cases p4:0<m.1/\v.1<=0/\k2<0
    ·rw[aj p4,af (by omega),aj (by omega)]
     rfl
    ·rw[af p4,af (by omega),af (by omega)]
     rfl
theorem Fh(n a b:Pt):((dr (n,b)).1-(dr (n,a)).1,(dr (n,b)).2-(dr (n,a)).2)=dr (a,b):=by unfold dr;exact bX (by simp only;omega) (by simp only;omega)
theorem Zw{x y:Pt}{D:Pt}(hD:D≠(0,0))(h1:cr D x=0)(h2:cr D y=0)(h:0<dt D x*dt D y):ai x y=true:=by
 obtain⟨p1,p2⟩:=par hD h1 h2;refine(bA _ _).2 ⟨p1,?_⟩;rw[p2] at h;exact(aQ (Ga.cP hD)).1 h
theorem Zx{Q:Pt->Bool}(hQ:∀z z',ai z z'=true->Q z=Q z'){n p c e:Pt}(h:ai (dr (p,c)) (dr (c,e))=true):arm Q (n1 n) p c+arm Q (n1 n) c e=arm Q (n1 n) p e:=by
 by_cases hc:c=n
 ·subst hc;have h1:rl (n1 c) c=(0,0):=by rw[cd];exact gS.2 rfl
  have h2:on (rl (n1 c) p) (rl (n1 c) e)=true:=by
   rw[cd,cd];have e1:dr (p,c)=neg (dr (c,p)):=jT (c,p);rw[e1,bA,dI,lh] at h;rw[jt];omega
  unfold arm;rw[h1,lj _ _ (ah rfl),lj _ _ (ag rfl),h2];simp;omega
 have hD:=(vX h).1;have hm0:dr (n,c)≠(0,0):=fun q=>hc (gS.1 q).symm
 have s1:=Fh n p c;have s2:=Fh n c e;unfold arm;rw[cd,cd,cd];generalize hu:dr (n,p)=u at*;generalize hm:dr (n,c)=m at*;generalize hv:dr (n,e)=v at*;rw[<-s1,<-s2] at h;rw[<-s1] at hD;obtain⟨a1,a2,a3⟩:=Zv (u:=u) (m:=m) (v:=v);obtain⟨b1,b2⟩:=oQ h u;have z:=((bA _ _).1 h).1;have hdt:=((bA _ _).1 h).2;rw[z] at a3;by_cases h0:cr u (m.1-u.1,m.2-u.2)=0
 ·
  obtain⟨D,eD⟩:∃D:Pt,D=(m.1-u.1,m.2-u.2):=⟨_,rfl⟩;rw[<-eD] at hD h0 hdt z;have cu:cr D u=0:=ql h0;have cm:cr D m=0:=by
   have:cr D m=cr D u+cr D D:=by rw[eD];unfold cr;grind
   have:cr D D=0:=by unfold cr;grind
   omega
  have cv:cr D v=0:=by
   have:cr D v=cr D m+cr D (v.1-m.1,v.2-m.2):=by unfold cr;grind
   omega
  have x1:dt D m=dt D u+dt D D:=by rw[eD];unfold dt;grind
  have x2:dt D v=dt D m+dt D (v.1-m.1,v.2-m.2):=by unfold dt;grind
  have x3:=Ga.cP hD;have x4:dt D m≠0:=fun w=>hm0 (by
   have:=(par hD cm cm).2;rw[w,uW] at this;apply fV;intro hn;have k:=aR x3 (Ga.cP hn);omega)
  have o1:=qo hD cu cm;have o2:=qo hD cm cv;have o3:=qo hD cu cv;rcases QH x4 with w|w
  ·have q1:on u m=false:=by
    cases q:on u m
    ·rfl
    ·exact absurd (o1.1 q) (vh (by omega) w)
   have q2:on m v=on u v:=by
    refine lg.2 ?_;rw[o2,o3];by_cases g:0<=dt D v
    ·exact⟨fun _=>rE (by omega) g,fun _=>rE (by omega) g⟩
    ·exact⟨fun k=>absurd k (vh w (by omega)),fun k=>absurd k (vh (by omega) (by omega))⟩
   have q3:Q u=Q m:=hQ _ _ (Zw hD cu cm (Fx (by omega) w))
   rw[q1,q2,q3];simp
  ·have q1:on m v=false:=by
    cases q:on m v
    ·rfl
    ·exact absurd (o2.1 q) (xj w (by omega))
   have q2:on u m=on u v:=by
    refine lg.2 ?_;rw[o1,o3];by_cases g:dt D u<=0
    ·exact⟨fun _=>rE g (by omega),fun _=>rE g (by omega)⟩
    ·exact⟨fun k=>absurd k (xj (by omega) w),fun k=>absurd k (xj (by omega) (by omega))⟩
   have q3:Q m=Q v:=hQ _ _ (Zw hD cm cv (aR w (by omega)))
   rw[q1,q2,q3];simp
 ·have k1:on u m=false:=by unfold on;rw[gv (by omega)];rfl
  have k2:on m v=false:=by unfold on;rw[gv (by omega)];rfl
  have k3:on u v=false:=by unfold on;rw[gv (by omega)];rfl
  rw[k1,k2,k3];rfl
def gp(W:Pt->Bool):Pt->List Sg->Pt->List Sg
 |p,[],e=>[(p,e)]
 |p,s::T,e=>if W s.1 then(p,s.1)::gp W s.1 T e else gp W p T e
def qY(W:Pt->Bool):Sg->List Sg->Prop
 |_,[]=>True
 |b,s::T=>(W s.1=false->ai (dr b) (dr s)=true)/\qY W s T
theorem Pk{W:Pt->Bool}{F:Pt->Pt->Int}(hF:∀p c e,W c=false->ai (dr (p,c)) (dr (c,e))=true->F p c+F c e=F p e):∀(T:List Sg)(b:Sg)(p c e:Pt),Path c T e->ai (dr (p,c)) (dr b)=true->(∀s∈T,s.1≠s.2)->qY W b T->total F (gp W p T e)=F p c+total F T
 |[],b,p,c,e,hp,_,_,_=>by
  have:c=e:=hp;subst this;unfold gp;rw[dZ,tR]
 |s::T,b,p,c,e,hp,hd,hn,hs=>by
  obtain⟨e1,hp'⟩:=hp;subst e1;have hn':∀s∈T,s.1≠s.2:=fun x hx=>hn x (aT _ hx)
  have ds:dr s≠(0,0):=fun q=>hn s (by simp) (gS.1 q)
  unfold gp;cases hW:W s.1
  ·have k:=hs.1 hW;have hd2:ai (dr (p,s.1)) (dr s)=true:=jd hd k;rw[af (by simp),Pk hF T s p s.2 e hp' (by
    rw[zx p s.1 s.2];exact zw hd2 (jJ ds)) hn' hs.2,dZ,<-hF p s.1 s.2 hW hd2]
   omega
  ·rw[aj rfl,dZ,dZ,Pk hF T s s.1 s.2 e hp' (jJ ds) hn' hs.2]
theorem Zy{W:Pt->Bool}{F:Pt->Pt->Int}(hF:∀p c e,W c=false->ai (dr (p,c)) (dr (c,e))=true->F p c+F c e=F p e){a:Sg}{T:List Sg}(hp:Path a.1 (a::T) a.1)(hn:∀s∈a::T,s.1≠s.2)(hs:qY W a T):total F (gp W a.1 T a.1)=total F (a::T):=by
 rw[Pk hF T a a.1 a.2 a.1 hp.2 (jJ fun q=>hn a (by simp) (gS.1 q)) (fun s hs=>hn s (aT _ hs)) hs,dZ]
theorem Pn(W:Pt->Bool):∀(T:List Sg)(p e:Pt),gp W p T e=(p::(T.filter fun s=>W s.1).map Prod.fst).zip ((T.filter fun s=>W s.1).map Prod.fst++[e])
 |[],p,e=>by simp[gp]
 |s::T,p,e=>by
  unfold gp;cases hW:W s.1
  ·rw[af (by simp),pF (by simp[hW]),Pn W T p e]
  ·rw[aj rfl,oc (by simp[hW]),Pn W T s.1 e]
   rfl
theorem Zz{W:Pt->Bool}{a:Sg}{T:List Sg}(hp:Path a.1 (a::T) a.1)(hn:∀s∈a::T,s.1≠s.2)(hs:qY W a T)(n:Pt)(d:Pt):bg (gp W a.1 T a.1) (n1 n) d=bg (a::T) (n1 n) d/\bH (gp W a.1 T a.1) (n1 n) d=bH (a::T) (n1 n) d:=by
 have hPP:PP (gp W a.1 T a.1) (n1 n)=PP (a::T) (n1 n):=by
  unfold PP;refine Zy (F:=fun u v=>right (rl (n1 n) u) (rl (n1 n) v)) ?_ hp hn hs
  intro p c e _ h;show right (rl (n1 n) p) (rl (n1 n) c)+right (rl (n1 n) c) (rl (n1 n) e)=right (rl (n1 n) p) (rl (n1 n) e);rw[cd,cd,cd];refine akl ?_;rw[Fh,Fh];exact h
 have tW:∀Q:Pt->Bool,(∀z z',ai z z'=true->Q z=Q z')->AS (gp W a.1 T a.1) (n1 n) Q=AS (a::T) (n1 n) Q:=fun Q hQ=>by
  unfold AS;refine Zy (F:=arm Q (n1 n)) ?_ hp hn hs;intro p c e _ h;exact Zx hQ h
 have q1:∀z z',ai z z'=true->(nz z&&ak z d)=(nz z'&&ak z' d):=fun z z' h=>by
  have:=vX h;rw[rH this.1,rH this.2,IW h]
 have q2:∀z z',ai z z'=true->ai z d=ai z' d:=fun z z' h=>by
  rw[Av z,Av z',IX h]
 unfold bH bg;rw[hPP,tW _ q1,tW _ q2];exact⟨rfl,rfl⟩
end Go.Proofs.YtkjhhooecopolaaGreatDoor.Gb

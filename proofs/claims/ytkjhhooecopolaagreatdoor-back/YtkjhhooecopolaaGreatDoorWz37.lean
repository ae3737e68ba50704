import Derived.Test.YtkjhhooecopolaaGreatDoorWz36
set_option maxRecDepth 100000
set_option maxHeartbeats 4000000
namespace Go.Proofs.YtkjhhooecopolaaGreatDoor.Gb
open Ge Ga
theorem cwt{a x y:Pt}(ha:a≠(0,0))(hx:x≠(0,0))(hy:y≠(0,0))(h1:ai x a=false)(h2:ai y a=false)(h3:ai x y=false):cw a x y=true\/cw a y x=true:=by
 have t1:=gG hx ha;have t2:=gG hy ha;have t3:=gG hx hy;rw[h1] at t1;rw[h2] at t2;rw[h3] at t3;rw[kJ,kJ];cases a1:ak x a<;>cases a2:ak a x<;>rw[a1,a2] at t1<;>simp[bb] at t1<;>cases b1:ak y a<;>cases b2:ak a y<;>rw[b1,b2] at t2<;>simp[bb] at t2<;>cases c1:ak x y<;>cases c2:ak y x<;>rw[c1,c2] at t3<;>simp[bb] at t3<;>simp
def Co(M:Int)(nx:Sg->Sg)(V:Pt->Bool)(s s':Sg)(m:Nat):Prop:=aD M s'.1=s.1/\aD M s'.2=(it nx m s).2/\(∀i,i<m->V (it nx i s).2=false)/\V (it nx m s).2=true
structure Cs(M:Int)(V:Pt->Bool)(S:List Sg)(nx:Sg->Sg)(S':List Sg)(nx':Sg->Sg):Prop where
 pos:0<M
 wd:Wd S nx
 wd':Wd S' nx'
 out:∀s∈S,V s.2=false->∀u∈S,u.1=s.2->u=nx s
 str:∀s∈S,V s.2=false->cr (dr s) (dr (nx s))=0
 ZA:∀s∈S,V s.1=true->∃s'∈S',∃m,Co M nx V s s' m
 ZB:∀s'∈S',∃s∈S,V s.1=true/\∃m,Co M nx V s s' m
theorem yM{M:Int}(hM:0<M)(p q:Pt):Pm (dr (p,q)) (dr (aD M p,aD M q)):=⟨M,1,hM,by decide,by unfold dr aD;simp only;rw[tM,mI],by unfold dr aD;simp only;rw[tM,mI]⟩
section
variable{M:Int}{V:Pt->Bool}{S S':List Sg}{nx nx':Sg->Sg}
theorem Cs.run(c:Cs M V S nx S' nx'){s:Sg}(hs:s∈S){m:Nat}(hv:∀i,i<m->V (it nx i s).2=false):∀i,i<=m->ai (dr (s.1,(it nx i s).2)) (dr s)=true/\ai (dr (it nx i s)) (dr s)=true
 |0,_=>⟨jJ (c.wd.dK hs),jJ (c.wd.dK hs)⟩
 |i+1,hi=>by
  obtain⟨h1,h2⟩:=c.run hs hv i (by omega)
  have hm:=c.wd.iG hs i;obtain⟨n1,n2⟩:=c.wd.qs _ hm;have k:=c.wd.lW hm n1 n2 (c.str _ hm (hv i (by omega)))
  have k2:ai (dr (nx (it nx i s))) (dr s)=true:=jd (jU k) h2;refine⟨?_,k2⟩;show ai (dr (s.1,(nx (it nx i s)).2)) (dr s)=true;rw[zx s.1 (nx (it nx i s)).1 _,n2];refine zw h1 ?_;rw[<-n2];exact k2
theorem Co.dir(c:Cs M V S nx S' nx'){s s':Sg}{m:Nat}(hs:s∈S)(h:Co M nx V s s' m):Pm (dr s') (dr s)/\Pm (dr s') (dr (it nx m s)):=by
 obtain⟨h1,h2,h3,_⟩:=h;obtain⟨r1,r2⟩:=c.run hs h3 m (ay _);have k:=yM c.pos s'.1 s'.2;rw[h1,h2] at k;have k2:=k.trans (Fg r1);exact⟨k2,k2.trans (Fg r2).symm⟩
theorem Co.len{s s' s'':Sg}{m m':Nat}(h:Co M nx V s s' m)(h':Co M nx V s s'' m'):m=m':=by
 rcases rf m m' with q|q|q
 ·have:=h'.2.2.1 m q;rw[h.2.2.2] at this;cases this
 ·exact q
 ·have:=h.2.2.1 m' q;rw[h'.2.2.2] at this;cases this
theorem Co.uniq(c:Cs M V S nx S' nx'){s s' s'':Sg}{m m':Nat}(h:Co M nx V s s' m)(h':Co M nx V s s'' m'):s'=s'':=by
 have e:=h.len h';subst e;exact bX (wG c.pos (h.1.trans h'.1.symm)) (wG c.pos (h.2.1.trans h'.2.1.symm))
theorem Co.next(c:Cs M V S nx S' nx'){s s':Sg}{m:Nat}(hs:s∈S)(hs':s'∈S')(h:Co M nx V s s' m):∃m',Co M nx V (it nx (m+1) s) (nx' s') m':=by
 have hm:=c.wd.iG hs m;have ht:=c.wd.iG hs (m+1);have t1:(it nx (m+1) s).1=(it nx m s).2:=c.wd.ou hs m;obtain⟨t',ht',m1,k1⟩:=c.ZA _ ht (by rw[t1];exact h.2.2.2)
 obtain⟨hu',u1⟩:=c.wd'.qs s' hs';obtain⟨u,hu,_,m2,k2⟩:=c.ZB _ hu';have e1:u.1=(it nx m s).2:=by rw[<-k2.1,u1,h.2.1]
 have e2:t'.1=s'.2:=wG c.pos (by rw[k1.1,h.2.1,t1])
 have w1:=c.wd'.w1 s' hs' t' ht' e2;have w2:=c.wd.w1 _ hm u hu e1;have d1:=(h.dir c hs).2;have d2:=(k2.dir c hu).1;have d3:=(k1.dir c ht).1;have w3:cw (neg (dr s')) (dr (nx' s')) (dr t')=false:=by
  rw[Pm.cw d1.neg d2 d3];exact w2
 have:t'=nx' s':=by
  cases q:ai (dr t') (dr (nx' s'))
  ·rcases cwt (jc (c.wd'.dK hs')) (c.wd'.dK ht') (c.wd'.dK hu') (c.wd'.two _ ht' _ hs' e2) (c.wd'.two _ hu' _ hs' u1) q with w|w
   ·rw[w1] at w;cases w
   ·rw[w3] at w;cases w
  ·exact c.wd'.one _ ht' _ hu' (e2.trans u1.symm) q
 rw[<-this];exact⟨m1,k1⟩
theorem Cs.ret(c:Cs M V S nx S' nx'):∀(k:Nat){t t':Sg}{m:Nat},t∈S->t'∈S'->Co M nx V t t' m->V (it nx k t).1=true->∃k',(∃m',Co M nx V (it nx k t) (it nx' k' t') m')/\∀j',0<j'->j'<=k'->∃j,0<j/\j<=k/\aD M (it nx' j' t').1=(it nx j t).1:=by
 intro k;induction k using Nat.strongRecOn with
 |ind k ih=>
  intro t t' m ht ht' h hV;by_cases hk:k=0
  ·subst hk;exact⟨0,⟨m,h⟩,fun j' h1 h2=>by omega⟩
  ·have yg:m<k:=by
    apply fV;intro hn;obtain⟨j,rfl⟩:∃j,k=j+1:=⟨k-1,by omega⟩
    rw[c.wd.ou ht j,h.2.2.1 j (by omega)] at hV
    cases hV
   obtain⟨m1,h1⟩:=h.next c ht ht'
   have e:it nx k t=it nx (k-(m+1)) (it nx (m+1) t):=by rw[<-mL];congr 1;omega
   rw[e] at hV;obtain⟨k',⟨m2,g1⟩,g2⟩:=ih (k-(m+1)) (by omega) (c.wd.iG ht (m+1)) (c.wd'.qs _ ht').1 h1 hV
   refine⟨k'+1,⟨m2,?_⟩,fun j' a1 a2=>?_⟩
   ·rw[e,mL nx' t' k' 1];exact g1
   ·by_cases hj:j'=1
    ·subst hj;exact⟨m+1,by omega,by omega,h1.1⟩
    ·obtain⟨j,b1,b2,b3⟩:=g2 (j'-1) (by omega) (by omega)
     refine⟨j+(m+1),by omega,by omega,?_⟩
     rw[mL nx t j (m+1),<-b3];have:it nx' j' t'=it nx' (j'-1) (it nx' 1 t'):=by rw[<-mL];congr 1;omega
     rw[this];rfl
theorem Cs.gU(c:Cs M V S nx S' nx'){s t s' t':Sg}{m mt:Nat}(hs:s∈S)(ht:t∈S)(_hs':s'∈S')(ht':t'∈S')(vs:V s.1=true)(h:Co M nx V s s' m)(k:Co M nx V t t' mt)(r:mM nx (it nx m s) t):mM nx' s' t':=by
 obtain⟨e,n,e1,e2⟩:=r;have vt:V t.1=true:=by rw[e];exact h.2.2.2
 have hmn:m<=n:=by
  apply fV;intro hn;have e3:it nx m s=it nx n (it nx (m-n) s):=by rw[<-mL];congr 1;omega
  have e4:=c.wd.GA n ht (c.wd.iG hs (m-n)) (e1.trans e3);obtain⟨j,hj⟩:∃j,m-n=j+1:=⟨m-n-1,by omega⟩
  rw[hj] at e4;rw[e4,c.wd.ou hs j,h.2.2.1 j (by omega)] at vt
  cases vt
 have e3:it nx (n-m) t=s:=by
  refine c.wd.GA m (c.wd.iG ht _) hs ?_;rw[<-mL,<-e1];congr 1;omega
 obtain⟨k',⟨m',g1⟩,g2⟩:=c.ret (n-m) ht ht' k (by rw[e3];exact vs)
 rw[e3] at g1;refine⟨wG c.pos (by rw[k.1,e,h.2.1]),k',(h.uniq c g1).symm,fun j' a1 a2 q=>?_⟩
 obtain⟨j,b1,b2,b3⟩:=g2 j' a1 a2;refine e2 j b1 (by omega) ?_
 rw[<-b3,q,h.2.1]
def lQ(P:Sg->Sg->Prop):Sg->List Sg->Prop
 |_,[]=>True
 |b,s::T=>P b s/\lQ P s T
theorem lQ.of{P:Sg->Sg->Prop}:∀{T:List Sg}{b:Sg},(∀(k:Nat) s t,(b::T)[k]?=some s->(b::T)[k+1]?=some t->P s t)->lQ P b T
 |[],_,_=>trivial
 |s::T,b,h=>⟨h 0 b s rfl rfl,lQ.of fun k x y hx hy=>h (k+1) x y (by simpa using hx) (by simpa using hy)⟩
theorem lQ.get{P:Sg->Sg->Prop}:∀{T:List Sg}{b:Sg},lQ P b T->∀(k:Nat) s t,(b::T)[k]?=some s->(b::T)[k+1]?=some t->P s t
 |[],b,_,k,s,t,_,ht=>by simp at ht
 |x::T,b,h,0,s,t,hs,ht=>by
  obtain rfl:b=s:=by simpa using hs
  obtain rfl:x=t:=by simpa using ht
  exact h.1
 |x::T,b,h,k+1,s,t,hs,ht=>h.2.get k s t (by simpa using hs) (by simpa using ht)
def cg(V:Pt->Bool)(co:Sg->Sg)(T:List Sg):List Sg:=(T.filter fun s=>V s.1).map co
def uR(M:Int)(V:Pt->Bool)(S:List Sg)(nx:Sg->Sg)(S':List Sg)(co:Sg->Sg):Prop:=∀s,s∈S->V s.1=true->co s∈S'/\∃m,Co M nx V s (co s) m
theorem Cs.cho(c:Cs M V S nx S' nx'):∃co,uR M V S nx S' co:=by
 refine(Classical.skolem (p:=fun s s'=>s∈S->V s.1=true->s'∈S'/\∃m,Co M nx V s s' m)).1 fun s=>?_
 by_cases h:s∈S/\V s.1=true
 ·obtain⟨s',h1,h2⟩:=c.ZA s h.1 h.2;exact⟨s',fun _ _=>⟨h1,h2⟩⟩
 ·exact⟨s,fun a b=>absurd ⟨a,b⟩ h⟩
theorem Cs.go(c:Cs M V S nx S' nx'){co:Sg->Sg}(hc:uR M V S nx S' co):∀(T:List Sg)(s:Sg)(i:Nat),s∈S->V s.1=true->(∀j,j<i->V (it nx j s).2=false)->(∀t∈T,t∈S)->lQ (mM nx) (it nx i s) T->
  lQ (mM nx') (co s) (cg V co T)/\∃w i',w∈S/\V w.1=true/\(∀j,j<i'->V (it nx j w).2=false)/\T.getLastD (it nx i s)=it nx i' w/\(cg V co T).getLastD (co s)=co w
 |[],s,i,hs,hv,hi,_,_=>⟨trivial,s,i,hs,hv,hi,rfl,rfl⟩
 |t::T,s,i,hs,hv,hi,hT,hA=>by
  have ht:=hT t (by simp)
  have hT':∀t∈T,t∈S:=fun x hx=>hT x (aT _ hx)
  have t1:=hA.1.1;cases hV:V t.1
  ·have e:t=it nx (i+1) s:=c.out _ (c.wd.iG hs i) (by rw[<-t1];exact hV) t ht t1
   have e2:cg V co (t::T)=cg V co T:=by unfold cg;rw[pF (by simp[hV])]
   have vv:=hA.2;rw[e] at vv;obtain⟨g1,w,i',g2⟩:=c.go hc T s (i+1) hs hv (fun j hj=>by
    by_cases q:j<i
    ·exact hi j q
    ·obtain rfl:j=i:=by omega
     rw[<-t1];exact hV) hT' vv
   rw[e2];refine⟨g1,w,i',?_⟩;rw[FW,e];exact g2
  ·have e2:cg V co (t::T)=co t::cg V co T:=by unfold cg;rw[oc (by simp[hV])];rfl
   obtain⟨hs',m,k⟩:=hc s hs hv;obtain⟨ht',mt,kt⟩:=hc t ht hV;have em:m=i:=k.len (s'':=co s) ⟨k.1,by
    have q:Co M nx V s ((co s).1,(co s).2) m:=k;have:m=i:=by
     rcases rf m i with z|z|z
     ·have:=hi m z;rw[k.2.2.2] at this;cases this
     ·exact z
     ·have:=k.2.2.1 i z;rw[<-t1,hV] at this;cases this
    rw[<-this];exact k.2.1,hi,by rw[<-t1];exact hV⟩
   subst em;obtain⟨g1,w,i',g2⟩:=c.go hc T t 0 ht hV (fun j hj=>by omega) hT' hA.2
   rw[e2,FW,FW];exact⟨⟨c.gU hs ht hs' ht' hv k kt hA.1,g1⟩,w,i',g2⟩
theorem Po{co:Sg->Sg}{T:List Sg}{s':Sg}:s'∈cg V co T↔∃s∈T,V s.1=true/\co s=s':=by
 unfold cg;rw[aN];constructor
 ·rintro⟨s,h,rfl⟩;obtain⟨h1,h2⟩:=eY.1 h;exact⟨s,h1,h2,rfl⟩
 ·rintro⟨s,h1,h2,rfl⟩;exact⟨s,eY.2 ⟨h1,h2⟩,rfl⟩
theorem akq(hM:0<M){p q:Pt}:ge (aD M p) (aD M q)↔ge p q:=by
 have e:∀a b:Int,M*a-M*b=M*(a-b):=fun a b=>(mI ..).symm
 unfold ge dr aD;simp only;rw[e,e];have a:=aQ (z:=q.1-p.1) hM;have b:=dE (z:=q.1-p.1) hM;have d:=neg_mul (z:=q.2-p.2) hM;omega
theorem Cs.ring(c:Cs M V S nx S' nx'){co:Sg->Sg}(hc:uR M V S nx S' co){a:Sg}{T:List Sg}(k:LR S nx (a::T))(va:V a.1=true):
  LR S' nx' (co a::cg V co T)/\Pm (dr ((cg V co T).getLastD (co a))) (dr (T.getLastD a)):=by
 have ha:=k.ring.mem a (by simp)
 have hT:∀t∈T,t∈S:=fun t ht=>k.ring.mem t (aT _ ht)
 obtain⟨g1,w,i',hw,vw,hi,g2,g3⟩:=c.go hc T a 0 ha va (fun j hj=>by omega) hT (lQ.of k.ring.gU)
 have g2':T.getLastD a=it nx i' w:=g2;have hl:(a::T).getLast?=some (T.getLastD a):=by rw[uV,jE]
 have r0:=k.ring.cls _ _ hl rfl;rw[g2'] at r0;obtain⟨ha',ma,ka⟩:=hc a ha va;obtain⟨hw',mw,kw⟩:=hc w hw vw;have em:mw=i':=by
  rcases rf mw i' with z|z|z
  ·have:=hi mw z;rw[kw.2.2.2] at this;cases this
  ·exact z
  ·have:=kw.2.2.1 i' z;rw[<-r0.1,va] at this;cases this
 subst em;have akr:=c.gU hw ha hw' ha' vw kw ka r0;have e:co a::cg V co T=cg V co (a::T):=by unfold cg;rw[oc (by simp[va])];rfl
 refine⟨⟨⟨by simp,fun s' hs'=>?_,?_,fun i s' t' h1 h2=>g1.get i s' t' h1 h2,fun s' t' h1 h2=>?_⟩,fun b hb s' hs'=>?_⟩,?_⟩
 ·rw[e] at hs';obtain⟨s,h1,h2,rfl⟩:=Po.1 hs';exact(hc s (k.ring.mem s h1) h2).1
 ·rw[e];unfold cg;rw[lR];refine rC (fun{x y} hx hy h q=>?_) (k.ring.mK.filter _)
  obtain⟨x1,x2⟩:=eY.1 hx;obtain⟨y1,y2⟩:=eY.1 hy;obtain⟨_,m1,k1⟩:=hc x (k.ring.mem x x1) x2;obtain⟨_,m2,k2⟩:=hc y (k.ring.mem y y1) y2;exact h (by rw[<-k1.1,<-k2.1,q])
 ·have h3:(co a::cg V co T).getLast?=some ((cg V co T).getLastD (co a)):=by rw[uV,jE]
  rw[h3,g3] at h1;obtain rfl:co w=s':=gA h1;obtain rfl:co a=t':=gA h2;exact akr
 ·obtain rfl:co a=b:=gA hb;rw[e] at hs';obtain⟨s,h1,h2,rfl⟩:=Po.1 hs';obtain⟨_,m1,k1⟩:=hc s (k.ring.mem s h1) h2;rw[<-akq c.pos,ka.1,k1.1];exact k.least a rfl s h1
 ·rw[g3,g2'];exact(kw.dir c hw).2
theorem Cs.ZC(c:Cs M V S nx S' nx'){a:Sg}{T:List Sg}(k:eo S nx (a::T)):qY V a T:=by
 have:lQ (fun b s=>V s.1=false->ai (dr b) (dr s)=true) a T:=by
  refine lQ.of fun i s t h1 h2 hV=>?_
  have r:=k.gU i s t h1 h2;have hs:=k.mem s (aZ h1);have ht:=k.mem t (aZ h2);have hv:V s.2=false:=by rw[<-r.1];exact hV
  have e:=c.out s hs hv t ht r.1;have q:=c.str s hs hv;rw[<-e] at q;exact c.wd.lW hs ht r.1 q
 have conv:∀{T:List Sg}{a:Sg},lQ (fun b s=>V s.1=false->ai (dr b) (dr s)=true) a T->qY V a T:=by
  intro T;induction T with
  |nil=>intro a _;trivial
  |cons x T ih=>intro a h;exact⟨h.1,ih h.2⟩
 exact conv this
theorem Cs.tG(c:Cs M V S nx S' nx'){co:Sg->Sg}(hc:uR M V S nx S' co):∀(T:List Sg)(b b':Sg),Pm (dr b') (dr b)->(∀s∈T,s∈S)->qY V b T->(Gb.tG b' (cg V co T)).map (fun s=>aD M s.1)=(Gb.tG b T).map Prod.fst
 |[],_,_,_,_,_=>rfl
 |s::T,b,b',hd,hT,hs=>by
  have ZE:=hT s (by simp)
  have hT':∀t∈T,t∈S:=fun x hx=>hT x (aT _ hx)
  cases hV:V s.1
  ·have e2:cg V co (s::T)=cg V co T:=by unfold cg;rw[pF (by simp[hV])]
   have q:=hs.1 hV;rw[e2];show _=(if cr (dr b) (dr s)=0 then Gb.tG s T else s::Gb.tG s T).map Prod.fst
   rw[aj ((bA _ _).1 q).1];exact c.tG hc T s b' (hd.trans (Fg q)) hT' hs.2
  ·have e2:cg V co (s::T)=co s::cg V co T:=by unfold cg;rw[oc (by simp[hV])];rfl
   obtain⟨_,m,k⟩:=hc s ZE hV;have d:=(k.dir c ZE).1;have z:=(hd.cr d).2.2;rw[e2];show(if cr (dr b') (dr (co s))=0 then Gb.tG (co s) (cg V co T) else co s::Gb.tG (co s) (cg V co T)).map _=(if cr (dr b) (dr s)=0 then Gb.tG s T else s::Gb.tG s T).map Prod.fst
   have ih:=c.tG hc T s (co s) d hT' hs.2;by_cases q:cr (dr b) (dr s)=0
   ·rw[aj q,aj (z.2 q)];exact ih
   ·rw[af q,af (fun w=>q (z.1 w)),eI,eI,ih,k.1]
theorem Cs.aY(c:Cs M V S nx S' nx'){co:Sg->Sg}(hc:uR M V S nx S' co){a:Sg}{T:List Sg}(k:LR S nx (a::T))(va:V a.1=true):
  (Gb.aY (co a::cg V co T)).map (aD M)=Gb.aY (a::T)/\(shl (co a::cg V co T)↔shl (a::T)):=by
 obtain⟨k',d⟩:=c.ring hc k va;have ha:=k.ring.mem a (by simp)
 obtain⟨_,m,ka⟩:=hc a ha va;have e:co a::cg V co T=cg V co (a::T):=by unfold cg;rw[oc (by simp[va])];rfl
 constructor
 ·unfold Gb.aY;rw[fL,FW,FW,e];exact c.tG hc (a::T) (T.getLastD a) _ d k.ring.mem ⟨fun q=>(by rw[va] at q;cases q),c.ZC k.ring⟩
 ·have hl:(a::T).getLast?=some (T.getLastD a):=by rw[uV,jE]
  have hl':(co a::cg V co T).getLast?=some ((cg V co T).getLastD (co a)):=by rw[uV,jE]
  have z:=(d.cr (ka.dir c ha).1).1;unfold shl;rw[hl,hl'];constructor
  ·rintro⟨x,y,hx,hy,h⟩;obtain rfl:co a=x:=gA hx;obtain rfl:=gA hy;exact⟨a,_,rfl,rfl,z.1 h⟩
  ·rintro⟨x,y,hx,hy,h⟩;obtain rfl:a=x:=gA hx;obtain rfl:=gA hy;exact⟨co a,_,rfl,rfl,z.2 h⟩
end
def ZF(M:Int)(e:Sg):Sg:=(aD M e.1,aD M e.2)
section
variable{M:Int}{V:Pt->Bool}{S S':List Sg}{nx nx':Sg->Sg}
theorem Co.at{s s':Sg}{m i:Nat}(k:Co M nx V s s' m)(h1:∀j,j<i->V (it nx j s).2=false)(h2:V (it nx i s).2=true):m=i:=by
 rcases rf m i with z|z|z
 ·have:=h1 m z;rw[k.2.2.2] at this;cases this
 ·exact z
 ·have:=k.2.2.1 i z;rw[h2] at this;cases this
theorem Cs.Pq(c:Cs M V S nx S' nx'){co:Sg->Sg}(hc:uR M V S nx S' co):∀(T:List Sg)(s:Sg)(i:Nat)(e:Pt),s∈S->V s.1=true->(∀j,j<i->V (it nx j s).2=false)->(∀t∈T,t∈S)->lQ (mM nx) (it nx i s) T->(T.getLastD (it nx i s)).2=e->V e=true->
  (co s::cg V co T).map (ZF M)=gp V s.1 T e
 |[],s,i,e,hs,hv,hi,_,_,he,hV=>by
  obtain⟨_,m,k⟩:=hc s hs hv;have he':(it nx i s).2=e:=he;have em:=k.at hi (by rw[he'];exact hV)
  subst em;show[(aD M (co s).1,aD M (co s).2)]=[(s.1,e)];rw[k.1,k.2.1,he']
 |t::T,s,i,e,hs,hv,hi,hT,hA,he,hV=>by
  have ht:=hT t (by simp)
  have hT':∀t∈T,t∈S:=fun x hx=>hT x (aT _ hx)
  have t1:=hA.1.1;rw[FW] at he;unfold gp;cases Bh:V t.1
  ·have e1:t=it nx (i+1) s:=c.out _ (c.wd.iG hs i) (by rw[<-t1];exact Bh) t ht t1
   have e2:cg V co (t::T)=cg V co T:=by unfold cg;rw[pF (by simp[Bh])]
   have vv:=hA.2;rw[e1] at vv he;rw[e2,af (by simp)]
   exact c.Pq hc T s (i+1) e hs hv (fun j hj=>by
    by_cases q:j<i
    ·exact hi j q
    ·obtain rfl:j=i:=by omega
     rw[<-t1];exact Bh) hT' vv he hV
  ·have e2:cg V co (t::T)=co t::cg V co T:=by unfold cg;rw[oc (by simp[Bh])];rfl
   obtain⟨_,m,k⟩:=hc s hs hv;have em:=k.at hi (by rw[<-t1];exact Bh)
   subst em;rw[e2,aj rfl,eI,c.Pq hc T t 0 e ht Bh (fun j hj=>by omega) hT' hA.2 he hV]
   show(aD M (co s).1,aD M (co s).2)::_=_;rw[k.1,k.2.1,t1]
theorem Cs.gpR(c:Cs M V S nx S' nx'){co:Sg->Sg}(hc:uR M V S nx S' co){a:Sg}{T:List Sg}(k:eo S nx (a::T))(va:V a.1=true):(co a::cg V co T).map (ZF M)=gp V a.1 T a.1:=by
 have hl:(a::T).getLast?=some (T.getLastD a):=by rw[uV,jE]
 exact c.Pq hc T a 0 a.1 (k.mem a (by simp)) va (fun j hj=>by omega) (fun t ht=>k.mem t (aT _ ht)) (lQ.of k.gU) (k.cls _ _ hl rfl).1.symm va
end
theorem ZG{x p c e:Pt}(h:ai (dr (p,c)) (dr (c,e))=true)(ho:on (dr (x,p)) (dr (x,e))=true):on (dr (x,p)) (dr (x,c))=true\/on (dr (x,c)) (dr (x,e))=true:=by
 apply fV;intro hn;have tD:on (dr (x,p)) (dr (x,c))=false:=QG.2 fun q=>hn (ag q)
 have tE:on (dr (x,c)) (dr (x,e))=false:=QG.2 fun q=>hn (ah q)
 have u0:dr (x,p)≠(0,0):=fun q=>by rw[q,lj _ _ (ag rfl)] at tD;cases tD
 have v0:dr (x,e)≠(0,0):=fun q=>by rw[q,lj _ _ (ah rfl)] at tE;cases tE
 have hp:ai (dr (p,e)) (dr (c,e))=true:=by
  rw[zx p c e];exact zw h (jJ (vX h).2)
 have k:=Zx (Q:=fun z=>ai z (dr (c,e))) (fun z z' q=>by rw[Av z,Av z',IX q]) (n:=x) h
 unfold arm at k;rw[cd,cd,cd,tD,tE,ho] at k;obtain⟨o1,o2⟩:=(jt _ _).1 ho;have e1:=Fh x p e;have w1:ai (dr (x,e)) (dr (p,e))=true:=by
  refine(bA _ _).2 ?_;rw[<-e1];have a1:cr (dr (x,e)) ((dr (x,e)).1-(dr (x,p)).1,(dr (x,e)).2-(dr (x,p)).2)=cr (dr (x,p)) (dr (x,e)):=by unfold cr;grind
  have a2:dt (dr (x,e)) ((dr (x,e)).1-(dr (x,p)).1,(dr (x,e)).2-(dr (x,p)).2)=dt (dr (x,e)) (dr (x,e))-dt (dr (x,p)) (dr (x,e)):=by unfold dt;grind
  have:=Ga.cP v0;omega
 have w2:ai (dr (x,p)) (dr (p,e))=false:=by
  cases q:ai (dr (x,p)) (dr (p,e))
  ·rfl
  ·have q2:=((bA _ _).1 q).2;rw[<-e1] at q2;have a2:dt (dr (x,p)) ((dr (x,e)).1-(dr (x,p)).1,(dr (x,e)).2-(dr (x,p)).2)=dt (dr (x,p)) (dr (x,e))-dt (dr (x,p)) (dr (x,p)):=by unfold dt;grind
   have:=Ga.cP u0;omega
 have k1:=jd w1 hp;have k2:ai (dr (x,p)) (dr (c,e))=false:=by rw[<-IX hp];exact w2
 simp[k1,k2,bb] at k
theorem akt{n:N3}(hn:0<n.2.2){p c e:Pt}(h:ai (dr (p,c)) (dr (c,e))=true)(ho:on (rl n p) (rl n e)=true):on (rl n p) (rl n c)=true\/on (rl n c) (rl n e)=true:=by
 have z:∀u:Pt,dr ((0,0),u)=u:=fun u=>by unfold dr;exact bX (by simp) (by simp)
 have k:∀a b:Pt,Pm (dr (a,b)) (dr (rl n a,rl n b)):=fun a b=>⟨n.2.2,1,hn,by decide,by unfold dr rl rel;simp only;rw[tM];grind,by unfold dr rl rel;simp only;rw[tM];grind⟩
 have h':ai (dr (rl n p,rl n c)) (dr (rl n c,rl n e))=true:=by rw[<-Pm.ai (k p c) (k c e)];exact h
 have:=ZG (x:=(0,0)) h' (by rw[z,z];exact ho)
 rw[z,z,z] at this;exact this
theorem Pr{W:Pt->Bool}{n:N3}(hn0:0<n.2.2):∀(T:List Sg)(b:Sg)(p c e:Pt),Path c T e->ai (dr (p,c)) (dr b)=true->(∀s∈T,s.1≠s.2)->qY W b T->∀g∈gp W p T e,on (rl n g.1) (rl n g.2)=true->
  (on (rl n p) (rl n c)=true/\ai (dr g) (dr b)=true)\/∃s∈T,on (rl n s.1) (rl n s.2)=true/\ai (dr g) (dr s)=true
 |[],b,p,c,e,hp,hd,_,_,g,hg,ho=>by
  have:c=e:=hp;subst this;obtain rfl:g=(p,c):=by simpa[gp] using hg
  exact ag ⟨ho,hd⟩
 |s::T,b,p,c,e,hp,hd,hn,hs,g,hg,ho=>by
  obtain⟨e1,hp'⟩:=hp;subst e1;have hn':∀s∈T,s.1≠s.2:=fun x hx=>hn x (aT _ hx)
  have ds:dr s≠(0,0):=fun q=>hn s (by simp) (gS.1 q)
  unfold gp at hg;cases hW:W s.1
  ·rw[hW,af (by simp)] at hg
   have k:=hs.1 hW;have hd2:ai (dr (p,s.1)) (dr s)=true:=jd hd k;rcases Pr hn0 T s p s.2 e hp' (by rw[zx p s.1 s.2];exact zw hd2 (jJ ds)) hn' hs.2 g hg ho with⟨q1,q2⟩|⟨t,ht,q⟩
   ·rcases akt hn0 (c:=s.1) (show ai (dr (p,s.1)) (dr (s.1,s.2))=true from hd2) q1 with w|w
    ·exact ag ⟨w,jd q2 (jU k)⟩
    ·exact ah ⟨s,by simp,w,q2⟩
   ·exact ah ⟨t,aT _ ht,q⟩
  ·rw[hW,aj rfl] at hg;rcases aP.1 hg with q|q
   ·subst q;exact ag ⟨ho,hd⟩
   ·rcases Pr hn0 T s s.1 s.2 e hp' (jJ ds) hn' hs.2 g q ho with⟨q1,q2⟩|⟨t,ht,q⟩
    ·exact ah ⟨s,by simp,q1,q2⟩
    ·exact ah ⟨t,aT _ ht,q⟩
theorem ZH{W:Pt->Bool}{a:Sg}{T:List Sg}(hp:Path a.1 (a::T) a.1)(hn:∀s∈a::T,s.1≠s.2)(hs:qY W a T){n:N3}(hn0:0<n.2.2){g:Sg}(hg:g∈gp W a.1 T a.1)(ho:on (rl n g.1) (rl n g.2)=true):∃s∈a::T,on (rl n s.1) (rl n s.2)=true/\ai (dr g) (dr s)=true:=by
 rcases Pr hn0 T a a.1 a.2 a.1 hp.2 (jJ fun q=>hn a (by simp) (gS.1 q)) (fun s hs=>hn s (aT _ hs)) hs g hg ho with q|⟨s,h1,h2⟩
 ·exact⟨a,by simp,q⟩
 ·exact⟨s,aT _ h1,h2⟩
theorem Pv{R:List Sg}{s:Sg}(hs:s∈R):(∃t,ke R s t)/\∃t,ke R t s:=by
 obtain⟨i,hi,e⟩:=iO.1 hs;have e':R[i]?=some s:=by rw[aC hi,e]
 have hne:R≠[]:=fun q=>by rw[q] at hs;simp at hs
 obtain⟨a,z,ha,hz⟩:=jI hne;constructor
 ·by_cases h:i+1<R.length
  ·exact⟨R[i+1],ag ⟨i,e',aC h⟩⟩
  ·refine⟨a,ah ⟨?_,ha⟩⟩;rw[mH,<-e'];congr 1;omega
 ·by_cases h:i=0
  ·refine⟨z,ah ⟨hz,?_⟩⟩;rw[uU,<-e',h]
  ·obtain⟨j,rfl⟩:∃j,i=j+1:=⟨i-1,by omega⟩
   exact⟨R[j],ag ⟨j,aC (by omega),e'⟩⟩
theorem Pw:∀(T:List Sg)(b:Sg)(k:Nat)(s t:Sg),(b::T)[k]?=some s->(b::T)[k+1]?=some t->cr (dr s) (dr t)≠0->t∈tG b T
 |[],b,k,s,t,_,ht,_=>by simp at ht
 |x::T,b,0,s,t,hs,ht,hc=>by
  obtain rfl:b=s:=by simpa using hs
  obtain rfl:x=t:=by simpa using ht
  show x∈if cr (dr b) (dr x)=0 then tG x T else x::tG x T
  rw[af hc];simp
 |x::T,b,k+1,s,t,hs,ht,hc=>by
  have:=Pw T x k s t (by simpa using hs) (by simpa using ht) hc
  show t∈if cr (dr b) (dr x)=0 then tG x T else x::tG x T
  split
  ·exact this
  ·exact aT _ this
theorem ke.aY{R:List Sg}{s t:Sg}(f:ke R s t)(h:cr (dr s) (dr t)≠0):t.1∈aY R:=by
 unfold Gb.aY;refine aN.2 ⟨t,?_,rfl⟩;rcases f with⟨k,h1,h2⟩|⟨h1,h2⟩
 ·exact Pw R _ (k+1) s t (by simpa using h1) (by simpa using h2) h
 ·refine Pw R _ 0 s t ?_ ?_ h
  ·rw[GF h1];rfl
  ·rw[uU] at h2;simpa using h2
theorem JY:∀(T:List Sg)(b t:Sg),t∈tG b T->t∈T
 |[],_,_,h=>by simp[tG] at h
 |x::T,b,t,h=>by
  have h':t∈if cr (dr b) (dr x)=0 then tG x T else x::tG x T:=h
  split at h'
  ·exact aT _ (JY T x t h')
  ·rcases aP.1 h' with q|q
   ·rw[q];simp
   ·exact aT _ (JY T x t q)
theorem ZI{W:Pt->Bool}:∀(T:List Sg)(b:Sg),(∀(k:Nat) s t,(b::T)[k]?=some s->(b::T)[k+1]?=some t->(W t.1=true↔cr (dr s) (dr t)≠0))->tG b T=T.filter fun s=>W s.1
 |[],_,_=>rfl
 |x::T,b,h=>by
  have ih:=ZI T x fun k s t hs ht=>h (k+1) s t (by simpa using hs) (by simpa using ht)
  have h0:=h 0 b x rfl rfl;show(if cr (dr b) (dr x)=0 then tG x T else x::tG x T)=_
  by_cases q:cr (dr b) (dr x)=0
  ·rw[aj q,ih,pF (by rw[h0];simpa using q)]
  ·rw[af q,ih,oc (by simpa using h0.2 q)]
section
variable{S:List Sg}{nx:Sg->Sg}
theorem eo.fst{R:List Sg}(k:eo S nx R){s t:Sg}(hs:s∈R)(ht:t∈R)(h:s.1=t.1):s=t:=by
 obtain⟨i,hi,e⟩:=iO.1 hs;obtain⟨j,hj,f⟩:=iO.1 ht;have hd:=kE.1 k.mK;rcases rf i j with q|q|q
 ·exact absurd h (by rw[<-e,<-f];exact hd i j hi hj q)
 ·subst q;rw[<-e,<-f]
 ·exact absurd h.symm (by rw[<-e,<-f];exact hd j i hj hi q)
theorem ke.mem{R:List Sg}{s t:Sg}(f:ke R s t):s∈R/\t∈R:=by
 rcases f with⟨k,h1,h2⟩|⟨h1,h2⟩
 ·exact⟨aZ h1,aZ h2⟩
 ·exact⟨pB h1,qj h2⟩
theorem ZJ:∀(T:List Sg)(b t:Sg),t∈tG b T->∃k s,(b::T)[k]?=some s/\(b::T)[k+1]?=some t/\cr (dr s) (dr t)≠0
 |[],_,_,h=>by simp[tG] at h
 |x::T,b,t,h=>by
  have h':t∈if cr (dr b) (dr x)=0 then tG x T else x::tG x T:=h
  have rc:t∈tG x T->∃k s,(b::x::T)[k]?=some s/\(b::x::T)[k+1]?=some t/\cr (dr s) (dr t)≠0:=fun q=>by
   obtain⟨k,s,q1,q2,q3⟩:=ZJ T x t q;exact⟨k+1,s,by simpa using q1,by simpa using q2,q3⟩
  by_cases q:cr (dr b) (dr x)=0
  ·rw[aj q] at h';exact rc h'
  ·rw[af q] at h';rcases aP.1 h' with w|w
   ·subst w;exact⟨0,b,rfl,rfl,q⟩
   ·exact rc w
theorem Fi{α:Type}{L:List α}(h:L.Nodup){i j:Nat}{x:α}(hi:L[i]?=some x)(hj:L[j]?=some x):i=j:=by
 obtain⟨a,ea⟩:=bZ.1 hi;obtain⟨b,eb⟩:=bZ.1 hj;have hp:=kE.1 h;rcases rf i j with q|q|q
 ·exact absurd (ea.trans eb.symm) (hp i j a b q)
 ·exact q
 ·exact absurd (eb.trans ea.symm) (hp j i b a q)
theorem eo.aku{a:Sg}{T:List Sg}(k:eo S nx (a::T))(ha:cr (dr (T.getLastD a)) (dr a)≠0):aY (a::T)=a.1::((T.filter fun s=>(aY (a::T)).contains s.1).map Prod.fst)/\(∀(i:Nat) s t,(a::T)[i]?=some s->(a::T)[i+1]?=some t->((aY (a::T)).contains t.1=true↔cr (dr s) (dr t)≠0)):=by
 have hl:(a::T).getLast?=some (T.getLastD a):=by rw[uV,jE]
 have key:∀{s t:Sg},ke (a::T) s t->((aY (a::T)).contains t.1=true↔cr (dr s) (dr t)≠0):=fun{s t} f=>by
  constructor
  ·intro h;have h':t.1∈aY (a::T):=by simpa using h
   obtain⟨t',ht',e⟩:=aN.1 h';have hm:=JY _ _ _ ht';have et:=k.fst hm f.mem.2 e;subst et;obtain⟨i,s',q1,q2,q3⟩:=ZJ _ _ _ ht';have f':ke (a::T) s' t':=by
    cases i with
    |zero=>
     have:(a::T).getLastD s0=s':=by simpa using q1
     rw[GF hl] at this;refine ah ⟨by rw[hl,this],?_⟩
     rw[uU];simpa using q2
    |succ i=>exact ag ⟨i,by simpa using q1,by simpa using q2⟩
   have es:s=s':=by
    rcases f with⟨i,g1,g2⟩|⟨g1,g2⟩<;>rcases f' with⟨j,g3,g4⟩|⟨g3,g4⟩
    ·have:=Fi k.nd g2 g4;have:i=j:=by omega
     subst this;exact gA (g1.symm.trans g3)
    ·rw[uU] at g4;have:=Fi k.nd g2 g4;omega
    ·rw[uU] at g2;have:=Fi k.nd g2 g4;omega
    ·exact gA (g1.symm.trans g3)
   rw[es];exact q3
  ·intro h;simpa using f.aY h
 refine⟨?_,fun i s t hs ht=>key (ag ⟨i,hs,ht⟩)⟩
 have e1:tG ((a::T).getLastD s0) (a::T)=a::tG a T:=by
  show(if cr (dr ((a::T).getLastD s0)) (dr a)=0 then tG a T else a::tG a T)=_
  rw[GF hl,af ha]
 have e2:=ZI (W:=fun p=>(aY (a::T)).contains p) T a fun i s t hs ht=>key (ag ⟨i,hs,ht⟩)
 rw[<-e2];show(tG ((a::T).getLastD s0) (a::T)).map Prod.fst=_;rw[e1,eI]
end
theorem ZK{s t:Sg}(hp:Pf s t)(hr:aJ (dr s)){n:N3}(hn:0<n.2.2)(h1:on (rl n s.1) (rl n s.2)=true)(h2:on (rl n t.1) (rl n t.2)=true)(hc:cr (dr s) (dr t)≠0):rl n s.1=(0,0)\/rl n s.2=(0,0):=by
 apply fV;intro hno;have x0:rl n s.1≠(0,0):=fun q=>hno (ag q)
 have y0:rl n s.2≠(0,0):=fun q=>hno (ah q)
 obtain⟨o1,o2⟩:=(jt _ _).1 h1;have dx:=Ga.cP x0;have dy:=Ga.cP y0;have hx:wv (n1 s.1) n=neg (rl n s.1):=by unfold wv n1 rl rel neg;exact bX (by simp only;omega) (by simp only;omega)
 have hy:wv n (n1 s.2)=rl n s.2:=by unfold wv n1 rl rel;exact bX (by simp only;omega) (by simp only;omega)
 have c1:n.2.2*cr (dr s) (neg (rl n s.1))=cr (rl n s.1) (rl n s.2):=by unfold cr dr neg rl rel;simp only;grind
 have c2:n.2.2*dt (dr s) (neg (rl n s.1))=dt (rl n s.1) (rl n s.1)-dt (rl n s.1) (rl n s.2):=by unfold dt dr neg rl rel;simp only;grind
 have c3:n.2.2*cr (dr s) (rl n s.2)= -cr (rl n s.1) (rl n s.2):=by unfold cr dr rl rel;simp only;grind
 have c4:n.2.2*dt (dr s) (rl n s.2)=dt (rl n s.2) (rl n s.2)-dt (rl n s.1) (rl n s.2):=by unfold dt dr rl rel;simp only;grind
 have b1:Behind (n1 s.1) n (dr s):=by
  refine kQ hr ?_ ?_
  ·rw[hx];exact(dE hn).1 (by omega)
  ·rw[hx];exact(aQ hn).1 (by omega)
 have b2:Behind n (n1 s.2) (dr s):=by
  refine kQ hr ?_ ?_
  ·rw[hy];exact(dE hn).1 (by omega)
  ·rw[hy];exact(aQ hn).1 (by omega)
 obtain⟨f1,f2⟩:=ze (show(0:Int)<1 by decide) (show(0:Int)<1 by decide) hn hp.fs b1 b2
 obtain⟨p1,p2⟩:=(jt _ _).1 h2;have hl:cr (dr s) (rl n t.2)-cr (dr s) (rl n t.1)=n.2.2*cr (dr s) (dr t):=by unfold cr dr rl rel;simp only;grind
 have hl0:n.2.2*cr (dr s) (dr t)≠0:=fun q=>hc ((dE hn).1 q)
 unfold lam at f1 f2;rcases eK (cr (dr s) (rl n t.1)) 0 with q|q|q
 ·exact f1 (by omega) ((ve p1 q).1 p2) (by have:=(ve p1 q).1 p2;omega) p1
 ·rcases QH (show cr (dr s) (rl n t.2)≠0 by omega) with w|w
  ·exact f2 (by omega) (by omega) (by omega) p1
  ·exact f1 (by omega) (by omega) (by omega) p1
 ·exact f2 ((F7 p1 q).1 p2) (by omega) (by have:=(F7 p1 q).1 p2;omega) p1
section
variable{S:List Sg}{nx:Sg->Sg}
theorem Wd.meet(h:Wd S nx){s t:Sg}(hs:s∈S)(ht:t∈S){n:N3}(hn:0<n.2.2)(h1:on (rl n s.1) (rl n s.2)=true)(h2:on (rl n t.1) (rl n t.2)=true)(hc:cr (dr s) (dr t)≠0):rl n s.1=(0,0)\/rl n s.2=(0,0):=by
 by_cases hr:aJ (dr s)
 ·exact ZK ((h.pf s hs t ht).1 hr) hr hn h1 h2 hc
 ·have hr':aJ (dr (rv s)):=by rw[jT];exact fM (h.dK hs) hr
  exact(ZK (s:=rv s) ((h.pf s hs t ht).2 hr) hr' hn (by rw[vk];exact h1) h2 (by rw[jT,dI];omega)).symm
theorem LR.turn(h:Wd S nx){a:Sg}{T:List Sg}(k:LR S nx (a::T)):cr (dr (T.getLastD a)) (dr a)≠0:=fun q=>by
 have hl:(a::T).getLast?=some (T.getLastD a):=by rw[uV,jE]
 obtain⟨M,hg⟩:=k.rg h (a:=a) rfl hl;have k1:=h.lW hg.mz hg.ma hg.z2.symm q;exact D3 ((yi k1).2 (hg.Gs h)) (hg.Gt h)
structure Rs(S:List Sg)(nx:Sg->Sg)(RL:List (List Sg)):Prop where
 lr:∀R∈RL,LR S nx R
 per:RL.flatten.Perm S
def Vp(RL:List (List Sg))(p:Pt):Bool:=(RL.flatMap aY).contains p
theorem JZ{RL:List (List Sg)}{R:List Sg}(hR:R∈RL){p:Pt}(hp:p∈aY R):Vp RL p=true:=by
 unfold Vp;simpa using⟨R,hR,hp⟩
theorem Px{RL:List (List Sg)}{p:Pt}:Vp RL p=true↔∃R∈RL,p∈aY R:=by
 unfold Vp;simp
variable{RL:List (List Sg)}
theorem Rs.ring(r:Rs S nx RL){s:Sg}(hs:s∈S):∃R∈RL,s∈R:=by
 obtain⟨R,h1,h2⟩:=tO.1 (r.per.mem_iff.2 hs);exact⟨R,h1,h2⟩
theorem Rs.mem(r:Rs S nx RL){R:List Sg}(hR:R∈RL){s:Sg}(hs:s∈R):s∈S:=(r.lr R hR).ring.mem s hs
theorem Rs.lW(_r:Rs S nx RL){R:List Sg}(hR:R∈RL){s t:Sg}(f:ke R s t)(hV:Vp RL t.1=false):cr (dr s) (dr t)=0:=by
 apply fV;intro q;rw[JZ hR (f.aY q)] at hV;cases hV
theorem Rs.head(r:Rs S nx RL)(h:Wd S nx){a:Sg}{T:List Sg}(hR:a::T∈RL):Vp RL a.1=true:=by
 have k:=r.lr _ hR;obtain⟨a',T',t,U,e,_,e2,_⟩:=k.Cq h;injection e with e3 e4;subst e3;exact JZ hR (by rw[e2];simp)
theorem Rs.only(r:Rs S nx RL)(h:Wd S nx){s:Sg}(hs:s∈S)(hV:Vp RL s.2=false):(∀u∈S,u.1=s.2->u=nx s)/\cr (dr s) (dr (nx s))=0/\∀R∈RL,s∈R->ke R s (nx s):=by
 have main:∀R∈RL,s∈R->∃t,ke R s t/\cr (dr s) (dr t)=0/\∀u∈S,u.1=s.2->u=t:=fun R hR hsR=>by
  obtain⟨⟨t,f⟩,_⟩:=Pv hsR;have t1:=(f.gU (r.lr R hR).ring).1.1;have c1:=r.lW hR f (by rw[t1];exact hV)
  refine⟨t,f,c1,fun u hu hu1=>?_⟩
  obtain⟨R2,cD,huR⟩:=r.ring hu;obtain⟨_,⟨w,f2⟩⟩:=Pv huR;have c2:=r.lW cD f2 (by rw[hu1];exact hV)
  exact(h.Zq (r.lr R hR).ring (r.lr R2 cD).ring f f2 (t1.trans hu1.symm) c1 c2).symm
 obtain⟨tD,tE⟩:=h.qs s hs;obtain⟨R,hR,hsR⟩:=r.ring hs;obtain⟨t,f,c1,u1⟩:=main R hR hsR;have e:=u1 _ tD tE;refine⟨fun u hu hu1=>by rw[e];exact u1 u hu hu1,by rw[e];exact c1,fun R2 cD hs2=>?_⟩
 obtain⟨t2,f2,_,u2⟩:=main R2 cD hs2;rw[u2 _ tD tE];exact f2
theorem Rs.stop(r:Rs S nx RL)(h:Wd S nx){s:Sg}(hs:s∈S):∃m,(∀i,i<m->Vp RL (it nx i s).2=false)/\Vp RL (it nx m s).2=true:=by
 have ex:∃m,Vp RL (it nx m s).2=true:=by
  apply fV;intro hn;have hn':∀m,Vp RL (it nx m s).2=false:=fun m=>by
   cases q:Vp RL (it nx m s).2
   ·rfl
   ·exact absurd ⟨m,q⟩ hn
  obtain⟨R,hR,hsR⟩:=r.ring hs;obtain⟨j,hj,ej⟩:=iO.1 hsR;have k:=(r.lr R hR).ring;have adv:∀m,j+m<R.length->R[j+m]?=some (it nx m s):=fun m=>by
   induction m with
   |zero=>intro hm;rw[pD,aC hj,ej];rfl
   |succ m ih=>
    intro hm;have h0:=ih (by omega)
    have f:=(r.only h (h.iG hs m) (hn' m)).2.2 R hR (aZ h0);rcases f with⟨i,g1,g2⟩|⟨g1,g2⟩
    ·have:=Fi k.nd g1 h0;rw[this] at g2;exact g2
    ·rw[mH] at g1;have:=Fi k.nd g1 h0;omega
  have hl:=adv (R.length-1-j) (by omega)
  have e:j+(R.length-1-j)=R.length-1:=by omega
  rw[e,<-mH] at hl;cases R with
  |nil=>simp at hsR
  |cons a T=>
   have:=(k.cls _ a hl rfl).1;have hv:=hn' ((a::T).length-1-j);rw[<-this,r.head h hR] at hv;cases hv
 obtain⟨m,hm⟩:=ex;obtain⟨k,_,k1,k2⟩:=Gv (P:=fun m=>Vp RL (it nx m s).2=true) hm
 exact⟨k,fun i hi=>QG.2 (k2 i hi),k1⟩
theorem Rs.Py(r:Rs S nx RL)(h:Wd S nx){a:Sg}{T:List Sg}(hR:a::T∈RL):closing (aY (a::T))=gp (fun p=>(aY (a::T)).contains p) a.1 T a.1/\qY (fun p=>(aY (a::T)).contains p) a T:=by
 have k:=r.lr _ hR;obtain⟨e1,e2⟩:=k.ring.aku (k.turn h);constructor
 ·rw[Pn];generalize hW:(fun s:Sg=>(aY (a::T)).contains s.1)=W at*
  rw[e1];rfl
 ·have:lQ (fun b s=>(aY (a::T)).contains s.1=false->ai (dr b) (dr s)=true) a T:=by
   refine lQ.of fun i s t h1 h2 hV=>?_
   have hs:=k.ring.mem s (aZ h1);have ht:=k.ring.mem t (aZ h2);refine h.lW hs ht (k.ring.gU i s t h1 h2).1 ?_;apply fV;intro q;rw[(e2 i s t h1 h2).2 q] at hV;cases hV
  have conv:∀{W:Pt->Bool}{T:List Sg}{a:Sg},lQ (fun b s=>W s.1=false->ai (dr b) (dr s)=true) a T->qY W a T:=by
   intro W T;induction T with
   |nil=>intro a _;trivial
   |cons x T ih=>intro a h;exact⟨h.1,ih h.2⟩
  exact conv this
theorem J0(a b:List Sg)(n:N3)(d:Pt):bg (a++b) n d=bg a n d+bg b n d/\bH (a++b) n d=bH a n d+bH b n d:=by
 unfold bH bg;rw[abY,tV,tV];omega
theorem J1{a b:List Sg}(h:a.Perm b)(n:N3)(d:Pt):bg a n d=bg b n d/\bH a n d=bH b n d:=by
 unfold bH bg;rw[show PP a n=PP b n from zm h,Pj h,Pj h]
 exact⟨rfl,rfl⟩
theorem akx(g:List Pt)(n:N3)(d:Pt):bg (dY g) n d=bg (closing g) n d/\bH (dY g) n d=bH (closing g) n d:=by
 have hP:PP (dY g) n=PP (closing g) n:=KN (fun u v=>right (rl n u) (rl n v)) (fun a=>KR _) _
 have hA:∀Q,Ga.AS (dY g) n Q=Ga.AS (closing g) n Q:=fun Q=>KN (arm Q n) (fun a=>by unfold arm;split<;>omega) _
 unfold bH bg;rw[hP,hA,hA];exact⟨rfl,rfl⟩
theorem Rs.bg(r:Rs S nx RL)(h:Wd S nx)(n:Pt)(d:Pt):Ga.bg (ae (RL.map aY)) (n1 n) d=Ga.bg S (n1 n) d/\bH (ae (RL.map aY)) (n1 n) d=bH S (n1 n) d:=by
 have key:∀tF:List (List Sg),(∀R∈tF,R∈RL)->Ga.bg (ae (tF.map aY)) (n1 n) d=Ga.bg tF.flatten (n1 n) d/\bH (ae (tF.map aY)) (n1 n) d=bH tF.flatten (n1 n) d:=by
  intro tF;induction tF with
  |nil=>intro _;exact⟨rfl,rfl⟩
  |cons R tF ih=>
   intro hR;obtain⟨i1,i2⟩:=ih fun R hR'=>hR R (aT _ hR')
   have Pz:=hR R (by simp)
   have one:Ga.bg (dY (aY R)) (n1 n) d=Ga.bg R (n1 n) d/\bH (dY (aY R)) (n1 n) d=bH R (n1 n) d:=by
    obtain⟨b1,b2⟩:=akx (aY R) (n1 n) d;rw[b1,b2];cases R with
    |nil=>exact⟨rfl,rfl⟩
    |cons a T=>
     obtain⟨g1,g2⟩:=r.Py h Pz;rw[g1];exact Zz ((r.lr _ Pz).ring.path rfl) (fun s hs=>h.ne s ((r.lr _ Pz).ring.mem s hs)) g2 n d
   have e:ae ((R::tF).map aY)=dY (aY R)++ae (tF.map aY):=by simp[ae]
   rw[e,tN,(J0 _ _ _ _).1,(J0 _ _ _ _).2,(J0 _ _ _ _).1,(J0 _ _ _ _).2,i1,i2,one.1,one.2];exact⟨rfl,rfl⟩
 obtain⟨k1,k2⟩:=key RL fun _ h=>h
 obtain⟨p1,p2⟩:=J1 r.per (n1 n) d;rw[k1,k2,p1,p2];exact⟨rfl,rfl⟩
theorem Rs.side(r:Rs S nx RL)(h:Wd S nx){e:Sg}(he:e∈ae (RL.map aY)){n:N3}(hn:0<n.2.2)(ho:on (rl n e.1) (rl n e.2)=true):∃R∈RL,∃s∈R,on (rl n s.1) (rl n s.2)=true/\ai (dr e) (dr s)=true:=by
 obtain⟨g,hg,heg⟩:=nu.1 he;obtain⟨R,hR,rfl⟩:=aN.1 hg;have hcl:e∈closing (aY R):=(eY.1 heg).1;cases R with
 |nil=>simp[aY,tG,closing] at hcl
 |cons a T=>
  obtain⟨g1,g2⟩:=r.Py h hR;rw[g1] at hcl;obtain⟨s,h1,h2⟩:=ZH ((r.lr _ hR).ring.path rfl) (fun s hs=>h.ne s ((r.lr _ hR).ring.mem s hs)) g2 hn hcl ho
  exact⟨_,hR,s,h1,h2⟩
theorem ZL{n:N3}(_hn:0<n.2.2){v z:Pt}(h:rl n v=(0,0)):rl n z=(n.2.2*(dr (v,z)).1,n.2.2*(dr (v,z)).2):=by
 have h1:=au Prod.fst h;have h2:=au Prod.snd h;unfold rl rel at h1 h2;unfold rl rel dr;simp only at h1 h2⊢;exact bX (by simp only;rw[mI];omega) (by simp only;rw[mI];omega)
theorem akz{n:N3}(hn:0<n.2.2){v:Pt}(h:rl n v=(0,0)){p q:Pt}(ho:on (rl n p) (rl n q)=true):on (dr (v,p)) (dr (v,q))=true:=by
 have k:∀z,Pm (dr (v,z)) (rl n z):=fun z=>⟨n.2.2,1,hn,by decide,by rw[ZL hn h];simp,by rw[ZL hn h];simp⟩
 rw[Pm.on (k p) (k q)];exact ho
theorem Rs.node(r:Rs S nx RL)(h:Wd S nx){e f:Sg}(he:e∈ae (RL.map aY))(hf:f∈ae (RL.map aY)){n:N3}(hn:0<n.2.2)(h1:on (rl n e.1) (rl n e.2)=true)(h2:on (rl n f.1) (rl n f.2)=true)(hc:cr (dr e) (dr f)≠0):∃v,Vp RL v=true/\rl n v=(0,0):=by
 obtain⟨R,hR,s,hs,o1,d1⟩:=r.side h he hn h1;obtain⟨R',hR',t,ht,o2,d2⟩:=r.side h hf hn h2;have hs':=r.mem hR hs;have ht':=r.mem hR' ht;have hc':cr (dr s) (dr t)≠0:=fun q=>hc (((Fg d1).cr (Fg d2)).2.2.2 q)
 obtain⟨v,hv,hvs⟩:∃v,rl n v=(0,0)/\(v=s.1\/v=s.2):=by
  rcases h.meet hs' ht' hn o1 o2 hc' with q|q
  ·exact⟨_,q,ag rfl⟩
  ·exact⟨_,q,ah rfl⟩
 have ov:=akz hn hv o2;have hvt:v=t.1\/v=t.2:=by
  rcases hvs with q|q
  ·rw[q] at ov⊢;exact h.zk s hs' t ht' ov
  ·rw[q] at ov⊢;exact h.Gj s hs' t ht' ov
 have pair:∀{R:List Sg}{s:Sg},R∈RL->s∈R->(v=s.1\/v=s.2)->∃x y,ke R x y/\y.1=v/\(s=x\/s=y):=fun{R s} hR hs hv=>by
  obtain⟨⟨y,f1⟩,⟨x,f2⟩⟩:=Pv hs;rcases hv with q|q
  ·exact⟨x,s,f2,q.symm,ah rfl⟩
  ·exact⟨s,y,f1,by rw[q];exact(f1.gU (r.lr R hR).ring).1.1,ag rfl⟩
 obtain⟨x,y,f1,y1,sx⟩:=pair hR hs hvs;obtain⟨x',y',f2,y1',tx⟩:=pair hR' ht hvt;cases hV:Vp RL v
 ·exfalso;have c1:=r.lW hR f1 (by rw[y1];exact hV)
  have c2:=r.lW hR' f2 (by rw[y1'];exact hV)
  have e1:=h.Zq (r.lr R hR).ring (r.lr R' hR').ring f1 f2 (y1.trans y1'.symm) c1 c2;obtain⟨r1,m1,m2⟩:=f1.gU (r.lr R hR).ring;obtain⟨r2,m3,m4⟩:=f2.gU (r.lr R' hR').ring;have k1:=h.lW m1 m2 r1.1 c1;have k2:=h.lW m3 m4 r2.1 c2;have ks:ai (dr s) (dr y)=true:=by
   rcases sx with q|q
   ·rw[q];exact k1
   ·rw[q];exact jJ (h.dK m2)
  have kt:ai (dr t) (dr y')=true:=by
   rcases tx with q|q
   ·rw[q];exact k2
   ·rw[q];exact jJ (h.dK m4)
  rw[<-e1] at kt;exact hc' ((bA _ _).1 (jd ks (jU kt))).1
 ·exact⟨v,hV,hv⟩
end
end Go.Proofs.YtkjhhooecopolaaGreatDoor.Gb

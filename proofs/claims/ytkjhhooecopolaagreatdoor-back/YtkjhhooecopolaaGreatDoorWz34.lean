import Derived.Test.YtkjhhooecopolaaGreatDoorWz33
set_option maxRecDepth 100000
set_option maxHeartbeats 4000000
namespace Go.Proofs.YtkjhhooecopolaaGreatDoor
open Go.RowKit
open Ge
theorem ajD(w:World):
  Calls Tryz.prog 69 #[.slice none 0 0] w fun e w'=>e=.returned (.slice none 0 0)/\w'=w:=by
 have HC:Hid (Calls Tryz.prog 116 #[.slice none 0 0] w fun e w'=>e=.returned (.tuple #[])/\w'=w):=Yr w
 go_enter Tryz.func69,Tryz.ntmps69
 go_wp2_with fail
 go_loopg [3,13] 0 (fun m lv iv wr=>m=0/\lv=.slice none 0 0/\iv=.int .i64 0/\wr=w)
 case atStart=>exact⟨rfl,rfl,rfl,rfl⟩
 case round=>
  obtain⟨_,rfl,rfl,rfl⟩:=hrel
  go_wp2_with fail
  refine HC.out.mono ?_;rintro e w5 ⟨rfl,rfl⟩;clear HC
  go_wp2_with fail
  go_ret
  exact⟨rfl,rfl⟩
section
variable{rg:List (List Pt)}{l:List Nd}{r:Int}{Ps:List PB}
theorem E6(hl:l.map ax=gV (ae rg))(hs:∀e∈ae rg,eO e)(h:nO (ae rg) l Ps)(hlen:(kU r (ae rg) Ps).length<=85000000):BD (kU r (ae rg) Ps):=by
 have hne:∀e∈ae rg,e.1≠e.2:=fun e he=>GW he
 have hv:∀x∈Ps.flatMap (fA r (ae rg)),dh x:=fun x hx=>by
  obtain⟨p,hp,uB⟩:=nu.1 hx;exact M7 (h.v p hp) uB
 obtain⟨hperm,ajE⟩:=Wi (Ps.flatMap (fA r (ae rg))) hv;refine⟨fun x hx=>hv x (hperm.mem_iff.1 hx),fun x hx=>?_,?_,hlen⟩
 ·obtain⟨p,hp,uB⟩:=nu.1 (hperm.mem_iff.1 hx);obtain⟨k,hk⟩:=agI hne hs h hl p hp;rcases Jj uB with⟨rfl,_⟩|⟨rfl,_⟩
  ·exact⟨k,hk⟩
  ·exact⟨_,hk.rev⟩
 ·refine ajE.imp fun{a b} hab=>?_
  rw[AA];exact hab
def qW(Xs:List PB):List UInt8:=E5 Xs (tA Xs (aM Xs Xs.length).ps)
theorem ajF(hl:l.map ax=gV (ae rg))(hc:∀n∈l,Ge.Can n)(hs:∀e∈ae rg,eO e)(h:nO (ae rg) l Ps){w1 w0:World}{lv:Value}{bs:List Nat}(jy:BS w1 lv bs (kU r (ae rg) Ps) w0)(hbl:bs.length<=85000000)(bO:Gl w1):
  Calls Tryz.prog 69 #[lv] w0 fun e w'=>∃lp,e=.returned lp/\Below w1.heap.size w1 w'/\Calls Tryz.prog 67 #[lp] w' fun e w''=>e=.returned (.string (ba (qW (kU r (ae rg) Ps))))/\Below w'.heap.size w' w'':=by
 have hX:=AG (r:=r) hl hc h;have hB:=E6 (r:=r) hl hs h (by rw[<-jy.len];exact hbl)
 generalize kU r (ae rg) Ps=Xs at*;have hb1:=jy.below;rcases jy.own.2 with⟨rfl,h0⟩|⟨g,cap,cur,rfl,hg,hblk,hnc,hcm,hcs,htk⟩
 ·have hb0:bs=[]:=gF.1 h0;have Eb:Xs=[]:=gF.1 (by rw[<-jy.len];exact h0)
  subst Eb;refine(ajD w0).mono ?_;rintro e w' ⟨rfl,rfl⟩;exact⟨_,rfl,hb1,YG none 0 [] w' (by simp) (by simp[Lib.join,List.intercalate]) (fun k t hk=>by simp at hk)⟩
 ·have hlt:∀b∈bs,b<w0.heap.size:=fun b hb=>jy.lt hb
  have hsw:SW g bs Xs (fun _=>false) (fun _=>none) w0:=by
   refine⟨jy.len,jy.nd,fun hgb=>jy.ne g hgb rfl,fun i hi=>?_,fun i hi=>?_⟩
   ·obtain⟨gT,cT,e,_,_,_,f⟩:=mZ jy.own (by omega)
    injection e with e;injection e with e;injection e with e;subst e;exact f i _ (by simp[aL,wC hi])
   ·exact(jy.lies i _ _ (wC hi) (uC (by rw[<-jy.len];exact hi))).2
  have htot:=hX.dO hB Xs.length (ay _);have hgd:=hX.pn hB Xs.length (ay _);have hpv:=hX.pv hB Xs.length (ay _);have Jv:=hB.len;have hpl:=hpv.len;refine ajc (cap:=cap) hX hB hlt (lt_of_heap hblk) hnc hsw (fun lp w'=>Below w1.heap.size w1 w'/\Calls Tryz.prog 67 #[lp] w' fun e w''=>e=.returned (.string (ba (qW Xs)))/\Below w'.heap.size w' w'') ?_
  intro lv PH T wr kX ED hnd hmo wm;refine(ajl hB (lt_of_heap hblk) hlt hmo.size kX ED hgd (by omega) (fun p hp=>?_)).mono ?_
  ·obtain⟨i,hi⟩:=abu.1 hp;have:=hpv.hol i p hi;omega
  ·rintro e w' ⟨rfl,⟨qV,OU⟩,ajG,aw⟩;have hb2:Below w1.heap.size w1 w':=by
    have ajH:Below w1.heap.size w1 wr:=hb1.trans ⟨hmo.os,hmo.tape,hmo.output,hmo.size,fun k hk=>hmo.block k (bu hk hb1.size) (fun hm=>by
     obtain⟨i,hi⟩:=abu.1 hm;have hiX:i<Xs.length:=by rw[<-jy.len];exact(bZ.1 hi).1
     have:=(jy.lies i k _ hi (uC hiX)).1;omega)⟩
    exact ajH.trans (aw.mono hb1.size)
   refine⟨rfl,hb2,?_⟩;refine ajC hB ajG OU (YO hB hgd) ?_ ?_ (bO.below hb2 bO.sz)
   ·rw[YP hB hgd];omega
   ·have:=(O0 hB hgd).length_eq;rw[iF] at this;omega
end
end Go.Proofs.YtkjhhooecopolaaGreatDoor
namespace Go.Proofs.YtkjhhooecopolaaGreatDoor.Gb
open Ge Ga
section
variable{S:List Sg}{nx:Sg->Sg}
theorem Wd.O2(h:Wd S nx):∀(T:List Sg)(b c:Sg)(e:Pt),b∈S->(∀s∈T,s∈S)->Path b.2 T e->ai (dr c) (dr b)=true->ai (dr ((tG b T).getLastD c)) (dr (T.getLastD b))=true
 |[],_,_,_,_,_,_,hc=>hc
 |s::T,b,c,e,hb,hm,hp,hc=>by
  have hs:=hm s (by simp)
  have e1:(s::T).getLastD b=T.getLastD s:=by cases T<;>rfl
  rw[e1];unfold tG;by_cases hcr:cr (dr b) (dr s)=0
  ·rw[aj hcr];exact h.O2 T s c e hs (fun u hu=>hm u (aT _ hu)) hp.2 (jd hc (h.lW hb hs hp.1 hcr))
  ·rw[af hcr];have e2:(s::tG s T).getLastD c=(tG s T).getLastD s:=by cases tG s T<;>rfl
   rw[e2];exact h.O2 T s s e hs (fun u hu=>hm u (aT _ hu)) hp.2 (jJ (h.dK hs))
end
def o6(c:Nat->Nat->Bool)(p:List Nat×List (List Nat))(s:Nat):List Nat×List (List Nat):=
 if 0<=fR (c s) (p.1++[s]) then((p.1++[s]).take (fR (c s) (p.1++[s])).toNat,p.2++[(p.1++[s]).drop (fR (c s) (p.1++[s])).toNat]) else(p.1++[s],p.2)
def nj(c:Nat->Nat->Bool)(W:List Nat):List Nat×List (List Nat):=W.foldl (o6 c) ([],[])
theorem YT(c:Nat->Nat->Bool)(W:List Nat)(s:Nat):nj c (W++[s])=o6 c (nj c W) s:=by unfold nj;rw[KJ];rfl
theorem ajJ(Xs:List PB)(W:List Nat):bJ Xs W=((nj (kV Xs) W).1,(nj (kV Xs) W).2.map (di Xs)):=by
 have key:∀(W:List Nat)(p:List Nat×List (List Nat)),W.foldl (jo Xs) (p.1,p.2.map (di Xs))=((W.foldl (o6 (kV Xs)) p).1,(W.foldl (o6 (kV Xs)) p).2.map (di Xs)):=by
  intro W;induction W with
  |nil=>intro p;rfl
  |cons s W ih=>
   intro p;rw[rq,rq,<-ih];congr 1;unfold jo o6 ie;simp only;by_cases h:0<=fR (kV Xs s) (p.1++[s])
   ·rw[aj h,aj h];simp
   ·rw[af h,af h]
 exact key W ([],[])
theorem ajK(Xs:List PB)(W:List Nat):bp Xs W=(nj (kV Xs) W).2.map (di Xs):=by unfold bp;rw[ajJ]
theorem ajL{P:Nat->Bool}(g:Nat->Nat)(l:List Nat):fR P (l.map g)=fR (fun x=>P (g x)) l:=Jq l 0 fun _ _=>rfl
theorem ajM(c:Nat->Nat->Bool)(g:Nat->Nat)(W:List Nat):nj c (W.map g)=((nj (fun i j=>c (g i) (g j)) W).1.map g,(nj (fun i j=>c (g i) (g j)) W).2.map (·.map g)):=by
 have key:∀(W:List Nat)(p:List Nat×List (List Nat)),(W.map g).foldl (o6 c) (p.1.map g,p.2.map (·.map g))=((W.foldl (o6 fun i j=>c (g i) (g j)) p).1.map g,(W.foldl (o6 fun i j=>c (g i) (g j)) p).2.map (·.map g)):=by
  intro W;induction W with
  |nil=>intro p;rfl
  |cons s W ih=>
   intro p;rw[eI,rq,rq,<-ih];congr 1;unfold o6;simp only;have e:p.1.map g++[g s]=(p.1++[s]).map g:=by simp
   rw[e,ajL];by_cases h:0<=fR (fun x=>c (g s) (g x)) (p.1++[s])
   ·rw[aj h,aj h];simp
   ·rw[af h,af h]
 exact key W ([],[])
theorem ajN(c:Nat->Nat->Bool)(p:List Nat×List (List Nat))(s:Nat):∀o∈(o6 c p s).1,o∈p.1++[s]:=by
 intro o ho;unfold o6 at ho;split at ho
 ·exact qh ho
 ·exact ho
theorem YU(c:Nat->Nat->Bool):∀(i:Nat),∀o∈(nj c (List.range i)).1,o<i
 |0,o,ho=>by simp[nj] at ho
 |i+1,o,ho=>by
  rw[FD,YT] at ho;rcases bQ.1 (ajN c _ i o ho) with q|q
  ·have:=YU c i o q;omega
  ·have:=bY.1 q;omega
theorem ajO{ν:Type}{f:Nat->ν}(c:Nat->Nat->Bool)(i:Nat)(p:List Nat×List (List Nat))(hc:∀o∈p.1++[i],c i o=true↔f o=f (i+1)):xp f i p (o6 c p i):=by
 unfold o6 fR;rcases JB (P:=c i) (p.1++[i]) 0 with⟨h1,h2⟩|⟨R,x,h1,h2,h3,h4⟩
 ·rw[af (by omega)]
  refine ag ⟨fun o ho e=>?_,rfl⟩
  have:=(hc o ho).2 e;rw[h2 o ho] at this;cases this
 ·have e:(fG (c i) (p.1++[i]) 0).toNat=R:=by rw[h1];omega
  rw[aj (by omega),e]
  have hx:x∈p.1++[i]:=aZ h2;refine ah ⟨(p.1++[i]).take R,x,(p.1++[i]).drop (R+1),?_,(hc x hx).1 h3,fun o ho k=>?_,?_⟩
  ·rw[<-uF h2,KA]
  ·obtain⟨t,ht,et⟩:=iO.1 ho;have htR:t<R:=by
    have:=ht;rw[iE] at this;omega
   have hg:(p.1++[i])[t]?=some o:=by
    rw[<-et,List.getElem_take];exact aC _
   have:=h4 t o htR hg;rw[(hc o (aZ hg)).2 k] at this;cases this
  ·rw[<-uF h2]
theorem O3(Xs:List PB):∀(A:List Nat)(b:Nat)(B:List Nat),tI Xs b (A++B)=tI Xs b A++tI Xs (A.getLastD b) B
 |[],_,_=>rfl
 |a::A,b,B=>by
  have ih:=O3 Xs A a B;have e:(a::A).getLastD b=A.getLastD a:=by cases A<;>rfl
  show _++tI Xs a (A++B)=(_++tI Xs a A)++_;rw[ih,e,fB]
theorem JN{cf:Nat->Nat->Int}{d:Nat}:∀(l:List Nat)(m:Nat),d∈m::l->(∀x∈m::l,x≠d->cf d x<0)->(∀x∈m::l,¬cf x d<0)->bG cf l m=d
 |[],m,h,_,_=>(bY.1 h).symm
 |b::l,m,h,h1,h2=>by
  unfold bG;by_cases e:m=d
  ·subst e;rw[af (h2 b (by simp))]
   exact JN l m (by simp) (fun x hx=>h1 x (by rcases aP.1 hx with q|q<;>simp[q])) (fun x hx=>h2 x (by rcases aP.1 hx with q|q<;>simp[q]))
  ·by_cases e2:b=d
   ·subst e2;rw[aj (h1 m (by simp) e)]
    exact JN l b (by simp) (fun x hx=>h1 x (by rcases aP.1 hx with q|q<;>simp[q])) (fun x hx=>h2 x (by rcases aP.1 hx with q|q<;>simp[q]))
   ·have hd:d∈l:=by
     rcases aP.1 h with q|q
     ·exact absurd q.symm e
     ·rcases aP.1 q with q|q
      ·exact absurd q.symm e2
      ·exact q
    refine JN l _ (aT _ hd) (fun x hx=>?_) (fun x hx=>?_)
    ·rcases aP.1 hx with q|q
     ·rw[q];split
      ·exact h1 b (by simp)
      ·exact h1 m (by simp)
     ·exact h1 x (by simp[q])
    ·rcases aP.1 hx with q|q
     ·rw[q];split
      ·exact h2 b (by simp)
      ·exact h2 m (by simp)
     ·exact h2 x (by simp[q])
section
variable{rg:List (List Pt)}{l:List Nd}{r:Int}{Xs:List PB}
abbrev pi(l:List Nd)(Xs:List PB)(i:Nat):Sg:=ph (aa l) (xi Xs i)
theorem SX.pd(h:SX rg l r Xs){i:Nat}(hi:i<Xs.length):Pm (dr (pi l Xs i)) (wv (xi Xs i).f (xi Xs i).t):=
 fO (bC.ok h.nl).1 ((bC.ok h.nl).2 _ (eF h.nl (h.sd hi).pc).2.1) ((bC.ok h.nl).2 _ (eF h.nl (h.sd hi).pc).2.2)
theorem SX.o8(h:SX rg l r Xs){i:Nat}(hi:i<Xs.length):(xi Xs i).f∈l/\(xi Xs i).t∈l:=(eF h.nl (h.sd hi).pc).2
theorem O4(x:Int):(x.sign=0↔x=0)/\(0<x.sign↔0<x)/\(x.sign<0↔x<0):=by
 rcases sg x with⟨a,b⟩|⟨a,b⟩|⟨a,b⟩<;>rw[b]<;>omega
theorem SX.dQ(h:SX rg l r Xs){i j:Nat}(hi:i<Xs.length)(hj:j<Xs.length):(eW (xi Xs i) (xi Xs j)=0↔cr (dr (pi l Xs i)) (dr (pi l Xs j))=0)/\(0<eW (xi Xs i) (xi Xs j)↔0<cr (dr (pi l Xs i)) (dr (pi l Xs j))):=by
 rw[wE];have a:=O4 (cr (wv (xi Xs i).f (xi Xs i).t) (wv (xi Xs j).f (xi Xs j).t));have b:=(SX.pd h hi).cr (SX.pd h hj);exact⟨a.1.trans b.2.2.symm,a.2.1.trans b.1.symm⟩
theorem SX.tG(h:SX rg l r Xs):∀(A:List Nat)(b:Nat),b<Xs.length->(∀a∈A,a<Xs.length)->(tI Xs b A).map (pi l Xs)=Gb.tG (pi l Xs b) (A.map (pi l Xs))
 |[],_,_,_=>rfl
 |s::A,b,hb,hm=>by
  have hs:=hm s (by simp)
  have ih:=SX.tG h A s hs (fun a ha=>hm a (aT _ ha))
  have k:=(SX.dQ h hs hb).1;have k2:cr (dr (pi l Xs s)) (dr (pi l Xs b))=0↔cr (dr (pi l Xs b)) (dr (pi l Xs s))=0:=by rw[bT];omega
  show((if eW (xi Xs s) (xi Xs b)=0 then[] else[s])++tI Xs s A).map (pi l Xs)=if cr (dr (pi l Xs b)) (dr (pi l Xs s))=0 then Gb.tG (pi l Xs s) (A.map (pi l Xs)) else pi l Xs s::Gb.tG (pi l Xs s) (A.map (pi l Xs))
  by_cases hc:eW (xi Xs s) (xi Xs b)=0
  ·rw[aj hc,aj (k2.1 (k.1 hc)),qd,ih]
  ·rw[af hc,af (fun e=>hc (k.2 (k2.2 e))),ja,ih]
   rfl
theorem SX.geq(h:SX rg l r Xs){a b:Nd}(ha:a∈l)(hb:b∈l):ge (PM (aa l) a) (PM (aa l) b)->a≠b->bn a b<0:=by
 intro hg hne;have hr:=K7 hg (fun e=>hne (oW h.nl ha hb e))
 have:=(fO (bC.ok h.nl).1 ((bC.ok h.nl).2 a ha) ((bC.ok h.nl).2 b hb)).aJ.1 hr;rw[AA];exact(mU (h.nl.can a ha) (h.nl.can b hb)).2 this
theorem YV{α:Type}(A:List α){B:List α}(hB:B≠[])(d e:α):(A++B).getLastD d=B.getLastD e:=by
 rw[jE,jE,GC A hB];cases q:B.getLast? with
 |none=>exact absurd (yR.1 q) hB
 |some z=>rfl
theorem SX.ring(h:SX rg l r Xs)(hB:BD Xs){D1 D2:List Nat}(hl:∀a∈D1++D2,a<Xs.length)(hR:LR (sS (aa l) Xs) (iA (aa l) Xs) ((D2++D1).map (pi l Xs)))(h2:D2≠[]):di Xs (D1++D2)=dw Xs (D2++D1):=by
 have hW:=SX.wd h hB;obtain⟨d,eG,rfl⟩:∃d eG,D2=d::eG:=by
  cases D2 with
  |nil=>exact absurd rfl h2
  |cons d D=>exact⟨d,D,rfl⟩
 have yq:=hl d (by simp)
 have hnd:(d::eG++D1).Nodup:=by
  have:=hR.ring.nd;exact List.Pairwise.of_map (pi l Xs) (fun a b k e=>k (by rw[e])) this
 have hz:∃z,(d::eG++D1).getLastD 0=z/\z∈d::eG++D1:=by
  refine⟨_,rfl,?_⟩;rw[jE];cases q:(d::eG++D1).getLast? with
  |none=>exact absurd (yR.1 q) (by simp)
  |some z=>exact pB q
 obtain⟨z,hz1,hz2⟩:=hz;have hzl:z<Xs.length:=hl z (by simp at hz2⊢;rcases hz2 with q|q|q<;>simp[q])
 obtain⟨a,T,t,U,e1,e2,e3,_⟩:=hR.Cq hW;have ha:a=pi l Xs d:=by
  have:(pi l Xs d::(eG++D1).map (pi l Xs))=a::T:=by rw[<-e1];simp
  injection this with q _;exact q.symm
 have hturn:eW (xi Xs d) (xi Xs z)≠0:=fun e=>by
  have hzz:((d::eG++D1).map (pi l Xs)).getLastD s0=pi l Xs z:=by
   rw[jE,Cn];rw[jE] at hz1;cases q:(d::eG++D1).getLast? with
   |none=>exact absurd (yR.1 q) (by simp)
   |some y=>rw[q] at hz1;rw[<-hz1];rfl
  have hc:=((SX.dQ h yq hzl).1).1 e;have:cr (dr (pi l Xs z)) (dr (pi l Xs d))=0:=by rw[bT];omega
  unfold aY at e3;rw[hzz,e1] at e3;have e4:Gb.tG (pi l Xs z) (a::T)=Gb.tG a T:=by
   show(if cr (dr (pi l Xs z)) (dr a)=0 then _ else _)=_
   rw[ha,aj this]
  rw[e4,e2] at e3;have e5:=au List.length e3;simp at e5
 have hT:dw Xs (D1++d::eG)=tI Xs ((d::eG).getLastD 0) D1++d::tI Xs d eG:=by
  unfold dw;rw[O3,YV D1 (by simp) 0 0]
  congr 1;have:D1.getLastD ((d::eG).getLastD 0)=z:=by
   cases hD:D1 with
   |nil=>
    rw[hD] at hz1;simp only[q9] at hz1;rw[<-hz1];rfl
   |cons x D=>
    rw[<-hz1,hD,YV (d::eG) (by simp) 0 0]
    cases D<;>rfl
  rw[this];show(if eW (xi Xs d) (xi Xs z)=0 then[] else[d])++tI Xs d eG=_
  rw[af hturn];rfl
 have hT':dw Xs (d::eG++D1)=(d::tI Xs d eG)++tI Xs ((d::eG).getLastD 0) D1:=by
  unfold dw;rw[hz1,O3];congr 1;show(if eW (xi Xs d) (xi Xs z)=0 then[] else[d])++tI Xs d eG=_
  rw[af hturn];rfl
 have O5:∀x∈dw Xs (D1++d::eG),x∈D1++d::eG:=fun x hx=>AQ Xs _ _ x hx
 have hmem:∀x,x∈D1++d::eG↔x∈d::eG++D1:=fun x=>by simp;constructor<;>(rintro(q|q|q)<;>simp[q])
 have YW:∀x∈D1++d::eG,x≠d->bn (xi Xs d).f (xi Xs x).f<0:=fun x hx hne=>by
  have hx':=(hmem x).1 hx;have hg:=hR.least (pi l Xs d) (by simp) (pi l Xs x) (aN.2 ⟨x,hx',rfl⟩)
  refine SX.geq h (SX.o8 h yq).1 (SX.o8 h (hl x hx)).1 hg fun e=>?_
  have hx2:x∈eG++D1:=by
   rcases aP.1 hx' with q|q
   ·exact absurd q hne
   ·exact q
  have zn:=hR.ring.mK;simp only[kZ,eI,fK] at zn;exact zn.1 (pi l Xs x) (aN.2 ⟨x,hx2,rfl⟩) (au (PM (aa l)) e)
 have Oo:jZ Xs (dw Xs (D1++d::eG))=d:=by
  unfold jZ;have hne:dw Xs (D1++d::eG)≠[]:=by rw[hT];simp
  obtain⟨m,U',eU⟩:∃m U',dw Xs (D1++d::eG)=m::U':=by
   cases q:dw Xs (D1++d::eG) with
   |nil=>exact absurd q hne
   |cons m U'=>exact⟨m,U',rfl⟩
  rw[eU];refine JN U' m ?_ (fun x hx O6=>?_) (fun x hx k=>?_)
  ·rw[<-eU,hT];simp
  ·rw[<-eU] at hx;exact YW x (O5 x hx) O6
  ·rw[<-eU] at hx;by_cases e:x=d
   ·subst e;rw[wD] at k;omega
   ·have:=YW x (O5 x hx) e;rw[AA] at k this;exact Ge.lt_irrefl _ (Ge.lt_trans (Ge.df (h.nl.can _ (SX.o8 h yq).1)) (Ge.df (h.nl.can _ (SX.o8 h (hl x (O5 x hx))).1)) (Ge.df (h.nl.can _ (SX.o8 h yq).1)) this k)
 have Oq:sO Xs (dw Xs (D1++d::eG))=(tI Xs ((d::eG).getLastD 0) D1).length:=by
  unfold sO fR;rw[Oo,hT];rcases JB (P:=fun j=>j == d) (tI Xs ((d::eG).getLastD 0) D1++d::tI Xs d eG) 0 with⟨_,q2⟩|⟨R,x,q1,q2,q3,q4⟩
  ·have:=q2 d (by simp)
   simp at this
  ·rw[q1];have O6:x=d:=by simpa using q3
   subst O6;have ajQ:x∉tI Xs ((x::eG).getLastD 0) D1:=fun k=>by
    have k1:=AQ Xs _ _ x k;rw[kZ] at hnd;exact(FU.1 hnd).1 (by simp[k1])
   have h1:¬R<(tI Xs ((x::eG).getLastD 0) D1).length:=fun k=>by
    rw[fC k] at q2;exact ajQ (aZ q2)
   have h2:¬(tI Xs ((x::eG).getLastD 0) D1).length<R:=fun k=>by
    have:=q4 (tI Xs ((x::eG).getLastD 0) D1).length x k (by rw[n9 (ay _)];simp)
    simp at this
   omega
 unfold di;rw[Oq,hT',hT,abh,List.take_left]
structure Rel(l:List Nd)(Xs:List PB)(q:List Nat)(R:List Sg):Prop where
 lr:LR (sS (aa l) Xs) (iA (aa l) Xs) R
 aY:(Go.Proofs.YtkjhhooecopolaaGreatDoor.fr Xs q).map (PM (aa l))=aY R
 sh:cC Xs q=true↔shl R
theorem SX.rel(h:SX rg l r Xs)(hB:BD Xs){D:List Nat}(hl:∀a∈D,a<Xs.length)(hR:eo (sS (aa l) Xs) (iA (aa l) Xs) (D.map (pi l Xs))):∃R,Rel l Xs (di Xs D) R/\R.Perm (D.map (pi l Xs)):=by
 have hW:=SX.wd h hB;obtain⟨A,B,e,nS⟩:=hR.Q6;obtain⟨D1,D2,rfl,rfl,rfl⟩:=List.map_eq_append_iff.1 e;have an8:D2≠[]\/D1=[]/\D2≠[]\/D2=[]:=by by_cases q:D2=[]<;>simp[q]
 have key:∀D1 D2:List Nat,(∀a∈D1++D2,a<Xs.length)->LR (sS (aa l) Xs) (iA (aa l) Xs) ((D2++D1).map (pi l Xs))->D2≠[]->Rel l Xs (di Xs (D1++D2)) ((D2++D1).map (pi l Xs)):=by
  intro D1 D2 hl nS h2;have er:=SX.ring h hB hl nS h2;rw[er];have hne:D2++D1≠[]:=by simp[h2]
  obtain⟨z,hz⟩:∃z,(D2++D1).getLast?=some z:=by
   cases q:(D2++D1).getLast? with
   |none=>exact absurd (yR.1 q) hne
   |some z=>exact⟨z,rfl⟩
  have hl':∀a∈D2++D1,a<Xs.length:=fun a ha=>hl a (by simp at ha⊢;exact ha.symm)
  have hzl:=hl' z (pB hz);have hlast:(D2++D1).getLastD 0=z:=by rw[jE,hz];rfl
  have YX:((D2++D1).map (pi l Xs)).getLastD s0=pi l Xs z:=by rw[jE,Cn,hz];rfl
  have ht:(dw Xs (D2++D1)).map (pi l Xs)=Gb.tG (pi l Xs z) ((D2++D1).map (pi l Xs)):=by
   unfold dw;rw[hlast];exact SX.tG h _ z hzl hl'
  have YY:(Go.Proofs.YtkjhhooecopolaaGreatDoor.fr Xs (dw Xs (D2++D1))).map (PM (aa l))=Gb.aY ((D2++D1).map (pi l Xs)):=by
   unfold Gb.aY;rw[YX,<-ht];unfold Go.Proofs.YtkjhhooecopolaaGreatDoor.fr;rw[fL,fL];rfl
  refine⟨nS,YY,?_⟩;obtain⟨a,T,t,U,e1,e2,e3,_⟩:=nS.Cq hW;have Er:((D2++D1).map (pi l Xs)).getLast?=some (pi l Xs z):=by rw[Cn,hz];rfl
  have YZ:=nS.ring.mem;have hp:=nS.ring.path (a:=a) (by rw[e1];rfl)
  have hlen:=au List.length YY;have hq:(dw Xs (D2++D1)).map (pi l Xs)=a::Gb.tG a T:=by
   rw[ht,e1];show(if cr (dr (pi l Xs z)) (dr a)=0 then Gb.tG a T else a::Gb.tG a T)=_
   by_cases hc:cr (dr (pi l Xs z)) (dr a)=0
   ·exfalso;unfold Gb.aY at e3;rw[YX,e1] at e3;have e4:Gb.tG (pi l Xs z) (a::T)=Gb.tG a T:=by
     show(if cr (dr (pi l Xs z)) (dr a)=0 then _ else _)=_
     rw[aj hc]
    rw[e4,e2] at e3;have:=au List.length e3;simp at this
   ·rw[af hc]
  obtain⟨x,V,eV⟩:∃x V,dw Xs (D2++D1)=x::V:=by
   cases q:dw Xs (D2++D1) with
   |nil=>rw[q] at hq;cases hq
   |cons x V=>exact⟨x,V,rfl⟩
  have tX:∀y∈dw Xs (D2++D1),y<Xs.length:=fun y hy=>hl' y (AQ Xs _ _ y hy)
  rw[eV] at hq tX⊢;rw[eI] at hq;injection hq with q1 q2;have hxl:=tX x (by simp)
  obtain⟨y,hy⟩:∃y,(x::V).getLast?=some y:=by
   cases q:(x::V).getLast? with
   |none=>exact absurd (yR.1 q) (by simp)
   |some z=>exact⟨z,rfl⟩
  have hyl:=tX y (pB hy);have hyG:(Gb.tG a T).getLastD a=pi l Xs y:=by
   rw[<-q2,<-q1];have e:((x::V).map (pi l Xs)).getLast?=some (pi l Xs y):=by rw[Cn,hy];rfl
   have e':(V.map (pi l Xs)).getLastD (pi l Xs x)=((x::V).map (pi l Xs)).getLastD (pi l Xs x):=by rw[eI];cases V.map (pi l Xs)<;>rfl
   rw[e',jE,e];rfl
  have Ep:a∈sS (aa l) Xs:=YZ a (by rw[e1];simp)
  have hTS:∀s∈T,s∈sS (aa l) Xs:=fun s hs=>YZ s (by rw[e1];simp[hs])
  have hsm:=hW.O2 T a a a.1 Ep hTS (by rw[e1] at hp;exact hp.2) (jJ (hW.dK Ep))
  have qR:T.getLastD a=pi l Xs z:=by
   have:(a::T).getLast?=some (pi l Xs z):=by rw[<-e1];exact Er
   have e':T.getLastD a=(a::T).getLastD a:=by cases T<;>rfl
   rw[e',jE,this];rfl
  rw[hyG,qR] at hsm;unfold cC;have g1:(x::V).getLastD 0=y:=by rw[jE,hy];rfl
  have g2:(x::V).headD 0=x:=rfl;rw[g1,g2,pE,(SX.dQ h hyl hxl).2,q1];have hs:=(oQ hsm (dr a)).1;rw[bT (dr (pi l Xs y)),bT (dr (pi l Xs z))] at hs;have ajU:0<cr (dr (pi l Xs y)) (dr a)↔0<cr (dr (pi l Xs z)) (dr a):=by
   have s1:=(oQ hsm (dr a));have s2:=oQ hsm (neg (dr a));rw[dI,dI] at s2;have x1:cr (dr (pi l Xs y)) (dr a)= -cr (dr a) (dr (pi l Xs y)):=bT _ _;have x2:cr (dr (pi l Xs z)) (dr a)= -cr (dr a) (dr (pi l Xs z)):=bT _ _;rw[x1,x2];exact s2.1
  rw[ajU];constructor
  ·intro k;exact⟨a,pi l Xs z,by rw[e1];rfl,Er,k⟩
  ·rintro⟨a',z',ha',hz',k⟩;rw[e1] at ha';obtain rfl:a=a':=gA ha';rw[Er] at hz';obtain rfl:pi l Xs z=z':=gA hz';exact k
 by_cases q:D2=[]
 ·subst q;refine⟨D1.map (pi l Xs),?_,by simp⟩
  have hne:D1≠[]:=fun e=>hR.ne (by rw[e];rfl)
  have:=key [] D1 (by simpa using hl) (by simpa using nS) hne
  simpa using this
 ·refine⟨(D2++D1).map (pi l Xs),key D1 D2 hl (by rw[ja];exact nS) q,?_⟩
  exact(FH).map _
end
theorem pick{α β γ:Type}{P:α->β->Prop}{φ:α->List γ}{ψ:β->List γ}:∀(Ds:List α),(∀D∈Ds,∃R,P D R/\(ψ R).Perm (φ D))->∃Z:List (α×β),Z.map Prod.fst=Ds/\(∀z∈Z,P z.1 z.2)/\(Z.map fun z=>ψ z.2).flatten.Perm (Ds.map φ).flatten
 |[],_=>⟨[],rfl,by simp,by simp⟩
 |D::Ds,h=>by
  obtain⟨Z,e,h1,h2⟩:=pick Ds fun D' hD'=>h D' (aT _ hD')
  obtain⟨R,hR,hp⟩:=h D (by simp)
  refine⟨(D,R)::Z,by simp[e],fun z hz=>?_,?_⟩
  ·rcases aP.1 hz with q|q
   ·rw[q];exact hR
   ·exact h1 z q
  ·simp only[eI,tN];exact hp.append h2
section
variable{rg:List (List Pt)}{l:List Nd}{r:Int}{Xs:List PB}
theorem E7{nx:Nat->Nat}{mk:Nat->Bool}{n k:Nat}{L:List Nat}(hc:nW nx mk n k L):(∀t,t+1<L.length->L.getD (t+1) 0=nx (L.getD t 0))/\L.getD 0 0=k/\nx (L.getD (L.length-1) 0)=k/\0<L.length:=by
 have h0:=bZ.1 hc.head;refine⟨fun t ht=>?_,?_,?_,h0.1⟩
 ·have a:L[t]?=some L[t]:=aC (by omega)
  have b:L[t+1]?=some L[t+1]:=aC ht;rw[lS,lS,a,b];exact hc.step t _ _ a b
 ·rw[lS,hc.head];rfl
 ·obtain⟨hp,_⟩:=h0;have hp1:L.length-1<L.length:=by omega
  have a:L[L.length-1]?=some L[L.length-1]:=aC hp1;rw[lS,a];exact hc.back _ (by rw[mH];exact a)
theorem SX.it(h:SX rg l r Xs){mk:Nat->Bool}{k:Nat}{L:List Nat}(hc:nW (cJ Xs) mk Xs.length k L):∀t,t<L.length->Gb.it (iA (aa l) Xs) t (pi l Xs k)=pi l Xs (L.getD t 0)
 |0,_=>by rw[(E7 hc).2.1];rfl
 |t+1,ht=>by
  have ih:=SX.it h hc t (by omega)
  show iA (aa l) Xs (Gb.it (iA (aa l) Xs) t (pi l Xs k))=_;rw[ih,(E7 hc).1 t ht];refine yt h (hc.free _ ?_).1;rw[lS,aC (by omega)]
  exact gw _
theorem uP{L:List Nat}{t:Nat}(ht:t<L.length):L.getD t 0∈L:=by
 rw[lS,aC ht];exact gw _
theorem SX.Y0(h:SX rg l r Xs){mk:Nat->Bool}{k:Nat}{L:List Nat}(hc:nW (cJ Xs) mk Xs.length k L):Cm (iA (aa l) Xs) (pi l Xs k) L.length:=by
 obtain⟨_,_,g3,g4⟩:=E7 hc;refine⟨g4,?_,fun i j hi hj e=>?_⟩
 ·have e:L.length=(L.length-1)+1:=by omega
  rw[e];show iA (aa l) Xs (Gb.it (iA (aa l) Xs) (L.length-1) (pi l Xs k))=_;rw[SX.it h hc _ (by omega),yt h (hc.free _ (uP (by omega))).1,g3]
 ·rw[SX.it h hc i hi,SX.it h hc j hj] at e;have:=SX.AH h (hc.free _ (uP hi)).1 (hc.free _ (uP hj)).1 e;rw[lS,lS,aC hi,aC hj] at this;exact(List.getElem_inj hc.nd).1 this
theorem Y4(L:List Nat):(List.range L.length).map (fun t=>L.getD t 0)=L:=by
 refine xg (by simp) fun i h1 h2=>?_
 simp[List.getD_eq_getElem?_getD,h2]
theorem SX.rings(h:SX rg l r Xs)(hB:BD Xs){mk:Nat->Bool}{k:Nat}{L:List Nat}(hc:nW (cJ Xs) mk Xs.length k L):∃Z:List (List Nat×List Sg),Z.map Prod.fst=bp Xs L/\(∀z∈Z,Rel l Xs z.1 z.2)/\(Z.map Prod.snd).flatten.Perm (L.map (pi l Xs)):=by
 have hW:=SX.wd h hB;have hC:=SX.Y0 h hc;obtain⟨_,g2,_,g4⟩:=E7 hc;have hk:k<Xs.length:=by rw[<-g2];exact(hc.free _ (uP g4)).1
 have uN:pi l Xs k∈sS (aa l) Xs:=Ei _ hk;have hlt:∀t,t<L.length->L.getD t 0<Xs.length:=fun t ht=>(hc.free _ (uP ht)).1
 obtain⟨_,hperm,ajV⟩:=parted (f:=fun i=>(Gb.it (iA (aa l) Xs) i (pi l Xs k)).1) (m:=L.length) (hW.nc uN hC) (fun j hj e=>by
   rw[hW.ou uN] at e;exact hW.ne _ (hW.iG uN j) e) (by show(Gb.it (iA (aa l) Xs) L.length (pi l Xs k)).1=_;rw[hC.per];rfl)
  (fun i=>nj (fun i j=>kV Xs (L.getD i 0) (L.getD j 0)) (List.range i)) rfl (fun i hi=>by
   show xp _ i _ (nj _ (List.range (i+1)));rw[FD,YT];refine ajO _ i _ fun o ho=>?_
   have Y5:o<L.length:=by
    rcases bQ.1 ho with q|q
    ·have:=YU _ i o q;omega
    ·have:=bY.1 q;omega
   show kV Xs (L.getD i 0) (L.getD o 0)=true↔(Gb.it (iA (aa l) Xs) o (pi l Xs k)).1=(Gb.it (iA (aa l) Xs) (i+1) (pi l Xs k)).1;rw[hW.ou uN,SX.it h hc i hi,SX.it h hc o Y5];unfold kV;rw[pE];constructor
   ·intro e;exact au (PM (aa l)) e.symm
   ·intro e;exact(oW h.nl (SX.o8 h (hlt o Y5)).1 (SX.o8 h (hlt i hi)).2 e).symm)
 have hE:bp Xs L=((nj (fun i j=>kV Xs (L.getD i 0) (L.getD j 0)) (List.range L.length)).2.map fun D=>D.map fun t=>L.getD t 0).map (di Xs):=by
  rw[ajK];have:=ajM (kV Xs) (fun t=>L.getD t 0) (List.range L.length)
  rw[Y4] at this;rw[this]
 generalize(nj (fun i j=>kV Xs (L.getD i 0) (L.getD j 0)) (List.range L.length)).2=Ds at*
 obtain⟨Z,e1,e2,e3⟩:=pick (P:=fun D R=>Rel l Xs (di Xs (D.map fun t=>L.getD t 0)) R) (φ:=fun D=>(D.map fun t=>L.getD t 0).map (pi l Xs)) (ψ:=fun R=>R) Ds fun D hD=>by
  obtain⟨d,hd⟩:=ajV D hD;refine SX.rel h hB (fun a ha=>?_) ?_
  ·obtain⟨t,ht,rfl⟩:=aN.1 ha;exact hlt t (hd.lt t ht)
  ·have:=hd.ring hW uN hC;have e:(D.map fun t=>L.getD t 0).map (pi l Xs)=D.map fun t=>Gb.it (iA (aa l) Xs) t (pi l Xs k):=by
    rw[fL];exact rB fun t ht=>(SX.it h hc t (hd.lt t ht)).symm
   rw[e];exact this
 refine⟨Z.map fun z=>(di Xs (z.1.map fun t=>L.getD t 0),z.2),?_,fun z hz=>?_,?_⟩
 ·rw[hE,fL,fL,<-e1,fL];rfl
 ·obtain⟨y,hy,rfl⟩:=aN.1 hz;exact e2 y hy
 ·rw[fL];refine e3.trans ?_;have e4:(Ds.map fun D=>(D.map fun t=>L.getD t 0).map (pi l Xs)).flatten=Ds.flatten.map fun t=>pi l Xs (L.getD t 0):=by
   rw[List.map_flatten];congr 1;refine rB fun D _=>?_
   rw[fL];rfl
  rw[e4];refine(hperm.map _).trans ?_;have e5:(List.range L.length).map (fun t=>pi l Xs (L.getD t 0))=L.map (pi l Xs):=by
   have:=au (List.map (pi l Xs)) (Y4 L);rw[fL] at this;exact this
  rw[e5]
theorem JO{M:Int}(hM:0<M){a b:Nd}(ha:OK M a)(hb:OK M b):a.2.2*b.2.2*(dr (PM M a,PM M b)).1=M*(wv a b).1/\a.2.2*b.2.2*(dr (PM M a,PM M b)).2=M*(wv a b).2:=by
 obtain⟨k,hk,e,e1⟩:=D5 hM ha.p ha.d;obtain⟨j,hj,f,f1⟩:=D5 hM hb.p hb.d;rw[e1,f1];constructor
 ·show a.2.2*b.2.2*(b.1*j-a.1*k)=M*(a.2.2*b.1-b.2.2*a.1);have:a.2.2*b.2.2*(b.1*j-a.1*k)=a.2.2*b.1*(b.2.2*j)-b.2.2*a.1*(a.2.2*k):=by grind
  rw[this,e,f]
  grind
 ·show a.2.2*b.2.2*(b.2.1*j-a.2.1*k)=M*(a.2.2*b.2.1-b.2.2*a.2.1);have:a.2.2*b.2.2*(b.2.1*j-a.2.1*k)=a.2.2*b.2.1*(b.2.2*j)-b.2.2*a.2.1*(a.2.2*k):=by grind
  rw[this,e,f]
  grind
theorem JP{n a b:Pt}:dQ (n1 n) a b↔(dr (n,a)).1<=0/\0<(dr (n,b)).1:=by unfold dQ;rw[cd,cd]
theorem JQ{n a b:Pt}(h:dQ (n1 n) a b):kW (n1 n) (a,b)=(dr (a,b)).1/\kY (n1 n) (a,b)= -cr (dr (a,b)) (dr (a,n))/\kS (n1 n) (a,b)=(dr (a,b)).2:=by
 obtain⟨x,y,z,_⟩:=AK h;rw[x,y,z,cd,cd];refine⟨by unfold dr;simp only;omega,?_,by unfold dr;simp only;omega⟩
 unfold cr dr;simp only;grind
theorem SX.j6(h:SX rg l r Xs){n:Nd}(hn:n∈l){i:Nat}(hi:i<Xs.length):jA Xs n i=true↔Gb.dQ (n1 (PM (aa l) n)) (pi l Xs i).1 (pi l Xs i).2/\kY (n1 (PM (aa l) n)) (pi l Xs i)<0:=by
 obtain⟨hM,hO⟩:=bC.ok h.nl;obtain⟨hf,ht⟩:=SX.o8 h hi;have p1:=fO hM (hO n hn) (hO _ hf);have p2:=fO hM (hO n hn) (hO _ ht);have p3:=fO hM (hO _ hf) (hO _ ht);have p4:=fO hM (hO _ hf) (hO n hn);have c:=(p3.cr p4).1;obtain⟨p,q,hp,hq,e1,_⟩:=p1;obtain⟨p',q',hp',hq',e2,_⟩:=p2;have g1:=iJ hp hq e1;have g2:=iJ hp' hq' e2;have w1:n.1*(xi Xs i).f.2.2<(xi Xs i).f.1*n.2.2↔0<(wv n (xi Xs i).f).1:=by
  unfold wv;simp only;rw[dX n.2.2,dX (xi Xs i).f.2.2];omega
 have w2:n.1*(xi Xs i).t.2.2<(xi Xs i).t.1*n.2.2↔0<(wv n (xi Xs i).t).1:=by
  unfold wv;simp only;rw[dX n.2.2,dX (xi Xs i).t.2.2];omega
 unfold jA;rw[pj,pj,Qz,QA,pE,pE,w1,w2];constructor
 ·rintro⟨⟨k1,k2⟩,k3⟩;have hcr:Gb.dQ (n1 (PM (aa l) n)) (pi l Xs i).1 (pi l Xs i).2:=JP.2 ⟨by show(dr (PM (aa l) n,PM (aa l) (xi Xs i).f)).1<=0;omega,g2.1.2 k2⟩
  refine⟨hcr,?_⟩;have:=(JQ hcr).2.1;show kY (n1 (PM (aa l) n)) ((pi l Xs i).1,(pi l Xs i).2)<0;rw[this];have:=c.2 k3;show -cr (dr (PM (aa l) (xi Xs i).f,PM (aa l) (xi Xs i).t)) (dr (PM (aa l) (xi Xs i).f,PM (aa l) n))<0;omega
 ·rintro⟨hcr,hk⟩;have k1:=(JP.1 hcr).1;have k2:=(JP.1 hcr).2;have:=(JQ hcr).2.1;have hk':kY (n1 (PM (aa l) n)) ((pi l Xs i).1,(pi l Xs i).2)<0:=hk;rw[this] at hk';have hk2: -cr (dr (PM (aa l) (xi Xs i).f,PM (aa l) (xi Xs i).t)) (dr (PM (aa l) (xi Xs i).f,PM (aa l) n))<0:=hk';have Ba:(dr (PM (aa l) n,PM (aa l) (xi Xs i).f)).1<=0:=k1;have wP:0<(dr (PM (aa l) n,PM (aa l) (xi Xs i).t)).1:=k2;exact⟨⟨by omega,g2.1.1 wP⟩,c.1 (by omega)⟩
theorem SX.dep(h:SX rg l r Xs){n:Nd}(hn:n∈l){i j:Nat}(hi:i<Xs.length)(hj:j<Xs.length)(bi:jA Xs n i=true)(bj:jA Xs n j=true):pY n (xi Xs i) (xi Xs j)<0↔aO (n1 (PM (aa l) n)) (pi l Xs j) (pi l Xs i)=true:=by
 obtain⟨hM,hO⟩:=bC.ok h.nl;have ci:=((SX.j6 h hn hi).1 bi).1;have cj:=((SX.j6 h hn hj).1 bj).1;obtain⟨i1,i2,i3⟩:=JQ ci;obtain⟨j1,j2,j3⟩:=JQ cj;obtain⟨fi,ti⟩:=SX.o8 h hi;obtain⟨fj,tj⟩:=SX.o8 h hj;have a1:=JO hM (hO _ fi) (hO _ ti);have a2:=JO hM (hO _ fi) (hO n hn);have b1:=JO hM (hO _ fj) (hO _ tj);have b2:=JO hM (hO _ fj) (hO n hn);have hp1:=(hO _ fi).p;have hp2:=(hO _ ti).p;have qA:=(hO _ fj).p;have Y6:=(hO _ tj).p;have Y7:=(hO n hn).p;have cc:=(SX.dQ h hi hj);have Y8:=wE (xi Xs i) (xi Xs j);have hcS:=(SX.pd h hi).cr (SX.pd h hj);have I6:=O4 (cr (wv (xi Xs i).f (xi Xs i).t) (wv (xi Xs j).f (xi Xs j).t));have e1:∀i,((pi l Xs i).1,(pi l Xs i).2)=pi l Xs i:=fun i=>rfl
 rw[e1] at i1 i2 i3 j1 j2 j3;have key:∃p q:Int,0<p/\0<q/\p*(kY (n1 (PM (aa l) n)) (pi l Xs j)*kW (n1 (PM (aa l) n)) (pi l Xs i)-kY (n1 (PM (aa l) n)) (pi l Xs i)*kW (n1 (PM (aa l) n)) (pi l Xs j))=q*(cr (wv (xi Xs i).f (xi Xs i).t) (wv (xi Xs i).f n)*((xi Xs j).f.2.2*(wv (xi Xs j).f (xi Xs j).t).1)-cr (wv (xi Xs j).f (xi Xs j).t) (wv (xi Xs j).f n)*((xi Xs i).f.2.2*(wv (xi Xs i).f (xi Xs i).t).1)):=by
  rw[i1,i2,j1,j2];refine⟨((xi Xs i).f.2.2*(xi Xs i).t.2.2)*((xi Xs i).f.2.2*n.2.2)*((xi Xs j).f.2.2*(xi Xs j).t.2.2)*(xi Xs j).f.2.2,aa l*aa l*aa l,aR (aR (aR (aR hp1 hp2) (aR hp1 Y7)) (aR qA Y6)) qA,aR (aR hM hM) hM,?_⟩;have x1:dr ((pi l Xs i).1,(pi l Xs i).2)=dr (PM (aa l) (xi Xs i).f,PM (aa l) (xi Xs i).t):=rfl;have x2:dr ((pi l Xs i).1,PM (aa l) n)=dr (PM (aa l) (xi Xs i).f,PM (aa l) n):=rfl;have y1:dr ((pi l Xs j).1,(pi l Xs j).2)=dr (PM (aa l) (xi Xs j).f,PM (aa l) (xi Xs j).t):=rfl;have y2:dr ((pi l Xs j).1,PM (aa l) n)=dr (PM (aa l) (xi Xs j).f,PM (aa l) n):=rfl;have Y9:dr (pi l Xs i)=dr (PM (aa l) (xi Xs i).f,PM (aa l) (xi Xs i).t):=rfl;have y1':dr (pi l Xs j)=dr (PM (aa l) (xi Xs j).f,PM (aa l) (xi Xs j).t):=rfl
  first |rw[x1,x2,y1,y2]|rw[Y9,x2,y1',y2]
  generalize dr (PM (aa l) (xi Xs i).f,PM (aa l) (xi Xs i).t)=A at*;generalize dr (PM (aa l) (xi Xs i).f,PM (aa l) n)=B at*;generalize dr (PM (aa l) (xi Xs j).f,PM (aa l) (xi Xs j).t)=C at*;generalize dr (PM (aa l) (xi Xs j).f,PM (aa l) n)=D at*;generalize wv (xi Xs i).f (xi Xs i).t=A' at*;generalize wv (xi Xs i).f n=B' at*;generalize wv (xi Xs j).f (xi Xs j).t=C' at*;generalize wv (xi Xs j).f n=D' at*;generalize(xi Xs i).f.2.2=f1 at*;generalize(xi Xs i).t.2.2=t1 at*;generalize(xi Xs j).f.2.2=f2 at*;generalize(xi Xs j).t.2.2=t2 at*;generalize n.2.2=nn at*;generalize aa l=M at*;clear i1 i2 i3 j1 j2 j3 ci cj cc Y8 hcS I6 e1 x1 x2 y1 y2 Y9 y1' hp1 hp2 qA Y6 Y7;have u1:f1*t1*(f1*nn)*cr A B=M*M*cr A' B':=by
   have:f1*t1*(f1*nn)*cr A B=(f1*t1*A.1)*(f1*nn*B.2)-(f1*t1*A.2)*(f1*nn*B.1):=by unfold cr;grind
   rw[this,a1.1,a1.2,a2.1,a2.2];unfold cr;grind
  have u2:f2*t2*(f2*nn)*cr C D=M*M*cr C' D':=by
   have:f2*t2*(f2*nn)*cr C D=(f2*t2*C.1)*(f2*nn*D.2)-(f2*t2*C.2)*(f2*nn*D.1):=by unfold cr;grind
   rw[this,b1.1,b1.2,b2.1,b2.2];unfold cr;grind
  have v:f1*t1*(f1*nn)*(f2*t2)*f2*(-cr C D*A.1- -cr A B*C.1)=f2*(f1*t1*(f1*nn)*cr A B)*(f2*t2*C.1)-f1*(f2*t2*(f2*nn)*cr C D)*(f1*t1*A.1):=by grind
  rw[v,u1,u2,a1.1,b1.1]
  grind
 obtain⟨p,q,hp,hq,ek⟩:=key;have sk:=iJ hp hq ek;have sd:=O4 (cr (wv (xi Xs i).f (xi Xs i).t) (wv (xi Xs i).f n)*((xi Xs j).f.2.2*(wv (xi Xs j).f (xi Xs j).t).1)-cr (wv (xi Xs j).f (xi Xs j).t) (wv (xi Xs j).f n)*((xi Xs i).f.2.2*(wv (xi Xs i).f (xi Xs i).t).1));have hS:kS (n1 (PM (aa l) n)) (pi l Xs j)*kW (n1 (PM (aa l) n)) (pi l Xs i)<kS (n1 (PM (aa l) n)) (pi l Xs i)*kW (n1 (PM (aa l) n)) (pi l Xs j)↔cr (dr (pi l Xs i)) (dr (pi l Xs j))<0:=by
  rw[i1,i3,j1,j3];have:cr (dr (pi l Xs i)) (dr (pi l Xs j))=(dr (pi l Xs j)).2*(dr (pi l Xs i)).1-(dr (pi l Xs i)).2*(dr (pi l Xs j)).1:=by unfold cr;grind
  have e3:∀i,dr ((pi l Xs i).1,(pi l Xs i).2)=dr (pi l Xs i):=fun i=>rfl
  rw[this]
  first |(rw[e3,e3];omega)|omega
 rw[Ax,hS];unfold pY EF;by_cases hz:(cr (wv (xi Xs i).f (xi Xs i).t) (wv (xi Xs i).f n)*((xi Xs j).f.2.2*(wv (xi Xs j).f (xi Xs j).t).1)-cr (wv (xi Xs j).f (xi Xs j).t) (wv (xi Xs j).f n)*((xi Xs i).f.2.2*(wv (xi Xs i).f (xi Xs i).t).1)).sign=0
 ·rw[aj hz,Y8];omega
 ·rw[af hz];omega
theorem Za{cf:Nat->Nat->Int}:∀(L:List Nat)(m:Nat),(∀a∈m::L,∀b∈m::L,∀c∈m::L,cf a b<0->cf c b<0\/cf a c<0)->(∀a∈m::L,∀b∈m::L,cf a b<0->¬cf b a<0)->bG cf L m∈m::L/\∀k∈m::L,¬cf k (bG cf L m)<0
 |[],m,_,ha=>⟨by simp[bG],fun k hk e=>by
  have:k=m:=bY.1 hk;subst this;exact ha k (by simp) k (by simp) e e⟩
 |b::L,m,hw,ha=>by
  unfold bG;have sub:∀x∈(if cf b m<0 then b else m)::L,x∈m::b::L:=fun x hx=>by
   rcases aP.1 hx with q|q
   ·rw[q];split<;>simp
   ·simp[q]
  obtain⟨h1,h2⟩:=Za L (if cf b m<0 then b else m) (fun a ha b hb c hc=>hw a (sub a ha) b (sub b hb) c (sub c hc)) (fun a h1 b h2=>ha a (sub a h1) b (sub b h2))
  refine⟨sub _ h1,fun k hk e=>?_⟩
  have hr:=sub _ h1;by_cases jL:cf b m<0
  ·rw[aj jL] at h1 h2 e hr;rcases aP.1 hk with q|q
   ·subst q;rcases hw k (by simp) _ hr b (by simp) e with w|w
    ·exact h2 b (by simp) w
    ·exact ha b (by simp) k (by simp) jL w
   ·exact h2 k (by rcases aP.1 q with q|q<;>simp[q]) e
  ·rw[af jL] at h1 h2 e hr;rcases aP.1 hk with q|q
   ·exact h2 k (by simp[q]) e
   ·rcases aP.1 q with q|q
    ·subst q;rcases hw k (by simp) _ hr m (by simp) e with w|w
     ·exact h2 m (by simp) w
     ·exact jL w
    ·exact h2 k (by simp[q]) e
theorem SX.lowest(h:SX rg l r Xs){n:Nd}(hn:n∈l)(hs:dW Xs n Xs.length≠[]):ij Xs n<Xs.length/\jA Xs n (ij Xs n)=true/\∀i,i<Xs.length->jA Xs n i=true->aO (n1 (PM (aa l) n)) (pi l Xs (ij Xs n)) (pi l Xs i)=false:=by
 obtain⟨m,L,e⟩:∃m L,dW Xs n Xs.length=m::L:=by
  cases q:dW Xs n Xs.length with
  |nil=>exact absurd q hs
  |cons m L=>exact⟨m,L,rfl⟩
 have mem:∀i,i∈m::L↔i<Xs.length/\jA Xs n i=true:=fun i=>by
  rw[<-e];unfold dW;rw[eY,qi]
 have pW:ij Xs n=bG (fun i j=>pY n (xi Xs i) (xi Xs j)) L m:=by unfold ij;rw[e];rfl
 have dk:∀i∈m::L,∀j∈m::L,pY n (xi Xs i) (xi Xs j)<0↔aO (n1 (PM (aa l) n)) (pi l Xs j) (pi l Xs i)=true:=fun i hi j hj=>SX.dep h hn ((mem i).1 hi).1 ((mem j).1 hj).1 ((mem i).1 hi).2 ((mem j).1 hj).2
 obtain⟨h1,h2⟩:=Za (cf:=fun i j=>pY n (xi Xs i) (xi Xs j)) L m (fun a ha b hb c hc k=>by
   rcases uA _ _ _ (pi l Xs c) ((dk a ha b hb).1 k) with w|w
   ·exact ah ((dk a ha c hc).2 w)
   ·exact ag ((dk c hc b hb).2 w)) (fun a ha b hb k1 k2=>by
   have:=wh _ _ _ _ ((dk a ha b hb).1 k1) ((dk b hb a ha).1 k2);rw[qM] at this;cases this)
 rw[<-pW] at h1 h2;refine⟨((mem _).1 h1).1,((mem _).1 h1).2,fun i hi hb=>?_⟩
 have him:=(mem i).2 ⟨hi,hb⟩;cases q:aO (n1 (PM (aa l) n)) (pi l Xs (ij Xs n)) (pi l Xs i)
 ·rfl
 ·exact absurd ((dk i him _ h1).2 q) (h2 i him)
theorem SX.ajX(h:SX rg l r Xs)(hB:BD Xs){n:Nd}(hn:n∈l)(hin:takes r (Ga.PP (ae rg) n)=true){u:Nat}(hu:u<Xs.length)(kN:jA Xs n u=true)(hmin:∀i,i<Xs.length->jA Xs n i=true->aO (n1 (PM (aa l) n)) (pi l Xs u) (pi l Xs i)=false){es:List Sg}(hcl:Cl es)(hi:In (sS (aa l) Xs) es):Lf es (pi l Xs u)=Ga.PP es (n1 (PM (aa l) n)):=by
 have hW:=SX.wd h hB;have huS:pi l Xs u∈sS (aa l) Xs:=Ei _ hu;obtain⟨Zb,hyu⟩:=(SX.j6 h hn hu).1 kN;have hris:aJ (dr (pi l Xs u)):=by
  have c:=JP.1 Zb;refine ag ?_;have e:(dr (pi l Xs u)).1=(dr (PM (aa l) n,(pi l Xs u).2)).1-(dr (PM (aa l) n,(pi l Xs u).1)).1:=by unfold dr;simp only;omega
  omega
 have hP:=(hW.kK hi huS).1 hris;obtain⟨dm,rfl⟩:=hcl;have ht:=(hts (show(0:Int)<1 by decide) Zb hP).2
 have ha:=(rG hP).2;have e1:Lf (ae dm) (pi l Xs u)=LL (ae dm) (n1 (pi l Xs u).1) (n1 (pi l Xs u).2):=by
  rw[ha,jH];rfl
 rw[e1,ht,MV];refine Ns _ fun e he hw=>?_
 cases q:aO (n1 (PM (aa l) n)) ((pi l Xs u).1,(pi l Xs u).2) e
 ·rw[eN (Jl hyu q)];rfl
 ·
  refine(gv fun JR=>?_).symm
  obtain⟨j,hj,Zc⟩:∃j,j<Xs.length/\(e=pi l Xs j\/e=rv (pi l Xs j)):=by
   rcases hi e he with k|k
   ·obtain⟨j,hj,ej⟩:=jz _ k;exact⟨j,hj,ag ej⟩
   ·obtain⟨j,hj,ej⟩:=jz _ k;exact⟨j,hj,ah (au rv ej)⟩
  have hkj:aO (n1 (PM (aa l) n)) (pi l Xs u) (pi l Xs j)=true:=by
   rcases Zc with k|k
   ·rw[k] at q;exact q
   ·rw[k,(wH _ _ _).2] at q;exact q
  have JS:kY (n1 (PM (aa l) n)) (pi l Xs j)<0:=by
   rcases Zc with k|k
   ·rw[k] at JR;exact JR
   ·rw[k,(El _ _).2.1] at JR;exact JR
  rcases WG JS with c|c
  ·have:=hmin j hj ((SX.j6 h hn hj).2 ⟨c,JS⟩);rw[hkj] at this;cases this
  ·have aj0:kY (n1 (PM (aa l) n)) (PM (aa l) (xi Xs j).t,PM (aa l) (xi Xs j).f)<0:=by
    have:=(El (n1 (PM (aa l) n)) (pi l Xs j)).2.1;rw[<-this] at JS;exact JS
   obtain⟨f,t,hft,cft,yft,kft⟩:=ahb h.nl hn hin (h.sd hj) c aj0;obtain⟨v,hv,v1,v2⟩:=h.find hft;have Zd:pi l Xs v=(PM (aa l) f,PM (aa l) t):=by show(PM (aa l) (xi Xs v).f,PM (aa l) (xi Xs v).t)=_;rw[v1,v2]
   have Iw:=(SX.j6 h hn hv).2 (by rw[Zd];exact⟨cft,yft⟩)
   have k2:aO (n1 (PM (aa l) n)) (pi l Xs j) (pi l Xs v)=true:=by
    rw[Zd];have:=(wH (n1 (PM (aa l) n)) (pi l Xs j) (PM (aa l) f,PM (aa l) t)).1;rw[<-this];exact kft
   have:=hmin v hv Iw;rw[wh _ _ _ _ hkj k2] at this;cases this
theorem SX.aj4(h:SX rg l r Xs)(hB:BD Xs){mk:Nat->Bool}{k:Nat}{L:List Nat}(hc:nW (cJ Xs) mk Xs.length k L)(yJ:Wk Xs k L)(hno:∀ring∈bp Xs L,cC Xs ring=false):Fc (sS (aa l) Xs) (pi l Xs k) (pi l Xs (ij Xs (xi Xs k).f)):=by
 have hW:=SX.wd h hB;have hC:=SX.Y0 h hc;have hk:k<Xs.length:=yJ.lt k (aZ yJ.head);have hn:=(SX.o8 h hk).1;have hin:takes r (Ga.PP (ae rg) (xi Xs k).f)=true:=by
  cases q:takes r (Ga.PP (ae rg) (xi Xs k).f)
  ·obtain⟨ring,hr,hs⟩:=h.XS hB yJ q;rw[hno ring hr] at hs;cases hs
  ·rfl
 obtain⟨Z,e1,e2,e3⟩:=SX.rings h hB hc;have hgt:∀{t},t<L.length->L.getD t 0<Xs.length:=fun ht=>(hc.free _ (uP ht)).1
 intro es hcl hi;obtain⟨l1,l2,l3⟩:=SX.lowest h hn (h.seen hB yJ hno);rw[SX.ajX h hB hn hin l1 l2 l3 hcl hi];refine hW.ahi (Ei _ hk) hC (fun i uI=>?_) (fun R hR yu hs=>?_) hcl hi
 ·rw[SX.it h hc i uI];have hm:=uP uI;have hle:=yJ.least _ hm;rcases K5 (pi l Xs k).1 (pi l Xs (L.getD i 0)).1 with q|q
  ·exact q
  ·by_cases e:(xi Xs (L.getD i 0)).f=(xi Xs k).f
   ·show ge (PM (aa l) (xi Xs k).f) (PM (aa l) (xi Xs (L.getD i 0)).f);rw[e];exact Gm _
   ·exact absurd (SX.geq h (SX.o8 h (hgt uI)).1 hn q e) hle
 ·obtain⟨i,uI,yu⟩:=yu;rw[SX.it h hc i uI] at yu;have hmem:pi l Xs (L.getD i 0)∈(Z.map Prod.snd).flatten:=e3.mem_iff.2 (aN.2 ⟨_,uP uI,rfl⟩);obtain⟨R',hR',hm'⟩:=tO.1 hmem;obtain⟨z,hz,rfl⟩:=aN.1 hR';have hrel:=e2 z hz;have:=hR.eq hW hrel.lr yu hm';rw[this] at hs;have h1:=hrel.sh.2 hs;rw[hno z.1 (by rw[<-e1];exact aN.2 ⟨z,hz,rfl⟩)] at h1
  cases h1
end
end Go.Proofs.YtkjhhooecopolaaGreatDoor.Gb

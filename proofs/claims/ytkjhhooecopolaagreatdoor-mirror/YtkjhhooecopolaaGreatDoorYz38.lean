import Derived.Test.YtkjhhooecopolaaGreatDoorYz37
set_option maxRecDepth 100000
set_option maxHeartbeats 4000000
namespace Go.Proofs.YtkjhhooecopolaaGreatDoor
open Go.RowKit
open Ge
theorem alH(w:World):
  Calls Tryz.prog 69 #[.slice none 0 0] w fun e w'=>e=.returned (.slice none 0 0)/\w'=w:=by
 have HC:Hid (Calls Tryz.prog 116 #[.slice none 0 0] w fun e w'=>e=.returned (.tuple #[])/\w'=w):=aai w
 go_enter Tryz.func69,Tryz.ntmps69
 go_wp2_with fail
 go_loopg [3,13] 0 (fun m lv iv wr=>m=0/\lv=.slice none 0 0/\iv=.int .i64 0/\wr=w)
 case atStart=>exact⟨rfl,rfl,rfl,rfl⟩
 case round=>
  obtain⟨_,rfl,rfl,rfl⟩:=hrel
  go_wp2_with fail
  refine HC.out.mono ?_;rintro e w5 ⟨rfl,rfl⟩;clear HC
  go_wp2_with fail
  go_ret
  exact⟨rfl,rfl⟩
section
variable{rg:List (List Pt)}{l:List Nd}{r:Int}{Ps:List PB}
theorem Qz(hl:l.map ay=gq (ag rg))(hs:∀e∈ag rg,fB e)(h:oI (ag rg) l Ps)(hlen:(oM r (ag rg) Ps).length<=85000000):BD (oM r (ag rg) Ps):=by
 have hne:∀e∈ag rg,e.1≠e.2:=fun e he=>Mt he
 have hv:∀x∈Ps.flatMap (fC r (ag rg)),cU x:=fun x hx=>by
  obtain⟨p,hp,vB⟩:=uq.1 hx;exact Ov (h.v p hp) vB
 obtain⟨hperm,alI⟩:=Yi (Ps.flatMap (fC r (ag rg))) hv;refine⟨fun x hx=>hv x (hperm.mem_iff.1 hx),fun x hx=>?_,?_,hlen⟩
 ·obtain⟨p,hp,vB⟩:=uq.1 (hperm.mem_iff.1 hx);obtain⟨k,hk⟩:=aiH hne hs h hl p hp;rcases JM vB with⟨rfl,_⟩|⟨rfl,_⟩
  ·exact⟨k,hk⟩
  ·exact⟨_,hk.rev⟩
 ·refine alI.imp fun{a b} hab=>?_
  rw[BK];exact hab
def xJ(Xs:List PB):List UInt8:=Kh Xs (vP Xs (aP Xs Xs.length).ps)
theorem alJ(hl:l.map ay=gq (ag rg))(hc:∀n∈l,Ge.Can n)(hs:∀e∈ag rg,fB e)(h:oI (ag rg) l Ps){w1 w0:World}{lv:Value}{bs:List Nat}(jA:BS w1 lv bs (oM r (ag rg) Ps) w0)(hbl:bs.length<=85000000)(cH:Gl w1):
  Calls Tryz.prog 69 #[lv] w0 fun e w'=>∃lp,e=.returned lp/\Below w1.heap.size w1 w'/\Calls Tryz.prog 67 #[lp] w' fun e w''=>e=.returned (.string (ba (xJ (oM r (ag rg) Ps))))/\Below w'.heap.size w' w'':=by
 have hX:=OI (r:=r) hl hc h;have hB:=Qz (r:=r) hl hs h (by rw[<-jA.len];exact hbl)
 generalize oM r (ag rg) Ps=Xs at*;have hb1:=jA.below;rcases jA.own.2 with⟨rfl,h0⟩|⟨g,cap,cur,rfl,hg,hblk,hnc,hcm,hcs,htk⟩
 ·have hb0:bs=[]:=gF.1 h0;have EY:Xs=[]:=gF.1 (by rw[<-jA.len];exact h0)
  subst EY;refine(alH w0).mono ?_;rintro e w' ⟨rfl,rfl⟩;exact⟨_,rfl,hb1,aaw none 0 [] w' (by simp) (by simp[Lib.join,List.intercalate]) (fun k t hk=>by simp at hk)⟩
 ·have hlt:∀b∈bs,b<w0.heap.size:=fun b hb=>jA.lt hb
  have hsw:SW g bs Xs (fun _=>false) (fun _=>none) w0:=by
   refine⟨jA.len,jA.nd,fun hgb=>jA.ne g hgb rfl,fun i hi=>?_,fun i hi=>?_⟩
   ·obtain⟨gT,cT,e,_,_,_,f⟩:=nP jA.own (by omega)
    injection e with e;injection e with e;injection e with e;subst e;exact f i _ (by simp[aL,xw hi])
   ·exact(jA.lies i _ _ (xw hi) (vD (by rw[<-jA.len];exact hi))).2
  have htot:=hX.dK hB Xs.length (ai _);have hgd:=hX.pn hB Xs.length (ai _);have hpv:=hX.pv hB Xs.length (ai _);have JY:=hB.len;have hpl:=hpv.len;refine alb (cap:=cap) hX hB hlt (lt_of_heap hblk) hnc hsw (fun lp w'=>Below w1.heap.size w1 w'/\Calls Tryz.prog 67 #[lp] w' fun e w''=>e=.returned (.string (ba (xJ Xs)))/\Below w'.heap.size w' w'') ?_
  intro lv PH T wr lC Fw hnd hmo xn;refine(alk hB (lt_of_heap hblk) hlt hmo.size lC Fw hgd (by omega) (fun p hp=>?_)).mono ?_
  ·obtain⟨i,hi⟩:=acV.1 hp;have:=hpv.hol i p hi;omega
  ·rintro e w' ⟨rfl,⟨rL,Qq⟩,alK,ak⟩;have hb2:Below w1.heap.size w1 w':=by
    have alL:Below w1.heap.size w1 wr:=hb1.trans ⟨hmo.os,hmo.tape,hmo.output,hmo.size,fun k hk=>hmo.block k (aQ hk hb1.size) (fun hm=>by
     obtain⟨i,hi⟩:=acV.1 hm;have hiX:i<Xs.length:=by rw[<-jA.len];exact(bY.1 hi).1
     have:=(jA.lies i k _ hi (vD hiX)).1;omega)⟩
    exact alL.trans (ak.mono hb1.size)
   refine⟨rfl,hb2,?_⟩;refine alG hB alK Qq (alC hB hgd) ?_ ?_ (cH.below hb2 cH.sz)
   ·rw[alD hB hgd];omega
   ·have:=(Qy hB hgd).length_eq;rw[iQ] at this;omega
end
end Go.Proofs.YtkjhhooecopolaaGreatDoor
namespace Go.Proofs.YtkjhhooecopolaaGreatDoor.Gb
open Ge Ga
section
variable{S:List Sg}{nx:Sg->Sg}
theorem Wd.QA(h:Wd S nx):∀(T:List Sg)(b c:Sg)(e:Pt),b∈S->(∀s∈T,s∈S)->Path b.2 T e->az (dr c) (dr b)=true->az (dr ((tG b T).getLastD c)) (dr (T.getLastD b))=true
 |[],_,_,_,_,_,_,hc=>hc
 |s::T,b,c,e,hb,hm,hp,hc=>by
  have hs:=hm s (by simp)
  have e1:(s::T).getLastD b=T.getLastD s:=by cases T<;>rfl
  rw[e1];unfold tG;by_cases hcr:cr (dr b) (dr s)=0
  ·rw[ah hcr];exact h.QA T s c e hs (fun u hu=>hm u (bz _ hu)) hp.2 (L6 hc (h.SY hb hs hp.1 hcr))
  ·rw[aa hcr];have e2:(s::tG s T).getLastD c=(tG s T).getLastD s:=by cases tG s T<;>rfl
   rw[e2];exact h.QA T s s e hs (fun u hu=>hm u (bz _ hu)) hp.2 (C5 (h.ia hs))
end
def pU(c:Nat->Nat->Bool)(p:List Nat×List (List Nat))(s:Nat):List Nat×List (List Nat):=
 if 0<=fU (c s) (p.1++[s]) then((p.1++[s]).take (fU (c s) (p.1++[s])).toNat,p.2++[(p.1++[s]).drop (fU (c s) (p.1++[s])).toNat]) else(p.1++[s],p.2)
def nR(c:Nat->Nat->Bool)(W:List Nat):List Nat×List (List Nat):=W.foldl (pU c) ([],[])
theorem aaF(c:Nat->Nat->Bool)(W:List Nat)(s:Nat):nR c (W++[s])=pU c (nR c W) s:=by unfold nR;rw[Ll];rfl
theorem alN(Xs:List PB)(W:List Nat):bI Xs W=((nR (ll Xs) W).1,(nR (ll Xs) W).2.map (cV Xs)):=by
 have key:∀(W:List Nat)(p:List Nat×List (List Nat)),W.foldl (jl Xs) (p.1,p.2.map (cV Xs))=((W.foldl (pU (ll Xs)) p).1,(W.foldl (pU (ll Xs)) p).2.map (cV Xs)):=by
  intro W;induction W with
  |nil=>intro p;rfl
  |cons s W ih=>
   intro p;rw[rQ,rQ,<-ih];congr 1;unfold jl pU il;simp only;by_cases h:0<=fU (ll Xs s) (p.1++[s])
   ·rw[ah h,ah h];simp
   ·rw[aa h,aa h]
 exact key W ([],[])
theorem alO(Xs:List PB)(W:List Nat):bp Xs W=(nR (ll Xs) W).2.map (cV Xs):=by unfold bp;rw[alN]
theorem alP{P:Nat->Bool}(g:Nat->Nat)(l:List Nat):fU P (l.map g)=fU (fun x=>P (g x)) l:=JU l 0 fun _ _=>rfl
theorem alQ(c:Nat->Nat->Bool)(g:Nat->Nat)(W:List Nat):nR c (W.map g)=((nR (fun i j=>c (g i) (g j)) W).1.map g,(nR (fun i j=>c (g i) (g j)) W).2.map (·.map g)):=by
 have key:∀(W:List Nat)(p:List Nat×List (List Nat)),(W.map g).foldl (pU c) (p.1.map g,p.2.map (·.map g))=((W.foldl (pU fun i j=>c (g i) (g j)) p).1.map g,(W.foldl (pU fun i j=>c (g i) (g j)) p).2.map (·.map g)):=by
  intro W;induction W with
  |nil=>intro p;rfl
  |cons s W ih=>
   intro p;rw[gU,rQ,rQ,<-ih];congr 1;unfold pU;simp only;have e:p.1.map g++[g s]=(p.1++[s]).map g:=by simp
   rw[e,alP];by_cases h:0<=fU (fun x=>c (g s) (g x)) (p.1++[s])
   ·rw[ah h,ah h];simp
   ·rw[aa h,aa h]
 exact key W ([],[])
theorem alR(c:Nat->Nat->Bool)(p:List Nat×List (List Nat))(s:Nat):∀o∈(pU c p s).1,o∈p.1++[s]:=by
 intro o ho;unfold pU at ho;split at ho
 ·exact nW ho
 ·exact ho
theorem aaG(c:Nat->Nat->Bool):∀(i:Nat),∀o∈(nR c (List.range i)).1,o<i
 |0,o,ho=>by simp[nR] at ho
 |i+1,o,ho=>by
  rw[Gt,aaF] at ho;rcases cu.1 (alR c _ i o ho) with q|q
  ·have:=aaG c i o q;omega
  ·have:=bU.1 q;omega
theorem alS{ν:Type}{f:Nat->ν}(c:Nat->Nat->Bool)(i:Nat)(p:List Nat×List (List Nat))(hc:∀o∈p.1++[i],c i o=true↔f o=f (i+1)):yl f i p (pU c p i):=by
 unfold pU fU;rcases J4 (P:=c i) (p.1++[i]) 0 with⟨h1,h2⟩|⟨R,x,h1,h2,h3,h4⟩
 ·rw[aa (by omega)]
  refine ae ⟨fun o ho e=>?_,rfl⟩
  have:=(hc o ho).2 e;rw[h2 o ho] at this;cases this
 ·have e:(fG (c i) (p.1++[i]) 0).toNat=R:=by rw[h1];omega
  rw[ah (by omega),e]
  have hx:x∈p.1++[i]:=bn h2;refine af ⟨(p.1++[i]).take R,x,(p.1++[i]).drop (R+1),?_,(hc x hx).1 h3,fun o ho k=>?_,?_⟩
  ·rw[<-vI h2,RS]
  ·obtain⟨t,ht,et⟩:=kB.1 ho;have htR:t<R:=by
    have:=ht;rw[iy] at this;omega
   have hg:(p.1++[i])[t]?=some o:=by
    rw[<-et,List.getElem_take];exact aD _
   have:=h4 t o htR hg;rw[(hc o (bn hg)).2 k] at this;cases this
  ·rw[<-vI h2]
theorem QB(Xs:List PB):∀(A:List Nat)(b:Nat)(B:List Nat),tI Xs b (A++B)=tI Xs b A++tI Xs (A.getLastD b) B
 |[],_,_=>rfl
 |a::A,b,B=>by
  have ih:=QB Xs A a B;have e:(a::A).getLastD b=A.getLastD a:=by cases A<;>rfl
  show _++tI Xs a (A++B)=(_++tI Xs a A)++_;rw[ih,e,fI]
theorem Ki{cf:Nat->Nat->Int}{d:Nat}:∀(l:List Nat)(m:Nat),d∈m::l->(∀x∈m::l,x≠d->cf d x<0)->(∀x∈m::l,¬cf x d<0)->bC cf l m=d
 |[],m,h,_,_=>(bU.1 h).symm
 |b::l,m,h,h1,h2=>by
  unfold bC;by_cases e:m=d
  ·subst e;rw[aa (h2 b (by simp))]
   exact Ki l m (by simp) (fun x hx=>h1 x (by rcases aV.1 hx with q|q<;>simp[q])) (fun x hx=>h2 x (by rcases aV.1 hx with q|q<;>simp[q]))
  ·by_cases e2:b=d
   ·subst e2;rw[ah (h1 m (by simp) e)]
    exact Ki l b (by simp) (fun x hx=>h1 x (by rcases aV.1 hx with q|q<;>simp[q])) (fun x hx=>h2 x (by rcases aV.1 hx with q|q<;>simp[q]))
   ·have hd:d∈l:=by
     rcases aV.1 h with q|q
     ·exact absurd q.symm e
     ·rcases aV.1 q with q|q
      ·exact absurd q.symm e2
      ·exact q
    refine Ki l _ (bz _ hd) (fun x hx=>?_) (fun x hx=>?_)
    ·rcases aV.1 hx with q|q
     ·rw[q];split
      ·exact h1 b (by simp)
      ·exact h1 m (by simp)
     ·exact h1 x (by simp[q])
    ·rcases aV.1 hx with q|q
     ·rw[q];split
      ·exact h2 b (by simp)
      ·exact h2 m (by simp)
     ·exact h2 x (by simp[q])
section
variable{rg:List (List Pt)}{l:List Nd}{r:Int}{Xs:List PB}
abbrev pi(l:List Nd)(Xs:List PB)(i:Nat):Sg:=ph (aj l) (xi Xs i)
theorem SX.pd(h:SX rg l r Xs){i:Nat}(hi:i<Xs.length):Pm (dr (pi l Xs i)) (wv (xi Xs i).f (xi Xs i).t):=
 jz (bX.ok h.nl).1 ((bX.ok h.nl).2 _ (gM h.nl (h.sd hi).pc).2.1) ((bX.ok h.nl).2 _ (gM h.nl (h.sd hi).pc).2.2)
theorem SX.pV(h:SX rg l r Xs){i:Nat}(hi:i<Xs.length):(xi Xs i).f∈l/\(xi Xs i).t∈l:=(gM h.nl (h.sd hi).pc).2
theorem QC(x:Int):(x.sign=0↔x=0)/\(0<x.sign↔0<x)/\(x.sign<0↔x<0):=by
 rcases sg x with⟨a,b⟩|⟨a,b⟩|⟨a,b⟩<;>rw[b]<;>omega
theorem SX.gP(h:SX rg l r Xs){i j:Nat}(hi:i<Xs.length)(hj:j<Xs.length):(fq (xi Xs i) (xi Xs j)=0↔cr (dr (pi l Xs i)) (dr (pi l Xs j))=0)/\(0<fq (xi Xs i) (xi Xs j)↔0<cr (dr (pi l Xs i)) (dr (pi l Xs j))):=by
 rw[xy];have a:=QC (cr (wv (xi Xs i).f (xi Xs i).t) (wv (xi Xs j).f (xi Xs j).t));have b:=(SX.pd h hi).cr (SX.pd h hj);exact⟨a.1.trans b.2.2.symm,a.2.1.trans b.1.symm⟩
theorem SX.tG(h:SX rg l r Xs):∀(A:List Nat)(b:Nat),b<Xs.length->(∀a∈A,a<Xs.length)->(tI Xs b A).map (pi l Xs)=Gb.tG (pi l Xs b) (A.map (pi l Xs))
 |[],_,_,_=>rfl
 |s::A,b,hb,hm=>by
  have hs:=hm s (by simp)
  have ih:=SX.tG h A s hs (fun a ha=>hm a (bz _ ha))
  have k:=(SX.gP h hs hb).1;have k2:cr (dr (pi l Xs s)) (dr (pi l Xs b))=0↔cr (dr (pi l Xs b)) (dr (pi l Xs s))=0:=by rw[bZ];omega
  show((if fq (xi Xs s) (xi Xs b)=0 then[] else[s])++tI Xs s A).map (pi l Xs)=if cr (dr (pi l Xs b)) (dr (pi l Xs s))=0 then Gb.tG (pi l Xs s) (A.map (pi l Xs)) else pi l Xs s::Gb.tG (pi l Xs s) (A.map (pi l Xs))
  by_cases hc:fq (xi Xs s) (xi Xs b)=0
  ·rw[ah hc,ah (k2.1 (k.1 hc)),vT,ih]
  ·rw[aa hc,aa (fun e=>hc (k.2 (k2.2 e))),iH,ih]
   rfl
theorem SX.geq(h:SX rg l r Xs){a b:Nd}(ha:a∈l)(hb:b∈l):ge (PM (aj l) a) (PM (aj l) b)->a≠b->bg a b<0:=by
 intro hg hne;have hr:=LQ hg (fun e=>hne (tU h.nl ha hb e))
 have:=(jz (bX.ok h.nl).1 ((bX.ok h.nl).2 a ha) ((bX.ok h.nl).2 b hb)).aS.1 hr;rw[BK];exact(nL (h.nl.can a ha) (h.nl.can b hb)).2 this
theorem aaH{α:Type}(A:List α){B:List α}(hB:B≠[])(d e:α):(A++B).getLastD d=B.getLastD e:=by
 rw[oX,oX,L3 A hB];cases q:B.getLast? with
 |none=>exact absurd (zJ.1 q) hB
 |some z=>rfl
theorem SX.ring(h:SX rg l r Xs)(hB:BD Xs){D1 D2:List Nat}(hl:∀a∈D1++D2,a<Xs.length)(hR:LR (sS (aj l) Xs) (ke (aj l) Xs) ((D2++D1).map (pi l Xs)))(h2:D2≠[]):cV Xs (D1++D2)=dh Xs (D2++D1):=by
 have hW:=SX.wd h hB;obtain⟨d,ez,rfl⟩:∃d ez,D2=d::ez:=by
  cases D2 with
  |nil=>exact absurd rfl h2
  |cons d D=>exact⟨d,D,rfl⟩
 have sM:=hl d (by simp)
 have hnd:(d::ez++D1).Nodup:=by
  have:=hR.ring.nd;exact List.Pairwise.of_map (pi l Xs) (fun a b k e=>k (by rw[e])) this
 have hz:∃z,(d::ez++D1).getLastD 0=z/\z∈d::ez++D1:=by
  refine⟨_,rfl,?_⟩;rw[oX];cases q:(d::ez++D1).getLast? with
  |none=>exact absurd (zJ.1 q) (by simp)
  |some z=>exact uu q
 obtain⟨z,hz1,hz2⟩:=hz;have hzl:z<Xs.length:=hl z (by simp at hz2⊢;rcases hz2 with q|q|q<;>simp[q])
 obtain⟨a,T,t,U,e1,e2,e3,_⟩:=hR.Hi hW;have ha:a=pi l Xs d:=by
  have:(pi l Xs d::(ez++D1).map (pi l Xs))=a::T:=by rw[<-e1];simp
  injection this with q _;exact q.symm
 have hturn:fq (xi Xs d) (xi Xs z)≠0:=fun e=>by
  have hzz:((d::ez++D1).map (pi l Xs)).getLastD s0=pi l Xs z:=by
   rw[oX,C4];rw[oX] at hz1;cases q:(d::ez++D1).getLast? with
   |none=>exact absurd (zJ.1 q) (by simp)
   |some y=>rw[q] at hz1;rw[<-hz1];rfl
  have hc:=((SX.gP h sM hzl).1).1 e;have:cr (dr (pi l Xs z)) (dr (pi l Xs d))=0:=by rw[bZ];omega
  unfold jq at e3;rw[hzz,e1] at e3;have e4:Gb.tG (pi l Xs z) (a::T)=Gb.tG a T:=by
   show(if cr (dr (pi l Xs z)) (dr a)=0 then _ else _)=_
   rw[ha,ah this]
  rw[e4,e2] at e3;have e5:=aw List.length e3;simp at e5
 have hT:dh Xs (D1++d::ez)=tI Xs ((d::ez).getLastD 0) D1++d::tI Xs d ez:=by
  unfold dh;rw[QB,aaH D1 (by simp) 0 0]
  congr 1;have:D1.getLastD ((d::ez).getLastD 0)=z:=by
   cases hD:D1 with
   |nil=>
    rw[hD] at hz1;simp only[rM] at hz1;rw[<-hz1];rfl
   |cons x D=>
    rw[<-hz1,hD,aaH (d::ez) (by simp) 0 0]
    cases D<;>rfl
  rw[this];show(if fq (xi Xs d) (xi Xs z)=0 then[] else[d])++tI Xs d ez=_
  rw[aa hturn];rfl
 have hT':dh Xs (d::ez++D1)=(d::tI Xs d ez)++tI Xs ((d::ez).getLastD 0) D1:=by
  unfold dh;rw[hz1,QB];congr 1;show(if fq (xi Xs d) (xi Xs z)=0 then[] else[d])++tI Xs d ez=_
  rw[aa hturn];rfl
 have QD:∀x∈dh Xs (D1++d::ez),x∈D1++d::ez:=fun x hx=>BR Xs _ _ x hx
 have hmem:∀x,x∈D1++d::ez↔x∈d::ez++D1:=fun x=>by simp;constructor<;>(rintro(q|q|q)<;>simp[q])
 have aaI:∀x∈D1++d::ez,x≠d->bg (xi Xs d).f (xi Xs x).f<0:=fun x hx hne=>by
  have hx':=(hmem x).1 hx;have hg:=hR.least (pi l Xs d) (by simp) (pi l Xs x) (bh.2 ⟨x,hx',rfl⟩)
  refine SX.geq h (SX.pV h sM).1 (SX.pV h (hl x hx)).1 hg fun e=>?_
  have hx2:x∈ez++D1:=by
   rcases aV.1 hx' with q|q
   ·exact absurd q hne
   ·exact q
  have Ak:=hR.ring.qf;simp only[lY,gU,gv] at Ak;exact Ak.1 (pi l Xs x) (bh.2 ⟨x,hx2,rfl⟩) (aw (PM (aj l)) e)
 have PQ:kf Xs (dh Xs (D1++d::ez))=d:=by
  unfold kf;have hne:dh Xs (D1++d::ez)≠[]:=by rw[hT];simp
  obtain⟨m,U',eU⟩:∃m U',dh Xs (D1++d::ez)=m::U':=by
   cases q:dh Xs (D1++d::ez) with
   |nil=>exact absurd q hne
   |cons m U'=>exact⟨m,U',rfl⟩
  rw[eU];refine Ki U' m ?_ (fun x hx QE=>?_) (fun x hx k=>?_)
  ·rw[<-eU,hT];simp
  ·rw[<-eU] at hx;exact aaI x (QD x hx) QE
  ·rw[<-eU] at hx;by_cases e:x=d
   ·subst e;rw[xx] at k;omega
   ·have:=aaI x (QD x hx) e;rw[BK] at k this;exact Ge.lt_irrefl _ (Ge.lt_trans (Ge.cS (h.nl.can _ (SX.pV h sM).1)) (Ge.cS (h.nl.can _ (SX.pV h (hl x (QD x hx))).1)) (Ge.cS (h.nl.can _ (SX.pV h sM).1)) this k)
 have PR:tV Xs (dh Xs (D1++d::ez))=(tI Xs ((d::ez).getLastD 0) D1).length:=by
  unfold tV fU;rw[PQ,hT];rcases J4 (P:=fun j=>j == d) (tI Xs ((d::ez).getLastD 0) D1++d::tI Xs d ez) 0 with⟨_,q2⟩|⟨R,x,q1,q2,q3,q4⟩
  ·have:=q2 d (by simp)
   simp at this
  ·rw[q1];have QE:x=d:=by simpa using q3
   subst QE;have alU:x∉tI Xs ((x::ez).getLastD 0) D1:=fun k=>by
    have k1:=BR Xs _ _ x k;rw[lY] at hnd;exact(Li.1 hnd).1 (by simp[k1])
   have h1:¬R<(tI Xs ((x::ez).getLastD 0) D1).length:=fun k=>by
    rw[eD k] at q2;exact alU (bn q2)
   have h2:¬(tI Xs ((x::ez).getLastD 0) D1).length<R:=fun k=>by
    have:=q4 (tI Xs ((x::ez).getLastD 0) D1).length x k (by rw[nT (ai _)];simp)
    simp at this
   omega
 unfold cV;rw[PR,hT',hT,acJ,List.take_left]
structure Rel(l:List Nd)(Xs:List PB)(q:List Nat)(R:List Sg):Prop where
 lr:LR (sS (aj l) Xs) (ke (aj l) Xs) R
 jq:(Go.Proofs.YtkjhhooecopolaaGreatDoor.fr Xs q).map (PM (aj l))=jq R
 sh:cd Xs q=true↔shl R
theorem SX.rel(h:SX rg l r Xs)(hB:BD Xs){D:List Nat}(hl:∀a∈D,a<Xs.length)(hR:jo (sS (aj l) Xs) (ke (aj l) Xs) (D.map (pi l Xs))):∃R,Rel l Xs (cV Xs D) R/\R.Perm (D.map (pi l Xs)):=by
 have hW:=SX.wd h hB;obtain⟨A,B,e,oN⟩:=hR.SV;obtain⟨D1,D2,rfl,rfl,rfl⟩:=List.map_eq_append_iff.1 e;have apm:D2≠[]\/D1=[]/\D2≠[]\/D2=[]:=by by_cases q:D2=[]<;>simp[q]
 have key:∀D1 D2:List Nat,(∀a∈D1++D2,a<Xs.length)->LR (sS (aj l) Xs) (ke (aj l) Xs) ((D2++D1).map (pi l Xs))->D2≠[]->Rel l Xs (cV Xs (D1++D2)) ((D2++D1).map (pi l Xs)):=by
  intro D1 D2 hl oN h2;have er:=SX.ring h hB hl oN h2;rw[er];have hne:D2++D1≠[]:=by simp[h2]
  obtain⟨z,hz⟩:∃z,(D2++D1).getLast?=some z:=by
   cases q:(D2++D1).getLast? with
   |none=>exact absurd (zJ.1 q) hne
   |some z=>exact⟨z,rfl⟩
  have hl':∀a∈D2++D1,a<Xs.length:=fun a ha=>hl a (by simp at ha⊢;exact ha.symm)
  have hzl:=hl' z (uu hz);have hlast:(D2++D1).getLastD 0=z:=by rw[oX,hz];rfl
  have aaJ:((D2++D1).map (pi l Xs)).getLastD s0=pi l Xs z:=by rw[oX,C4,hz];rfl
  have ht:(dh Xs (D2++D1)).map (pi l Xs)=Gb.tG (pi l Xs z) ((D2++D1).map (pi l Xs)):=by
   unfold dh;rw[hlast];exact SX.tG h _ z hzl hl'
  have aaK:(Go.Proofs.YtkjhhooecopolaaGreatDoor.fr Xs (dh Xs (D2++D1))).map (PM (aj l))=Gb.jq ((D2++D1).map (pi l Xs)):=by
   unfold Gb.jq;rw[aaJ,<-ht];unfold Go.Proofs.YtkjhhooecopolaaGreatDoor.fr;rw[kD,kD];rfl
  refine⟨oN,aaK,?_⟩;obtain⟨a,T,t,U,e1,e2,e3,_⟩:=oN.Hi hW;have Fg:((D2++D1).map (pi l Xs)).getLast?=some (pi l Xs z):=by rw[C4,hz];rfl
  have aaL:=oN.ring.mem;have hp:=oN.ring.path (a:=a) (by rw[e1];rfl)
  have hlen:=aw List.length aaK;have hq:(dh Xs (D2++D1)).map (pi l Xs)=a::Gb.tG a T:=by
   rw[ht,e1];show(if cr (dr (pi l Xs z)) (dr a)=0 then Gb.tG a T else a::Gb.tG a T)=_
   by_cases hc:cr (dr (pi l Xs z)) (dr a)=0
   ·exfalso;unfold Gb.jq at e3;rw[aaJ,e1] at e3;have e4:Gb.tG (pi l Xs z) (a::T)=Gb.tG a T:=by
     show(if cr (dr (pi l Xs z)) (dr a)=0 then _ else _)=_
     rw[ah hc]
    rw[e4,e2] at e3;have:=aw List.length e3;simp at this
   ·rw[aa hc]
  obtain⟨x,V,eV⟩:∃x V,dh Xs (D2++D1)=x::V:=by
   cases q:dh Xs (D2++D1) with
   |nil=>rw[q] at hq;cases hq
   |cons x V=>exact⟨x,V,rfl⟩
  have uD:∀y∈dh Xs (D2++D1),y<Xs.length:=fun y hy=>hl' y (BR Xs _ _ y hy)
  rw[eV] at hq uD⊢;rw[gU] at hq;injection hq with q1 q2;have hxl:=uD x (by simp)
  obtain⟨y,hy⟩:∃y,(x::V).getLast?=some y:=by
   cases q:(x::V).getLast? with
   |none=>exact absurd (zJ.1 q) (by simp)
   |some z=>exact⟨z,rfl⟩
  have hyl:=uD y (uu hy);have hyG:(Gb.tG a T).getLastD a=pi l Xs y:=by
   rw[<-q2,<-q1];have e:((x::V).map (pi l Xs)).getLast?=some (pi l Xs y):=by rw[C4,hy];rfl
   have e':(V.map (pi l Xs)).getLastD (pi l Xs x)=((x::V).map (pi l Xs)).getLastD (pi l Xs x):=by rw[gU];cases V.map (pi l Xs)<;>rfl
   rw[e',oX,e];rfl
  have Ff:a∈sS (aj l) Xs:=aaL a (by rw[e1];simp)
  have hTS:∀s∈T,s∈sS (aj l) Xs:=fun s hs=>aaL s (by rw[e1];simp[hs])
  have hsm:=hW.QA T a a a.1 Ff hTS (by rw[e1] at hp;exact hp.2) (C5 (hW.ia Ff))
  have rI:T.getLastD a=pi l Xs z:=by
   have:(a::T).getLast?=some (pi l Xs z):=by rw[<-e1];exact Fg
   have e':T.getLastD a=(a::T).getLastD a:=by cases T<;>rfl
   rw[e',oX,this];rfl
  rw[hyG,rI] at hsm;unfold cd;have g1:(x::V).getLastD 0=y:=by rw[oX,hy];rfl
  have g2:(x::V).headD 0=x:=rfl;rw[g1,g2,rW,(SX.gP h hyl hxl).2,q1];have hs:=(ze hsm (dr a)).1;rw[bZ (dr (pi l Xs y)),bZ (dr (pi l Xs z))] at hs;have alY:0<cr (dr (pi l Xs y)) (dr a)↔0<cr (dr (pi l Xs z)) (dr a):=by
   have s1:=(ze hsm (dr a));have s2:=ze hsm (neg (dr a));rw[fF,fF] at s2;have x1:cr (dr (pi l Xs y)) (dr a)= -cr (dr a) (dr (pi l Xs y)):=bZ _ _;have x2:cr (dr (pi l Xs z)) (dr a)= -cr (dr a) (dr (pi l Xs z)):=bZ _ _;rw[x1,x2];exact s2.1
  rw[alY];constructor
  ·intro k;exact⟨a,pi l Xs z,by rw[e1];rfl,Fg,k⟩
  ·rintro⟨a',z',ha',hz',k⟩;rw[e1] at ha';obtain rfl:a=a':=ni ha';rw[Fg] at hz';obtain rfl:pi l Xs z=z':=ni hz';exact k
 by_cases q:D2=[]
 ·subst q;refine⟨D1.map (pi l Xs),?_,by simp⟩
  have hne:D1≠[]:=fun e=>hR.ne (by rw[e];rfl)
  have:=key [] D1 (by simpa using hl) (by simpa using oN) hne
  simpa using this
 ·refine⟨(D2++D1).map (pi l Xs),key D1 D2 hl (by rw[iH];exact oN) q,?_⟩
  exact(Gv).map _
end
theorem pick{α β γ:Type}{P:α->β->Prop}{φ:α->List γ}{ψ:β->List γ}:∀(Ds:List α),(∀D∈Ds,∃R,P D R/\(ψ R).Perm (φ D))->∃Z:List (α×β),Z.map Prod.fst=Ds/\(∀z∈Z,P z.1 z.2)/\(Z.map fun z=>ψ z.2).flatten.Perm (Ds.map φ).flatten
 |[],_=>⟨[],rfl,by simp,by simp⟩
 |D::Ds,h=>by
  obtain⟨Z,e,h1,h2⟩:=pick Ds fun D' hD'=>h D' (bz _ hD')
  obtain⟨R,hR,hp⟩:=h D (by simp)
  refine⟨(D,R)::Z,by simp[e],fun z hz=>?_,?_⟩
  ·rcases aV.1 hz with q|q
   ·rw[q];exact hR
   ·exact h1 z q
  ·simp only[gU,Cy];exact hp.append h2
section
variable{rg:List (List Pt)}{l:List Nd}{r:Int}{Xs:List PB}
theorem FZ{nx:Nat->Nat}{mk:Nat->Bool}{n k:Nat}{L:List Nat}(hc:oQ nx mk n k L):(∀t,t+1<L.length->L.getD (t+1) 0=nx (L.getD t 0))/\L.getD 0 0=k/\nx (L.getD (L.length-1) 0)=k/\0<L.length:=by
 have h0:=bY.1 hc.head;refine⟨fun t ht=>?_,?_,?_,h0.1⟩
 ·have a:L[t]?=some L[t]:=aD (by omega)
  have b:L[t+1]?=some L[t+1]:=aD ht;rw[l9,l9,a,b];exact hc.step t _ _ a b
 ·rw[l9,hc.head];rfl
 ·obtain⟨hp,_⟩:=h0;have hp1:L.length-1<L.length:=by omega
  have a:L[L.length-1]?=some L[L.length-1]:=aD hp1;rw[l9,a];exact hc.back _ (by rw[pY];exact a)
theorem SX.it(h:SX rg l r Xs){mk:Nat->Bool}{k:Nat}{L:List Nat}(hc:oQ (cE Xs) mk Xs.length k L):∀t,t<L.length->Gb.it (ke (aj l) Xs) t (pi l Xs k)=pi l Xs (L.getD t 0)
 |0,_=>by rw[(FZ hc).2.1];rfl
 |t+1,ht=>by
  have ih:=SX.it h hc t (by omega)
  show ke (aj l) Xs (Gb.it (ke (aj l) Xs) t (pi l Xs k))=_;rw[ih,(FZ hc).1 t ht];refine zn h (hc.free _ ?_).1;rw[l9,aD (by omega)]
  exact iw _
theorem vR{L:List Nat}{t:Nat}(ht:t<L.length):L.getD t 0∈L:=by
 rw[l9,aD ht];exact iw _
theorem SX.cir(h:SX rg l r Xs){mk:Nat->Bool}{k:Nat}{L:List Nat}(hc:oQ (cE Xs) mk Xs.length k L):C3 (ke (aj l) Xs) (pi l Xs k) L.length:=by
 obtain⟨_,_,g3,g4⟩:=FZ hc;refine⟨g4,?_,fun i j hi hj e=>?_⟩
 ·have e:L.length=(L.length-1)+1:=by omega
  rw[e];show ke (aj l) Xs (Gb.it (ke (aj l) Xs) (L.length-1) (pi l Xs k))=_;rw[SX.it h hc _ (by omega),zn h (hc.free _ (vR (by omega))).1,g3]
 ·rw[SX.it h hc i hi,SX.it h hc j hj] at e;have:=SX.Fa h (hc.free _ (vR hi)).1 (hc.free _ (vR hj)).1 e;rw[l9,l9,aD hi,aD hj] at this;exact(List.getElem_inj hc.nd).1 this
theorem aaN(L:List Nat):(List.range L.length).map (fun t=>L.getD t 0)=L:=by
 refine xY (by simp) fun i h1 h2=>?_
 simp[List.getD_eq_getElem?_getD,h2]
theorem SX.rings(h:SX rg l r Xs)(hB:BD Xs){mk:Nat->Bool}{k:Nat}{L:List Nat}(hc:oQ (cE Xs) mk Xs.length k L):∃Z:List (List Nat×List Sg),Z.map Prod.fst=bp Xs L/\(∀z∈Z,Rel l Xs z.1 z.2)/\(Z.map Prod.snd).flatten.Perm (L.map (pi l Xs)):=by
 have hW:=SX.wd h hB;have hC:=SX.cir h hc;obtain⟨_,g2,_,g4⟩:=FZ hc;have hk:k<Xs.length:=by rw[<-g2];exact(hc.free _ (vR g4)).1
 have vQ:pi l Xs k∈sS (aj l) Xs:=Fb _ hk;have hlt:∀t,t<L.length->L.getD t 0<Xs.length:=fun t ht=>(hc.free _ (vR ht)).1
 obtain⟨_,hperm,alZ⟩:=parted (f:=fun i=>(Gb.it (ke (aj l) Xs) i (pi l Xs k)).1) (m:=L.length) (hW.nc vQ hC) (fun j hj e=>by
   rw[hW.uF vQ] at e;exact hW.ne _ (hW.nZ vQ j) e) (by show(Gb.it (ke (aj l) Xs) L.length (pi l Xs k)).1=_;rw[hC.per];rfl)
  (fun i=>nR (fun i j=>ll Xs (L.getD i 0) (L.getD j 0)) (List.range i)) rfl (fun i hi=>by
   show yl _ i _ (nR _ (List.range (i+1)));rw[Gt,aaF];refine alS _ i _ fun o ho=>?_
   have hoL:o<L.length:=by
    rcases cu.1 ho with q|q
    ·have:=aaG _ i o q;omega
    ·have:=bU.1 q;omega
   show ll Xs (L.getD i 0) (L.getD o 0)=true↔(Gb.it (ke (aj l) Xs) o (pi l Xs k)).1=(Gb.it (ke (aj l) Xs) (i+1) (pi l Xs k)).1;rw[hW.uF vQ,SX.it h hc i hi,SX.it h hc o hoL];unfold ll;rw[rW];constructor
   ·intro e;exact aw (PM (aj l)) e.symm
   ·intro e;exact(tU h.nl (SX.pV h (hlt o hoL)).1 (SX.pV h (hlt i hi)).2 e).symm)
 have hE:bp Xs L=((nR (fun i j=>ll Xs (L.getD i 0) (L.getD j 0)) (List.range L.length)).2.map fun D=>D.map fun t=>L.getD t 0).map (cV Xs):=by
  rw[alO];have:=alQ (ll Xs) (fun t=>L.getD t 0) (List.range L.length)
  rw[aaN] at this;rw[this]
 generalize(nR (fun i j=>ll Xs (L.getD i 0) (L.getD j 0)) (List.range L.length)).2=Ds at*
 obtain⟨Z,e1,e2,e3⟩:=pick (P:=fun D R=>Rel l Xs (cV Xs (D.map fun t=>L.getD t 0)) R) (φ:=fun D=>(D.map fun t=>L.getD t 0).map (pi l Xs)) (ψ:=fun R=>R) Ds fun D hD=>by
  obtain⟨d,hd⟩:=alZ D hD;refine SX.rel h hB (fun a ha=>?_) ?_
  ·obtain⟨t,ht,rfl⟩:=bh.1 ha;exact hlt t (hd.lt t ht)
  ·have:=hd.ring hW vQ hC;have e:(D.map fun t=>L.getD t 0).map (pi l Xs)=D.map fun t=>Gb.it (ke (aj l) Xs) t (pi l Xs k):=by
    rw[kD];exact La fun t ht=>(SX.it h hc t (hd.lt t ht)).symm
   rw[e];exact this
 refine⟨Z.map fun z=>(cV Xs (z.1.map fun t=>L.getD t 0),z.2),?_,fun z hz=>?_,?_⟩
 ·rw[hE,kD,kD,<-e1,kD];rfl
 ·obtain⟨y,hy,rfl⟩:=bh.1 hz;exact e2 y hy
 ·rw[kD];refine e3.trans ?_;have e4:(Ds.map fun D=>(D.map fun t=>L.getD t 0).map (pi l Xs)).flatten=Ds.flatten.map fun t=>pi l Xs (L.getD t 0):=by
   rw[List.map_flatten];congr 1;refine La fun D _=>?_
   rw[kD];rfl
  rw[e4];refine(hperm.map _).trans ?_;have e5:(List.range L.length).map (fun t=>pi l Xs (L.getD t 0))=L.map (pi l Xs):=by
   have:=aw (List.map (pi l Xs)) (aaN L);rw[kD] at this;exact this
  rw[e5]
theorem Kj{M:Int}(hM:0<M){a b:Nd}(ha:OK M a)(hb:OK M b):a.2.2*b.2.2*(dr (PM M a,PM M b)).1=M*(wv a b).1/\a.2.2*b.2.2*(dr (PM M a,PM M b)).2=M*(wv a b).2:=by
 obtain⟨k,hk,e,e1⟩:=EO hM ha.p ha.d;obtain⟨j,hj,f,f1⟩:=EO hM hb.p hb.d;rw[e1,f1];constructor
 ·show a.2.2*b.2.2*(b.1*j-a.1*k)=M*(a.2.2*b.1-b.2.2*a.1);have:a.2.2*b.2.2*(b.1*j-a.1*k)=a.2.2*b.1*(b.2.2*j)-b.2.2*a.1*(a.2.2*k):=by grind
  rw[this,e,f]
  grind
 ·show a.2.2*b.2.2*(b.2.1*j-a.2.1*k)=M*(a.2.2*b.2.1-b.2.2*a.2.1);have:a.2.2*b.2.2*(b.2.1*j-a.2.1*k)=a.2.2*b.2.1*(b.2.2*j)-b.2.2*a.2.1*(a.2.2*k):=by grind
  rw[this,e,f]
  grind
theorem Kk{n a b:Pt}:gP (n1 n) a b↔(dr (n,a)).1<=0/\0<(dr (n,b)).1:=by unfold gP;rw[eo,eo]
theorem Kl{n a b:Pt}(h:gP (n1 n) a b):kW (n1 n) (a,b)=(dr (a,b)).1/\kY (n1 n) (a,b)= -cr (dr (a,b)) (dr (a,n))/\kS (n1 n) (a,b)=(dr (a,b)).2:=by
 obtain⟨x,y,z,_⟩:=BO h;rw[x,y,z,eo,eo];refine⟨by unfold dr;simp only;omega,?_,by unfold dr;simp only;omega⟩
 unfold cr dr;simp only;grind
theorem SX.fY(h:SX rg l r Xs){n:Nd}(hn:n∈l){i:Nat}(hi:i<Xs.length):jC Xs n i=true↔Gb.gP (n1 (PM (aj l) n)) (pi l Xs i).1 (pi l Xs i).2/\kY (n1 (PM (aj l) n)) (pi l Xs i)<0:=by
 obtain⟨hM,hO⟩:=bX.ok h.nl;obtain⟨hf,ht⟩:=SX.pV h hi;have p1:=jz hM (hO n hn) (hO _ hf);have p2:=jz hM (hO n hn) (hO _ ht);have p3:=jz hM (hO _ hf) (hO _ ht);have p4:=jz hM (hO _ hf) (hO n hn);have c:=(p3.cr p4).1;obtain⟨p,q,hp,hq,e1,_⟩:=p1;obtain⟨p',q',hp',hq',e2,_⟩:=p2;have g1:=j6 hp hq e1;have g2:=j6 hp' hq' e2;have w1:n.1*(xi Xs i).f.2.2<(xi Xs i).f.1*n.2.2↔0<(wv n (xi Xs i).f).1:=by
  unfold wv;simp only;rw[eA n.2.2,eA (xi Xs i).f.2.2];omega
 have w2:n.1*(xi Xs i).t.2.2<(xi Xs i).t.1*n.2.2↔0<(wv n (xi Xs i).t).1:=by
  unfold wv;simp only;rw[eA n.2.2,eA (xi Xs i).t.2.2];omega
 unfold jC;rw[qF,qF,Lc,Ld,rW,rW,w1,w2];constructor
 ·rintro⟨⟨k1,k2⟩,k3⟩;have hcr:Gb.gP (n1 (PM (aj l) n)) (pi l Xs i).1 (pi l Xs i).2:=Kk.2 ⟨by show(dr (PM (aj l) n,PM (aj l) (xi Xs i).f)).1<=0;omega,g2.1.2 k2⟩
  refine⟨hcr,?_⟩;have:=(Kl hcr).2.1;show kY (n1 (PM (aj l) n)) ((pi l Xs i).1,(pi l Xs i).2)<0;rw[this];have:=c.2 k3;show -cr (dr (PM (aj l) (xi Xs i).f,PM (aj l) (xi Xs i).t)) (dr (PM (aj l) (xi Xs i).f,PM (aj l) n))<0;omega
 ·rintro⟨hcr,hk⟩;have k1:=(Kk.1 hcr).1;have k2:=(Kk.1 hcr).2;have:=(Kl hcr).2.1;have hk':kY (n1 (PM (aj l) n)) ((pi l Xs i).1,(pi l Xs i).2)<0:=hk;rw[this] at hk';have hk2: -cr (dr (PM (aj l) (xi Xs i).f,PM (aj l) (xi Xs i).t)) (dr (PM (aj l) (xi Xs i).f,PM (aj l) n))<0:=hk';have xH:(dr (PM (aj l) n,PM (aj l) (xi Xs i).f)).1<=0:=k1;have xI:0<(dr (PM (aj l) n,PM (aj l) (xi Xs i).t)).1:=k2;exact⟨⟨by omega,g2.1.1 xI⟩,c.1 (by omega)⟩
theorem SX.dep(h:SX rg l r Xs){n:Nd}(hn:n∈l){i j:Nat}(hi:i<Xs.length)(hj:j<Xs.length)(bi:jC Xs n i=true)(bj:jC Xs n j=true):qC n (xi Xs i) (xi Xs j)<0↔bf (n1 (PM (aj l) n)) (pi l Xs j) (pi l Xs i)=true:=by
 obtain⟨hM,hO⟩:=bX.ok h.nl;have ci:=((SX.fY h hn hi).1 bi).1;have cj:=((SX.fY h hn hj).1 bj).1;obtain⟨i1,i2,i3⟩:=Kl ci;obtain⟨j1,j2,j3⟩:=Kl cj;obtain⟨fi,ti⟩:=SX.pV h hi;obtain⟨fj,tj⟩:=SX.pV h hj;have a1:=Kj hM (hO _ fi) (hO _ ti);have a2:=Kj hM (hO _ fi) (hO n hn);have b1:=Kj hM (hO _ fj) (hO _ tj);have b2:=Kj hM (hO _ fj) (hO n hn);have hp1:=(hO _ fi).p;have hp2:=(hO _ ti).p;have sO:=(hO _ fj).p;have hp4:=(hO _ tj).p;have hp5:=(hO n hn).p;have cc:=(SX.gP h hi hj);have ccs:=xy (xi Xs i) (xi Xs j);have hcS:=(SX.pd h hi).cr (SX.pd h hj);have qj:=QC (cr (wv (xi Xs i).f (xi Xs i).t) (wv (xi Xs j).f (xi Xs j).t));have e1:∀i,((pi l Xs i).1,(pi l Xs i).2)=pi l Xs i:=fun i=>rfl
 rw[e1] at i1 i2 i3 j1 j2 j3;have key:∃p q:Int,0<p/\0<q/\p*(kY (n1 (PM (aj l) n)) (pi l Xs j)*kW (n1 (PM (aj l) n)) (pi l Xs i)-kY (n1 (PM (aj l) n)) (pi l Xs i)*kW (n1 (PM (aj l) n)) (pi l Xs j))=q*(cr (wv (xi Xs i).f (xi Xs i).t) (wv (xi Xs i).f n)*((xi Xs j).f.2.2*(wv (xi Xs j).f (xi Xs j).t).1)-cr (wv (xi Xs j).f (xi Xs j).t) (wv (xi Xs j).f n)*((xi Xs i).f.2.2*(wv (xi Xs i).f (xi Xs i).t).1)):=by
  rw[i1,i2,j1,j2];refine⟨((xi Xs i).f.2.2*(xi Xs i).t.2.2)*((xi Xs i).f.2.2*n.2.2)*((xi Xs j).f.2.2*(xi Xs j).t.2.2)*(xi Xs j).f.2.2,aj l*aj l*aj l,aU (aU (aU (aU hp1 hp2) (aU hp1 hp5)) (aU sO hp4)) sO,aU (aU hM hM) hM,?_⟩;have x1:dr ((pi l Xs i).1,(pi l Xs i).2)=dr (PM (aj l) (xi Xs i).f,PM (aj l) (xi Xs i).t):=rfl;have x2:dr ((pi l Xs i).1,PM (aj l) n)=dr (PM (aj l) (xi Xs i).f,PM (aj l) n):=rfl;have y1:dr ((pi l Xs j).1,(pi l Xs j).2)=dr (PM (aj l) (xi Xs j).f,PM (aj l) (xi Xs j).t):=rfl;have y2:dr ((pi l Xs j).1,PM (aj l) n)=dr (PM (aj l) (xi Xs j).f,PM (aj l) n):=rfl;have x1':dr (pi l Xs i)=dr (PM (aj l) (xi Xs i).f,PM (aj l) (xi Xs i).t):=rfl;have y1':dr (pi l Xs j)=dr (PM (aj l) (xi Xs j).f,PM (aj l) (xi Xs j).t):=rfl
  first |rw[x1,x2,y1,y2]|rw[x1',x2,y1',y2]
  generalize dr (PM (aj l) (xi Xs i).f,PM (aj l) (xi Xs i).t)=A at*;generalize dr (PM (aj l) (xi Xs i).f,PM (aj l) n)=B at*;generalize dr (PM (aj l) (xi Xs j).f,PM (aj l) (xi Xs j).t)=C at*;generalize dr (PM (aj l) (xi Xs j).f,PM (aj l) n)=D at*;generalize wv (xi Xs i).f (xi Xs i).t=A' at*;generalize wv (xi Xs i).f n=B' at*;generalize wv (xi Xs j).f (xi Xs j).t=C' at*;generalize wv (xi Xs j).f n=D' at*;generalize(xi Xs i).f.2.2=f1 at*;generalize(xi Xs i).t.2.2=t1 at*;generalize(xi Xs j).f.2.2=f2 at*;generalize(xi Xs j).t.2.2=t2 at*;generalize n.2.2=nn at*;generalize aj l=M at*;clear i1 i2 i3 j1 j2 j3 ci cj cc ccs hcS qj e1 x1 x2 y1 y2 x1' y1' hp1 hp2 sO hp4 hp5;have u1:f1*t1*(f1*nn)*cr A B=M*M*cr A' B':=by
   have:f1*t1*(f1*nn)*cr A B=(f1*t1*A.1)*(f1*nn*B.2)-(f1*t1*A.2)*(f1*nn*B.1):=by unfold cr;grind
   rw[this,a1.1,a1.2,a2.1,a2.2];unfold cr;grind
  have u2:f2*t2*(f2*nn)*cr C D=M*M*cr C' D':=by
   have:f2*t2*(f2*nn)*cr C D=(f2*t2*C.1)*(f2*nn*D.2)-(f2*t2*C.2)*(f2*nn*D.1):=by unfold cr;grind
   rw[this,b1.1,b1.2,b2.1,b2.2];unfold cr;grind
  have v:f1*t1*(f1*nn)*(f2*t2)*f2*(-cr C D*A.1- -cr A B*C.1)=f2*(f1*t1*(f1*nn)*cr A B)*(f2*t2*C.1)-f1*(f2*t2*(f2*nn)*cr C D)*(f1*t1*A.1):=by grind
  rw[v,u1,u2,a1.1,b1.1]
  grind
 obtain⟨p,q,hp,hq,ek⟩:=key;have sk:=j6 hp hq ek;have sd:=QC (cr (wv (xi Xs i).f (xi Xs i).t) (wv (xi Xs i).f n)*((xi Xs j).f.2.2*(wv (xi Xs j).f (xi Xs j).t).1)-cr (wv (xi Xs j).f (xi Xs j).t) (wv (xi Xs j).f n)*((xi Xs i).f.2.2*(wv (xi Xs i).f (xi Xs i).t).1));have hS:kS (n1 (PM (aj l) n)) (pi l Xs j)*kW (n1 (PM (aj l) n)) (pi l Xs i)<kS (n1 (PM (aj l) n)) (pi l Xs i)*kW (n1 (PM (aj l) n)) (pi l Xs j)↔cr (dr (pi l Xs i)) (dr (pi l Xs j))<0:=by
  rw[i1,i3,j1,j3];have:cr (dr (pi l Xs i)) (dr (pi l Xs j))=(dr (pi l Xs j)).2*(dr (pi l Xs i)).1-(dr (pi l Xs i)).2*(dr (pi l Xs j)).1:=by unfold cr;grind
  have e3:∀i,dr ((pi l Xs i).1,(pi l Xs i).2)=dr (pi l Xs i):=fun i=>rfl
  rw[this]
  first |(rw[e3,e3];omega)|omega
 rw[BC,hS];unfold qC Fx;by_cases hz:(cr (wv (xi Xs i).f (xi Xs i).t) (wv (xi Xs i).f n)*((xi Xs j).f.2.2*(wv (xi Xs j).f (xi Xs j).t).1)-cr (wv (xi Xs j).f (xi Xs j).t) (wv (xi Xs j).f n)*((xi Xs i).f.2.2*(wv (xi Xs i).f (xi Xs i).t).1)).sign=0
 ·rw[ah hz,ccs];omega
 ·rw[aa hz];omega
theorem aaT{cf:Nat->Nat->Int}:∀(L:List Nat)(m:Nat),(∀a∈m::L,∀b∈m::L,∀c∈m::L,cf a b<0->cf c b<0\/cf a c<0)->(∀a∈m::L,∀b∈m::L,cf a b<0->¬cf b a<0)->bC cf L m∈m::L/\∀k∈m::L,¬cf k (bC cf L m)<0
 |[],m,_,ha=>⟨by simp[bC],fun k hk e=>by
  have:k=m:=bU.1 hk;subst this;exact ha k (by simp) k (by simp) e e⟩
 |b::L,m,hw,ha=>by
  unfold bC;have sub:∀x∈(if cf b m<0 then b else m)::L,x∈m::b::L:=fun x hx=>by
   rcases aV.1 hx with q|q
   ·rw[q];split<;>simp
   ·simp[q]
  obtain⟨h1,h2⟩:=aaT L (if cf b m<0 then b else m) (fun a ha b hb c hc=>hw a (sub a ha) b (sub b hb) c (sub c hc)) (fun a h1 b h2=>ha a (sub a h1) b (sub b h2))
  refine⟨sub _ h1,fun k hk e=>?_⟩
  have hr:=sub _ h1;by_cases j4:cf b m<0
  ·rw[ah j4] at h1 h2 e hr;rcases aV.1 hk with q|q
   ·subst q;rcases hw k (by simp) _ hr b (by simp) e with w|w
    ·exact h2 b (by simp) w
    ·exact ha b (by simp) k (by simp) j4 w
   ·exact h2 k (by rcases aV.1 q with q|q<;>simp[q]) e
  ·rw[aa j4] at h1 h2 e hr;rcases aV.1 hk with q|q
   ·exact h2 k (by simp[q]) e
   ·rcases aV.1 q with q|q
    ·subst q;rcases hw k (by simp) _ hr m (by simp) e with w|w
     ·exact h2 m (by simp) w
     ·exact j4 w
    ·exact h2 k (by simp[q]) e
theorem SX.lowest(h:SX rg l r Xs){n:Nd}(hn:n∈l)(hs:dU Xs n Xs.length≠[]):ir Xs n<Xs.length/\jC Xs n (ir Xs n)=true/\∀i,i<Xs.length->jC Xs n i=true->bf (n1 (PM (aj l) n)) (pi l Xs (ir Xs n)) (pi l Xs i)=false:=by
 obtain⟨m,L,e⟩:∃m L,dU Xs n Xs.length=m::L:=by
  cases q:dU Xs n Xs.length with
  |nil=>exact absurd q hs
  |cons m L=>exact⟨m,L,rfl⟩
 have mem:∀i,i∈m::L↔i<Xs.length/\jC Xs n i=true:=fun i=>by
  rw[<-e];unfold dU;rw[jF,qH]
 have qA:ir Xs n=bC (fun i j=>qC n (xi Xs i) (xi Xs j)) L m:=by unfold ir;rw[e];rfl
 have dk:∀i∈m::L,∀j∈m::L,qC n (xi Xs i) (xi Xs j)<0↔bf (n1 (PM (aj l) n)) (pi l Xs j) (pi l Xs i)=true:=fun i hi j hj=>SX.dep h hn ((mem i).1 hi).1 ((mem j).1 hj).1 ((mem i).1 hi).2 ((mem j).1 hj).2
 obtain⟨h1,h2⟩:=aaT (cf:=fun i j=>qC n (xi Xs i) (xi Xs j)) L m (fun a ha b hb c hc k=>by
   rcases BG _ _ _ (pi l Xs c) ((dk a ha b hb).1 k) with w|w
   ·exact af ((dk a ha c hc).2 w)
   ·exact ae ((dk c hc b hb).2 w)) (fun a ha b hb k1 k2=>by
   have:=BF _ _ _ _ ((dk a ha b hb).1 k1) ((dk b hb a ha).1 k2);rw[EP] at this;cases this)
 rw[<-qA] at h1 h2;refine⟨((mem _).1 h1).1,((mem _).1 h1).2,fun i hi hb=>?_⟩
 have him:=(mem i).2 ⟨hi,hb⟩;cases q:bf (n1 (PM (aj l) n)) (pi l Xs (ir Xs n)) (pi l Xs i)
 ·rfl
 ·exact absurd ((dk i him _ h1).2 q) (h2 i him)
theorem SX.al1(h:SX rg l r Xs)(hB:BD Xs){n:Nd}(hn:n∈l)(hin:takes r (Ga.PP (ag rg) n)=true){u:Nat}(hu:u<Xs.length)(kP:jC Xs n u=true)(hmin:∀i,i<Xs.length->jC Xs n i=true->bf (n1 (PM (aj l) n)) (pi l Xs u) (pi l Xs i)=false){es:List Sg}(hcl:Cl es)(hi:In (sS (aj l) Xs) es):Lf es (pi l Xs u)=Ga.PP es (n1 (PM (aj l) n)):=by
 have hW:=SX.wd h hB;have huS:pi l Xs u∈sS (aj l) Xs:=Fb _ hu;obtain⟨hcu,hyu⟩:=(SX.fY h hn hu).1 kP;have hris:aS (dr (pi l Xs u)):=by
  have c:=Kk.1 hcu;refine ae ?_;have e:(dr (pi l Xs u)).1=(dr (PM (aj l) n,(pi l Xs u).2)).1-(dr (PM (aj l) n,(pi l Xs u).1)).1:=by unfold dr;simp only;omega
  omega
 have hP:=(hW.pj hi huS).1 hris;obtain⟨qU,rfl⟩:=hcl;have ht:=(hts (show(0:Int)<1 by decide) hcu hP).2
 have ha:=(wF hP).2;have e1:Lf (ag qU) (pi l Xs u)=LL (ag qU) (n1 (pi l Xs u).1) (n1 (pi l Xs u).2):=by
  rw[ha,ny];rfl
 rw[e1,ht,Oi];refine YD _ fun e he hw=>?_
 cases q:bf (n1 (PM (aj l) n)) ((pi l Xs u).1,(pi l Xs u).2) e
 ·rw[iu (JQ hyu q)];rfl
 ·
  refine(lZ fun Km=>?_).symm
  obtain⟨j,hj,hje⟩:∃j,j<Xs.length/\(e=pi l Xs j\/e=rv (pi l Xs j)):=by
   rcases hi e he with k|k
   ·obtain⟨j,hj,ej⟩:=jB _ k;exact⟨j,hj,ae ej⟩
   ·obtain⟨j,hj,ej⟩:=jB _ k;exact⟨j,hj,af (aw rv ej)⟩
  have hkj:bf (n1 (PM (aj l) n)) (pi l Xs u) (pi l Xs j)=true:=by
   rcases hje with k|k
   ·rw[k] at q;exact q
   ·rw[k,(JP _ _ _).2] at q;exact q
  have Kn:kY (n1 (PM (aj l) n)) (pi l Xs j)<0:=by
   rcases hje with k|k
   ·rw[k] at Km;exact Km
   ·rw[k,(Fe _ _).2.1] at Km;exact Km
  rcases YE Kn with c|c
  ·have:=hmin j hj ((SX.fY h hn hj).2 ⟨c,Kn⟩);rw[hkj] at this;cases this
  ·have al4:kY (n1 (PM (aj l) n)) (PM (aj l) (xi Xs j).t,PM (aj l) (xi Xs j).f)<0:=by
    have:=(Fe (n1 (PM (aj l) n)) (pi l Xs j)).2.1;rw[<-this] at Kn;exact Kn
   obtain⟨f,t,hft,cft,yft,kft⟩:=ajd h.nl hn hin (h.sd hj) c al4;obtain⟨v,hv,v1,v2⟩:=h.find hft;have epv:pi l Xs v=(PM (aj l) f,PM (aj l) t):=by show(PM (aj l) (xi Xs v).f,PM (aj l) (xi Xs v).t)=_;rw[v1,v2]
   have I8:=(SX.fY h hn hv).2 (by rw[epv];exact⟨cft,yft⟩)
   have k2:bf (n1 (PM (aj l) n)) (pi l Xs j) (pi l Xs v)=true:=by
    rw[epv];have:=(JP (n1 (PM (aj l) n)) (pi l Xs j) (PM (aj l) f,PM (aj l) t)).1;rw[<-this];exact kft
   have:=hmin v hv I8;rw[BF _ _ _ _ hkj k2] at this;cases this
theorem SX.al8(h:SX rg l r Xs)(hB:BD Xs){mk:Nat->Bool}{k:Nat}{L:List Nat}(hc:oQ (cE Xs) mk Xs.length k L)(zE:Wk Xs k L)(hno:∀ring∈bp Xs L,cd Xs ring=false):Fc (sS (aj l) Xs) (pi l Xs k) (pi l Xs (ir Xs (xi Xs k).f)):=by
 have hW:=SX.wd h hB;have hC:=SX.cir h hc;have hk:k<Xs.length:=zE.lt k (bn zE.head);have hn:=(SX.pV h hk).1;have hin:takes r (Ga.PP (ag rg) (xi Xs k).f)=true:=by
  cases q:takes r (Ga.PP (ag rg) (xi Xs k).f)
  ·obtain⟨ring,hr,hs⟩:=h.ZN hB zE q;rw[hno ring hr] at hs;cases hs
  ·rfl
 obtain⟨Z,e1,e2,e3⟩:=SX.rings h hB hc;have hgt:∀{t},t<L.length->L.getD t 0<Xs.length:=fun ht=>(hc.free _ (vR ht)).1
 intro es hcl hi;obtain⟨l1,l2,l3⟩:=SX.lowest h hn (h.seen hB zE hno);rw[SX.al1 h hB hn hin l1 l2 l3 hcl hi];refine hW.ajl (Fb _ hk) hC (fun i vL=>?_) (fun R hR zo hs=>?_) hcl hi
 ·rw[SX.it h hc i vL];have hm:=vR vL;have hle:=zE.least _ hm;rcases LO (pi l Xs k).1 (pi l Xs (L.getD i 0)).1 with q|q
  ·exact q
  ·by_cases e:(xi Xs (L.getD i 0)).f=(xi Xs k).f
   ·show ge (PM (aj l) (xi Xs k).f) (PM (aj l) (xi Xs (L.getD i 0)).f);rw[e];exact G6 _
   ·exact absurd (SX.geq h (SX.pV h (hgt vL)).1 hn q e) hle
 ·obtain⟨i,vL,zo⟩:=zo;rw[SX.it h hc i vL] at zo;have hmem:pi l Xs (L.getD i 0)∈(Z.map Prod.snd).flatten:=e3.mem_iff.2 (bh.2 ⟨_,vR vL,rfl⟩);obtain⟨R',hR',hm'⟩:=zS.1 hmem;obtain⟨z,hz,rfl⟩:=bh.1 hR';have hrel:=e2 z hz;have:=hR.eq hW hrel.lr zo hm';rw[this] at hs;have h1:=hrel.sh.2 hs;rw[hno z.1 (by rw[<-e1];exact bh.2 ⟨z,hz,rfl⟩)] at h1
  cases h1
end
end Go.Proofs.YtkjhhooecopolaaGreatDoor.Gb

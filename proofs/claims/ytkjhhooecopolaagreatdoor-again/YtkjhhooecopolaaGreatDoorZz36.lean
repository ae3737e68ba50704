import Derived.Test.YtkjhhooecopolaaGreatDoorZz35
set_option maxRecDepth 100000
set_option maxHeartbeats 4000000
namespace Go.Proofs.YtkjhhooecopolaaGreatDoor
open Go.RowKit
open Ge
theorem ail(w:World):
  Calls Tryz.prog 69 #[.slice none 0 0] w fun e w'=>e=.returned (.slice none 0 0)/\w'=w:=by
 have HC:Hid (Calls Tryz.prog 116 #[.slice none 0 0] w fun e w'=>e=.returned (.tuple #[])/\w'=w):=Xr w
 go_enter Tryz.func69,Tryz.ntmps69
 go_wp2_with fail
 go_loopg [3,13] 0 (fun m lv iv wr=>m=0/\lv=.slice none 0 0/\iv=.int .i64 0/\wr=w)
 case atStart=>exact⟨rfl,rfl,rfl,rfl⟩
 case round=>
  obtain⟨_,rfl,rfl,rfl⟩:=hrel
  go_wp2_with fail
  refine HC.out.mono ?_;rintro e w5 ⟨rfl,rfl⟩;clear HC
  go_wp2_with fail
  go_ret
  exact⟨rfl,rfl⟩
section
variable{rg:List (List Pt)}{l:List Nd}{r:Int}{Ps:List PB}
theorem Iz(hl:l.map au=eO (ag rg))(hs:∀e∈ag rg,dU e)(h:mH (ag rg) l Ps)(hlen:(mK r (ag rg) Ps).length<=85000000):BD (mK r (ag rg) Ps):=by
 have hne:∀e∈ag rg,e.1≠e.2:=fun e he=>Fb he
 have hv:∀x∈Ps.flatMap (eB r (ag rg)),cK x:=fun x hx=>by
  obtain⟨p,hp,tF⟩:=qf.1 hx;exact Ma (h.v p hp) tF
 obtain⟨hperm,aim⟩:=Ve (Ps.flatMap (eB r (ag rg))) hv;refine⟨fun x hx=>hv x (hperm.mem_iff.1 hx),fun x hx=>?_,?_,hlen⟩
 ·obtain⟨p,hp,tF⟩:=qf.1 (hperm.mem_iff.1 hx);obtain⟨k,hk⟩:=afi hne hs h hl p hp;rcases Hu tF with⟨rfl,_⟩|⟨rfl,_⟩
  ·exact⟨k,hk⟩
  ·exact⟨_,hk.rev⟩
 ·refine aim.imp fun{a b} hab=>?_
  rw[zz];exact hab
def tV(Xs:List PB):List UInt8:=Iy Xs (rL Xs (aL Xs Xs.length).ps)
theorem ain(hl:l.map au=eO (ag rg))(hc:∀n∈l,Ge.Can n)(hs:∀e∈ag rg,dU e)(h:mH (ag rg) l Ps){w1 w0:World}{lv:Value}{bs:List Nat}(jb:BS w1 lv bs (mK r (ag rg) Ps) w0)(hbl:bs.length<=85000000)(bz:Gl w1):
  Calls Tryz.prog 69 #[lv] w0 fun e w'=>∃lp,e=.returned lp/\Below w1.heap.size w1 w'/\Calls Tryz.prog 67 #[lp] w' fun e w''=>e=.returned (.string (ba (tV (mK r (ag rg) Ps))))/\Below w'.heap.size w' w'':=by
 have hX:=Hv (r:=r) hl hc h;have hB:=Iz (r:=r) hl hs h (by rw[<-jb.len];exact hbl)
 generalize mK r (ag rg) Ps=Xs at*;have hb1:=jb.below;rcases jb.own.2 with⟨rfl,h0⟩|⟨g,cap,cur,rfl,hg,hblk,hnc,hcm,hcs,htk⟩
 ·have hb0:bs=[]:=fK.1 h0;have CV:Xs=[]:=fK.1 (by rw[<-jb.len];exact h0)
  subst CV;refine(ail w0).mono ?_;rintro e w' ⟨rfl,rfl⟩;exact⟨_,rfl,hb1,XI none 0 [] w' (by simp) (by simp[Lib.join,List.intercalate]) (fun k t hk=>by simp at hk)⟩
 ·have hlt:∀b∈bs,b<w0.heap.size:=fun b hb=>jb.lt hb
  have hsw:SW g bs Xs (fun _=>false) (fun _=>none) w0:=by
   refine⟨jb.len,jb.nd,fun hgb=>jb.ne g hgb rfl,fun i hi=>?_,fun i hi=>?_⟩
   ·obtain⟨gT,cT,e,_,_,_,f⟩:=lW jb.own (by omega)
    injection e with e;injection e with e;injection e with e;subst e;exact f i _ (by simp[aK,uZ hi])
   ·exact(jb.lies i _ _ (uZ hi) (tJ (by rw[<-jb.len];exact hi))).2
  have htot:=hX.dw hB Xs.length (ax _);have hgd:=hX.pn hB Xs.length (ax _);have hpv:=hX.pv hB Xs.length (ax _);have Ib:=hB.len;have hpl:=hpv.len;refine ahQ (cap:=cap) hX hB hlt (lt_of_heap hblk) hnc hsw (fun lp w'=>Below w1.heap.size w1 w'/\Calls Tryz.prog 67 #[lp] w' fun e w''=>e=.returned (.string (ba (tV Xs)))/\Below w'.heap.size w' w'') ?_
  intro lv PH T wr j4 Dk hnd hmo uU;refine(ahZ hB (lt_of_heap hblk) hlt hmo.size j4 Dk hgd (by omega) (fun p hp=>?_)).mono ?_
  ·obtain⟨i,hi⟩:=ZU.1 hp;have:=hpv.hol i p hi;omega
  ·rintro e w' ⟨rfl,⟨qc,NG⟩,aio,aj⟩;have hb2:Below w1.heap.size w1 w':=by
    have aip:Below w1.heap.size w1 wr:=hb1.trans ⟨hmo.os,hmo.tape,hmo.output,hmo.size,fun k hk=>hmo.block k (aZ hk hb1.size) (fun hm=>by
     obtain⟨i,hi⟩:=ZU.1 hm;have hiX:i<Xs.length:=by rw[<-jb.len];exact(bU.1 hi).1
     have:=(jb.lies i k _ hi (tJ hiX)).1;omega)⟩
    exact aip.trans (aj.mono hb1.size)
   refine⟨rfl,hb2,?_⟩;refine aik hB aio NG (aif hB hgd) ?_ ?_ (bz.below hb2 bz.sz)
   ·rw[aih hB hgd];omega
   ·have:=(NQ hB hgd).length_eq;rw[gV] at this;omega
end
end Go.Proofs.YtkjhhooecopolaaGreatDoor
namespace Go.Proofs.YtkjhhooecopolaaGreatDoor.Gb
open Ge Ga
section
variable{S:List Sg}{nx:Sg->Sg}
theorem Wd.NR(h:Wd S nx):∀(T:List Sg)(b c:Sg)(e:Pt),b∈S->(∀s∈T,s∈S)->Path b.2 T e->ay (dr c) (dr b)=true->ay (dr ((tG b T).getLastD c)) (dr (T.getLastD b))=true
 |[],_,_,_,_,_,_,hc=>hc
 |s::T,b,c,e,hb,hm,hp,hc=>by
  have hs:=hm s (by simp)
  have e1:(s::T).getLastD b=T.getLastD s:=by cases T<;>rfl
  rw[e1];unfold tG;by_cases hcr:cr (dr b) (dr s)=0
  ·rw[ah hcr];exact h.NR T s c e hs (fun u hu=>hm u (bo _ hu)) hp.2 (J3 hc (h.PY hb hs hp.1 hcr))
  ·rw[aa hcr];have e2:(s::tG s T).getLastD c=(tG s T).getLastD s:=by cases tG s T<;>rfl
   rw[e2];exact h.NR T s s e hs (fun u hu=>hm u (bo _ hu)) hp.2 (AQ (h.gh hs))
end
def nU(c:Nat->Nat->Bool)(p:List Nat×List (List Nat))(s:Nat):List Nat×List (List Nat):=
 if 0<=fA (c s) (p.1++[s]) then((p.1++[s]).take (fA (c s) (p.1++[s])).toNat,p.2++[(p.1++[s]).drop (fA (c s) (p.1++[s])).toNat]) else(p.1++[s],p.2)
def lY(c:Nat->Nat->Bool)(W:List Nat):List Nat×List (List Nat):=W.foldl (nU c) ([],[])
theorem XS(c:Nat->Nat->Bool)(W:List Nat)(s:Nat):lY c (W++[s])=nU c (lY c W) s:=by unfold lY;rw[Ju];rfl
theorem air(Xs:List PB)(W:List Nat):bB Xs W=((lY (jZ Xs) W).1,(lY (jZ Xs) W).2.map (cL Xs)):=by
 have key:∀(W:List Nat)(p:List Nat×List (List Nat)),W.foldl (iQ Xs) (p.1,p.2.map (cL Xs))=((W.foldl (nU (jZ Xs)) p).1,(W.foldl (nU (jZ Xs)) p).2.map (cL Xs)):=by
  intro W;induction W with
  |nil=>intro p;rfl
  |cons s W ih=>
   intro p;rw[qj,qj,<-ih];congr 1;unfold iQ nU gw;simp only;by_cases h:0<=fA (jZ Xs s) (p.1++[s])
   ·rw[ah h,ah h];simp
   ·rw[aa h,aa h]
 exact key W ([],[])
theorem ais(Xs:List PB)(W:List Nat):bg Xs W=(lY (jZ Xs) W).2.map (cL Xs):=by unfold bg;rw[air]
theorem ait{P:Nat->Bool}(g:Nat->Nat)(l:List Nat):fA P (l.map g)=fA (fun x=>P (g x)) l:=H6 l 0 fun _ _=>rfl
theorem aiu(c:Nat->Nat->Bool)(g:Nat->Nat)(W:List Nat):lY c (W.map g)=((lY (fun i j=>c (g i) (g j)) W).1.map g,(lY (fun i j=>c (g i) (g j)) W).2.map (·.map g)):=by
 have key:∀(W:List Nat)(p:List Nat×List (List Nat)),(W.map g).foldl (nU c) (p.1.map g,p.2.map (·.map g))=((W.foldl (nU fun i j=>c (g i) (g j)) p).1.map g,(W.foldl (nU fun i j=>c (g i) (g j)) p).2.map (·.map g)):=by
  intro W;induction W with
  |nil=>intro p;rfl
  |cons s W ih=>
   intro p;rw[iE,qj,qj,<-ih];congr 1;unfold nU;simp only;have e:p.1.map g++[g s]=(p.1++[s]).map g:=by simp
   rw[e,ait];by_cases h:0<=fA (fun x=>c (g s) (g x)) (p.1++[s])
   ·rw[ah h,ah h];simp
   ·rw[aa h,aa h]
 exact key W ([],[])
theorem aiv(c:Nat->Nat->Bool)(p:List Nat×List (List Nat))(s:Nat):∀o∈(nU c p s).1,o∈p.1++[s]:=by
 intro o ho;unfold nU at ho;split at ho
 ·exact rU ho
 ·exact ho
theorem XT(c:Nat->Nat->Bool):∀(i:Nat),∀o∈(lY c (List.range i)).1,o<i
 |0,o,ho=>by simp[lY] at ho
 |i+1,o,ho=>by
  rw[Eh,XS] at ho;rcases bT.1 (aiv c _ i o ho) with q|q
  ·have:=XT c i o q;omega
  ·have:=bI.1 q;omega
theorem aiw{ν:Type}{f:Nat->ν}(c:Nat->Nat->Bool)(i:Nat)(p:List Nat×List (List Nat))(hc:∀o∈p.1++[i],c i o=true↔f o=f (i+1)):vU f i p (nU c p i):=by
 unfold nU fA;rcases Ij (P:=c i) (p.1++[i]) 0 with⟨h1,h2⟩|⟨R,x,h1,h2,h3,h4⟩
 ·rw[aa (by omega)]
  refine ae ⟨fun o ho e=>?_,rfl⟩
  have:=(hc o ho).2 e;rw[h2 o ho] at this;cases this
 ·have e:(eW (c i) (p.1++[i]) 0).toNat=R:=by rw[h1];omega
  rw[ah (by omega),e]
  have hx:x∈p.1++[i]:=bh h2;refine af ⟨(p.1++[i]).take R,x,(p.1++[i]).drop (R+1),?_,(hc x hx).1 h3,fun o ho k=>?_,?_⟩
  ·rw[<-tN h2,OY]
  ·obtain⟨t,ht,et⟩:=jL.1 ho;have htR:t<R:=by
    have:=ht;rw[ir] at this;omega
   have hg:(p.1++[i])[t]?=some o:=by
    rw[<-et,List.getElem_take];exact aD _
   have:=h4 t o htR hg;rw[(hc o (bh hg)).2 k] at this;cases this
  ·rw[<-tN h2]
theorem NU(Xs:List PB):∀(A:List Nat)(b:Nat)(B:List Nat),tI Xs b (A++B)=tI Xs b A++tI Xs (A.getLastD b) B
 |[],_,_=>rfl
 |a::A,b,B=>by
  have ih:=NU Xs A a B;have e:(a::A).getLastD b=A.getLastD a:=by cases A<;>rfl
  show _++tI Xs a (A++B)=(_++tI Xs a A)++_;rw[ih,e,eF]
theorem IA{cf:Nat->Nat->Int}{d:Nat}:∀(l:List Nat)(m:Nat),d∈m::l->(∀x∈m::l,x≠d->cf d x<0)->(∀x∈m::l,¬cf x d<0)->bw cf l m=d
 |[],m,h,_,_=>(bI.1 h).symm
 |b::l,m,h,h1,h2=>by
  unfold bw;by_cases e:m=d
  ·subst e;rw[aa (h2 b (by simp))]
   exact IA l m (by simp) (fun x hx=>h1 x (by rcases aP.1 hx with q|q<;>simp[q])) (fun x hx=>h2 x (by rcases aP.1 hx with q|q<;>simp[q]))
  ·by_cases e2:b=d
   ·subst e2;rw[ah (h1 m (by simp) e)]
    exact IA l b (by simp) (fun x hx=>h1 x (by rcases aP.1 hx with q|q<;>simp[q])) (fun x hx=>h2 x (by rcases aP.1 hx with q|q<;>simp[q]))
   ·have hd:d∈l:=by
     rcases aP.1 h with q|q
     ·exact absurd q.symm e
     ·rcases aP.1 q with q|q
      ·exact absurd q.symm e2
      ·exact q
    refine IA l _ (bo _ hd) (fun x hx=>?_) (fun x hx=>?_)
    ·rcases aP.1 hx with q|q
     ·rw[q];split
      ·exact h1 b (by simp)
      ·exact h1 m (by simp)
     ·exact h1 x (by simp[q])
    ·rcases aP.1 hx with q|q
     ·rw[q];split
      ·exact h2 b (by simp)
      ·exact h2 m (by simp)
     ·exact h2 x (by simp[q])
section
variable{rg:List (List Pt)}{l:List Nd}{r:Int}{Xs:List PB}
abbrev pi(l:List Nd)(Xs:List PB)(i:Nat):Sg:=ph (ai l) (xi Xs i)
theorem SX.pd(h:SX rg l r Xs){i:Nat}(hi:i<Xs.length):Pm (dr (pi l Xs i)) (wv (xi Xs i).f (xi Xs i).t):=
 ja (bK.ok h.nl).1 ((bK.ok h.nl).2 _ (fW h.nl (h.sd hi).pc).2.1) ((bK.ok h.nl).2 _ (fW h.nl (h.sd hi).pc).2.2)
theorem SX.nV(h:SX rg l r Xs){i:Nat}(hi:i<Xs.length):(xi Xs i).f∈l/\(xi Xs i).t∈l:=(fW h.nl (h.sd hi).pc).2
theorem NV(x:Int):(x.sign=0↔x=0)/\(0<x.sign↔0<x)/\(x.sign<0↔x<0):=by
 rcases sg x with⟨a,b⟩|⟨a,b⟩|⟨a,b⟩<;>rw[b]<;>omega
theorem SX.fY(h:SX rg l r Xs){i j:Nat}(hi:i<Xs.length)(hj:j<Xs.length):(dX (xi Xs i) (xi Xs j)=0↔cr (dr (pi l Xs i)) (dr (pi l Xs j))=0)/\(0<dX (xi Xs i) (xi Xs j)↔0<cr (dr (pi l Xs i)) (dr (pi l Xs j))):=by
 rw[u9];have a:=NV (cr (wv (xi Xs i).f (xi Xs i).t) (wv (xi Xs j).f (xi Xs j).t));have b:=(SX.pd h hi).cr (SX.pd h hj);exact⟨a.1.trans b.2.2.symm,a.2.1.trans b.1.symm⟩
theorem SX.tG(h:SX rg l r Xs):∀(A:List Nat)(b:Nat),b<Xs.length->(∀a∈A,a<Xs.length)->(tI Xs b A).map (pi l Xs)=Gb.tG (pi l Xs b) (A.map (pi l Xs))
 |[],_,_,_=>rfl
 |s::A,b,hb,hm=>by
  have hs:=hm s (by simp)
  have ih:=SX.tG h A s hs (fun a ha=>hm a (bo _ ha))
  have k:=(SX.fY h hs hb).1;have k2:cr (dr (pi l Xs s)) (dr (pi l Xs b))=0↔cr (dr (pi l Xs b)) (dr (pi l Xs s))=0:=by rw[bV];omega
  show((if dX (xi Xs s) (xi Xs b)=0 then[] else[s])++tI Xs s A).map (pi l Xs)=if cr (dr (pi l Xs b)) (dr (pi l Xs s))=0 then Gb.tG (pi l Xs s) (A.map (pi l Xs)) else pi l Xs s::Gb.tG (pi l Xs s) (A.map (pi l Xs))
  by_cases hc:dX (xi Xs s) (xi Xs b)=0
  ·rw[ah hc,ah (k2.1 (k.1 hc)),oP,ih]
  ·rw[aa hc,aa (fun e=>hc (k.2 (k2.2 e))),iD,ih]
   rfl
theorem SX.geq(h:SX rg l r Xs){a b:Nd}(ha:a∈l)(hb:b∈l):ge (PM (ai l) a) (PM (ai l) b)->a≠b->aY a b<0:=by
 intro hg hne;have hr:=JS hg (fun e=>hne (rA h.nl ha hb e))
 have:=(ja (bK.ok h.nl).1 ((bK.ok h.nl).2 a ha) ((bK.ok h.nl).2 b hb)).aM.1 hr;rw[zz];exact(lS (h.nl.can a ha) (h.nl.can b hb)).2 this
theorem XU{α:Type}(A:List α){B:List α}(hB:B≠[])(d e:α):(A++B).getLastD d=B.getLastD e:=by
 rw[mZ,mZ,J0 A hB];cases q:B.getLast? with
 |none=>exact absurd (xJ.1 q) hB
 |some z=>rfl
theorem SX.ring(h:SX rg l r Xs)(hB:BD Xs){D1 D2:List Nat}(hl:∀a∈D1++D2,a<Xs.length)(hR:LR (sS (ai l) Xs) (jE (ai l) Xs) ((D2++D1).map (pi l Xs)))(h2:D2≠[]):cL Xs (D1++D2)=cN Xs (D2++D1):=by
 have hW:=SX.wd h hB;obtain⟨d,dL,rfl⟩:∃d dL,D2=d::dL:=by
  cases D2 with
  |nil=>exact absurd rfl h2
  |cons d D=>exact⟨d,D,rfl⟩
 have xh:=hl d (by simp)
 have hnd:(d::dL++D1).Nodup:=by
  have:=hR.ring.nd;exact List.Pairwise.of_map (pi l Xs) (fun a b k e=>k (by rw[e])) this
 have hz:∃z,(d::dL++D1).getLastD 0=z/\z∈d::dL++D1:=by
  refine⟨_,rfl,?_⟩;rw[mZ];cases q:(d::dL++D1).getLast? with
  |none=>exact absurd (xJ.1 q) (by simp)
  |some z=>exact rS q
 obtain⟨z,hz1,hz2⟩:=hz;have hzl:z<Xs.length:=hl z (by simp at hz2⊢;rcases hz2 with q|q|q<;>simp[q])
 obtain⟨a,T,t,U,e1,e2,e3,_⟩:=hR.EZ hW;have ha:a=pi l Xs d:=by
  have:(pi l Xs d::(dL++D1).map (pi l Xs))=a::T:=by rw[<-e1];simp
  injection this with q _;exact q.symm
 have hturn:dX (xi Xs d) (xi Xs z)≠0:=fun e=>by
  have hzz:((d::dL++D1).map (pi l Xs)).getLastD s0=pi l Xs z:=by
   rw[mZ,AO];rw[mZ] at hz1;cases q:(d::dL++D1).getLast? with
   |none=>exact absurd (xJ.1 q) (by simp)
   |some y=>rw[q] at hz1;rw[<-hz1];rfl
  have hc:=((SX.fY h xh hzl).1).1 e;have:cr (dr (pi l Xs z)) (dr (pi l Xs d))=0:=by rw[bV];omega
  unfold iV at e3;rw[hzz,e1] at e3;have e4:Gb.tG (pi l Xs z) (a::T)=Gb.tG a T:=by
   show(if cr (dr (pi l Xs z)) (dr a)=0 then _ else _)=_
   rw[ha,ah this]
  rw[e4,e2] at e3;have e5:=aw List.length e3;simp at e5
 have hT:cN Xs (D1++d::dL)=tI Xs ((d::dL).getLastD 0) D1++d::tI Xs d dL:=by
  unfold cN;rw[NU,XU D1 (by simp) 0 0]
  congr 1;have:D1.getLastD ((d::dL).getLastD 0)=z:=by
   cases hD:D1 with
   |nil=>
    rw[hD] at hz1;simp only[qg] at hz1;rw[<-hz1];rfl
   |cons x D=>
    rw[<-hz1,hD,XU (d::dL) (by simp) 0 0]
    cases D<;>rfl
  rw[this];show(if dX (xi Xs d) (xi Xs z)=0 then[] else[d])++tI Xs d dL=_
  rw[aa hturn];rfl
 have hT':cN Xs (d::dL++D1)=(d::tI Xs d dL)++tI Xs ((d::dL).getLastD 0) D1:=by
  unfold cN;rw[hz1,NU];congr 1;show(if dX (xi Xs d) (xi Xs z)=0 then[] else[d])++tI Xs d dL=_
  rw[aa hturn];rfl
 have NW:∀x∈cN Xs (D1++d::dL),x∈D1++d::dL:=fun x hx=>zF Xs _ _ x hx
 have hmem:∀x,x∈D1++d::dL↔x∈d::dL++D1:=fun x=>by simp;constructor<;>(rintro(q|q|q)<;>simp[q])
 have XV:∀x∈D1++d::dL,x≠d->aY (xi Xs d).f (xi Xs x).f<0:=fun x hx hne=>by
  have hx':=(hmem x).1 hx;have hg:=hR.least (pi l Xs d) (by simp) (pi l Xs x) (bp.2 ⟨x,hx',rfl⟩)
  refine SX.geq h (SX.nV h xh).1 (SX.nV h (hl x hx)).1 hg fun e=>?_
  have hx2:x∈dL++D1:=by
   rcases aP.1 hx' with q|q
   ·exact absurd q hne
   ·exact q
  have yn:=hR.ring.oa;simp only[kG,iE,fE] at yn;exact yn.1 (pi l Xs x) (bp.2 ⟨x,hx2,rfl⟩) (aw (PM (ai l)) e)
 have Nb:jF Xs (cN Xs (D1++d::dL))=d:=by
  unfold jF;have hne:cN Xs (D1++d::dL)≠[]:=by rw[hT];simp
  obtain⟨m,U',eU⟩:∃m U',cN Xs (D1++d::dL)=m::U':=by
   cases q:cN Xs (D1++d::dL) with
   |nil=>exact absurd q hne
   |cons m U'=>exact⟨m,U',rfl⟩
  rw[eU];refine IA U' m ?_ (fun x hx NY=>?_) (fun x hx k=>?_)
  ·rw[<-eU,hT];simp
  ·rw[<-eU] at hx;exact XV x (NW x hx) NY
  ·rw[<-eU] at hx;by_cases e:x=d
   ·subst e;rw[u7] at k;omega
   ·have:=XV x (NW x hx) e;rw[zz] at k this;exact Ge.lt_irrefl _ (Ge.lt_trans (Ge.cJ (h.nl.can _ (SX.nV h xh).1)) (Ge.cJ (h.nl.can _ (SX.nV h (hl x (NW x hx))).1)) (Ge.cJ (h.nl.can _ (SX.nV h xh).1)) this k)
 have Nc:rB Xs (cN Xs (D1++d::dL))=(tI Xs ((d::dL).getLastD 0) D1).length:=by
  unfold rB fA;rw[Nb,hT];rcases Ij (P:=fun j=>j == d) (tI Xs ((d::dL).getLastD 0) D1++d::tI Xs d dL) 0 with⟨_,q2⟩|⟨R,x,q1,q2,q3,q4⟩
  ·have:=q2 d (by simp)
   simp at this
  ·rw[q1];have NY:x=d:=by simpa using q3
   subst NY;have aiy:x∉tI Xs ((x::dL).getLastD 0) D1:=fun k=>by
    have k1:=zF Xs _ _ x k;rw[kG] at hnd;exact(Js.1 hnd).1 (by simp[k1])
   have h1:¬R<(tI Xs ((x::dL).getLastD 0) D1).length:=fun k=>by
    rw[eG k] at q2;exact aiy (bh q2)
   have h2:¬(tI Xs ((x::dL).getLastD 0) D1).length<R:=fun k=>by
    have:=q4 (tI Xs ((x::dL).getLastD 0) D1).length x k (by rw[mW (ax _)];simp)
    simp at this
   omega
 unfold cL;rw[Nc,hT',hT,ZH,List.take_left]
structure Rel(l:List Nd)(Xs:List PB)(q:List Nat)(R:List Sg):Prop where
 lr:LR (sS (ai l) Xs) (jE (ai l) Xs) R
 iV:(Go.Proofs.YtkjhhooecopolaaGreatDoor.fr Xs q).map (PM (ai l))=iV R
 sh:bQ Xs q=true↔shl R
theorem SX.rel(h:SX rg l r Xs)(hB:BD Xs){D:List Nat}(hl:∀a∈D,a<Xs.length)(hR:iU (sS (ai l) Xs) (jE (ai l) Xs) (D.map (pi l Xs))):∃R,Rel l Xs (cL Xs D) R/\R.Perm (D.map (pi l Xs)):=by
 have hW:=SX.wd h hB;obtain⟨A,B,e,mL⟩:=hR.PX;obtain⟨D1,D2,rfl,rfl,rfl⟩:=List.map_eq_append_iff.1 e;have alW:D2≠[]\/D1=[]/\D2≠[]\/D2=[]:=by by_cases q:D2=[]<;>simp[q]
 have key:∀D1 D2:List Nat,(∀a∈D1++D2,a<Xs.length)->LR (sS (ai l) Xs) (jE (ai l) Xs) ((D2++D1).map (pi l Xs))->D2≠[]->Rel l Xs (cL Xs (D1++D2)) ((D2++D1).map (pi l Xs)):=by
  intro D1 D2 hl mL h2;have er:=SX.ring h hB hl mL h2;rw[er];have hne:D2++D1≠[]:=by simp[h2]
  obtain⟨z,hz⟩:∃z,(D2++D1).getLast?=some z:=by
   cases q:(D2++D1).getLast? with
   |none=>exact absurd (xJ.1 q) hne
   |some z=>exact⟨z,rfl⟩
  have hl':∀a∈D2++D1,a<Xs.length:=fun a ha=>hl a (by simp at ha⊢;exact ha.symm)
  have hzl:=hl' z (rS hz);have hlast:(D2++D1).getLastD 0=z:=by rw[mZ,hz];rfl
  have XW:((D2++D1).map (pi l Xs)).getLastD s0=pi l Xs z:=by rw[mZ,AO,hz];rfl
  have ht:(cN Xs (D2++D1)).map (pi l Xs)=Gb.tG (pi l Xs z) ((D2++D1).map (pi l Xs)):=by
   unfold cN;rw[hlast];exact SX.tG h _ z hzl hl'
  have XX:(Go.Proofs.YtkjhhooecopolaaGreatDoor.fr Xs (cN Xs (D2++D1))).map (PM (ai l))=Gb.iV ((D2++D1).map (pi l Xs)):=by
   unfold Gb.iV;rw[XW,<-ht];unfold Go.Proofs.YtkjhhooecopolaaGreatDoor.fr;rw[jM,jM];rfl
  refine⟨mL,XX,?_⟩;obtain⟨a,T,t,U,e1,e2,e3,_⟩:=mL.EZ hW;have Da:((D2++D1).map (pi l Xs)).getLast?=some (pi l Xs z):=by rw[AO,hz];rfl
  have XY:=mL.ring.mem;have hp:=mL.ring.path (a:=a) (by rw[e1];rfl)
  have hlen:=aw List.length XX;have hq:(cN Xs (D2++D1)).map (pi l Xs)=a::Gb.tG a T:=by
   rw[ht,e1];show(if cr (dr (pi l Xs z)) (dr a)=0 then Gb.tG a T else a::Gb.tG a T)=_
   by_cases hc:cr (dr (pi l Xs z)) (dr a)=0
   ·exfalso;unfold Gb.iV at e3;rw[XW,e1] at e3;have e4:Gb.tG (pi l Xs z) (a::T)=Gb.tG a T:=by
     show(if cr (dr (pi l Xs z)) (dr a)=0 then _ else _)=_
     rw[ah hc]
    rw[e4,e2] at e3;have:=aw List.length e3;simp at this
   ·rw[aa hc]
  obtain⟨x,V,eV⟩:∃x V,cN Xs (D2++D1)=x::V:=by
   cases q:cN Xs (D2++D1) with
   |nil=>rw[q] at hq;cases hq
   |cons x V=>exact⟨x,V,rfl⟩
  have se:∀y∈cN Xs (D2++D1),y<Xs.length:=fun y hy=>hl' y (zF Xs _ _ y hy)
  rw[eV] at hq se⊢;rw[iE] at hq;injection hq with q1 q2;have hxl:=se x (by simp)
  obtain⟨y,hy⟩:∃y,(x::V).getLast?=some y:=by
   cases q:(x::V).getLast? with
   |none=>exact absurd (xJ.1 q) (by simp)
   |some z=>exact⟨z,rfl⟩
  have hyl:=se y (rS hy);have hyG:(Gb.tG a T).getLastD a=pi l Xs y:=by
   rw[<-q2,<-q1];have e:((x::V).map (pi l Xs)).getLast?=some (pi l Xs y):=by rw[AO,hy];rfl
   have e':(V.map (pi l Xs)).getLastD (pi l Xs x)=((x::V).map (pi l Xs)).getLastD (pi l Xs x):=by rw[iE];cases V.map (pi l Xs)<;>rfl
   rw[e',mZ,e];rfl
  have C9:a∈sS (ai l) Xs:=XY a (by rw[e1];simp)
  have hTS:∀s∈T,s∈sS (ai l) Xs:=fun s hs=>XY s (by rw[e1];simp[hs])
  have hsm:=hW.NR T a a a.1 C9 hTS (by rw[e1] at hp;exact hp.2) (AQ (hW.gh C9))
  have pW:T.getLastD a=pi l Xs z:=by
   have:(a::T).getLast?=some (pi l Xs z):=by rw[<-e1];exact Da
   have e':T.getLastD a=(a::T).getLastD a:=by cases T<;>rfl
   rw[e',mZ,this];rfl
  rw[hyG,pW] at hsm;unfold bQ;have g1:(x::V).getLastD 0=y:=by rw[mZ,hy];rfl
  have g2:(x::V).headD 0=x:=rfl;rw[g1,g2,qp,(SX.fY h hyl hxl).2,q1];have hs:=(wZ hsm (dr a)).1;rw[bV (dr (pi l Xs y)),bV (dr (pi l Xs z))] at hs;have aiC:0<cr (dr (pi l Xs y)) (dr a)↔0<cr (dr (pi l Xs z)) (dr a):=by
   have s1:=(wZ hsm (dr a));have s2:=wZ hsm (neg (dr a));rw[eI,eI] at s2;have x1:cr (dr (pi l Xs y)) (dr a)= -cr (dr a) (dr (pi l Xs y)):=bV _ _;have x2:cr (dr (pi l Xs z)) (dr a)= -cr (dr a) (dr (pi l Xs z)):=bV _ _;rw[x1,x2];exact s2.1
  rw[aiC];constructor
  ·intro k;exact⟨a,pi l Xs z,by rw[e1];rfl,Da,k⟩
  ·rintro⟨a',z',ha',hz',k⟩;rw[e1] at ha';obtain rfl:a=a':=lG ha';rw[Da] at hz';obtain rfl:pi l Xs z=z':=lG hz';exact k
 by_cases q:D2=[]
 ·subst q;refine⟨D1.map (pi l Xs),?_,by simp⟩
  have hne:D1≠[]:=fun e=>hR.ne (by rw[e];rfl)
  have:=key [] D1 (by simpa using hl) (by simpa using mL) hne
  simpa using this
 ·refine⟨(D2++D1).map (pi l Xs),key D1 D2 hl (by rw[iD];exact mL) q,?_⟩
  exact(Jc).map _
end
theorem pick{α β γ:Type}{P:α->β->Prop}{φ:α->List γ}{ψ:β->List γ}:∀(Ds:List α),(∀D∈Ds,∃R,P D R/\(ψ R).Perm (φ D))->∃Z:List (α×β),Z.map Prod.fst=Ds/\(∀z∈Z,P z.1 z.2)/\(Z.map fun z=>ψ z.2).flatten.Perm (Ds.map φ).flatten
 |[],_=>⟨[],rfl,by simp,by simp⟩
 |D::Ds,h=>by
  obtain⟨Z,e,h1,h2⟩:=pick Ds fun D' hD'=>h D' (bo _ hD')
  obtain⟨R,hR,hp⟩:=h D (by simp)
  refine⟨(D,R)::Z,by simp[e],fun z hz=>?_,?_⟩
  ·rcases aP.1 hz with q|q
   ·rw[q];exact hR
   ·exact h1 z q
  ·simp only[iE,Et];exact hp.append h2
section
variable{rg:List (List Pt)}{l:List Nd}{r:Int}{Xs:List PB}
theorem DT{nx:Nat->Nat}{mk:Nat->Bool}{n k:Nat}{L:List Nat}(hc:mP nx mk n k L):(∀t,t+1<L.length->L.getD (t+1) 0=nx (L.getD t 0))/\L.getD 0 0=k/\nx (L.getD (L.length-1) 0)=k/\0<L.length:=by
 have h0:=bU.1 hc.head;refine⟨fun t ht=>?_,?_,?_,h0.1⟩
 ·have a:L[t]?=some L[t]:=aD (by omega)
  have b:L[t+1]?=some L[t+1]:=aD ht;rw[kI,kI,a,b];exact hc.step t _ _ a b
 ·rw[kI,hc.head];rfl
 ·obtain⟨hp,_⟩:=h0;have hp1:L.length-1<L.length:=by omega
  have a:L[L.length-1]?=some L[L.length-1]:=aD hp1;rw[kI,a];exact hc.back _ (by rw[nY];exact a)
theorem SX.it(h:SX rg l r Xs){mk:Nat->Bool}{k:Nat}{L:List Nat}(hc:mP (bZ Xs) mk Xs.length k L):∀t,t<L.length->Gb.it (jE (ai l) Xs) t (pi l Xs k)=pi l Xs (L.getD t 0)
 |0,_=>by rw[(DT hc).2.1];rfl
 |t+1,ht=>by
  have ih:=SX.it h hc t (by omega)
  show jE (ai l) Xs (Gb.it (jE (ai l) Xs) t (pi l Xs k))=_;rw[ih,(DT hc).1 t ht];refine xk h (hc.free _ ?_).1;rw[kI,aD (by omega)]
  exact gF _
theorem tW{L:List Nat}{t:Nat}(ht:t<L.length):L.getD t 0∈L:=by
 rw[kI,aD ht];exact gF _
theorem SX.XZ(h:SX rg l r Xs){mk:Nat->Bool}{k:Nat}{L:List Nat}(hc:mP (bZ Xs) mk Xs.length k L):AL (jE (ai l) Xs) (pi l Xs k) L.length:=by
 obtain⟨_,_,g3,g4⟩:=DT hc;refine⟨g4,?_,fun i j hi hj e=>?_⟩
 ·have e:L.length=(L.length-1)+1:=by omega
  rw[e];show jE (ai l) Xs (Gb.it (jE (ai l) Xs) (L.length-1) (pi l Xs k))=_;rw[SX.it h hc _ (by omega),xk h (hc.free _ (tW (by omega))).1,g3]
 ·rw[SX.it h hc i hi,SX.it h hc j hj] at e;have:=SX.C6 h (hc.free _ (tW hi)).1 (hc.free _ (tW hj)).1 e;rw[kI,kI,aD hi,aD hj] at this;exact(List.getElem_inj hc.nd).1 this
theorem X4(L:List Nat):(List.range L.length).map (fun t=>L.getD t 0)=L:=by
 refine vK (by simp) fun i h1 h2=>?_
 simp[List.getD_eq_getElem?_getD,h2]
theorem SX.rings(h:SX rg l r Xs)(hB:BD Xs){mk:Nat->Bool}{k:Nat}{L:List Nat}(hc:mP (bZ Xs) mk Xs.length k L):∃Z:List (List Nat×List Sg),Z.map Prod.fst=bg Xs L/\(∀z∈Z,Rel l Xs z.1 z.2)/\(Z.map Prod.snd).flatten.Perm (L.map (pi l Xs)):=by
 have hW:=SX.wd h hB;have hC:=SX.XZ h hc;obtain⟨_,g2,_,g4⟩:=DT hc;have hk:k<Xs.length:=by rw[<-g2];exact(hc.free _ (tW g4)).1
 have tU:pi l Xs k∈sS (ai l) Xs:=C7 _ hk;have hlt:∀t,t<L.length->L.getD t 0<Xs.length:=fun t ht=>(hc.free _ (tW ht)).1
 obtain⟨_,hperm,aiD⟩:=parted (f:=fun i=>(Gb.it (jE (ai l) Xs) i (pi l Xs k)).1) (m:=L.length) (hW.nc tU hC) (fun j hj e=>by
   rw[hW.sx tU] at e;exact hW.ne _ (hW.mh tU j) e) (by show(Gb.it (jE (ai l) Xs) L.length (pi l Xs k)).1=_;rw[hC.per];rfl)
  (fun i=>lY (fun i j=>jZ Xs (L.getD i 0) (L.getD j 0)) (List.range i)) rfl (fun i hi=>by
   show vU _ i _ (lY _ (List.range (i+1)));rw[Eh,XS];refine aiw _ i _ fun o ho=>?_
   have X5:o<L.length:=by
    rcases bT.1 ho with q|q
    ·have:=XT _ i o q;omega
    ·have:=bI.1 q;omega
   show jZ Xs (L.getD i 0) (L.getD o 0)=true↔(Gb.it (jE (ai l) Xs) o (pi l Xs k)).1=(Gb.it (jE (ai l) Xs) (i+1) (pi l Xs k)).1;rw[hW.sx tU,SX.it h hc i hi,SX.it h hc o X5];unfold jZ;rw[qp];constructor
   ·intro e;exact aw (PM (ai l)) e.symm
   ·intro e;exact(rA h.nl (SX.nV h (hlt o X5)).1 (SX.nV h (hlt i hi)).2 e).symm)
 have hE:bg Xs L=((lY (fun i j=>jZ Xs (L.getD i 0) (L.getD j 0)) (List.range L.length)).2.map fun D=>D.map fun t=>L.getD t 0).map (cL Xs):=by
  rw[ais];have:=aiu (jZ Xs) (fun t=>L.getD t 0) (List.range L.length)
  rw[X4] at this;rw[this]
 generalize(lY (fun i j=>jZ Xs (L.getD i 0) (L.getD j 0)) (List.range L.length)).2=Ds at*
 obtain⟨Z,e1,e2,e3⟩:=pick (P:=fun D R=>Rel l Xs (cL Xs (D.map fun t=>L.getD t 0)) R) (φ:=fun D=>(D.map fun t=>L.getD t 0).map (pi l Xs)) (ψ:=fun R=>R) Ds fun D hD=>by
  obtain⟨d,hd⟩:=aiD D hD;refine SX.rel h hB (fun a ha=>?_) ?_
  ·obtain⟨t,ht,rfl⟩:=bp.1 ha;exact hlt t (hd.lt t ht)
  ·have:=hd.ring hW tU hC;have e:(D.map fun t=>L.getD t 0).map (pi l Xs)=D.map fun t=>Gb.it (jE (ai l) Xs) t (pi l Xs k):=by
    rw[jM];exact Jk fun t ht=>(SX.it h hc t (hd.lt t ht)).symm
   rw[e];exact this
 refine⟨Z.map fun z=>(cL Xs (z.1.map fun t=>L.getD t 0),z.2),?_,fun z hz=>?_,?_⟩
 ·rw[hE,jM,jM,<-e1,jM];rfl
 ·obtain⟨y,hy,rfl⟩:=bp.1 hz;exact e2 y hy
 ·rw[jM];refine e3.trans ?_;have e4:(Ds.map fun D=>(D.map fun t=>L.getD t 0).map (pi l Xs)).flatten=Ds.flatten.map fun t=>pi l Xs (L.getD t 0):=by
   rw[List.map_flatten];congr 1;refine Jk fun D _=>?_
   rw[jM];rfl
  rw[e4];refine(hperm.map _).trans ?_;have e5:(List.range L.length).map (fun t=>pi l Xs (L.getD t 0))=L.map (pi l Xs):=by
   have:=aw (List.map (pi l Xs)) (X4 L);rw[jM] at this;exact this
  rw[e5]
theorem IB{M:Int}(hM:0<M){a b:Nd}(ha:OK M a)(hb:OK M b):a.2.2*b.2.2*(dr (PM M a,PM M b)).1=M*(wv a b).1/\a.2.2*b.2.2*(dr (PM M a,PM M b)).2=M*(wv a b).2:=by
 obtain⟨k,hk,e,e1⟩:=CQ hM ha.p ha.d;obtain⟨j,hj,f,f1⟩:=CQ hM hb.p hb.d;rw[e1,f1];constructor
 ·show a.2.2*b.2.2*(b.1*j-a.1*k)=M*(a.2.2*b.1-b.2.2*a.1);have:a.2.2*b.2.2*(b.1*j-a.1*k)=a.2.2*b.1*(b.2.2*j)-b.2.2*a.1*(a.2.2*k):=by grind
  rw[this,e,f]
  grind
 ·show a.2.2*b.2.2*(b.2.1*j-a.2.1*k)=M*(a.2.2*b.2.1-b.2.2*a.2.1);have:a.2.2*b.2.2*(b.2.1*j-a.2.1*k)=a.2.2*b.2.1*(b.2.2*j)-b.2.2*a.2.1*(a.2.2*k):=by grind
  rw[this,e,f]
  grind
theorem IC{n a b:Pt}:fY (n1 n) a b↔(dr (n,a)).1<=0/\0<(dr (n,b)).1:=by unfold fY;rw[dK,dK]
theorem ID{n a b:Pt}(h:fY (n1 n) a b):kW (n1 n) (a,b)=(dr (a,b)).1/\kY (n1 n) (a,b)= -cr (dr (a,b)) (dr (a,n))/\kS (n1 n) (a,b)=(dr (a,b)).2:=by
 obtain⟨x,y,z,_⟩:=zC h;rw[x,y,z,dK,dK];refine⟨by unfold dr;simp only;omega,?_,by unfold dr;simp only;omega⟩
 unfold cr dr;simp only;grind
theorem SX.jI(h:SX rg l r Xs){n:Nd}(hn:n∈l){i:Nat}(hi:i<Xs.length):jd Xs n i=true↔Gb.fY (n1 (PM (ai l) n)) (pi l Xs i).1 (pi l Xs i).2/\kY (n1 (PM (ai l) n)) (pi l Xs i)<0:=by
 obtain⟨hM,hO⟩:=bK.ok h.nl;obtain⟨hf,ht⟩:=SX.nV h hi;have p1:=ja hM (hO n hn) (hO _ hf);have p2:=ja hM (hO n hn) (hO _ ht);have p3:=ja hM (hO _ hf) (hO _ ht);have p4:=ja hM (hO _ hf) (hO n hn);have c:=(p3.cr p4).1;obtain⟨p,q,hp,hq,e1,_⟩:=p1;obtain⟨p',q',hp',hq',e2,_⟩:=p2;have g1:=jD hp hq e1;have g2:=jD hp' hq' e2;have w1:n.1*(xi Xs i).f.2.2<(xi Xs i).f.1*n.2.2↔0<(wv n (xi Xs i).f).1:=by
  unfold wv;simp only;rw[dM n.2.2,dM (xi Xs i).f.2.2];omega
 have w2:n.1*(xi Xs i).t.2.2<(xi Xs i).t.1*n.2.2↔0<(wv n (xi Xs i).t).1:=by
  unfold wv;simp only;rw[dM n.2.2,dM (xi Xs i).t.2.2];omega
 unfold jd;rw[oU,oU,Jm,Jn,qp,qp,w1,w2];constructor
 ·rintro⟨⟨k1,k2⟩,k3⟩;have hcr:Gb.fY (n1 (PM (ai l) n)) (pi l Xs i).1 (pi l Xs i).2:=IC.2 ⟨by show(dr (PM (ai l) n,PM (ai l) (xi Xs i).f)).1<=0;omega,g2.1.2 k2⟩
  refine⟨hcr,?_⟩;have:=(ID hcr).2.1;show kY (n1 (PM (ai l) n)) ((pi l Xs i).1,(pi l Xs i).2)<0;rw[this];have:=c.2 k3;show -cr (dr (PM (ai l) (xi Xs i).f,PM (ai l) (xi Xs i).t)) (dr (PM (ai l) (xi Xs i).f,PM (ai l) n))<0;omega
 ·rintro⟨hcr,hk⟩;have k1:=(IC.1 hcr).1;have k2:=(IC.1 hcr).2;have:=(ID hcr).2.1;have hk':kY (n1 (PM (ai l) n)) ((pi l Xs i).1,(pi l Xs i).2)<0:=hk;rw[this] at hk';have hk2: -cr (dr (PM (ai l) (xi Xs i).f,PM (ai l) (xi Xs i).t)) (dr (PM (ai l) (xi Xs i).f,PM (ai l) n))<0:=hk';have zL:(dr (PM (ai l) n,PM (ai l) (xi Xs i).f)).1<=0:=k1;have vq:0<(dr (PM (ai l) n,PM (ai l) (xi Xs i).t)).1:=k2;exact⟨⟨by omega,g2.1.1 vq⟩,c.1 (by omega)⟩
theorem SX.dep(h:SX rg l r Xs){n:Nd}(hn:n∈l){i j:Nat}(hi:i<Xs.length)(hj:j<Xs.length)(bi:jd Xs n i=true)(bj:jd Xs n j=true):oO n (xi Xs i) (xi Xs j)<0↔aV (n1 (PM (ai l) n)) (pi l Xs j) (pi l Xs i)=true:=by
 obtain⟨hM,hO⟩:=bK.ok h.nl;have ci:=((SX.jI h hn hi).1 bi).1;have cj:=((SX.jI h hn hj).1 bj).1;obtain⟨i1,i2,i3⟩:=ID ci;obtain⟨j1,j2,j3⟩:=ID cj;obtain⟨fi,ti⟩:=SX.nV h hi;obtain⟨fj,tj⟩:=SX.nV h hj;have a1:=IB hM (hO _ fi) (hO _ ti);have a2:=IB hM (hO _ fi) (hO n hn);have b1:=IB hM (hO _ fj) (hO _ tj);have b2:=IB hM (hO _ fj) (hO n hn);have hp1:=(hO _ fi).p;have hp2:=(hO _ ti).p;have pE:=(hO _ fj).p;have X6:=(hO _ tj).p;have X7:=(hO n hn).p;have cc:=(SX.fY h hi hj);have X8:=u9 (xi Xs i) (xi Xs j);have hcS:=(SX.pd h hi).cr (SX.pd h hj);have Hh:=NV (cr (wv (xi Xs i).f (xi Xs i).t) (wv (xi Xs j).f (xi Xs j).t));have e1:∀i,((pi l Xs i).1,(pi l Xs i).2)=pi l Xs i:=fun i=>rfl
 rw[e1] at i1 i2 i3 j1 j2 j3;have key:∃p q:Int,0<p/\0<q/\p*(kY (n1 (PM (ai l) n)) (pi l Xs j)*kW (n1 (PM (ai l) n)) (pi l Xs i)-kY (n1 (PM (ai l) n)) (pi l Xs i)*kW (n1 (PM (ai l) n)) (pi l Xs j))=q*(cr (wv (xi Xs i).f (xi Xs i).t) (wv (xi Xs i).f n)*((xi Xs j).f.2.2*(wv (xi Xs j).f (xi Xs j).t).1)-cr (wv (xi Xs j).f (xi Xs j).t) (wv (xi Xs j).f n)*((xi Xs i).f.2.2*(wv (xi Xs i).f (xi Xs i).t).1)):=by
  rw[i1,i2,j1,j2];refine⟨((xi Xs i).f.2.2*(xi Xs i).t.2.2)*((xi Xs i).f.2.2*n.2.2)*((xi Xs j).f.2.2*(xi Xs j).t.2.2)*(xi Xs j).f.2.2,ai l*ai l*ai l,aR (aR (aR (aR hp1 hp2) (aR hp1 X7)) (aR pE X6)) pE,aR (aR hM hM) hM,?_⟩;have x1:dr ((pi l Xs i).1,(pi l Xs i).2)=dr (PM (ai l) (xi Xs i).f,PM (ai l) (xi Xs i).t):=rfl;have x2:dr ((pi l Xs i).1,PM (ai l) n)=dr (PM (ai l) (xi Xs i).f,PM (ai l) n):=rfl;have y1:dr ((pi l Xs j).1,(pi l Xs j).2)=dr (PM (ai l) (xi Xs j).f,PM (ai l) (xi Xs j).t):=rfl;have y2:dr ((pi l Xs j).1,PM (ai l) n)=dr (PM (ai l) (xi Xs j).f,PM (ai l) n):=rfl;have X9:dr (pi l Xs i)=dr (PM (ai l) (xi Xs i).f,PM (ai l) (xi Xs i).t):=rfl;have y1':dr (pi l Xs j)=dr (PM (ai l) (xi Xs j).f,PM (ai l) (xi Xs j).t):=rfl
  first |rw[x1,x2,y1,y2]|rw[X9,x2,y1',y2]
  generalize dr (PM (ai l) (xi Xs i).f,PM (ai l) (xi Xs i).t)=A at*;generalize dr (PM (ai l) (xi Xs i).f,PM (ai l) n)=B at*;generalize dr (PM (ai l) (xi Xs j).f,PM (ai l) (xi Xs j).t)=C at*;generalize dr (PM (ai l) (xi Xs j).f,PM (ai l) n)=D at*;generalize wv (xi Xs i).f (xi Xs i).t=A' at*;generalize wv (xi Xs i).f n=B' at*;generalize wv (xi Xs j).f (xi Xs j).t=C' at*;generalize wv (xi Xs j).f n=D' at*;generalize(xi Xs i).f.2.2=f1 at*;generalize(xi Xs i).t.2.2=t1 at*;generalize(xi Xs j).f.2.2=f2 at*;generalize(xi Xs j).t.2.2=t2 at*;generalize n.2.2=nn at*;generalize ai l=M at*;clear i1 i2 i3 j1 j2 j3 ci cj cc X8 hcS Hh e1 x1 x2 y1 y2 X9 y1' hp1 hp2 pE X6 X7;have u1:f1*t1*(f1*nn)*cr A B=M*M*cr A' B':=by
   have:f1*t1*(f1*nn)*cr A B=(f1*t1*A.1)*(f1*nn*B.2)-(f1*t1*A.2)*(f1*nn*B.1):=by unfold cr;grind
   rw[this,a1.1,a1.2,a2.1,a2.2];unfold cr;grind
  have u2:f2*t2*(f2*nn)*cr C D=M*M*cr C' D':=by
   have:f2*t2*(f2*nn)*cr C D=(f2*t2*C.1)*(f2*nn*D.2)-(f2*t2*C.2)*(f2*nn*D.1):=by unfold cr;grind
   rw[this,b1.1,b1.2,b2.1,b2.2];unfold cr;grind
  have v:f1*t1*(f1*nn)*(f2*t2)*f2*(-cr C D*A.1- -cr A B*C.1)=f2*(f1*t1*(f1*nn)*cr A B)*(f2*t2*C.1)-f1*(f2*t2*(f2*nn)*cr C D)*(f1*t1*A.1):=by grind
  rw[v,u1,u2,a1.1,b1.1]
  grind
 obtain⟨p,q,hp,hq,ek⟩:=key;have sk:=jD hp hq ek;have sd:=NV (cr (wv (xi Xs i).f (xi Xs i).t) (wv (xi Xs i).f n)*((xi Xs j).f.2.2*(wv (xi Xs j).f (xi Xs j).t).1)-cr (wv (xi Xs j).f (xi Xs j).t) (wv (xi Xs j).f n)*((xi Xs i).f.2.2*(wv (xi Xs i).f (xi Xs i).t).1));have hS:kS (n1 (PM (ai l) n)) (pi l Xs j)*kW (n1 (PM (ai l) n)) (pi l Xs i)<kS (n1 (PM (ai l) n)) (pi l Xs i)*kW (n1 (PM (ai l) n)) (pi l Xs j)↔cr (dr (pi l Xs i)) (dr (pi l Xs j))<0:=by
  rw[i1,i3,j1,j3];have:cr (dr (pi l Xs i)) (dr (pi l Xs j))=(dr (pi l Xs j)).2*(dr (pi l Xs i)).1-(dr (pi l Xs i)).2*(dr (pi l Xs j)).1:=by unfold cr;grind
  have e3:∀i,dr ((pi l Xs i).1,(pi l Xs i).2)=dr (pi l Xs i):=fun i=>rfl
  rw[this]
  first |(rw[e3,e3];omega)|omega
 rw[zq,hS];unfold oO Dm;by_cases hz:(cr (wv (xi Xs i).f (xi Xs i).t) (wv (xi Xs i).f n)*((xi Xs j).f.2.2*(wv (xi Xs j).f (xi Xs j).t).1)-cr (wv (xi Xs j).f (xi Xs j).t) (wv (xi Xs j).f n)*((xi Xs i).f.2.2*(wv (xi Xs i).f (xi Xs i).t).1)).sign=0
 ·rw[ah hz,X8];omega
 ·rw[aa hz];omega
theorem Ya{cf:Nat->Nat->Int}:∀(L:List Nat)(m:Nat),(∀a∈m::L,∀b∈m::L,∀c∈m::L,cf a b<0->cf c b<0\/cf a c<0)->(∀a∈m::L,∀b∈m::L,cf a b<0->¬cf b a<0)->bw cf L m∈m::L/\∀k∈m::L,¬cf k (bw cf L m)<0
 |[],m,_,ha=>⟨by simp[bw],fun k hk e=>by
  have:k=m:=bI.1 hk;subst this;exact ha k (by simp) k (by simp) e e⟩
 |b::L,m,hw,ha=>by
  unfold bw;have sub:∀x∈(if cf b m<0 then b else m)::L,x∈m::b::L:=fun x hx=>by
   rcases aP.1 hx with q|q
   ·rw[q];split<;>simp
   ·simp[q]
  obtain⟨h1,h2⟩:=Ya L (if cf b m<0 then b else m) (fun a ha b hb c hc=>hw a (sub a ha) b (sub b hb) c (sub c hc)) (fun a h1 b h2=>ha a (sub a h1) b (sub b h2))
  refine⟨sub _ h1,fun k hk e=>?_⟩
  have hr:=sub _ h1;by_cases jm:cf b m<0
  ·rw[ah jm] at h1 h2 e hr;rcases aP.1 hk with q|q
   ·subst q;rcases hw k (by simp) _ hr b (by simp) e with w|w
    ·exact h2 b (by simp) w
    ·exact ha b (by simp) k (by simp) jm w
   ·exact h2 k (by rcases aP.1 q with q|q<;>simp[q]) e
  ·rw[aa jm] at h1 h2 e hr;rcases aP.1 hk with q|q
   ·exact h2 k (by simp[q]) e
   ·rcases aP.1 q with q|q
    ·subst q;rcases hw k (by simp) _ hr m (by simp) e with w|w
     ·exact h2 m (by simp) w
     ·exact jm w
    ·exact h2 k (by simp[q]) e
theorem SX.lowest(h:SX rg l r Xs){n:Nd}(hn:n∈l)(hs:dH Xs n Xs.length≠[]):gA Xs n<Xs.length/\jd Xs n (gA Xs n)=true/\∀i,i<Xs.length->jd Xs n i=true->aV (n1 (PM (ai l) n)) (pi l Xs (gA Xs n)) (pi l Xs i)=false:=by
 obtain⟨m,L,e⟩:∃m L,dH Xs n Xs.length=m::L:=by
  cases q:dH Xs n Xs.length with
  |nil=>exact absurd q hs
  |cons m L=>exact⟨m,L,rfl⟩
 have mem:∀i,i∈m::L↔i<Xs.length/\jd Xs n i=true:=fun i=>by
  rw[<-e];unfold dH;rw[ik,oW]
 have oM:gA Xs n=bw (fun i j=>oO n (xi Xs i) (xi Xs j)) L m:=by unfold gA;rw[e];rfl
 have dk:∀i∈m::L,∀j∈m::L,oO n (xi Xs i) (xi Xs j)<0↔aV (n1 (PM (ai l) n)) (pi l Xs j) (pi l Xs i)=true:=fun i hi j hj=>SX.dep h hn ((mem i).1 hi).1 ((mem j).1 hj).1 ((mem i).1 hi).2 ((mem j).1 hj).2
 obtain⟨h1,h2⟩:=Ya (cf:=fun i j=>oO n (xi Xs i) (xi Xs j)) L m (fun a ha b hb c hc k=>by
   rcases zw _ _ _ (pi l Xs c) ((dk a ha b hb).1 k) with w|w
   ·exact af ((dk a ha c hc).2 w)
   ·exact ae ((dk c hc b hb).2 w)) (fun a ha b hb k1 k2=>by
   have:=zr _ _ _ _ ((dk a ha b hb).1 k1) ((dk b hb a ha).1 k2);rw[CR] at this;cases this)
 rw[<-oM] at h1 h2;refine⟨((mem _).1 h1).1,((mem _).1 h1).2,fun i hi hb=>?_⟩
 have him:=(mem i).2 ⟨hi,hb⟩;cases q:aV (n1 (PM (ai l) n)) (pi l Xs (gA Xs n)) (pi l Xs i)
 ·rfl
 ·exact absurd ((dk i him _ h1).2 q) (h2 i him)
theorem SX.aiF(h:SX rg l r Xs)(hB:BD Xs){n:Nd}(hn:n∈l)(hin:takes r (Ga.PP (ag rg) n)=true){u:Nat}(hu:u<Xs.length)(jV:jd Xs n u=true)(hmin:∀i,i<Xs.length->jd Xs n i=true->aV (n1 (PM (ai l) n)) (pi l Xs u) (pi l Xs i)=false){es:List Sg}(hcl:Cl es)(hi:In (sS (ai l) Xs) es):Lf es (pi l Xs u)=Ga.PP es (n1 (PM (ai l) n)):=by
 have hW:=SX.wd h hB;have huS:pi l Xs u∈sS (ai l) Xs:=C7 _ hu;obtain⟨Yb,hyu⟩:=(SX.jI h hn hu).1 jV;have hris:aM (dr (pi l Xs u)):=by
  have c:=IC.1 Yb;refine ae ?_;have e:(dr (pi l Xs u)).1=(dr (PM (ai l) n,(pi l Xs u).2)).1-(dr (PM (ai l) n,(pi l Xs u).1)).1:=by unfold dr;simp only;omega
  omega
 have hP:=(hW.nB hi huS).1 hris;obtain⟨pD,rfl⟩:=hcl;have ht:=(hts (show(0:Int)<1 by decide) Yb hP).2
 have ha:=(uo hP).2;have e1:Lf (ag pD) (pi l Xs u)=LL (ag pD) (n1 (pi l Xs u).1) (n1 (pi l Xs u).2):=by
  rw[ha,lJ];rfl
 rw[e1,ht,LX];refine VA _ fun e he hw=>?_
 cases q:aV (n1 (PM (ai l) n)) ((pi l Xs u).1,(pi l Xs u).2) e
 ·rw[gD (Hz hyu q)];rfl
 ·
  refine(kH fun IE=>?_).symm
  obtain⟨j,hj,Yc⟩:∃j,j<Xs.length/\(e=pi l Xs j\/e=rv (pi l Xs j)):=by
   rcases hi e he with k|k
   ·obtain⟨j,hj,ej⟩:=jc _ k;exact⟨j,hj,ae ej⟩
   ·obtain⟨j,hj,ej⟩:=jc _ k;exact⟨j,hj,af (aw rv ej)⟩
  have hkj:aV (n1 (PM (ai l) n)) (pi l Xs u) (pi l Xs j)=true:=by
   rcases Yc with k|k
   ·rw[k] at q;exact q
   ·rw[k,(Hy _ _ _).2] at q;exact q
  have IG:kY (n1 (PM (ai l) n)) (pi l Xs j)<0:=by
   rcases Yc with k|k
   ·rw[k] at IE;exact IE
   ·rw[k,(C8 _ _).2.1] at IE;exact IE
  rcases VB IG with c|c
  ·have:=hmin j hj ((SX.jI h hn hj).2 ⟨c,IG⟩);rw[hkj] at this;cases this
  ·have aiI:kY (n1 (PM (ai l) n)) (PM (ai l) (xi Xs j).t,PM (ai l) (xi Xs j).f)<0:=by
    have:=(C8 (n1 (PM (ai l) n)) (pi l Xs j)).2.1;rw[<-this] at IG;exact IG
   obtain⟨f,t,hft,cft,yft,kft⟩:=afP h.nl hn hin (h.sd hj) c aiI;obtain⟨v,hv,v1,v2⟩:=h.find hft;have Yd:pi l Xs v=(PM (ai l) f,PM (ai l) t):=by show(PM (ai l) (xi Xs v).f,PM (ai l) (xi Xs v).t)=_;rw[v1,v2]
   have GA:=(SX.jI h hn hv).2 (by rw[Yd];exact⟨cft,yft⟩)
   have k2:aV (n1 (PM (ai l) n)) (pi l Xs j) (pi l Xs v)=true:=by
    rw[Yd];have:=(Hy (n1 (PM (ai l) n)) (pi l Xs j) (PM (ai l) f,PM (ai l) t)).1;rw[<-this];exact kft
   have:=hmin v hv GA;rw[zr _ _ _ _ hkj k2] at this;cases this
theorem SX.aiM(h:SX rg l r Xs)(hB:BD Xs){mk:Nat->Bool}{k:Nat}{L:List Nat}(hc:mP (bZ Xs) mk Xs.length k L)(xG:Wk Xs k L)(hno:∀ring∈bg Xs L,bQ Xs ring=false):Fc (sS (ai l) Xs) (pi l Xs k) (pi l Xs (gA Xs (xi Xs k).f)):=by
 have hW:=SX.wd h hB;have hC:=SX.XZ h hc;have hk:k<Xs.length:=xG.lt k (bh xG.head);have hn:=(SX.nV h hk).1;have hin:takes r (Ga.PP (ag rg) (xi Xs k).f)=true:=by
  cases q:takes r (Ga.PP (ag rg) (xi Xs k).f)
  ·obtain⟨ring,hr,hs⟩:=h.WU hB xG q;rw[hno ring hr] at hs;cases hs
  ·rfl
 obtain⟨Z,e1,e2,e3⟩:=SX.rings h hB hc;have hgt:∀{t},t<L.length->L.getD t 0<Xs.length:=fun ht=>(hc.free _ (tW ht)).1
 intro es hcl hi;obtain⟨l1,l2,l3⟩:=SX.lowest h hn (h.seen hB xG hno);rw[SX.aiF h hB hn hin l1 l2 l3 hcl hi];refine hW.afX (C7 _ hk) hC (fun i tQ=>?_) (fun R hR xm hs=>?_) hcl hi
 ·rw[SX.it h hc i tQ];have hm:=tW tQ;have hle:=xG.least _ hm;rcases JQ (pi l Xs k).1 (pi l Xs (L.getD i 0)).1 with q|q
  ·exact q
  ·by_cases e:(xi Xs (L.getD i 0)).f=(xi Xs k).f
   ·show ge (PM (ai l) (xi Xs k).f) (PM (ai l) (xi Xs (L.getD i 0)).f);rw[e];exact EM _
   ·exact absurd (SX.geq h (SX.nV h (hgt tQ)).1 hn q e) hle
 ·obtain⟨i,tQ,xm⟩:=xm;rw[SX.it h hc i tQ] at xm;have hmem:pi l Xs (L.getD i 0)∈(Z.map Prod.snd).flatten:=e3.mem_iff.2 (bp.2 ⟨_,tW tQ,rfl⟩);obtain⟨R',hR',hm'⟩:=xQ.1 hmem;obtain⟨z,hz,rfl⟩:=bp.1 hR';have hrel:=e2 z hz;have:=hR.eq hW hrel.lr xm hm';rw[this] at hs;have h1:=hrel.sh.2 hs;rw[hno z.1 (by rw[<-e1];exact bp.2 ⟨z,hz,rfl⟩)] at h1
  cases h1
end
end Go.Proofs.YtkjhhooecopolaaGreatDoor.Gb

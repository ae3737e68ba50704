import Derived.Test.YtkjhhooecopolaaGreatDoorZz31
set_option maxRecDepth 100000
set_option maxHeartbeats 4000000
namespace Go.Proofs.YtkjhhooecopolaaGreatDoor
open Go.RowKit
open Ge
theorem Ij{P:Nat->Bool}:∀(l:List Nat)(k:Nat),(eW P l k= -1/\∀x∈l,P x=false)\/∃(R x:Nat),eW P l k=((k+R:Nat):Int)/\l[R]?=some x/\P x=true/\∀(t y:Nat),t<R->l[t]?=some y->P y=false
 |[],_=>ae ⟨rfl,fun x h=>by simp at h⟩
 |a::l,k=>by
  show((if P a then(k:Int) else eW P l (k+1))= -1/\_)\/∃(R x:Nat),(if P a then(k:Int) else eW P l (k+1))=((k+R:Nat):Int)/\_
  cases ha:P a
  ·simp only[iC,jg];rcases Ij (P:=P) l (k+1) with⟨h1,h2⟩|⟨R,x,h1,h2,h3,h4⟩
   ·refine ae ⟨h1,fun x hx=>?_⟩
    rcases aP.1 hx with e|hx
    ·rw[e];exact ha
    ·exact h2 x hx
   ·refine af ⟨R+1,x,by rw[h1];congr 1;omega,by simpa using h2,h3,fun t y ht hy=>?_⟩
    cases t with
    |zero=>
     have:a=y:=by simpa using hy
     rw[<-this];exact ha
    |succ t=>exact h4 t y (by omega) (by simpa using hy)
  ·simp only[fJ];exact af ⟨0,a,rfl,rfl,ha,fun t y ht=>by omega⟩
theorem zH(Xs:List PB)(O:List Nat)(s:Nat):(gw Xs O s<0/\∀b∈O,(xi Xs b).f≠(xi Xs s).t)\/∃(R x:Nat),gw Xs O s=(R:Int)/\O[R]?=some x/\(xi Xs x).f=(xi Xs s).t/\∀(t y:Nat),t<R->O[t]?=some y->(xi Xs y).f≠(xi Xs s).t:=by
 have e:gw Xs O s=eW (jZ Xs s) O 0:=rfl;rw[e];have cp:∀b v,jZ Xs s b=v->v=decide ((xi Xs s).t=(xi Xs b).f):=fun b v h=>h.symm
 rcases Ij (P:=jZ Xs s) O 0 with⟨h1,h2⟩|⟨R,x,h1,h2,h3,h4⟩
 ·refine ae ⟨by omega,fun b hb hk=>?_⟩
  have:=cp b _ (h2 b hb);rw[hk] at this;simp at this
 ·refine af ⟨R,x,by rw[h1];simp,h2,?_,fun t y ht hy hk=>?_⟩
  ·have:=cp x _ h3;exact(fO this.symm).symm
  ·have:=cp y _ (h4 t y ht hy);rw[hk] at this;simp at this
section
variable{rg:List (List Pt)}{l:List Nd}{r:Int}{Xs:List PB}
abbrev dA(Xs:List PB)(i:Nat):Pt:=Ga.wv (xi Xs i).f (xi Xs i).t
theorem SX.ne(h:SX rg l r Xs){i:Nat}(hi:i<Xs.length):dA Xs i≠(0,0):=(Ga.fW h.nl (h.sd hi).pc).1
theorem SX.fl(h:SX rg l r Xs){i:Nat}(hi:i<Xs.length):(xi Xs i).f∈l/\(xi Xs i).t∈l:=(Ga.fW h.nl (h.sd hi).pc).2
theorem SX.straight(h:SX rg l r Xs){i j:Nat}(hi:i<Xs.length)(hj:j<Xs.length)(hc:(xi Xs j).f=(xi Xs i).t)(hx:dX (xi Xs j) (xi Xs i)=0):Ga.ay (dA Xs i) (dA Xs j)=true:=by
 have si:=h.sd hi;have sj:=h.sd hj;rw[hc] at sj;rw[u9] at hx;have hx':=ud.1 hx;have:=si.straight h.nl sj (by
  have e:=Ga.bV (Ga.wv (xi Xs j).f (xi Xs j).t) (Ga.wv (xi Xs i).f (xi Xs i).t);rw[hc] at e hx';omega)
 unfold dA;rw[hc];exact this
def jr(Xs:List PB)(A:List Nat):Prop:=∀(t a b:Nat),A[t]?=some a->A[t+1]?=some b->(xi Xs b).f=(xi Xs a).t
theorem jr.tail{a:Nat}{A:List Nat}(h:jr Xs (a::A)):jr Xs A:=fun t x y hx hy=>h (t+1) x y (by simpa using hx) (by simpa using hy)
theorem jr.drop{A:List Nat}(h:jr Xs A)(R:Nat):jr Xs (A.drop R):=fun t x y hx hy=>h (R+t) x y (by rw[<-Jt];exact hx) (by rw[Nat.add_assoc,<-Jt];exact hy)
theorem jr.take{A:List Nat}(h:jr Xs A)(R:Nat):jr Xs (A.take R):=fun t x y hx hy=>by
 rw[jt] at hx hy;split at hx
 ·split at hy
  ·exact h t x y hx hy
  ·cases hy
 ·cases hx
theorem ag9{b s:Nat}{A:List Nat}(h:tI Xs b (s::A)=[]):dX (xi Xs s) (xi Xs b)=0/\tI Xs s A=[]:=by
 have h':(if dX (xi Xs s) (xi Xs b)=0 then[] else[s])++tI Xs s A=[]:=h
 obtain⟨h1,h2⟩:=List.append_eq_nil_iff.1 h';refine⟨?_,h2⟩;apply lD;intro hk;rw[aa hk] at h1;cases h1
theorem SX.Hc(h:SX rg l r Xs){i:Nat}(hi:i<Xs.length):(Ga.aM (dA Xs i)->lt (au (xi Xs i).f) (au (xi Xs i).t))/\(¬Ga.aM (dA Xs i)->lt (au (xi Xs i).t) (au (xi Xs i).f)):=by
 obtain⟨h1,h2⟩:=h.fl hi;have c1:=h.nl.can _ h1;have c2:=h.nl.can _ h2;refine⟨fun hr=>(Ga.lS c1 c2).2 hr,fun hr=>(Ga.lS c2 c1).2 ?_⟩
 rw[Ga.dS (xi Xs i).f];exact Ga.fF (h.ne hi) hr
theorem SX.mono(h:SX rg l r Xs):∀(A:List Nat)(b:Nat),b<Xs.length->(∀a∈A,a<Xs.length)->jr Xs (b::A)->tI Xs b A=[]->A≠[]->∀z,A.getLast?=some z->(Ga.aM (dA Xs b)->lt (au (xi Xs b).t) (au (xi Xs z).t))/\(¬Ga.aM (dA Xs b)->lt (au (xi Xs z).t) (au (xi Xs b).t))
 |[],_,_,_,_,_,h0,_,_=>absurd rfl h0
 |s::A,b,hb,hA,hc,ht,_,z,hz=>by
  obtain⟨h1,h2⟩:=ag9 ht;have hs:=hA s (by simp)
  have hcs:(xi Xs s).f=(xi Xs b).t:=hc 0 b s rfl rfl;have hst:=h.straight hb hs hcs h1;have oG:=Ga.G5 hst;obtain⟨l1,l2⟩:=h.Hc hs;rw[hcs] at l1 l2;have can:∀j,j<Xs.length->Ge.Can (xi Xs j).t:=fun j hj=>h.nl.can _ (h.fl hj).2
  cases A with
  |nil=>
   have:s=z:=by simpa using hz
   rw[<-this];exact⟨fun hr=>l1 (oG.1 hr),fun hr=>l2 (fun k=>hr (oG.2 k))⟩
  |cons s' A'=>
   have hzl:z<Xs.length:=hA z (rS hz);have ih:=h.mono (s'::A') s hs (fun a ha=>hA a (bo _ ha)) hc.tail h2 (by simp) z (by simpa using hz)
   exact⟨fun hr=>lt_trans (cJ (can b hb)) (cJ (can s hs)) (cJ (can z hzl)) (l1 (oG.1 hr)) (ih.1 (oG.1 hr)),fun hr=>lt_trans (cJ (can z hzl)) (cJ (can s hs)) (cJ (can b hb)) (ih.2 fun k=>hr (oG.2 k)) (l2 fun k=>hr (oG.2 k))⟩
theorem SX.aha(h:SX rg l r Xs){D:List Nat}(hD:D≠[])(hl:∀a∈D,a<Xs.length)(hc:jr Xs D)(hcl:∀a z,D[0]?=some a->D.getLast?=some z->(xi Xs a).f=(xi Xs z).t):cN Xs D≠[]:=by
 intro ht;obtain⟨z,hz⟩:∃z,D.getLast?=some z:=⟨_,O7 hD⟩;have hzl:D.getLastD 0=z:=by rw[mZ,hz];rfl
 have hzb:=hl z (rS hz);unfold cN at ht;rw[hzl] at ht;have hcz:jr Xs (z::D):=fun t a b ha hb=>by
  cases t with
  |zero=>
   have e:a=z:=by simpa using ha.symm
   rw[e];exact hcl b z (by simpa using hb) hz
  |succ t=>exact hc t a b (by simpa using ha) (by simpa using hb)
 obtain⟨m1,m2⟩:=h.mono D z hzb hl hcz ht hD z hz;by_cases hr:Ga.aM (dA Xs z)
 ·exact lt_irrefl _ (m1 hr)
 ·exact lt_irrefl _ (m2 hr)
structure OC(Xs:List PB)(L:List Nat)(n0:Nd)(k:Nat)(O:List Nat):Prop where
 conn:jr Xs O
 hd:∀a,O[0]?=some a->(xi Xs a).f=n0
 WQ:∀a s,O.getLast?=some a->L[k]?=some s->(xi Xs s).f=(xi Xs a).t
 nil:O=[]->∀s,L[k]?=some s->(xi Xs s).f=n0
 new:∀a,O.getLast?=some a->∀b∈O,(xi Xs b).f≠(xi Xs a).t
theorem OC.snoc{L:List Nat}{n0:Nd}{k s:Nat}{O:List Nat}(h:OC Xs L n0 k O)(hs:L[k]?=some s):jr Xs (O++[s])/\∀a,(O++[s])[0]?=some a->(xi Xs a).f=n0:=by
 refine⟨fun t a b ha hb=>?_,fun a ha=>?_⟩
 ·by_cases ht:t+1<O.length
  ·rw[eG (by omega)] at ha
   rw[eG ht] at hb;exact h.conn t a b ha hb
  ·have ht2:t+1=O.length:=by
    have:=(bU.1 hb).1;simp at this;omega
   have e1:b=s:=by
    rw[ht2] at hb;simpa using hb.symm
   rw[e1];refine h.WQ a s ?_ hs;rw[eG (by omega)] at ha
   rw[nY,<-ht2];exact ha
 ·cases O with
  |nil=>
   have:s=a:=by simpa using ha
   rw[<-this];exact h.nil rfl s hs
  |cons x rr=>exact h.hd a (by simpa using ha)
theorem OC.step{L:List Nat}{n0:Nd}{k s:Nat}{O:List Nat}{Rs:List (List Nat)}(h:OC Xs L n0 k O)(hs:L[k]?=some s)(hL:jr Xs L):OC Xs L n0 (k+1) (iQ Xs (O,Rs) s).1:=by
 obtain⟨hc,hh⟩:=h.snoc hs;have hnx:∀s',L[k+1]?=some s'->(xi Xs s').f=(xi Xs s).t:=fun s' hs'=>hL k s s' hs hs'
 unfold iQ;simp only;rcases zH Xs (O++[s]) s with⟨h1,h2⟩|⟨R,x,h1,h2,h3,h4⟩
 ·rw[aa (by omega)]
  have hlast:∀a,(O++[s]).getLast?=some a->a=s:=fun a ha=>by simpa using ha.symm
  refine⟨hc,hh,fun a s' ha hs'=>?_,fun h0=>by simp at h0,fun a ha b hb=>?_⟩
  ·rw[hlast a ha];exact hnx s' hs'
  ·rw[hlast a ha];exact h2 b hb
 ·rw[ah (by omega),h1,xL]
  have tK:R<(O++[s]).length:=(bU.1 h2).1;have hlast:∀a,((O++[s]).take R).getLast?=some a->(xi Xs s).t=(xi Xs a).t/\0<R:=fun a ha=>by
   rw[nY,jt,ir] at ha;split at ha
   ·rename_i hlt
    have xq:0<R:=by omega
    refine⟨?_,xq⟩;have e:min R (O++[s]).length-1=R-1:=by omega
    rw[e] at ha;have:=hc (R-1) a x ha (by rw[show R-1+1=R by omega];exact h2)
    rw[<-h3,this]
   ·cases ha
  refine⟨hc.take R,fun a ha=>?_,fun a s' ha hs'=>?_,fun h0 s' hs'=>?_,fun a ha b hb=>?_⟩
  ·rw[jt] at ha;split at ha
   ·exact hh a ha
   ·cases ha
  ·rw[hnx s' hs',(hlast a ha).1]
  ·have xq:R=0:=by
    have:=aw List.length h0;rw[ir] at this;simp at this;simp at tK;omega
   rw[xq] at h2;rw[hnx s' hs',<-h3];exact hh x h2
  ·rw[<-(hlast a ha).1];obtain⟨t,ht,Gz⟩:=jL.1 hb;rw[ir] at ht;refine h4 t b (by omega) ?_
   rw[<-Gz,List.getElem_take,aD]
theorem OC.all{L:List Nat}{n0:Nd}(hL:jr Xs L)(h0:∀s,L[0]?=some s->(xi Xs s).f=n0):∀k,k<=L.length->OC Xs L n0 k (bB Xs (L.take k)).1
 |0,_=>⟨fun t a b h=>by simp[bB] at h,fun a h=>by simp[bB] at h,fun a s h=>by simp[bB] at h,fun _ s hs=>h0 s hs,fun a h=>by simp[bB] at h⟩
 |k+1,hk=>by
  obtain⟨s,hs⟩:∃s,L[k]?=some s:=⟨_,aD (by omega)⟩
  have htk:L.take (k+1)=L.take k++[s]:=by rw[jh,hs];rfl
  rw[htk,vg];have:=(OC.all hL h0 k (by omega)).step (Rs:=(bB Xs (L.take k)).2) hs hL
  exact this
theorem SX.parts(h:SX rg l r Xs){L:List Nat}{n0:Nd}(hL:jr Xs L)(hl:∀a∈L,a<Xs.length)(h0:∀s,L[0]?=some s->(xi Xs s).f=n0)(k s:Nat)(hs:L[k]?=some s)(hst:0<=gw Xs ((bB Xs (L.take k)).1++[s]) s):
  cN Xs (((bB Xs (L.take k)).1++[s]).drop (gw Xs ((bB Xs (L.take k)).1++[s]) s).toNat)≠[]:=by
 have hk:k<L.length:=(bU.1 hs).1;have rI:=OC.all hL h0 k (by omega)
 obtain⟨hc,hh⟩:=rI.snoc hs;rcases zH Xs ((bB Xs (L.take k)).1++[s]) s with⟨h1,_⟩|⟨R,x,h1,h2,h3,_⟩
 ·omega
 ·rw[h1,xL];have tK:R<((bB Xs (L.take k)).1++[s]).length:=(bU.1 h2).1;refine h.aha ?_ ?_ (hc.drop R) ?_
  ·intro hn;have:=aw List.length hn;rw[qi] at this;simp only[gU] at this;omega
  ·intro a ha;rcases bT.1 (O6 ha) with ha|ha
   ·exact hl a (H9 Xs L k a ha)
   ·rw[bI.1 ha];exact hl s (bh hs)
  ·intro a z ha hz;rw[Jt,oV,h2] at ha;injection ha with ha;rw[<-ha,h3];have:z=s:=by
    rw[List.getLast?_drop,aa (by omega)] at hz
    simpa using hz.symm
   rw[this]
end
theorem WR{cf:Nat->Nat->Int}:∀(l:List Nat)(m:Nat),(∀x∈l,¬cf x m<0)->bw cf l m=m
 |[],_,_=>rfl
 |b::l,m,h=>by
  show bw cf l (if cf b m<0 then b else m)=m
  rw[aa (h b (by simp))]
  exact WR l m fun x hx=>h x (bo _ hx)
theorem ahb(r:Int):takes r 0=false:=by
 unfold takes;split
 ·rfl
 ·split
  ·rfl
  ·split<;>rfl
section
variable{rg:List (List Pt)}{l:List Nd}{r:Int}{Xs:List PB}
theorem SX.M9(h:SX rg l r Xs):∀(A:List Nat)(b c:Nat),b<Xs.length->(∀a∈A,a<Xs.length)->jr Xs (b::A)->Ga.ay (dA Xs c) (dA Xs b)=true->Ga.ay (dA Xs ((tI Xs b A).getLastD c)) (dA Xs (A.getLastD b))=true
 |[],b,c,_,_,_,hs=>hs
 |s::A,b,c,hb,hA,hc,hs=>by
  have hsl:=hA s (by simp)
  have hcs:(xi Xs s).f=(xi Xs b).t:=hc 0 b s rfl rfl;have ht:tI Xs b (s::A)=(if dX (xi Xs s) (xi Xs b)=0 then[] else[s])++tI Xs s A:=rfl
  have hlast:(s::A).getLastD b=A.getLastD s:=by cases A<;>rfl
  rw[ht,hlast];by_cases hx:dX (xi Xs s) (xi Xs b)=0
  ·rw[ah hx,oP];exact h.M9 A s c hsl (fun a ha=>hA a (bo _ ha)) hc.tail (Ga.LK hs (h.straight hb hsl hcs hx))
  ·rw[aa hx];have e:([s]++tI Xs s A).getLastD c=(tI Xs s A).getLastD s:=by
    cases tI Xs s A<;>rfl
   rw[e];have Na:Ga.ay (dA Xs s) (dA Xs s)=true:=(Ga.cQ _ _).2 ⟨by unfold cr;grind,Ga.dO (h.ne hsl)⟩
   exact h.M9 A s s hsl (fun a ha=>hA a (bo _ ha)) hc.tail Na
theorem SX.shell(h:SX rg l r Xs){hh:Nat}{tl:List Nat}(hl:∀a∈hh::tl,a<Xs.length)(hc:jr Xs (hh::tl))(Nb:∀b∈tl,¬aY (xi Xs b).f (xi Xs hh).f<0)(hturn:0<cr (dA Xs (tl.getLastD hh)) (dA Xs hh)):bQ Xs (cL Xs (hh::tl))=true:=by
 have WT:=hl hh (by simp)
 have hlast:(hh::tl).getLastD 0=tl.getLastD hh:=by cases tl<;>rfl
 have hx:dX (xi Xs hh) (xi Xs (tl.getLastD hh))≠0:=by
  rw[u9];intro hk;have:=ud.1 hk;have e:=Ga.bV (dA Xs (tl.getLastD hh)) (dA Xs hh);unfold dA at*;omega
 have hT:cN Xs (hh::tl)=hh::tI Xs hh tl:=by
  unfold cN;rw[hlast];show(if dX (xi Xs hh) (xi Xs (tl.getLastD hh))=0 then[] else[hh])++tI Xs hh tl=_
  rw[aa hx];rfl
 have hle:jF Xs (hh::tI Xs hh tl)=hh:=WR _ _ fun x hx=>Nb x (zF Xs tl hh x hx)
 have Nc:rB Xs (hh::tI Xs hh tl)=0:=by
  unfold rB;rw[hle];have:fA (fun j=>j == hh) (hh::tI Xs hh tl)=0:=by
   show(if(hh == hh)=true then((0:Nat):Int) else _)=0
   rw[ah (by simp)]
   rfl
  rw[this];rfl
 have ahc:cL Xs (hh::tl)=hh::tI Xs hh tl:=by
  unfold cL;rw[hT,Nc];simp
 rw[ahc];unfold bQ;refine gD ?_;have e1:(hh::tI Xs hh tl).getLastD 0=(tI Xs hh tl).getLastD hh:=by cases tI Xs hh tl<;>rfl
 rw[e1,show(hh::tI Xs hh tl).headD 0=hh from rfl,u9]
 have Na:Ga.ay (dA Xs hh) (dA Xs hh)=true:=(Ga.cQ _ _).2 ⟨by unfold cr;grind,Ga.dO (h.ne WT)⟩
 have hsm:=h.M9 tl hh hh WT (fun a ha=>hl a (bo _ ha)) hc Na
 have k:=Ga.wZ hsm (dA Xs hh);have s1:=Ga.bV (dA Xs hh) (dA Xs ((tI Xs hh tl).getLastD hh));have s2:=Ga.bV (dA Xs hh) (dA Xs (tl.getLastD hh));have hpos:0<cr (dA Xs ((tI Xs hh tl).getLastD hh)) (dA Xs hh):=by omega
 rw[nX hpos];decide
structure Wk(Xs:List PB)(i:Nat)(L:List Nat):Prop where
 lt:∀a∈L,a<Xs.length
 head:L[0]?=some i
 conn:jr Xs L
 JW:∀a∈L,bZ Xs a∈L
 back:∀a,L.getLast?=some a->(xi Xs a).t=(xi Xs i).f
 least:∀a∈L,¬aY (xi Xs a).f (xi Xs i).f<0
def vo(Xs:List PB)(x y:Nat):Bool:=Ga.nz (dA Xs x)&&Ga.nz (dA Xs y)&&Ga.ak (dA Xs y) (dA Xs x)
theorem ahd(x y z:Nat)(h1:vo Xs x y=true)(h2:vo Xs y z=true):vo Xs x z=true:=by
 unfold vo Ga.nz at*;simp only[oU,uf] at*;exact⟨⟨h1.1.1,h2.1.2⟩,Ga.gf h2.1.2 h1.1.2 h1.1.1 h2.2 h1.2⟩
theorem ahe(x:Nat):vo Xs x x=false:=by unfold vo;rw[Ga.oY];simp
theorem SX.WU(h:SX rg l r Xs)(hB:BD Xs){i:Nat}{L:List Nat}(hW:Wk Xs i L)(hout:takes r (Ga.PP (ag rg) (xi Xs i).f)=false):∃ring∈bg Xs L,bQ Xs ring=true:=by
 have tQ:i∈L:=bh hW.head;have hi:=hW.lt i tQ;obtain⟨hh,WV,hhT,hmax⟩:=Ga.LS (lt:=vo Xs) (ahd (Xs:=Xs)) (ahe (Xs:=Xs)) (fun a=>decide ((xi Xs a).f=(xi Xs i).f)) L _ i tQ (by simp) (ax _)
 have tR:(xi Xs hh).f=(xi Xs i).f:=fO hhT;have xy:=hW.lt hh WV;have hmin:∀y∈L,(xi Xs y).f=(xi Xs i).f->Ga.ak (dA Xs y) (dA Xs hh)=false:=fun y hy Dp=>by
  have:=hmax y hy (gD Dp);cases hk:Ga.ak (dA Xs y) (dA Xs hh)
  ·rfl
  ·unfold vo Ga.nz at this;rw[hk,gD (h.ne xy),gD (h.ne (hW.lt y hy))] at this;cases this
 obtain⟨t0,ht0,hht⟩:=jL.1 WV;have Nf:L[t0]?=some hh:=by rw[aD ht0,hht]
 have h0:∀s,L[0]?=some s->(xi Xs s).f=(xi Xs i).f:=fun s hs=>by
  rw[hW.head] at hs;injection hs with hs;rw[hs]
 have hne:∀j,j<Xs.length->(xi Xs j).f≠(xi Xs j).t:=fun j hj e=>by
  have:=h.ne hj;unfold dA at this;rw[<-e] at this;exact this (by unfold Ga.wv;simp)
 have hstep:∀k,k<L.length->∀s,L[k]?=some s->bB Xs (L.take (k+1))=iQ Xs (bB Xs (L.take k)) s:=fun k hk s hs=>by
  have htk:L.take (k+1)=L.take k++[s]:=by rw[jh,hs];rfl
  rw[htk,vg]
 have ahh:∀p s,∀ring∈(p:List Nat×List (List Nat)).2,ring∈(iQ Xs p s).2:=fun p s ring hr=>by
  unfold iQ;split
  ·exact tY _ hr
  ·exact hr
 have key:∀d,t0+1+d<=L.length->(∃ring∈(bB Xs (L.take (t0+1+d))).2,bQ Xs ring=true)\/((∃tl,(bB Xs (L.take (t0+1+d))).1=hh::tl/\∀b∈tl,(xi Xs b).f≠(xi Xs i).f)/\∀z,L[t0+d]?=some z->(xi Xs z).t≠(xi Xs i).f):=by
  intro d;induction d with
  |zero=>
   intro _;right;have rI:=OC.all hW.conn h0 t0 (by omega)
   have hO:(bB Xs (L.take t0)).1=[]:=by
    apply lD;intro hk;obtain⟨z,hz⟩:∃z,(bB Xs (L.take t0)).1.getLast?=some z:=⟨_,O7 hk⟩;obtain⟨a,ha⟩:∃a,(bB Xs (L.take t0)).1[0]?=some a:=⟨_,aD (il.2 hk)⟩;have e1:=rI.WQ z hh hz Nf;exact rI.new z hz a (bh ha) (by rw[rI.hd a ha,<-e1,tR])
   rw[oV,hstep t0 ht0 hh Nf];have hto:(xi Xs hh).t≠(xi Xs i).f:=fun e=>hne hh xy (tR.trans e.symm)
   refine⟨⟨[],?_,fun b hb=>by simp at hb⟩,fun z hz=>?_⟩
   ·unfold iQ;rw[hO];rcases zH Xs ([]++[hh]) hh with⟨h1,_⟩|⟨R,x,h1,h2,h3,_⟩
    ·rw[aa (by omega)]
     rfl
    ·exfalso;have:x=hh:=by
      have:=bh h2;simpa using this
     rw[this] at h3;exact hne hh xy h3
   ·rw[oV,Nf] at hz;injection hz with hz;rw[<-hz];exact hto
  |succ d ih=>
   intro hd;have hk:t0+1+d<L.length:=by omega
   obtain⟨s,hs⟩:∃s,L[t0+1+d]?=some s:=⟨_,aD hk⟩;have hsL:=bh hs;have hsl:=hW.lt s hsL;rw[show t0+1+(d+1)=t0+1+d+1 by omega,hstep _ hk s hs]
   rcases ih (by omega) with⟨ring,hr1,hr2⟩|⟨⟨tl,hO,htl⟩,hz⟩
   ·exact ae ⟨ring,ahh _ s ring hr1,hr2⟩
   ·have rI:=OC.all hW.conn h0 (t0+1+d) (by omega)
    obtain⟨hcs,_⟩:=rI.snoc hs;rw[hO] at rI hcs;have yo:∀b∈hh::tl,b∈L:=fun b hb=>H9 Xs L (t0+1+d) b (by rw[hO];exact hb)
    have Ng:(xi Xs s).f≠(xi Xs i).f:=by
     obtain⟨a,ha⟩:∃a,L[t0+d]?=some a:=⟨_,aD (by omega)⟩
     rw[hW.conn (t0+d) a s ha (by rw[show t0+d+1=t0+1+d by omega];exact hs)]
     exact hz a ha
    have hzs:∀z,L[t0+(d+1)]?=some z->z=s:=fun z hz'=>by
     rw[show t0+(d+1)=t0+1+d by omega,hs] at hz'
     injection hz' with hz';exact hz'.symm
    by_cases hst:(xi Xs s).t=(xi Xs i).f
    ·
     left;refine⟨cL Xs (hh::(tl++[s])),?_,?_⟩
     ·unfold iQ;rw[hO];rcases zH Xs (hh::tl++[s]) s with⟨h1,h2⟩|⟨R,x,h1,h2,h3,h4⟩
      ·exfalso;exact h2 hh (by simp) (tR.trans hst.symm)
      ·have xq:R=0:=by
        apply lD;intro hk;exact h4 0 hh (by omega) rfl (tR.trans hst.symm)
       rw[ah (by omega),h1,xq]
       simp
     ·refine h.shell (fun a ha=>?_) hcs (fun b hb=>?_) ?_
      ·have:a∈(hh::tl)\/a=s:=by simpa[or_assoc] using ha
       rcases this with ha|ha
       ·exact hW.lt a (yo a ha)
       ·rw[ha];exact hsl
      ·have:b∈tl\/b=s:=by simpa using hb
       rw[tR];rcases this with hb|hb
       ·exact hW.least b (yo b (bo _ hb))
       ·rw[hb];exact hW.least s hsL
      ·have e:(tl++[s]).getLastD hh=s:=by simp
       rw[e];obtain⟨n1,n2,n3⟩:=h.next hB hsl
       have hnL:=hW.JW s hsL;have tS:=h.sd hsl;have WW:=h.sd n1;have WX:=h.sd xy;rw[hst] at tS;rw[n2,hst] at WW;rw[tR] at WX;have hris:Ga.aM (Ga.wv (xi Xs i).f (xi Xs s).f):=by
        have c1:=h.nl.can _ (h.fl hi).1;have c2:=h.nl.can _ (h.fl hsl).1;refine(Ga.lS c1 c2).1 (yT c1 c2 ?_ (fun e=>Ng e.symm))
        exact hW.least s hsL
       have hle:=hmin (bZ Xs s) hnL (n2.trans hst);unfold dA at hle;rw[n2,hst,tR] at hle;have hres:=Ga.afD h.nl hout tS hris WW (fun c' hc'=>by
        obtain⟨q,hq,q1,q2⟩:=h.find hc';have:=n3 q hq (by rw[q1,hst])
        rw[Ht,q1,q2,n2,hst] at this;exact this) WX hle
       unfold dA;rw[hst,tR];exact hres
    ·right;refine⟨?_,fun z hz'=>by rw[hzs z hz'];exact hst⟩
     unfold iQ;rw[hO];rcases zH Xs (hh::tl++[s]) s with⟨h1,h2⟩|⟨R,x,h1,h2,h3,h4⟩
     ·rw[aa (by omega)]
      refine⟨tl++[s],rfl,fun b hb=>?_⟩
      have:b∈tl\/b=s:=by simpa using hb
      rcases this with hb|hb
      ·exact htl b hb
      ·rw[hb];exact Ng
     ·rw[ah (by omega),h1,xL]
      obtain⟨R',rfl⟩:∃R',R=R'+1:=by
       cases R with
       |zero=>
        exfalso;have:x=hh:=by simpa using h2.symm
        rw[this] at h3;exact hst (h3.symm.trans tR)
       |succ R'=>exact⟨R',rfl⟩
      refine⟨(tl++[s]).take R',by simp,fun b hb=>?_⟩
      have:=rU hb;have:b∈tl\/b=s:=by simpa using this
      rcases this with hb|hb
      ·exact htl b hb
      ·rw[hb];exact Ng
 have hfin:=key (L.length-(t0+1)) (by omega)
 rw[show t0+1+(L.length-(t0+1))=L.length by omega,fg] at hfin
 rcases hfin with hfin|⟨_,hz⟩
 ·exact hfin
 ·exfalso;obtain⟨z,hzl⟩:∃z,L[L.length-1]?=some z:=⟨_,aD (by omega)⟩
  refine hz z (by rw[show t0+(L.length-(t0+1))=L.length-1 by omega];exact hzl) ?_
  exact hW.back z (by rw[nY];exact hzl)
theorem WY{n:Nd}(hn:Ge.Can n){j:Nat}(hv:cK (xi Xs j))(hb:jd Xs n j=true):lt (au (xi Xs j).f) (au n):=by
 unfold jd at hb;simp only[oU,Jm,Jn,uf] at hb;obtain⟨⟨h1,h2⟩,h3⟩:=hb;refine(Ga.lS hv.cf hn).2 ?_;have hfp:=hv.cf.pos;have Uy:=hv.ct.pos;have zD:=hn.pos;generalize(xi Xs j).f=f at*;generalize(xi Xs j).t=t at*;have e1:(Ga.wv f n).1=n.1*f.2.2-f.1*n.2.2:=by unfold Ga.wv;simp only;grind
 have e2:n.2.2*(Ga.wv f t).1=f.2.2*(t.1*n.2.2-n.1*t.2.2)+t.2.2*(Ga.wv f n).1:=by unfold Ga.wv;simp only;grind
 by_cases hx:0<(Ga.wv f n).1
 ·exact ae hx
 ·have hx0:(Ga.wv f n).1=0:=by omega
  rw[hx0,xS,Int.add_zero] at e2;have hp:=aR hfp (show 0<t.1*n.2.2-n.1*t.2.2 by omega)
  have hD:0<(Ga.wv f t).1:=(Ga.aN zD).1 (by omega)
  unfold cr at h3;rw[hx0,xS,xI] at h3;exact af ⟨hx0,(Ga.aN hD).1 h3⟩
theorem SX.seen(h:SX rg l r Xs)(hB:BD Xs){i:Nat}{L:List Nat}(hW:Wk Xs i L)(hno:∀ring∈bg Xs L,bQ Xs ring=false):dH Xs (xi Xs i).f Xs.length≠[]:=by
 have hi:=hW.lt i (bh hW.head);have hfl:=(h.fl hi).1;intro hs;cases hp:takes r (Ga.PP (ag rg) (xi Xs i).f)
 ·obtain⟨ring,h1,h2⟩:=h.WU hB hW hp;rw[hno ring h1] at h2;cases h2
 ·obtain⟨f,t,C0,h1,h2,h3⟩:=Ga.ae2 h.nl (ahb r) hfl hp;obtain⟨j,hj,j1,j2⟩:=h.find C0;have hm:j∈dH Xs (xi Xs i).f Xs.length:=by
   refine ik.2 ⟨oW.2 hj,?_⟩;unfold jd;rw[j1,j2];generalize(xi Xs i).f=n at*;have e1:(Ga.wv n f).1=f.1*n.2.2-n.1*f.2.2:=by unfold Ga.wv;simp only;grind
   have e2:(Ga.wv n t).1=t.1*n.2.2-n.1*t.2.2:=by unfold Ga.wv;simp only;grind
   simp only[oU,Jm,Jn,uf];exact⟨⟨by omega,by omega⟩,h3⟩
  rw[hs] at hm;simp at hm
end
end Go.Proofs.YtkjhhooecopolaaGreatDoor
namespace Go.Proofs.YtkjhhooecopolaaGreatDoor
open Go.RowKit
structure St where
 aJ:Nat->Bool
 ow:Nat->Nat
 ps:List Pg
def rJ(P:List Nat->Bool)(Rs:List (List Nat)):List Nat:=Rs.foldl (fun acc r=>if P r then r else acc) []
def cz(Xs:List PB)(mk:Nat->Bool)(i:Nat):List Nat:=iP (bZ Xs) mk Xs.length [] i
def mQ(Xs:List PB)(st:St)(i:Nat):St:=
 if st.aJ i then st
 else if(bg Xs (cz Xs st.aJ i)).any (bQ Xs) then
  ⟨fun j=>st.aJ j||(cz Xs st.aJ i).contains j,fun j=>if(cz Xs st.aJ i).contains j then st.ps.length else st.ow j,st.ps++[(rJ (bQ Xs) (bg Xs (cz Xs st.aJ i)),(bg Xs (cz Xs st.aJ i)).filter fun r=> !bQ Xs r)]⟩
 else
  ⟨fun j=>st.aJ j||(cz Xs st.aJ i).contains j,fun j=>if(cz Xs st.aJ i).contains j then st.ow (gA Xs (xi Xs i).f) else st.ow j,st.ps.set (st.ow (gA Xs (xi Xs i).f)) ((st.ps.getD (st.ow (gA Xs (xi Xs i).f)) ([],[])).1,(st.ps.getD (st.ow (gA Xs (xi Xs i).f)) ([],[])).2++bg Xs (cz Xs st.aJ i))⟩
def aL(Xs:List PB)(k:Nat):St:=(List.range k).foldl (mQ Xs) ⟨fun _=>false,fun _=>0,[]⟩
theorem xz(Xs:List PB)(k:Nat):aL Xs (k+1)=mQ Xs (aL Xs k) k:=by unfold aL;rw[Eh,Ju];rfl
structure WZ(bs:List Nat)(g cap:Nat)(Inv:Nat->Value->World->Prop)(B:Nat->Value->World->Prop)(C1:Nat->Value->Nat->Nat->List Nat->World->Prop)(C2:Nat->Value->Nat->Nat->List Nat->Nat->Nat->Nat->World->Prop)
  (D1 D2:Nat->Value->Nat->Nat->List Nat->Nat->Nat->Nat->Nat->World->Prop)(E:Nat->Value->Nat->Nat->List Nat->Nat->Nat->Nat->Nat->World->Prop)(F:Nat->Value->Nat->Nat->List Nat->Nat->Nat->World->Prop)(Q:Value->World->Prop)(base:Nat):Prop where
 row:∀k lv wr,Inv k lv wr->k<bs.length->wr.cell? ⟨g,k,none⟩=some (.pointer (some ⟨bx bs k,0,none⟩))/\∃m,wr.cell? ⟨bx bs k,6,none⟩=some (.bool m)/\(m=true->Inv (k+1) lv wr)/\(m=false->B k lv wr)
 walk:∀k lv wr,B k lv wr->Calls Tryz.prog 110 #[.slice (some ⟨g,0,none⟩) bs.length cap,.pointer (some ⟨bx bs k,0,none⟩)] wr fun e w1=>∃gW cW L,e=.returned (.slice (some ⟨gW,0,none⟩) L.length cW)/\L.length<=85000000/\C1 k lv gW cW L w1
 rings:∀k lv gW cW L w1,C1 k lv gW cW L w1->Calls Tryz.prog 111 #[.slice (some ⟨gW,0,none⟩) L.length cW] w1 fun e w2=>∃gR cR n,e=.returned (.slice (some ⟨gR,0,none⟩) n cR)/\C2 k lv gW cW L gR cR n w2
 con:∀k lv gW cW L gR cR n w2,C2 k lv gW cW L gR cR n w2->Calls Tryz.prog 112 #[.slice (some ⟨gR,0,none⟩) n cR,.func (.func 113) #[] #[]] (w2.alloc (.cells #[.slice none 0 0,.slice none 0 0] 187)) fun e w4=>∃b,e=.returned (.bool b)/\(b=true->D1 k lv gW cW L gR cR n w2.heap.size w4)/\(b=false->D2 k lv gW cW L gR cR n w2.heap.size w4)
 push:∀k lv gW cW L gR cR n N w4,D1 k lv gW cW L gR cR n N w4->∃np pp,w4.ownsRow base 165 1 lv np pp/\np<=85000000/\base<=w4.heap.size/\∀g' cap' w8,w8.ownsRow base 165 1 (.slice (some ⟨g',0,none⟩) (np+1) cap') (np+1) (pp++[.pointer (some ⟨N,0,none⟩)])->(w4.alloc (.cells #[.pointer (some ⟨N,0,none⟩)] 165)).grownBy w8 lv.ownBlock->(lv.ownBlock=some g'\/g'=w4.heap.size+1)->E k (.slice (some ⟨g',0,none⟩) (np+1) cap') gW cW L gR cR n N w8
 below:∀k lv gW cW L gR cR n N w4,D2 k lv gW cW L gR cR n N w4->∃N1 N2 N3,w4.cell? ⟨bx bs k,2,none⟩=some (.complex .f64 N1 N2)/\w4.cell? ⟨bx bs k,3,none⟩=some (.int .i64 N3)/\Calls Tryz.prog 114 #[.slice (some ⟨g,0,none⟩) bs.length cap,.agg #[.complex .f64 N1 N2,.int .i64 N3]] w4 fun e w5=>∃bL ob,e=.returned (.pointer (some ⟨bL,0,none⟩))/\w5.cell? ⟨bL,7,none⟩=some (.pointer (some ⟨ob,0,none⟩))/\E k lv gW cW L gR cR n ob w5
 take:∀k lv gW cW L gR cR n ob w5,E k lv gW cW L gR cR n ob w5->Calls Tryz.prog 115 #[.pointer (some ⟨ob,0,none⟩),.slice (some ⟨gR,0,none⟩) n cR] w5 fun e w6=>e=.returned (.tuple #[])/\F k lv gW cW L ob 0 w6
 own:∀k lv gW cW L ob t wr,F k lv gW cW L ob t wr->t<L.length->∃b o,wr.cell? ⟨gW,t,none⟩=some (.pointer (some ⟨b,0,none⟩))/\wr.cell? ⟨b,7,none⟩=some o/\wr.frozen? ⟨b,7,none⟩=false/\F k lv gW cW L ob (t+1) (wr.setCell ⟨b,7,none⟩ (.pointer (some ⟨ob,0,none⟩)))
 done:∀k lv gW cW L ob wr,F k lv gW cW L ob L.length wr->k<bs.length->Inv (k+1) lv wr
 sort:∀lv wr,Inv bs.length lv wr->Calls Tryz.prog 116 #[lv] wr fun e w'=>e=.returned (.tuple #[])/\Q lv w'
theorem ahm:(Tryz.prog.info? 165).map (fun i=>(i.zero,i.size,i.bytes))=some (some (.pointer none),1,8):=by kernel_rfl
theorem ahn(bs:List Nat)(g cap:Nat)(Inv:Nat->Value->World->Prop)(B:Nat->Value->World->Prop)(C1:Nat->Value->Nat->Nat->List Nat->World->Prop)(C2:Nat->Value->Nat->Nat->List Nat->Nat->Nat->Nat->World->Prop)
  (D1 D2:Nat->Value->Nat->Nat->List Nat->Nat->Nat->Nat->Nat->World->Prop)(E:Nat->Value->Nat->Nat->List Nat->Nat->Nat->Nat->Nat->World->Prop)(F:Nat->Value->Nat->Nat->List Nat->Nat->Nat->World->Prop)(Q:Value->World->Prop)(base:Nat)
  (HK:Hid (WZ bs g cap Inv B C1 C2 D1 D2 E F Q base))(w:World)(hl:bs.length<=85000000)(h0:Inv 0 (.slice none 0 0) w):
  Calls Tryz.prog 69 #[.slice (some ⟨g,0,none⟩) bs.length cap] w fun e w'=>∃lv,e=.returned lv/\Q lv w':=by
 obtain⟨j0,Dh,hy0,hy1,hy2⟩:=info_parts ahm;have bH:Hid (Inv 0 (.slice none 0 0) w):=h0;clear h0
 go_enter Tryz.func69,Tryz.ntmps69
 go_wp2_with fail
 go_loopg [3,13] bs.length (fun m lv iv wr=>∃k:Nat,k+m=bs.length/\iv=.int .i64 k/\Hid (Inv k lv wr))
 case atStart=>exact⟨0,by omega,rfl,bH.out⟩
 case round=>
  obtain⟨k,hkn,rfl,HE⟩:=hrel;clear bH;obtain⟨G0,uL⟩:∃G0,G0=gk:=⟨gk,rfl⟩;subst uL;by_cases hlt:k<bs.length
  ·obtain⟨c1,m,c6,sQ,hm2⟩:=HK.out.row k u3 wr HE.out hlt;have ez:(k:Int)<(bs.length:Int):=by omega
   cases m
   ·have HB:Hid (B k u3 wr):=hm2 rfl;have W5:=HK.out.walk k u3 wr HB.out;have W6:Hid (Calls Tryz.prog 110 #[.slice (some ⟨g,0,none⟩) bs.length cap,.pointer (some ⟨bx bs k,0,none⟩)] wr fun e w1=>∃gW cW L,e=.returned (.slice (some ⟨gW,0,none⟩) L.length cW)/\L.length<=85000000/\C1 k u3 gW cW L w1):=W5
    clear sQ hm2 W5 HE HB
    go_wp2_with fail
    refine W6.out.mono ?_;rintro e w1 ⟨gW,cW,L,rfl,jn,W7⟩;have W8:Hid (Calls Tryz.prog 111 #[.slice (some ⟨gW,0,none⟩) L.length cW] w1 fun e w2=>∃gR cR n,e=.returned (.slice (some ⟨gR,0,none⟩) n cR)/\C2 k u3 gW cW L gR cR n w2):=HK.out.rings k u3 gW cW L w1 W7
    clear W7 W6 c1 c6
    go_wp2_with fail
    refine W8.out.mono ?_;rintro e w2 ⟨gR,cR,n,rfl,EO⟩;have Nh:Hid (Calls Tryz.prog 112 #[.slice (some ⟨gR,0,none⟩) n cR,.func (.func 113) #[] #[]] (w2.alloc (.cells #[.slice none 0 0,.slice none 0 0] 187)) fun e w4=>∃b,e=.returned (.bool b)/\(b=true->D1 k u3 gW cW L gR cR n w2.heap.size w4)/\(b=false->D2 k u3 gW cW L gR cR n w2.heap.size w4)):=HK.out.con k u3 gW cW L gR cR n w2 EO
    clear EO W8
    go_wp2_with fail
    refine Nh.out.mono ?_;rintro e w4 ⟨b,rfl,hb1,hb2⟩;cases b
    ·have ui:=hb2 rfl;obtain⟨N1,N2,N3,f2,f3,W9⟩:=HK.out.below k u3 gW cW L gR cR n w2.heap.size w4 ui;have Dv:Hid (Calls Tryz.prog 114 #[.slice (some ⟨g,0,none⟩) bs.length cap,.agg #[.complex .f64 N1 N2,.int .i64 N3]] w4 fun e w5=>∃bL ob,e=.returned (.pointer (some ⟨bL,0,none⟩))/\w5.cell? ⟨bL,7,none⟩=some (.pointer (some ⟨ob,0,none⟩))/\E k u3 gW cW L gR cR n ob w5):=W9
     clear hb1 hb2 ui W9 Nh
     go_wp2_with fail
     refine Dv.out.mono ?_;rintro e w5 ⟨bL,ob,rfl,o7,BG⟩;have Dw:Hid (E k u3 gW cW L gR cR n ob w5):=BG;clear BG Dv f2 f3
     go_wp2_with fail
     have Dx:Hid (Calls Tryz.prog 115 #[.pointer (some ⟨ob,0,none⟩),.slice (some ⟨gR,0,none⟩) n cR] w5 fun e w6=>e=.returned (.tuple #[])/\F k u3 gW cW L ob 0 w6):=HK.out.take k u3 gW cW L gR cR n ob w5 Dw.out
     clear Dw
     go_wp2_with fail
     refine Dx.out.mono ?_;rintro e w6 ⟨rfl,hF⟩;have tB:Hid (F k u3 gW cW L ob 0 w6):=hF;clear hF Dx
     go_wp2_with fail
     go_loopg [49] L.length (fun m iv wr=>∃t:Nat,t+m=L.length/\iv=.int .i64 t/\Hid (F k u3 gW cW L ob t wr))
     case atStart=>exact⟨0,by omega,rfl,tB.out⟩
     case round=>
      obtain⟨t,htn,rfl,tT⟩:=hrel;clear tB;by_cases htl:t<L.length
      ·obtain⟨bb,oo,d1,d2,d3,Dy⟩:=HK.out.own k u3 gW cW L ob t wr tT.out htl;have hti:(t:Int)<(L.length:Int):=by omega
       have Ni:Hid (F k u3 gW cW L ob (t+1) (wr.setCell ⟨bb,7,none⟩ (.pointer (some ⟨ob,0,none⟩)))):=Dy;clear Dy tT
       go_wp2_with fail
       go_roundg (gk-1)
       case measure=>omega
       case rel=>exact⟨t+1,by omega,by go_num,Ni.out⟩
      ·have Nj:t=L.length:=by omega
       subst Nj;have bW:Hid (Inv (k+1) u3 wr):=HK.out.done k u3 gW cW L ob wr tT.out hlt;clear tT
       go_wp2_with fail
       go_roundg (G0-1)
       case measure=>omega
       case rel=>exact⟨k+1,by omega,by go_num,bW.out⟩
    ·have Xa:=hb1 rfl;obtain⟨np,pp,ho,zD,hbz,Xb⟩:=HK.out.push k u3 gW cW L gR cR n w2.heap.size w4 Xa;have uK:Hid (∀g' cap' w8,w8.ownsRow base 165 1 (.slice (some ⟨g',0,none⟩) (np+1) cap') (np+1) (pp++[.pointer (some ⟨w2.heap.size,0,none⟩)])->(w4.alloc (.cells #[.pointer (some ⟨w2.heap.size,0,none⟩)] 165)).grownBy w8 u3.ownBlock->(u3.ownBlock=some g'\/g'=w4.heap.size+1)->E k (.slice (some ⟨g',0,none⟩) (np+1) cap') gW cW L gR cR n w2.heap.size w8):=Xb;have hnb:(w4.alloc (.cells #[.pointer (some ⟨w2.heap.size,0,none⟩)] 165)).heap[w4.heap.size]?=some (.cells #[.pointer (some ⟨w2.heap.size,0,none⟩)] 165 (0,0)):=heap_alloc_new _ _;have mM:(w4.alloc (.cells #[.pointer (some ⟨w2.heap.size,0,none⟩)] 165)).ownsRow base 165 1 u3 np pp:=aO ho fun k hk=>Below.heap_alloc _ _ _ (aB ho k hk).2
     clear hb1 hb2 Xa Xb ho Nh
     go_wp2_with (at_builtin;refine wpList_append_lies _ rfl (.tmp 30) (.tmp 32) 131 rfl base 165 j0 _ 1 8 Tryz.underlying131 Dh hy0 hy1 hy2 rfl (by decide) u3 np pp rfl mM ⟨w4.heap.size,0,none⟩ 1 1 [.pointer (some ⟨w2.heap.size,0,none⟩)] rfl rfl (World.news_of_block (cs:= #[.pointer (some ⟨w2.heap.size,0,none⟩)]) (t:=165) (fr:=(0,0)) hnb) (by simp[Value.oneCell']) (by decide) (by unfold maxLen;omega) (by omega) (by simp;omega) (w4.heap.size+1) (by simp) ?_;intro g' cap' w8 cD bf fU oF)
     have Dw:Hid (E k (.slice (some ⟨g',0,none⟩) (np+1) cap') gW cW L gR cR n w2.heap.size w8):=uK.out g' cap' w8 cD bf fU;generalize w2.heap.size=N at*;clear cD bf fU hnb mM uK;have Dx:Hid (Calls Tryz.prog 115 #[.pointer (some ⟨N,0,none⟩),.slice (some ⟨gR,0,none⟩) n cR] w8 fun e w6=>e=.returned (.tuple #[])/\F k (.slice (some ⟨g',0,none⟩) (np+1) cap') gW cW L N 0 w6):=HK.out.take k (.slice (some ⟨g',0,none⟩) (np+1) cap') gW cW L gR cR n N w8 Dw.out
     clear Dw
     go_wp2_with fail
     refine Dx.out.mono ?_;rintro e w6 ⟨rfl,hF⟩;have tB:Hid (F k (.slice (some ⟨g',0,none⟩) (np+1) cap') gW cW L N 0 w6):=hF;clear hF Dx
     go_wp2_with fail
     go_loopg [49] L.length (fun m iv wr=>∃t:Nat,t+m=L.length/\iv=.int .i64 t/\Hid (F k (.slice (some ⟨g',0,none⟩) (np+1) cap') gW cW L N t wr))
     case atStart=>exact⟨0,by omega,rfl,tB.out⟩
     case round=>
      obtain⟨t,htn,rfl,tT⟩:=hrel;clear tB;by_cases htl:t<L.length
      ·obtain⟨bb,oo,d1,d2,d3,Dy⟩:=HK.out.own k (.slice (some ⟨g',0,none⟩) (np+1) cap') gW cW L N t wr tT.out htl;have hti:(t:Int)<(L.length:Int):=by omega
       have Ni:Hid (F k (.slice (some ⟨g',0,none⟩) (np+1) cap') gW cW L N (t+1) (wr.setCell ⟨bb,7,none⟩ (.pointer (some ⟨N,0,none⟩)))):=Dy;clear Dy tT
       go_wp2_with fail
       go_roundg (gk-1)
       case measure=>omega
       case rel=>exact⟨t+1,by omega,by go_num,Ni.out⟩
      ·have Nj:t=L.length:=by omega
       subst Nj;have bW:Hid (Inv (k+1) (.slice (some ⟨g',0,none⟩) (np+1) cap') wr):=HK.out.done k (.slice (some ⟨g',0,none⟩) (np+1) cap') gW cW L N wr tT.out hlt;clear tT
       go_wp2_with fail
       go_roundg (G0-1)
       case measure=>omega
       case rel=>exact⟨k+1,by omega,by go_num,bW.out⟩
   ·have bW:Hid (Inv (k+1) u3 wr):=sQ rfl;clear sQ hm2 HE HK
    go_wp2_with fail
    go_roundg (G0-1)
    case measure=>omega
    case rel=>exact⟨k+1,by omega,by go_num,bW.out⟩
  ·have hk:k=bs.length:=by omega
   subst hk;have Xc:Hid (Calls Tryz.prog 116 #[u3] wr fun e w'=>e=.returned (.tuple #[])/\Q u3 w'):=HK.out.sort u3 wr HE.out
   clear HE HK
   go_wp2_with fail
   refine Xc.out.mono ?_;rintro e w9 ⟨rfl,hQ⟩;have HQ:Hid (Q u3 w9):=hQ;clear hQ Xc
   go_wp2_with fail
   go_ret
   exact⟨u3,rfl,HQ.out⟩
end Go.Proofs.YtkjhhooecopolaaGreatDoor
namespace Go.Proofs.YtkjhhooecopolaaGreatDoor
open Go.RowKit
open Ge
theorem vp{nx:Nat->Nat}{mk:Nat->Bool}{n:Nat}(hnx:∀j,j<n->nx j<n):∀(m:Nat)(A:List Nat)(j:Nat),j<n->iA n mk (iP nx mk m A j)+(iP nx mk m A j).length<=iA n mk A+A.length
 |0,_,_,_=>ax _
 |m+1,A,j,hj=>by
  show iA n mk (if mk j||A.contains j then A else iP nx mk m (A++[j]) (nx j))+(if mk j||A.contains j then A else iP nx mk m (A++[j]) (nx j)).length<=_
  cases hm:(mk j||A.contains j)
  ·simp only[iC,jg];have h1:=HZ hj hm;have h2:=vp (mk:=mk) hnx m (A++[j]) (nx j) (hnx j hj);rw[aT] at h2;simp only[cG,gU] at h2;omega
  ·simp only[fJ];exact ax _
section
variable{rg:List (List Pt)}{l:List Nd}{r:Int}{Xs:List PB}
structure PV(Xs:List PB)(st:St)(k:Nat):Prop where
 closed:∀j,j<Xs.length->st.aJ (bZ Xs j)=st.aJ j
 low:∀j,j<k->st.aJ j=true
 own:∀j,j<Xs.length->st.aJ j=true->st.ow j<st.ps.length
 len:st.ps.length<=k
 hol:∀(q:Nat) p,st.ps[q]?=some p->p.2.length+iA Xs.length st.aJ []<=Xs.length
theorem PV.zero(Xs:List PB):PV Xs (aL Xs 0) 0:=by
 refine⟨fun _ _=>rfl,fun j h=>by omega,fun j _ h=>?_,ax _,fun q p h=>?_⟩
 ·simp[aL] at h
 ·simp[aL] at h
theorem SX.walk(h:SX rg l r Xs)(hB:BD Xs){st:St}{k:Nat}(hP:PV Xs st k)(hk:k<Xs.length)(hm:st.aJ k=false):mP (bZ Xs) st.aJ Xs.length k (cz Xs st.aJ k)/\Wk Xs k (cz Xs st.aJ k):=by
 have hc:=ag4 (nx:=bZ Xs) (mk:=st.aJ) (n:=Xs.length) (i:=k) (fun j hj=>(h.next hB hj).1) (fun a b ha hb he=>h.inj hB ha hb he) hP.closed hk hm
 refine⟨hc,fun a ha=>(hc.free a ha).1,hc.head,fun t a b ha hb=>?_,fun a ha=>hc.WN ha,fun a ha=>?_,fun a ha=>?_⟩
 ·have hal:=(hc.free a (bh ha)).1;rw[hc.step t a b ha hb];exact(h.next hB hal).2.1
 ·have hal:=(hc.free a (rS ha)).1;have:=hc.back a ha;rw[<-this];exact(h.next hB hal).2.1.symm
 ·obtain⟨h1,h2⟩:=hc.free a ha;have hka:k<=a:=by
   apply Nat.not_lt.1;intro hlt;rw[hP.low a hlt] at h2;cases h2
  rcases ZT hka with hlt|he
  ·have gx:∀{i:Nat}(hi:i<Xs.length),xi Xs i=Xs[i]:=fun hi=>tH (aD hi)
   have:=lF.1 hB.nR k a hk h1 hlt;rw[gx hk,gx h1];exact this
  ·rw[<-he,u7];omega
theorem Nk{L:List Nat}{k:Nat}(hW:Wk Xs k L):bg Xs L≠[]:=by
 have hlen:0<L.length:=il.2 (fun e=>by have:=hW.head;rw[e] at this;simp at this)
 obtain⟨z,hz⟩:∃z,L[L.length-1]?=some z:=⟨_,aD (by omega)⟩
 have h0:∀s,L[0]?=some s->(xi Xs s).f=(xi Xs k).f:=fun s hs=>by
  rw[hW.head] at hs;injection hs with hs;rw[hs]
 have rI:=OC.all hW.conn h0 (L.length-1) (by omega)
 obtain⟨_,hh⟩:=rI.snoc hz;have hlt:L=L.take (L.length-1)++[z]:=by
  conv=>lhs;rw[<-fg (l:=L),show L.length=L.length-1+1 by omega,jh,hz]
  rfl
 have Hf:=hW.back z (by rw[nY];exact hz)
 unfold bg;rw[hlt,vg];unfold iQ;rcases zH Xs ((bB Xs (L.take (L.length-1))).1++[z]) z with⟨_,h2⟩|⟨R,x,h1,_⟩
 ·exfalso;obtain⟨a,ha⟩:∃a,((bB Xs (L.take (L.length-1))).1++[z])[0]?=some a:=⟨_,aD (by simp)⟩
  exact h2 a (bh ha) ((hh a ha).trans Hf.symm)
 ·rw[ah (by omega)]
  simp
theorem PV.step(h:SX rg l r Xs)(hB:BD Xs){st:St}{k:Nat}(hP:PV Xs st k)(hk:k<Xs.length):PV Xs (mQ Xs st k) (k+1):=by
 cases hm:st.aJ k
 ·obtain⟨hc,hW⟩:=h.walk hB hP hk hm;have hkL:k∈cz Xs st.aJ k:=bh hW.head;have Xd:=hc.closed (fun a b ha hb he=>h.inj hB ha hb he) hP.closed
  have hleft:=vp (mk:=st.aJ) (fun j hj=>(h.next hB hj).1) Xs.length [] k hk
  have Dz:iA Xs.length (fun j=>st.aJ j||(cz Xs st.aJ k).contains j) []=iA Xs.length st.aJ (cz Xs st.aJ k):=by unfold iA;simp
  have hrl:(bg Xs (cz Xs st.aJ k)).length<=(cz Xs st.aJ k).length:=by
   have:=(Dg Xs (cz Xs st.aJ k) (cz Xs st.aJ k).length).2;rw[fg] at this;exact this
  have alS:iA Xs.length st.aJ (cz Xs st.aJ k)+(cz Xs st.aJ k).length<=iA Xs.length st.aJ []:=hleft;have oM:∀j,j<k+1->(st.aJ j||(cz Xs st.aJ k).contains j)=true:=fun j hj=>by
   by_cases e:j=k
   ·rw[e,rW.2 hkL];simp
   ·rw[hP.low j (by omega)];rfl
  have hl0:=tM Xs.length st.aJ [];unfold mQ;rw[hm];simp only[iC,jg];split
  ·refine⟨Xd,oM,fun j hj kE=>?_,by simp;exact hP.len,fun q p hq=>?_⟩
   ·simp only[aT,cG,gU];split
    ·omega
    ·rename_i hne
     have:st.aJ j=true:=by
      have e:(cz Xs st.aJ k).contains j=false:=by simpa using hne
      simp only[e,Ew] at kE;exact kE
     have:=hP.own j hj this;omega
   ·rw[Dz];simp only at hq;by_cases ll:q<st.ps.length
    ·rw[eG ll] at hq;have:=hP.hol q p hq;omega
    ·have hq2:q=st.ps.length:=by
      have:=(bU.1 hq).1;simp at this;omega
     rw[hq2] at hq;have e:p=(rJ (bQ Xs) (bg Xs (cz Xs st.aJ k)),(bg Xs (cz Xs st.aJ k)).filter fun r=> !bQ Xs r):=by simpa using hq.symm
     rw[e];have:=Er (fun r=> !bQ Xs r) (bg Xs (cz Xs st.aJ k))
     simp only;omega
  ·rename_i hno
   have ahp:∀ring∈bg Xs (cz Xs st.aJ k),bQ Xs ring=false:=fun ring hr=>by
    cases hs:bQ Xs ring
    ·rfl
    ·exact absurd (Ag.2 ⟨ring,hr,hs⟩) (by simpa using hno)
   have zI:=h.seen hB hW ahp;have hlm:=WD zI;have hll:=MT Xs _ _ _ hlm;have hlk:gA Xs (xi Xs k).f<k:=by
    apply Nat.not_le.1;intro hle;have hb:=WY (Xs:=Xs) (hB.v _ (fN hk)).cf (hB.v _ (fN hll)) (ik.1 hlm).2;rcases ZT hle with hlt|he
    ·have gx:∀{i:Nat}(hi:i<Xs.length),xi Xs i=Xs[i]:=fun hi=>tH (aD hi)
     have:=lF.1 hB.nR k _ hk hll hlt;rw[<-gx hk,<-gx hll] at this;exact this hb
    ·rw[<-he] at hb;exact lt_irrefl _ hb
   have Nl:=hP.own _ hll (hP.low _ hlk);refine⟨Xd,oM,fun j hj kE=>?_,by simp;have:=hP.len;omega,fun q p hq=>?_⟩
   ·simp only[Jq];split
    ·exact Nl
    ·rename_i hne
     have:st.aJ j=true:=by
      have e:(cz Xs st.aJ k).contains j=false:=by simpa using hne
      simp only[e,Ew] at kE;exact kE
     exact hP.own j hj this
   ·rw[Dz];simp only at hq;by_cases nT:st.ow (gA Xs (xi Xs k).f)=q
    ·rw[nT] at hq;rw[ql (by rw[<-nT];exact Nl)] at hq
     injection hq with hq;rw[<-hq];simp only[aT];have hg:st.ps[q]?=some (st.ps.getD q ([],[])):=by
      rw[kI,aD (by rw[<-nT];exact Nl)];rfl
     have:=hP.hol q _ hg;omega
    ·rw[vE nT] at hq;have:=hP.hol q p hq;omega
 ·unfold mQ;rw[hm];simp only[fJ];refine⟨hP.closed,fun j hj=>?_,hP.own,by have:=hP.len;omega,hP.hol⟩
  by_cases e:j=k
  ·rw[e];exact hm
  ·exact hP.low j (by omega)
theorem SX.pv(h:SX rg l r Xs)(hB:BD Xs):∀k,k<=Xs.length->PV Xs (aL Xs k) k
 |0,_=>PV.zero Xs
 |k+1,hk=>by
  rw[xz];exact(h.pv hB k (by omega)).step h hB (by omega)
theorem SX.low(h:SX rg l r Xs)(hB:BD Xs){st:St}{k:Nat}(hP:PV Xs st k)(hk:k<Xs.length)(hm:st.aJ k=false)(hno:∀ring∈bg Xs (cz Xs st.aJ k),bQ Xs ring=false):dH Xs (xi Xs k).f Xs.length≠[]/\gA Xs (xi Xs k).f<Xs.length/\st.aJ (gA Xs (xi Xs k).f)=true:=by
 obtain⟨_,hW⟩:=h.walk hB hP hk hm;have zI:=h.seen hB hW hno;have hlm:=WD zI;have hll:=MT Xs _ _ _ hlm;refine⟨zI,hll,hP.low _ ?_⟩;apply Nat.not_le.1;intro hle;have hb:=WY (Xs:=Xs) (hB.v _ (fN hk)).cf (hB.v _ (fN hll)) (ik.1 hlm).2;rcases ZT hle with hlt|he
 ·have gx:∀{i:Nat}(hi:i<Xs.length),xi Xs i=Xs[i]:=fun hi=>tH (aD hi)
  have:=lF.1 hB.nR k _ hk hll hlt;rw[<-gx hk,<-gx hll] at this;exact this hb
 ·rw[<-he] at hb;exact lt_irrefl _ hb
end
end Go.Proofs.YtkjhhooecopolaaGreatDoor

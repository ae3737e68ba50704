import Derived.Test.YtkjhhooecopolaaGreatDoorWz29
set_option maxRecDepth 100000
set_option maxHeartbeats 4000000
namespace Go.Proofs.YtkjhhooecopolaaGreatDoor
open Go.RowKit
open Ge
theorem JB{P:Nat->Bool}:∀(l:List Nat)(k:Nat),(fG P l k= -1/\∀x∈l,P x=false)\/∃(R x:Nat),fG P l k=((k+R:Nat):Int)/\l[R]?=some x/\P x=true/\∀(t y:Nat),t<R->l[t]?=some y->P y=false
 |[],_=>ag ⟨rfl,fun x h=>by simp at h⟩
 |a::l,k=>by
  show((if P a then(k:Int) else fG P l (k+1))= -1/\_)\/∃(R x:Nat),(if P a then(k:Int) else fG P l (k+1))=((k+R:Nat):Int)/\_
  cases ha:P a
  ·simp only[js,jR];rcases JB (P:=P) l (k+1) with⟨h1,h2⟩|⟨R,x,h1,h2,h3,h4⟩
   ·refine ag ⟨h1,fun x hx=>?_⟩
    rcases aP.1 hx with e|hx
    ·rw[e];exact ha
    ·exact h2 x hx
   ·refine ah ⟨R+1,x,by rw[h1];congr 1;omega,by simpa using h2,h3,fun t y ht hy=>?_⟩
    cases t with
    |zero=>
     have:a=y:=by simpa using hy
     rw[<-this];exact ha
    |succ t=>exact h4 t y (by omega) (by simpa using hy)
  ·simp only[gD];exact ah ⟨0,a,rfl,rfl,ha,fun t y ht=>by omega⟩
theorem AW(Xs:List PB)(O:List Nat)(s:Nat):(ie Xs O s<0/\∀b∈O,(xi Xs b).f≠(xi Xs s).t)\/∃(R x:Nat),ie Xs O s=(R:Int)/\O[R]?=some x/\(xi Xs x).f=(xi Xs s).t/\∀(t y:Nat),t<R->O[t]?=some y->(xi Xs y).f≠(xi Xs s).t:=by
 have e:ie Xs O s=fG (kV Xs s) O 0:=rfl;rw[e];have cp:∀b v,kV Xs s b=v->v=decide ((xi Xs s).t=(xi Xs b).f):=fun b v h=>h.symm
 rcases JB (P:=kV Xs s) O 0 with⟨h1,h2⟩|⟨R,x,h1,h2,h3,h4⟩
 ·refine ag ⟨by omega,fun b hb hk=>?_⟩
  have:=cp b _ (h2 b hb);rw[hk] at this;simp at this
 ·refine ah ⟨R,x,by rw[h1];simp,h2,?_,fun t y ht hy hk=>?_⟩
  ·have:=cp x _ h3;exact(gh this.symm).symm
  ·have:=cp y _ (h4 t y ht hy);rw[hk] at this;simp at this
section
variable{rg:List (List Pt)}{l:List Nd}{r:Int}{Xs:List PB}
abbrev dR(Xs:List PB)(i:Nat):Pt:=Ga.wv (xi Xs i).f (xi Xs i).t
theorem SX.ne(h:SX rg l r Xs){i:Nat}(hi:i<Xs.length):dR Xs i≠(0,0):=(Ga.eF h.nl (h.sd hi).pc).1
theorem SX.fl(h:SX rg l r Xs){i:Nat}(hi:i<Xs.length):(xi Xs i).f∈l/\(xi Xs i).t∈l:=(Ga.eF h.nl (h.sd hi).pc).2
theorem SX.straight(h:SX rg l r Xs){i j:Nat}(hi:i<Xs.length)(hj:j<Xs.length)(hc:(xi Xs j).f=(xi Xs i).t)(hx:eW (xi Xs j) (xi Xs i)=0):Ga.ai (dR Xs i) (dR Xs j)=true:=by
 have si:=h.sd hi;have sj:=h.sd hj;rw[hc] at sj;rw[wE] at hx;have hx':=uY.1 hx;have:=si.straight h.nl sj (by
  have e:=Ga.bT (Ga.wv (xi Xs j).f (xi Xs j).t) (Ga.wv (xi Xs i).f (xi Xs i).t);rw[hc] at e hx';omega)
 unfold dR;rw[hc];exact this
def jP(Xs:List PB)(A:List Nat):Prop:=∀(t a b:Nat),A[t]?=some a->A[t+1]?=some b->(xi Xs b).f=(xi Xs a).t
theorem jP.tail{a:Nat}{A:List Nat}(h:jP Xs (a::A)):jP Xs A:=fun t x y hx hy=>h (t+1) x y (by simpa using hx) (by simpa using hy)
theorem jP.drop{A:List Nat}(h:jP Xs A)(R:Nat):jP Xs (A.drop R):=fun t x y hx hy=>h (R+t) x y (by rw[<-KH];exact hx) (by rw[Nat.add_assoc,<-KH];exact hy)
theorem jP.take{A:List Nat}(h:jP Xs A)(R:Nat):jP Xs (A.take R):=fun t x y hx hy=>by
 rw[kj] at hx hy;split at hx
 ·split at hy
  ·exact h t x y hx hy
  ·cases hy
 ·cases hx
theorem aiu{b s:Nat}{A:List Nat}(h:tI Xs b (s::A)=[]):eW (xi Xs s) (xi Xs b)=0/\tI Xs s A=[]:=by
 have h':(if eW (xi Xs s) (xi Xs b)=0 then[] else[s])++tI Xs s A=[]:=h
 obtain⟨h1,h2⟩:=List.append_eq_nil_iff.1 h';refine⟨?_,h2⟩;apply fV;intro hk;rw[af hk] at h1;cases h1
theorem SX.I0(h:SX rg l r Xs){i:Nat}(hi:i<Xs.length):(Ga.aJ (dR Xs i)->lt (ax (xi Xs i).f) (ax (xi Xs i).t))/\(¬Ga.aJ (dR Xs i)->lt (ax (xi Xs i).t) (ax (xi Xs i).f)):=by
 obtain⟨h1,h2⟩:=h.fl hi;have c1:=h.nl.can _ h1;have c2:=h.nl.can _ h2;refine⟨fun hr=>(Ga.mU c1 c2).2 hr,fun hr=>(Ga.mU c2 c1).2 ?_⟩
 rw[Ga.dU (xi Xs i).f];exact Ga.fM (h.ne hi) hr
theorem SX.mono(h:SX rg l r Xs):∀(A:List Nat)(b:Nat),b<Xs.length->(∀a∈A,a<Xs.length)->jP Xs (b::A)->tI Xs b A=[]->A≠[]->∀z,A.getLast?=some z->(Ga.aJ (dR Xs b)->lt (ax (xi Xs b).t) (ax (xi Xs z).t))/\(¬Ga.aJ (dR Xs b)->lt (ax (xi Xs z).t) (ax (xi Xs b).t))
 |[],_,_,_,_,_,h0,_,_=>absurd rfl h0
 |s::A,b,hb,hA,hc,ht,_,z,hz=>by
  obtain⟨h1,h2⟩:=aiu ht;have hs:=hA s (by simp)
  have hcs:(xi Xs s).f=(xi Xs b).t:=hc 0 b s rfl rfl;have hst:=h.straight hb hs hcs h1;have pQ:=Ga.yi hst;obtain⟨l1,l2⟩:=h.I0 hs;rw[hcs] at l1 l2;have can:∀j,j<Xs.length->Ge.Can (xi Xs j).t:=fun j hj=>h.nl.can _ (h.fl hj).2
  cases A with
  |nil=>
   have:s=z:=by simpa using hz
   rw[<-this];exact⟨fun hr=>l1 (pQ.1 hr),fun hr=>l2 (fun k=>hr (pQ.2 k))⟩
  |cons s' A'=>
   have hzl:z<Xs.length:=hA z (pB hz);have ih:=h.mono (s'::A') s hs (fun a ha=>hA a (aT _ ha)) hc.tail h2 (by simp) z (by simpa using hz)
   exact⟨fun hr=>lt_trans (df (can b hb)) (df (can s hs)) (df (can z hzl)) (l1 (pQ.1 hr)) (ih.1 (pQ.1 hr)),fun hr=>lt_trans (df (can z hzl)) (df (can s hs)) (df (can b hb)) (ih.2 fun k=>hr (pQ.2 k)) (l2 fun k=>hr (pQ.2 k))⟩
theorem SX.aiv(h:SX rg l r Xs){D:List Nat}(hD:D≠[])(hl:∀a∈D,a<Xs.length)(hc:jP Xs D)(hcl:∀a z,D[0]?=some a->D.getLast?=some z->(xi Xs a).f=(xi Xs z).t):dw Xs D≠[]:=by
 intro ht;obtain⟨z,hz⟩:∃z,D.getLast?=some z:=⟨_,QE hD⟩;have hzl:D.getLastD 0=z:=by rw[jE,hz];rfl
 have hzb:=hl z (pB hz);unfold dw at ht;rw[hzl] at ht;have hcz:jP Xs (z::D):=fun t a b ha hb=>by
  cases t with
  |zero=>
   have e:a=z:=by simpa using ha.symm
   rw[e];exact hcl b z (by simpa using hb) hz
  |succ t=>exact hc t a b (by simpa using ha) (by simpa using hb)
 obtain⟨m1,m2⟩:=h.mono D z hzb hl hcz ht hD z hz;by_cases hr:Ga.aJ (dR Xs z)
 ·exact lt_irrefl _ (m1 hr)
 ·exact lt_irrefl _ (m2 hr)
structure OC(Xs:List PB)(L:List Nat)(n0:Nd)(k:Nat)(O:List Nat):Prop where
 conn:jP Xs O
 hd:∀a,O[0]?=some a->(xi Xs a).f=n0
 XO:∀a s,O.getLast?=some a->L[k]?=some s->(xi Xs s).f=(xi Xs a).t
 nil:O=[]->∀s,L[k]?=some s->(xi Xs s).f=n0
 new:∀a,O.getLast?=some a->∀b∈O,(xi Xs b).f≠(xi Xs a).t
theorem OC.snoc{L:List Nat}{n0:Nd}{k s:Nat}{O:List Nat}(h:OC Xs L n0 k O)(hs:L[k]?=some s):jP Xs (O++[s])/\∀a,(O++[s])[0]?=some a->(xi Xs a).f=n0:=by
 refine⟨fun t a b ha hb=>?_,fun a ha=>?_⟩
 ·by_cases ht:t+1<O.length
  ·rw[fC (by omega)] at ha
   rw[fC ht] at hb;exact h.conn t a b ha hb
  ·have ht2:t+1=O.length:=by
    have:=(bZ.1 hb).1;simp at this;omega
   have e1:b=s:=by
    rw[ht2] at hb;simpa using hb.symm
   rw[e1];refine h.XO a s ?_ hs;rw[fC (by omega)] at ha
   rw[mH,<-ht2];exact ha
 ·cases O with
  |nil=>
   have:s=a:=by simpa using ha
   rw[<-this];exact h.nil rfl s hs
  |cons x rr=>exact h.hd a (by simpa using ha)
theorem OC.step{L:List Nat}{n0:Nd}{k s:Nat}{O:List Nat}{Rs:List (List Nat)}(h:OC Xs L n0 k O)(hs:L[k]?=some s)(hL:jP Xs L):OC Xs L n0 (k+1) (jo Xs (O,Rs) s).1:=by
 obtain⟨hc,hh⟩:=h.snoc hs;have hnx:∀s',L[k+1]?=some s'->(xi Xs s').f=(xi Xs s).t:=fun s' hs'=>hL k s s' hs hs'
 unfold jo;simp only;rcases AW Xs (O++[s]) s with⟨h1,h2⟩|⟨R,x,h1,h2,h3,h4⟩
 ·rw[af (by omega)]
  have hlast:∀a,(O++[s]).getLast?=some a->a=s:=fun a ha=>by simpa using ha.symm
  refine⟨hc,hh,fun a s' ha hs'=>?_,fun h0=>by simp at h0,fun a ha b hb=>?_⟩
  ·rw[hlast a ha];exact hnx s' hs'
  ·rw[hlast a ha];exact h2 b hb
 ·rw[aj (by omega),h1,yT]
  have uD:R<(O++[s]).length:=(bZ.1 h2).1;have hlast:∀a,((O++[s]).take R).getLast?=some a->(xi Xs s).t=(xi Xs a).t/\0<R:=fun a ha=>by
   rw[mH,kj,iE] at ha;split at ha
   ·rename_i hlt
    have yx:0<R:=by omega
    refine⟨?_,yx⟩;have e:min R (O++[s]).length-1=R-1:=by omega
    rw[e] at ha;have:=hc (R-1) a x ha (by rw[show R-1+1=R by omega];exact h2)
    rw[<-h3,this]
   ·cases ha
  refine⟨hc.take R,fun a ha=>?_,fun a s' ha hs'=>?_,fun h0 s' hs'=>?_,fun a ha b hb=>?_⟩
  ·rw[kj] at ha;split at ha
   ·exact hh a ha
   ·cases ha
  ·rw[hnx s' hs',(hlast a ha).1]
  ·have yx:R=0:=by
    have:=au List.length h0;rw[iE] at this;simp at this;simp at uD;omega
   rw[yx] at h2;rw[hnx s' hs',<-h3];exact hh x h2
  ·rw[<-(hlast a ha).1];obtain⟨t,ht,Iu⟩:=iO.1 hb;rw[iE] at ht;refine h4 t b (by omega) ?_
   rw[<-Iu,List.getElem_take,aC]
theorem OC.all{L:List Nat}{n0:Nd}(hL:jP Xs L)(h0:∀s,L[0]?=some s->(xi Xs s).f=n0):∀k,k<=L.length->OC Xs L n0 k (bJ Xs (L.take k)).1
 |0,_=>⟨fun t a b h=>by simp[bJ] at h,fun a h=>by simp[bJ] at h,fun a s h=>by simp[bJ] at h,fun _ s hs=>h0 s hs,fun a h=>by simp[bJ] at h⟩
 |k+1,hk=>by
  obtain⟨s,hs⟩:∃s,L[k]?=some s:=⟨_,aC (by omega)⟩
  have htk:L.take (k+1)=L.take k++[s]:=by rw[jF,hs];rfl
  rw[htk,wJ];have:=(OC.all hL h0 k (by omega)).step (Rs:=(bJ Xs (L.take k)).2) hs hL
  exact this
theorem SX.parts(h:SX rg l r Xs){L:List Nat}{n0:Nd}(hL:jP Xs L)(hl:∀a∈L,a<Xs.length)(h0:∀s,L[0]?=some s->(xi Xs s).f=n0)(k s:Nat)(hs:L[k]?=some s)(hst:0<=ie Xs ((bJ Xs (L.take k)).1++[s]) s):
  dw Xs (((bJ Xs (L.take k)).1++[s]).drop (ie Xs ((bJ Xs (L.take k)).1++[s]) s).toNat)≠[]:=by
 have hk:k<L.length:=(bZ.1 hs).1;have td:=OC.all hL h0 k (by omega)
 obtain⟨hc,hh⟩:=td.snoc hs;rcases AW Xs ((bJ Xs (L.take k)).1++[s]) s with⟨h1,_⟩|⟨R,x,h1,h2,h3,_⟩
 ·omega
 ·rw[h1,yT];have uD:R<((bJ Xs (L.take k)).1++[s]).length:=(bZ.1 h2).1;refine h.aiv ?_ ?_ (hc.drop R) ?_
  ·intro hn;have:=au List.length hn;rw[rp] at this;simp only[gP] at this;omega
  ·intro a ha;rcases bQ.1 (QD ha) with ha|ha
   ·exact hl a (Jt Xs L k a ha)
   ·rw[bY.1 ha];exact hl s (aZ hs)
  ·intro a z ha hz;rw[KH,pD,h2] at ha;injection ha with ha;rw[<-ha,h3];have:z=s:=by
    rw[List.getLast?_drop,af (by omega)] at hz
    simpa using hz.symm
   rw[this]
end
theorem XP{cf:Nat->Nat->Int}:∀(l:List Nat)(m:Nat),(∀x∈l,¬cf x m<0)->bG cf l m=m
 |[],_,_=>rfl
 |b::l,m,h=>by
  show bG cf l (if cf b m<0 then b else m)=m
  rw[af (h b (by simp))]
  exact XP l m fun x hx=>h x (aT _ hx)
theorem aiw(r:Int):takes r 0=false:=by
 unfold takes;split
 ·rfl
 ·split
  ·rfl
  ·split<;>rfl
section
variable{rg:List (List Pt)}{l:List Nd}{r:Int}{Xs:List PB}
theorem SX.Ol(h:SX rg l r Xs):∀(A:List Nat)(b c:Nat),b<Xs.length->(∀a∈A,a<Xs.length)->jP Xs (b::A)->Ga.ai (dR Xs c) (dR Xs b)=true->Ga.ai (dR Xs ((tI Xs b A).getLastD c)) (dR Xs (A.getLastD b))=true
 |[],b,c,_,_,_,hs=>hs
 |s::A,b,c,hb,hA,hc,hs=>by
  have hsl:=hA s (by simp)
  have hcs:(xi Xs s).f=(xi Xs b).t:=hc 0 b s rfl rfl;have ht:tI Xs b (s::A)=(if eW (xi Xs s) (xi Xs b)=0 then[] else[s])++tI Xs s A:=rfl
  have hlast:(s::A).getLastD b=A.getLastD s:=by cases A<;>rfl
  rw[ht,hlast];by_cases hx:eW (xi Xs s) (xi Xs b)=0
  ·rw[aj hx,qd];exact h.Ol A s c hsl (fun a ha=>hA a (aT _ ha)) hc.tail (Ga.ML hs (h.straight hb hsl hcs hx))
  ·rw[af hx];have e:([s]++tI Xs s A).getLastD c=(tI Xs s A).getLastD s:=by
    cases tI Xs s A<;>rfl
   rw[e];have Om:Ga.ai (dR Xs s) (dR Xs s)=true:=(Ga.bA _ _).2 ⟨by unfold cr;grind,Ga.cP (h.ne hsl)⟩
   exact h.Ol A s s hsl (fun a ha=>hA a (aT _ ha)) hc.tail Om
theorem SX.shell(h:SX rg l r Xs){hh:Nat}{tl:List Nat}(hl:∀a∈hh::tl,a<Xs.length)(hc:jP Xs (hh::tl))(Oo:∀b∈tl,¬bn (xi Xs b).f (xi Xs hh).f<0)(hturn:0<cr (dR Xs (tl.getLastD hh)) (dR Xs hh)):cC Xs (di Xs (hh::tl))=true:=by
 have XR:=hl hh (by simp)
 have hlast:(hh::tl).getLastD 0=tl.getLastD hh:=by cases tl<;>rfl
 have hx:eW (xi Xs hh) (xi Xs (tl.getLastD hh))≠0:=by
  rw[wE];intro hk;have:=uY.1 hk;have e:=Ga.bT (dR Xs (tl.getLastD hh)) (dR Xs hh);unfold dR at*;omega
 have hT:dw Xs (hh::tl)=hh::tI Xs hh tl:=by
  unfold dw;rw[hlast];show(if eW (xi Xs hh) (xi Xs (tl.getLastD hh))=0 then[] else[hh])++tI Xs hh tl=_
  rw[af hx];rfl
 have hle:jZ Xs (hh::tI Xs hh tl)=hh:=XP _ _ fun x hx=>Oo x (AQ Xs tl hh x hx)
 have Oq:sO Xs (hh::tI Xs hh tl)=0:=by
  unfold sO;rw[hle];have:fR (fun j=>j == hh) (hh::tI Xs hh tl)=0:=by
   show(if(hh == hh)=true then((0:Nat):Int) else _)=0
   rw[aj (by simp)]
   rfl
  rw[this];rfl
 have aix:di Xs (hh::tl)=hh::tI Xs hh tl:=by
  unfold di;rw[hT,Oq];simp
 rw[aix];unfold cC;refine eN ?_;have e1:(hh::tI Xs hh tl).getLastD 0=(tI Xs hh tl).getLastD hh:=by cases tI Xs hh tl<;>rfl
 rw[e1,show(hh::tI Xs hh tl).headD 0=hh from rfl,wE]
 have Om:Ga.ai (dR Xs hh) (dR Xs hh)=true:=(Ga.bA _ _).2 ⟨by unfold cr;grind,Ga.cP (h.ne XR)⟩
 have hsm:=h.Ol tl hh hh XR (fun a ha=>hl a (aT _ ha)) hc Om
 have k:=Ga.oQ hsm (dR Xs hh);have s1:=Ga.bT (dR Xs hh) (dR Xs ((tI Xs hh tl).getLastD hh));have s2:=Ga.bT (dR Xs hh) (dR Xs (tl.getLastD hh));have hpos:0<cr (dR Xs ((tI Xs hh tl).getLastD hh)) (dR Xs hh):=by omega
 rw[pq hpos];decide
structure Wk(Xs:List PB)(i:Nat)(L:List Nat):Prop where
 lt:∀a∈L,a<Xs.length
 head:L[0]?=some i
 conn:jP Xs L
 K8:∀a∈L,cJ Xs a∈L
 back:∀a,L.getLast?=some a->(xi Xs a).t=(xi Xs i).f
 least:∀a∈L,¬bn (xi Xs a).f (xi Xs i).f<0
def wN(Xs:List PB)(x y:Nat):Bool:=Ga.nz (dR Xs x)&&Ga.nz (dR Xs y)&&Ga.ak (dR Xs y) (dR Xs x)
theorem aiy(x y z:Nat)(h1:wN Xs x y=true)(h2:wN Xs y z=true):wN Xs x z=true:=by
 unfold wN Ga.nz at*;simp only[pj,xf] at*;exact⟨⟨h1.1.1,h2.1.2⟩,Ga.gQ h2.1.2 h1.1.2 h1.1.1 h2.2 h1.2⟩
theorem aiz(x:Nat):wN Xs x x=false:=by unfold wN;rw[Ga.qq];simp
theorem SX.XS(h:SX rg l r Xs)(hB:BD Xs){i:Nat}{L:List Nat}(hW:Wk Xs i L)(hout:takes r (Ga.PP (ae rg) (xi Xs i).f)=false):∃ring∈bp Xs L,cC Xs ring=true:=by
 have uI:i∈L:=aZ hW.head;have hi:=hW.lt i uI;obtain⟨hh,XT,hhT,hmax⟩:=Ga.I3 (lt:=wN Xs) (aiy (Xs:=Xs)) (aiz (Xs:=Xs)) (fun a=>decide ((xi Xs a).f=(xi Xs i).f)) L _ i uI (by simp) (ay _)
 have uJ:(xi Xs hh).f=(xi Xs i).f:=gh hhT;have yC:=hW.lt hh XT;have hmin:∀y∈L,(xi Xs y).f=(xi Xs i).f->Ga.ak (dR Xs y) (dR Xs hh)=false:=fun y hy EG=>by
  have:=hmax y hy (eN EG);cases hk:Ga.ak (dR Xs y) (dR Xs hh)
  ·rfl
  ·unfold wN Ga.nz at this;rw[hk,eN (h.ne yC),eN (h.ne (hW.lt y hy))] at this;cases this
 obtain⟨t0,ht0,hht⟩:=iO.1 XT;have Ot:L[t0]?=some hh:=by rw[aC ht0,hht]
 have h0:∀s,L[0]?=some s->(xi Xs s).f=(xi Xs i).f:=fun s hs=>by
  rw[hW.head] at hs;injection hs with hs;rw[hs]
 have hne:∀j,j<Xs.length->(xi Xs j).f≠(xi Xs j).t:=fun j hj e=>by
  have:=h.ne hj;unfold dR at this;rw[<-e] at this;exact this (by unfold Ga.wv;simp)
 have hstep:∀k,k<L.length->∀s,L[k]?=some s->bJ Xs (L.take (k+1))=jo Xs (bJ Xs (L.take k)) s:=fun k hk s hs=>by
  have htk:L.take (k+1)=L.take k++[s]:=by rw[jF,hs];rfl
  rw[htk,wJ]
 have aiC:∀p s,∀ring∈(p:List Nat×List (List Nat)).2,ring∈(jo Xs p s).2:=fun p s ring hr=>by
  unfold jo;split
  ·exact nr _ hr
  ·exact hr
 have key:∀d,t0+1+d<=L.length->(∃ring∈(bJ Xs (L.take (t0+1+d))).2,cC Xs ring=true)\/((∃tl,(bJ Xs (L.take (t0+1+d))).1=hh::tl/\∀b∈tl,(xi Xs b).f≠(xi Xs i).f)/\∀z,L[t0+d]?=some z->(xi Xs z).t≠(xi Xs i).f):=by
  intro d;induction d with
  |zero=>
   intro _;right;have td:=OC.all hW.conn h0 t0 (by omega)
   have hO:(bJ Xs (L.take t0)).1=[]:=by
    apply fV;intro hk;obtain⟨z,hz⟩:∃z,(bJ Xs (L.take t0)).1.getLast?=some z:=⟨_,QE hk⟩;obtain⟨a,ha⟩:∃a,(bJ Xs (L.take t0)).1[0]?=some a:=⟨_,aC (iP.2 hk)⟩;have e1:=td.XO z hh hz Ot;exact td.new z hz a (aZ ha) (by rw[td.hd a ha,<-e1,uJ])
   rw[pD,hstep t0 ht0 hh Ot];have hto:(xi Xs hh).t≠(xi Xs i).f:=fun e=>hne hh yC (uJ.trans e.symm)
   refine⟨⟨[],?_,fun b hb=>by simp at hb⟩,fun z hz=>?_⟩
   ·unfold jo;rw[hO];rcases AW Xs ([]++[hh]) hh with⟨h1,_⟩|⟨R,x,h1,h2,h3,_⟩
    ·rw[af (by omega)]
     rfl
    ·exfalso;have:x=hh:=by
      have:=aZ h2;simpa using this
     rw[this] at h3;exact hne hh yC h3
   ·rw[pD,Ot] at hz;injection hz with hz;rw[<-hz];exact hto
  |succ d ih=>
   intro hd;have hk:t0+1+d<L.length:=by omega
   obtain⟨s,hs⟩:∃s,L[t0+1+d]?=some s:=⟨_,aC hk⟩;have hsL:=aZ hs;have hsl:=hW.lt s hsL;rw[show t0+1+(d+1)=t0+1+d+1 by omega,hstep _ hk s hs]
   rcases ih (by omega) with⟨ring,hr1,hr2⟩|⟨⟨tl,hO,htl⟩,hz⟩
   ·exact ag ⟨ring,aiC _ s ring hr1,hr2⟩
   ·have td:=OC.all hW.conn h0 (t0+1+d) (by omega)
    obtain⟨hcs,_⟩:=td.snoc hs;rw[hO] at td hcs;have zo:∀b∈hh::tl,b∈L:=fun b hb=>Jt Xs L (t0+1+d) b (by rw[hO];exact hb)
    have Ou:(xi Xs s).f≠(xi Xs i).f:=by
     obtain⟨a,ha⟩:∃a,L[t0+d]?=some a:=⟨_,aC (by omega)⟩
     rw[hW.conn (t0+d) a s ha (by rw[show t0+d+1=t0+1+d by omega];exact hs)]
     exact hz a ha
    have hzs:∀z,L[t0+(d+1)]?=some z->z=s:=fun z hz'=>by
     rw[show t0+(d+1)=t0+1+d by omega,hs] at hz'
     injection hz' with hz';exact hz'.symm
    by_cases hst:(xi Xs s).t=(xi Xs i).f
    ·
     left;refine⟨di Xs (hh::(tl++[s])),?_,?_⟩
     ·unfold jo;rw[hO];rcases AW Xs (hh::tl++[s]) s with⟨h1,h2⟩|⟨R,x,h1,h2,h3,h4⟩
      ·exfalso;exact h2 hh (by simp) (uJ.trans hst.symm)
      ·have yx:R=0:=by
        apply fV;intro hk;exact h4 0 hh (by omega) rfl (uJ.trans hst.symm)
       rw[aj (by omega),h1,yx]
       simp
     ·refine h.shell (fun a ha=>?_) hcs (fun b hb=>?_) ?_
      ·have:a∈(hh::tl)\/a=s:=by simpa[or_assoc] using ha
       rcases this with ha|ha
       ·exact hW.lt a (zo a ha)
       ·rw[ha];exact hsl
      ·have:b∈tl\/b=s:=by simpa using hb
       rw[uJ];rcases this with hb|hb
       ·exact hW.least b (zo b (aT _ hb))
       ·rw[hb];exact hW.least s hsL
      ·have e:(tl++[s]).getLastD hh=s:=by simp
       rw[e];obtain⟨n1,n2,n3⟩:=h.next hB hsl
       have hnL:=hW.K8 s hsL;have uK:=h.sd hsl;have XU:=h.sd n1;have XV:=h.sd yC;rw[hst] at uK;rw[n2,hst] at XU;rw[uJ] at XV;have hris:Ga.aJ (Ga.wv (xi Xs i).f (xi Xs s).f):=by
        have c1:=h.nl.can _ (h.fl hi).1;have c2:=h.nl.can _ (h.fl hsl).1;refine(Ga.mU c1 c2).1 (zY c1 c2 ?_ (fun e=>Ou e.symm))
        exact hW.least s hsL
       have hle:=hmin (cJ Xs s) hnL (n2.trans hst);unfold dR at hle;rw[n2,hst,uJ] at hle;have hres:=Ga.ag2 h.nl hout uK hris XU (fun c' hc'=>by
        obtain⟨q,hq,q1,q2⟩:=h.find hc';have:=n3 q hq (by rw[q1,hst])
        rw[Ji,q1,q2,n2,hst] at this;exact this) XV hle
       unfold dR;rw[hst,uJ];exact hres
    ·right;refine⟨?_,fun z hz'=>by rw[hzs z hz'];exact hst⟩
     unfold jo;rw[hO];rcases AW Xs (hh::tl++[s]) s with⟨h1,h2⟩|⟨R,x,h1,h2,h3,h4⟩
     ·rw[af (by omega)]
      refine⟨tl++[s],rfl,fun b hb=>?_⟩
      have:b∈tl\/b=s:=by simpa using hb
      rcases this with hb|hb
      ·exact htl b hb
      ·rw[hb];exact Ou
     ·rw[aj (by omega),h1,yT]
      obtain⟨R',rfl⟩:∃R',R=R'+1:=by
       cases R with
       |zero=>
        exfalso;have:x=hh:=by simpa using h2.symm
        rw[this] at h3;exact hst (h3.symm.trans uJ)
       |succ R'=>exact⟨R',rfl⟩
      refine⟨(tl++[s]).take R',by simp,fun b hb=>?_⟩
      have:=qh hb;have:b∈tl\/b=s:=by simpa using this
      rcases this with hb|hb
      ·exact htl b hb
      ·rw[hb];exact Ou
 have hfin:=key (L.length-(t0+1)) (by omega)
 rw[show t0+1+(L.length-(t0+1))=L.length by omega,gm] at hfin
 rcases hfin with hfin|⟨_,hz⟩
 ·exact hfin
 ·exfalso;obtain⟨z,hzl⟩:∃z,L[L.length-1]?=some z:=⟨_,aC (by omega)⟩
  refine hz z (by rw[show t0+(L.length-(t0+1))=L.length-1 by omega];exact hzl) ?_
  exact hW.back z (by rw[mH];exact hzl)
theorem XW{n:Nd}(hn:Ge.Can n){j:Nat}(hv:dh (xi Xs j))(hb:jA Xs n j=true):lt (ax (xi Xs j).f) (ax n):=by
 unfold jA at hb;simp only[pj,Qz,QA,xf] at hb;obtain⟨⟨h1,h2⟩,h3⟩:=hb;refine(Ga.mU hv.cf hn).2 ?_;have hfp:=hv.cf.pos;have VE:=hv.ct.pos;have pV:=hn.pos;generalize(xi Xs j).f=f at*;generalize(xi Xs j).t=t at*;have e1:(Ga.wv f n).1=n.1*f.2.2-f.1*n.2.2:=by unfold Ga.wv;simp only;grind
 have e2:n.2.2*(Ga.wv f t).1=f.2.2*(t.1*n.2.2-n.1*t.2.2)+t.2.2*(Ga.wv f n).1:=by unfold Ga.wv;simp only;grind
 by_cases hx:0<(Ga.wv f n).1
 ·exact ag hx
 ·have hx0:(Ga.wv f n).1=0:=by omega
  rw[hx0,y8,Int.add_zero] at e2;have hp:=aR hfp (show 0<t.1*n.2.2-n.1*t.2.2 by omega)
  have hD:0<(Ga.wv f t).1:=(Ga.aQ pV).1 (by omega)
  unfold cr at h3;rw[hx0,y8,yQ] at h3;exact ah ⟨hx0,(Ga.aQ hD).1 h3⟩
theorem SX.seen(h:SX rg l r Xs)(hB:BD Xs){i:Nat}{L:List Nat}(hW:Wk Xs i L)(hno:∀ring∈bp Xs L,cC Xs ring=false):dW Xs (xi Xs i).f Xs.length≠[]:=by
 have hi:=hW.lt i (aZ hW.head);have hfl:=(h.fl hi).1;intro hs;cases hp:takes r (Ga.PP (ae rg) (xi Xs i).f)
 ·obtain⟨ring,h1,h2⟩:=h.XS hB hW hp;rw[hno ring h1] at h2;cases h2
 ·obtain⟨f,t,gf,h1,h2,h3⟩:=Ga.ags h.nl (aiw r) hfl hp;obtain⟨j,hj,j1,j2⟩:=h.find gf;have hm:j∈dW Xs (xi Xs i).f Xs.length:=by
   refine eY.2 ⟨qi.2 hj,?_⟩;unfold jA;rw[j1,j2];generalize(xi Xs i).f=n at*;have e1:(Ga.wv n f).1=f.1*n.2.2-n.1*f.2.2:=by unfold Ga.wv;simp only;grind
   have e2:(Ga.wv n t).1=t.1*n.2.2-n.1*t.2.2:=by unfold Ga.wv;simp only;grind
   simp only[pj,Qz,QA,xf];exact⟨⟨by omega,by omega⟩,h3⟩
  rw[hs] at hm;simp at hm
end
end Go.Proofs.YtkjhhooecopolaaGreatDoor
namespace Go.Proofs.YtkjhhooecopolaaGreatDoor
open Go.RowKit
structure St where
 aK:Nat->Bool
 ow:Nat->Nat
 ps:List Pg
def tz(P:List Nat->Bool)(Rs:List (List Nat)):List Nat:=Rs.foldl (fun acc r=>if P r then r else acc) []
def cM(Xs:List PB)(mk:Nat->Bool)(i:Nat):List Nat:=jn (cJ Xs) mk Xs.length [] i
def nX(Xs:List PB)(st:St)(i:Nat):St:=
 if st.aK i then st
 else if(bp Xs (cM Xs st.aK i)).any (cC Xs) then
  ⟨fun j=>st.aK j||(cM Xs st.aK i).contains j,fun j=>if(cM Xs st.aK i).contains j then st.ps.length else st.ow j,st.ps++[(tz (cC Xs) (bp Xs (cM Xs st.aK i)),(bp Xs (cM Xs st.aK i)).filter fun r=> !cC Xs r)]⟩
 else
  ⟨fun j=>st.aK j||(cM Xs st.aK i).contains j,fun j=>if(cM Xs st.aK i).contains j then st.ow (ij Xs (xi Xs i).f) else st.ow j,st.ps.set (st.ow (ij Xs (xi Xs i).f)) ((st.ps.getD (st.ow (ij Xs (xi Xs i).f)) ([],[])).1,(st.ps.getD (st.ow (ij Xs (xi Xs i).f)) ([],[])).2++bp Xs (cM Xs st.aK i))⟩
def aM(Xs:List PB)(k:Nat):St:=(List.range k).foldl (nX Xs) ⟨fun _=>false,fun _=>0,[]⟩
theorem yD(Xs:List PB)(k:Nat):aM Xs (k+1)=nX Xs (aM Xs k) k:=by unfold aM;rw[FD,KJ];rfl
structure XX(bs:List Nat)(g cap:Nat)(Inv:Nat->Value->World->Prop)(B:Nat->Value->World->Prop)(C1:Nat->Value->Nat->Nat->List Nat->World->Prop)(C2:Nat->Value->Nat->Nat->List Nat->Nat->Nat->Nat->World->Prop)
  (D1 D2:Nat->Value->Nat->Nat->List Nat->Nat->Nat->Nat->Nat->World->Prop)(E:Nat->Value->Nat->Nat->List Nat->Nat->Nat->Nat->Nat->World->Prop)(F:Nat->Value->Nat->Nat->List Nat->Nat->Nat->World->Prop)(Q:Value->World->Prop)(base:Nat):Prop where
 row:∀k lv wr,Inv k lv wr->k<bs.length->wr.cell? ⟨g,k,none⟩=some (.pointer (some ⟨bx bs k,0,none⟩))/\∃m,wr.cell? ⟨bx bs k,6,none⟩=some (.bool m)/\(m=true->Inv (k+1) lv wr)/\(m=false->B k lv wr)
 walk:∀k lv wr,B k lv wr->Calls Tryz.prog 110 #[.slice (some ⟨g,0,none⟩) bs.length cap,.pointer (some ⟨bx bs k,0,none⟩)] wr fun e w1=>∃gW cW L,e=.returned (.slice (some ⟨gW,0,none⟩) L.length cW)/\L.length<=85000000/\C1 k lv gW cW L w1
 rings:∀k lv gW cW L w1,C1 k lv gW cW L w1->Calls Tryz.prog 111 #[.slice (some ⟨gW,0,none⟩) L.length cW] w1 fun e w2=>∃gR cR n,e=.returned (.slice (some ⟨gR,0,none⟩) n cR)/\C2 k lv gW cW L gR cR n w2
 con:∀k lv gW cW L gR cR n w2,C2 k lv gW cW L gR cR n w2->Calls Tryz.prog 112 #[.slice (some ⟨gR,0,none⟩) n cR,.func (.func 113) #[] #[]] (w2.alloc (.cells #[.slice none 0 0,.slice none 0 0] 187)) fun e w4=>∃b,e=.returned (.bool b)/\(b=true->D1 k lv gW cW L gR cR n w2.heap.size w4)/\(b=false->D2 k lv gW cW L gR cR n w2.heap.size w4)
 push:∀k lv gW cW L gR cR n N w4,D1 k lv gW cW L gR cR n N w4->∃np pp,w4.ownsRow base 165 1 lv np pp/\np<=85000000/\base<=w4.heap.size/\∀g' cap' w8,w8.ownsRow base 165 1 (.slice (some ⟨g',0,none⟩) (np+1) cap') (np+1) (pp++[.pointer (some ⟨N,0,none⟩)])->(w4.alloc (.cells #[.pointer (some ⟨N,0,none⟩)] 165)).grownBy w8 lv.ownBlock->(lv.ownBlock=some g'\/g'=w4.heap.size+1)->E k (.slice (some ⟨g',0,none⟩) (np+1) cap') gW cW L gR cR n N w8
 below:∀k lv gW cW L gR cR n N w4,D2 k lv gW cW L gR cR n N w4->∃N1 N2 N3,w4.cell? ⟨bx bs k,2,none⟩=some (.complex .f64 N1 N2)/\w4.cell? ⟨bx bs k,3,none⟩=some (.int .i64 N3)/\Calls Tryz.prog 114 #[.slice (some ⟨g,0,none⟩) bs.length cap,.agg #[.complex .f64 N1 N2,.int .i64 N3]] w4 fun e w5=>∃bL ob,e=.returned (.pointer (some ⟨bL,0,none⟩))/\w5.cell? ⟨bL,7,none⟩=some (.pointer (some ⟨ob,0,none⟩))/\E k lv gW cW L gR cR n ob w5
 take:∀k lv gW cW L gR cR n ob w5,E k lv gW cW L gR cR n ob w5->Calls Tryz.prog 115 #[.pointer (some ⟨ob,0,none⟩),.slice (some ⟨gR,0,none⟩) n cR] w5 fun e w6=>e=.returned (.tuple #[])/\F k lv gW cW L ob 0 w6
 own:∀k lv gW cW L ob t wr,F k lv gW cW L ob t wr->t<L.length->∃b o,wr.cell? ⟨gW,t,none⟩=some (.pointer (some ⟨b,0,none⟩))/\wr.cell? ⟨b,7,none⟩=some o/\wr.frozen? ⟨b,7,none⟩=false/\F k lv gW cW L ob (t+1) (wr.setCell ⟨b,7,none⟩ (.pointer (some ⟨ob,0,none⟩)))
 done:∀k lv gW cW L ob wr,F k lv gW cW L ob L.length wr->k<bs.length->Inv (k+1) lv wr
 sort:∀lv wr,Inv bs.length lv wr->Calls Tryz.prog 116 #[lv] wr fun e w'=>e=.returned (.tuple #[])/\Q lv w'
theorem aiH:(Tryz.prog.info? 165).map (fun i=>(i.zero,i.size,i.bytes))=some (some (.pointer none),1,8):=by kernel_rfl
theorem aiI(bs:List Nat)(g cap:Nat)(Inv:Nat->Value->World->Prop)(B:Nat->Value->World->Prop)(C1:Nat->Value->Nat->Nat->List Nat->World->Prop)(C2:Nat->Value->Nat->Nat->List Nat->Nat->Nat->Nat->World->Prop)
  (D1 D2:Nat->Value->Nat->Nat->List Nat->Nat->Nat->Nat->Nat->World->Prop)(E:Nat->Value->Nat->Nat->List Nat->Nat->Nat->Nat->Nat->World->Prop)(F:Nat->Value->Nat->Nat->List Nat->Nat->Nat->World->Prop)(Q:Value->World->Prop)(base:Nat)
  (HK:Hid (XX bs g cap Inv B C1 C2 D1 D2 E F Q base))(w:World)(hl:bs.length<=85000000)(h0:Inv 0 (.slice none 0 0) w):
  Calls Tryz.prog 69 #[.slice (some ⟨g,0,none⟩) bs.length cap] w fun e w'=>∃lv,e=.returned lv/\Q lv w':=by
 obtain⟨j0,Ez,hy0,hy1,hy2⟩:=info_parts aiH;have bW:Hid (Inv 0 (.slice none 0 0) w):=h0;clear h0
 go_enter Tryz.func69,Tryz.ntmps69
 go_wp2_with fail
 go_loopg [3,13] bs.length (fun m lv iv wr=>∃k:Nat,k+m=bs.length/\iv=.int .i64 k/\Hid (Inv k lv wr))
 case atStart=>exact⟨0,by omega,rfl,bW.out⟩
 case round=>
  obtain⟨k,hkn,rfl,HE⟩:=hrel;clear bW;obtain⟨G0,vQ⟩:∃G0,G0=gk:=⟨gk,rfl⟩;subst vQ;by_cases hlt:k<bs.length
  ·obtain⟨c1,m,c6,xO,hm2⟩:=HK.out.row k u3 wr HE.out hlt;have fN:(k:Int)<(bs.length:Int):=by omega
   cases m
   ·have HB:Hid (B k u3 wr):=hm2 rfl;have XY:=HK.out.walk k u3 wr HB.out;have XZ:Hid (Calls Tryz.prog 110 #[.slice (some ⟨g,0,none⟩) bs.length cap,.pointer (some ⟨bx bs k,0,none⟩)] wr fun e w1=>∃gW cW L,e=.returned (.slice (some ⟨gW,0,none⟩) L.length cW)/\L.length<=85000000/\C1 k u3 gW cW L w1):=XY
    clear xO hm2 XY HE HB
    go_wp2_with fail
    refine XZ.out.mono ?_;rintro e w1 ⟨gW,cW,L,rfl,jN,X6⟩;have X7:Hid (Calls Tryz.prog 111 #[.slice (some ⟨gW,0,none⟩) L.length cW] w1 fun e w2=>∃gR cR n,e=.returned (.slice (some ⟨gR,0,none⟩) n cR)/\C2 k u3 gW cW L gR cR n w2):=HK.out.rings k u3 gW cW L w1 X6
    clear X6 XZ c1 c6
    go_wp2_with fail
    refine X7.out.mono ?_;rintro e w2 ⟨gR,cR,n,rfl,Gq⟩;have Ov:Hid (Calls Tryz.prog 112 #[.slice (some ⟨gR,0,none⟩) n cR,.func (.func 113) #[] #[]] (w2.alloc (.cells #[.slice none 0 0,.slice none 0 0] 187)) fun e w4=>∃b,e=.returned (.bool b)/\(b=true->D1 k u3 gW cW L gR cR n w2.heap.size w4)/\(b=false->D2 k u3 gW cW L gR cR n w2.heap.size w4)):=HK.out.con k u3 gW cW L gR cR n w2 Gq
    clear Gq X7
    go_wp2_with fail
    refine Ov.out.mono ?_;rintro e w4 ⟨b,rfl,hb1,hb2⟩;cases b
    ·have u9:=hb2 rfl;obtain⟨N1,N2,N3,f2,f3,X8⟩:=HK.out.below k u3 gW cW L gR cR n w2.heap.size w4 u9;have X9:Hid (Calls Tryz.prog 114 #[.slice (some ⟨g,0,none⟩) bs.length cap,.agg #[.complex .f64 N1 N2,.int .i64 N3]] w4 fun e w5=>∃bL ob,e=.returned (.pointer (some ⟨bL,0,none⟩))/\w5.cell? ⟨bL,7,none⟩=some (.pointer (some ⟨ob,0,none⟩))/\E k u3 gW cW L gR cR n ob w5):=X8
     clear hb1 hb2 u9 X8 Ov
     go_wp2_with fail
     refine X9.out.mono ?_;rintro e w5 ⟨bL,ob,rfl,o7,C5⟩;have EM:Hid (E k u3 gW cW L gR cR n ob w5):=C5;clear C5 X9 f2 f3
     go_wp2_with fail
     have EN:Hid (Calls Tryz.prog 115 #[.pointer (some ⟨ob,0,none⟩),.slice (some ⟨gR,0,none⟩) n cR] w5 fun e w6=>e=.returned (.tuple #[])/\F k u3 gW cW L ob 0 w6):=HK.out.take k u3 gW cW L gR cR n ob w5 EM.out
     clear EM
     go_wp2_with fail
     refine EN.out.mono ?_;rintro e w6 ⟨rfl,hF⟩;have uw:Hid (F k u3 gW cW L ob 0 w6):=hF;clear hF EN
     go_wp2_with fail
     go_loopg [49] L.length (fun m iv wr=>∃t:Nat,t+m=L.length/\iv=.int .i64 t/\Hid (F k u3 gW cW L ob t wr))
     case atStart=>exact⟨0,by omega,rfl,uw.out⟩
     case round=>
      obtain⟨t,htn,rfl,uL⟩:=hrel;clear uw;by_cases htl:t<L.length
      ·obtain⟨bb,oo,d1,d2,d3,EO⟩:=HK.out.own k u3 gW cW L ob t wr uL.out htl;have hti:(t:Int)<(L.length:Int):=by omega
       have Ow:Hid (F k u3 gW cW L ob (t+1) (wr.setCell ⟨bb,7,none⟩ (.pointer (some ⟨ob,0,none⟩)))):=EO;clear EO uL
       go_wp2_with fail
       go_roundg (gk-1)
       case measure=>omega
       case rel=>exact⟨t+1,by omega,by go_num,Ow.out⟩
      ·have Ox:t=L.length:=by omega
       subst Ox;have cI:Hid (Inv (k+1) u3 wr):=HK.out.done k u3 gW cW L ob wr uL.out hlt;clear uL
       go_wp2_with fail
       go_roundg (G0-1)
       case measure=>omega
       case rel=>exact⟨k+1,by omega,by go_num,cI.out⟩
    ·have Ya:=hb1 rfl;obtain⟨np,pp,ho,pV,hbz,Yb⟩:=HK.out.push k u3 gW cW L gR cR n w2.heap.size w4 Ya;have vP:Hid (∀g' cap' w8,w8.ownsRow base 165 1 (.slice (some ⟨g',0,none⟩) (np+1) cap') (np+1) (pp++[.pointer (some ⟨w2.heap.size,0,none⟩)])->(w4.alloc (.cells #[.pointer (some ⟨w2.heap.size,0,none⟩)] 165)).grownBy w8 u3.ownBlock->(u3.ownBlock=some g'\/g'=w4.heap.size+1)->E k (.slice (some ⟨g',0,none⟩) (np+1) cap') gW cW L gR cR n w2.heap.size w8):=Yb;have hnb:(w4.alloc (.cells #[.pointer (some ⟨w2.heap.size,0,none⟩)] 165)).heap[w4.heap.size]?=some (.cells #[.pointer (some ⟨w2.heap.size,0,none⟩)] 165 (0,0)):=heap_alloc_new _ _;have nT:(w4.alloc (.cells #[.pointer (some ⟨w2.heap.size,0,none⟩)] 165)).ownsRow base 165 1 u3 np pp:=aU ho fun k hk=>Below.heap_alloc _ _ _ (aB ho k hk).2
     clear hb1 hb2 Ya Yb ho Ov
     go_wp2_with (at_builtin;refine wpList_append_lies _ rfl (.tmp 30) (.tmp 32) 131 rfl base 165 j0 _ 1 8 Tryz.underlying131 Ez hy0 hy1 hy2 rfl (by decide) u3 np pp rfl nT ⟨w4.heap.size,0,none⟩ 1 1 [.pointer (some ⟨w2.heap.size,0,none⟩)] rfl rfl (World.news_of_block (cs:= #[.pointer (some ⟨w2.heap.size,0,none⟩)]) (t:=165) (fr:=(0,0)) hnb) (by simp[Value.oneCell']) (by decide) (by unfold maxLen;omega) (by omega) (by simp;omega) (w4.heap.size+1) (by simp) ?_;intro g' cap' w8 cU bo gJ pP)
     have EM:Hid (E k (.slice (some ⟨g',0,none⟩) (np+1) cap') gW cW L gR cR n w2.heap.size w8):=vP.out g' cap' w8 cU bo gJ;generalize w2.heap.size=N at*;clear cU bo gJ hnb nT vP;have EN:Hid (Calls Tryz.prog 115 #[.pointer (some ⟨N,0,none⟩),.slice (some ⟨gR,0,none⟩) n cR] w8 fun e w6=>e=.returned (.tuple #[])/\F k (.slice (some ⟨g',0,none⟩) (np+1) cap') gW cW L N 0 w6):=HK.out.take k (.slice (some ⟨g',0,none⟩) (np+1) cap') gW cW L gR cR n N w8 EM.out
     clear EM
     go_wp2_with fail
     refine EN.out.mono ?_;rintro e w6 ⟨rfl,hF⟩;have uw:Hid (F k (.slice (some ⟨g',0,none⟩) (np+1) cap') gW cW L N 0 w6):=hF;clear hF EN
     go_wp2_with fail
     go_loopg [49] L.length (fun m iv wr=>∃t:Nat,t+m=L.length/\iv=.int .i64 t/\Hid (F k (.slice (some ⟨g',0,none⟩) (np+1) cap') gW cW L N t wr))
     case atStart=>exact⟨0,by omega,rfl,uw.out⟩
     case round=>
      obtain⟨t,htn,rfl,uL⟩:=hrel;clear uw;by_cases htl:t<L.length
      ·obtain⟨bb,oo,d1,d2,d3,EO⟩:=HK.out.own k (.slice (some ⟨g',0,none⟩) (np+1) cap') gW cW L N t wr uL.out htl;have hti:(t:Int)<(L.length:Int):=by omega
       have Ow:Hid (F k (.slice (some ⟨g',0,none⟩) (np+1) cap') gW cW L N (t+1) (wr.setCell ⟨bb,7,none⟩ (.pointer (some ⟨N,0,none⟩)))):=EO;clear EO uL
       go_wp2_with fail
       go_roundg (gk-1)
       case measure=>omega
       case rel=>exact⟨t+1,by omega,by go_num,Ow.out⟩
      ·have Ox:t=L.length:=by omega
       subst Ox;have cI:Hid (Inv (k+1) (.slice (some ⟨g',0,none⟩) (np+1) cap') wr):=HK.out.done k (.slice (some ⟨g',0,none⟩) (np+1) cap') gW cW L N wr uL.out hlt;clear uL
       go_wp2_with fail
       go_roundg (G0-1)
       case measure=>omega
       case rel=>exact⟨k+1,by omega,by go_num,cI.out⟩
   ·have cI:Hid (Inv (k+1) u3 wr):=xO rfl;clear xO hm2 HE HK
    go_wp2_with fail
    go_roundg (G0-1)
    case measure=>omega
    case rel=>exact⟨k+1,by omega,by go_num,cI.out⟩
  ·have hk:k=bs.length:=by omega
   subst hk;have Yc:Hid (Calls Tryz.prog 116 #[u3] wr fun e w'=>e=.returned (.tuple #[])/\Q u3 w'):=HK.out.sort u3 wr HE.out
   clear HE HK
   go_wp2_with fail
   refine Yc.out.mono ?_;rintro e w9 ⟨rfl,hQ⟩;have HQ:Hid (Q u3 w9):=hQ;clear hQ Yc
   go_wp2_with fail
   go_ret
   exact⟨u3,rfl,HQ.out⟩
end Go.Proofs.YtkjhhooecopolaaGreatDoor
namespace Go.Proofs.YtkjhhooecopolaaGreatDoor
open Go.RowKit
open Ge
theorem wO{nx:Nat->Nat}{mk:Nat->Bool}{n:Nat}(hnx:∀j,j<n->nx j<n):∀(m:Nat)(A:List Nat)(j:Nat),j<n->iY n mk (jn nx mk m A j)+(jn nx mk m A j).length<=iY n mk A+A.length
 |0,_,_,_=>ay _
 |m+1,A,j,hj=>by
  show iY n mk (if mk j||A.contains j then A else jn nx mk m (A++[j]) (nx j))+(if mk j||A.contains j then A else jn nx mk m (A++[j]) (nx j)).length<=_
  cases hm:(mk j||A.contains j)
  ·simp only[js,jR];have h1:=Jn hj hm;have h2:=wO (mk:=mk) hnx m (A++[j]) (nx j) (hnx j hj);rw[aX] at h2;simp only[cN,gP] at h2;omega
  ·simp only[gD];exact ay _
section
variable{rg:List (List Pt)}{l:List Nd}{r:Int}{Xs:List PB}
structure PV(Xs:List PB)(st:St)(k:Nat):Prop where
 closed:∀j,j<Xs.length->st.aK (cJ Xs j)=st.aK j
 low:∀j,j<k->st.aK j=true
 own:∀j,j<Xs.length->st.aK j=true->st.ow j<st.ps.length
 len:st.ps.length<=k
 hol:∀(q:Nat) p,st.ps[q]?=some p->p.2.length+iY Xs.length st.aK []<=Xs.length
theorem PV.zero(Xs:List PB):PV Xs (aM Xs 0) 0:=by
 refine⟨fun _ _=>rfl,fun j h=>by omega,fun j _ h=>?_,ay _,fun q p h=>?_⟩
 ·simp[aM] at h
 ·simp[aM] at h
theorem SX.walk(h:SX rg l r Xs)(hB:BD Xs){st:St}{k:Nat}(hP:PV Xs st k)(hk:k<Xs.length)(hm:st.aK k=false):nW (cJ Xs) st.aK Xs.length k (cM Xs st.aK k)/\Wk Xs k (cM Xs st.aK k):=by
 have hc:=aip (nx:=cJ Xs) (mk:=st.aK) (n:=Xs.length) (i:=k) (fun j hj=>(h.next hB hj).1) (fun a b ha hb he=>h.inj hB ha hb he) hP.closed hk hm
 refine⟨hc,fun a ha=>(hc.free a ha).1,hc.head,fun t a b ha hb=>?_,fun a ha=>hc.XN ha,fun a ha=>?_,fun a ha=>?_⟩
 ·have hal:=(hc.free a (aZ ha)).1;rw[hc.step t a b ha hb];exact(h.next hB hal).2.1
 ·have hal:=(hc.free a (pB ha)).1;have:=hc.back a ha;rw[<-this];exact(h.next hB hal).2.1.symm
 ·obtain⟨h1,h2⟩:=hc.free a ha;have hka:k<=a:=by
   apply Nat.not_lt.1;intro hlt;rw[hP.low a hlt] at h2;cases h2
  rcases abt hka with hlt|he
  ·have gx:∀{i:Nat}(hi:i<Xs.length),xi Xs i=Xs[i]:=fun hi=>sL (aC hi)
   have:=kE.1 hB.oP k a hk h1 hlt;rw[gx hk,gx h1];exact this
  ·rw[<-he,wD];omega
theorem Oy{L:List Nat}{k:Nat}(hW:Wk Xs k L):bp Xs L≠[]:=by
 have hlen:0<L.length:=iP.2 (fun e=>by have:=hW.head;rw[e] at this;simp at this)
 obtain⟨z,hz⟩:∃z,L[L.length-1]?=some z:=⟨_,aC (by omega)⟩
 have h0:∀s,L[0]?=some s->(xi Xs s).f=(xi Xs k).f:=fun s hs=>by
  rw[hW.head] at hs;injection hs with hs;rw[hs]
 have td:=OC.all hW.conn h0 (L.length-1) (by omega)
 obtain⟨_,hh⟩:=td.snoc hz;have hlt:L=L.take (L.length-1)++[z]:=by
  conv=>lhs;rw[<-gm (l:=L),show L.length=L.length-1+1 by omega,jF,hz]
  rfl
 have I4:=hW.back z (by rw[mH];exact hz)
 unfold bp;rw[hlt,wJ];unfold jo;rcases AW Xs ((bJ Xs (L.take (L.length-1))).1++[z]) z with⟨_,h2⟩|⟨R,x,h1,_⟩
 ·exfalso;obtain⟨a,ha⟩:∃a,((bJ Xs (L.take (L.length-1))).1++[z])[0]?=some a:=⟨_,aC (by simp)⟩
  exact h2 a (aZ ha) ((hh a ha).trans I4.symm)
 ·rw[aj (by omega)]
  simp
theorem PV.step(h:SX rg l r Xs)(hB:BD Xs){st:St}{k:Nat}(hP:PV Xs st k)(hk:k<Xs.length):PV Xs (nX Xs st k) (k+1):=by
 cases hm:st.aK k
 ·obtain⟨hc,hW⟩:=h.walk hB hP hk hm;have hkL:k∈cM Xs st.aK k:=aZ hW.head;have Yd:=hc.closed (fun a b ha hb he=>h.inj hB ha hb he) hP.closed
  have hleft:=wO (mk:=st.aK) (fun j hj=>(h.next hB hj).1) Xs.length [] k hk
  have EP:iY Xs.length (fun j=>st.aK j||(cM Xs st.aK k).contains j) []=iY Xs.length st.aK (cM Xs st.aK k):=by unfold iY;simp
  have hrl:(bp Xs (cM Xs st.aK k)).length<=(cM Xs st.aK k).length:=by
   have:=(Ey Xs (cM Xs st.aK k) (cM Xs st.aK k).length).2;rw[gm] at this;exact this
  have an4:iY Xs.length st.aK (cM Xs st.aK k)+(cM Xs st.aK k).length<=iY Xs.length st.aK []:=hleft;have pW:∀j,j<k+1->(st.aK j||(cM Xs st.aK k).contains j)=true:=fun j hj=>by
   by_cases e:j=k
   ·rw[e,tP.2 hkL];simp
   ·rw[hP.low j (by omega)];rfl
  have hl0:=uE Xs.length st.aK [];unfold nX;rw[hm];simp only[js,jR];split
  ·refine⟨Yd,pW,fun j hj lN=>?_,by simp;exact hP.len,fun q p hq=>?_⟩
   ·simp only[aX,cN,gP];split
    ·omega
    ·rename_i hne
     have:st.aK j=true:=by
      have e:(cM Xs st.aK k).contains j=false:=by simpa using hne
      simp only[e,FV] at lN;exact lN
     have:=hP.own j hj this;omega
   ·rw[EP];simp only at hq;by_cases mr:q<st.ps.length
    ·rw[fC mr] at hq;have:=hP.hol q p hq;omega
    ·have hq2:q=st.ps.length:=by
      have:=(bZ.1 hq).1;simp at this;omega
     rw[hq2] at hq;have e:p=(tz (cC Xs) (bp Xs (cM Xs st.aK k)),(bp Xs (cM Xs st.aK k)).filter fun r=> !cC Xs r):=by simpa using hq.symm
     rw[e];have:=FM (fun r=> !cC Xs r) (bp Xs (cM Xs st.aK k))
     simp only;omega
  ·rename_i hno
   have aiK:∀ring∈bp Xs (cM Xs st.aK k),cC Xs ring=false:=fun ring hr=>by
    cases hs:cC Xs ring
    ·rfl
    ·exact absurd (QF.2 ⟨ring,hr,hs⟩) (by simpa using hno)
   have AX:=h.seen hB hW aiK;have hlm:=XG AX;have hll:=N8 Xs _ _ _ hlm;have hlk:ij Xs (xi Xs k).f<k:=by
    apply Nat.not_le.1;intro hle;have hb:=XW (Xs:=Xs) (hB.v _ (gu hk)).cf (hB.v _ (gu hll)) (eY.1 hlm).2;rcases abt hle with hlt|he
    ·have gx:∀{i:Nat}(hi:i<Xs.length),xi Xs i=Xs[i]:=fun hi=>sL (aC hi)
     have:=kE.1 hB.oP k _ hk hll hlt;rw[<-gx hk,<-gx hll] at this;exact this hb
    ·rw[<-he] at hb;exact lt_irrefl _ hb
   have Oz:=hP.own _ hll (hP.low _ hlk);refine⟨Yd,pW,fun j hj lN=>?_,by simp;have:=hP.len;omega,fun q p hq=>?_⟩
   ·simp only[KF];split
    ·exact Oz
    ·rename_i hne
     have:st.aK j=true:=by
      have e:(cM Xs st.aK k).contains j=false:=by simpa using hne
      simp only[e,FV] at lN;exact lN
     exact hP.own j hj this
   ·rw[EP];simp only at hq;by_cases oY:st.ow (ij Xs (xi Xs k).f)=q
    ·rw[oY] at hq;rw[ru (by rw[<-oY];exact Oz)] at hq
     injection hq with hq;rw[<-hq];simp only[aX];have hg:st.ps[q]?=some (st.ps.getD q ([],[])):=by
      rw[lS,aC (by rw[<-oY];exact Oz)];rfl
     have:=hP.hol q _ hg;omega
    ·rw[wZ oY] at hq;have:=hP.hol q p hq;omega
 ·unfold nX;rw[hm];simp only[gD];refine⟨hP.closed,fun j hj=>?_,hP.own,by have:=hP.len;omega,hP.hol⟩
  by_cases e:j=k
  ·rw[e];exact hm
  ·exact hP.low j (by omega)
theorem SX.pv(h:SX rg l r Xs)(hB:BD Xs):∀k,k<=Xs.length->PV Xs (aM Xs k) k
 |0,_=>PV.zero Xs
 |k+1,hk=>by
  rw[yD];exact(h.pv hB k (by omega)).step h hB (by omega)
theorem SX.low(h:SX rg l r Xs)(hB:BD Xs){st:St}{k:Nat}(hP:PV Xs st k)(hk:k<Xs.length)(hm:st.aK k=false)(hno:∀ring∈bp Xs (cM Xs st.aK k),cC Xs ring=false):dW Xs (xi Xs k).f Xs.length≠[]/\ij Xs (xi Xs k).f<Xs.length/\st.aK (ij Xs (xi Xs k).f)=true:=by
 obtain⟨_,hW⟩:=h.walk hB hP hk hm;have AX:=h.seen hB hW hno;have hlm:=XG AX;have hll:=N8 Xs _ _ _ hlm;refine⟨AX,hll,hP.low _ ?_⟩;apply Nat.not_le.1;intro hle;have hb:=XW (Xs:=Xs) (hB.v _ (gu hk)).cf (hB.v _ (gu hll)) (eY.1 hlm).2;rcases abt hle with hlt|he
 ·have gx:∀{i:Nat}(hi:i<Xs.length),xi Xs i=Xs[i]:=fun hi=>sL (aC hi)
  have:=kE.1 hB.oP k _ hk hll hlt;rw[<-gx hk,<-gx hll] at this;exact this hb
 ·rw[<-he] at hb;exact lt_irrefl _ hb
end
end Go.Proofs.YtkjhhooecopolaaGreatDoor

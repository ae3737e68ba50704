import Derived.Test.YtkjhhooecopolaaGreatDoorYz33
set_option maxRecDepth 100000
set_option maxHeartbeats 4000000
namespace Go.Proofs.YtkjhhooecopolaaGreatDoor
open Go.RowKit
open Ge
theorem J4{P:Nat->Bool}:∀(l:List Nat)(k:Nat),(fG P l k= -1/\∀x∈l,P x=false)\/∃(R x:Nat),fG P l k=((k+R:Nat):Int)/\l[R]?=some x/\P x=true/\∀(t y:Nat),t<R->l[t]?=some y->P y=false
 |[],_=>ae ⟨rfl,fun x h=>by simp at h⟩
 |a::l,k=>by
  show((if P a then(k:Int) else fG P l (k+1))= -1/\_)\/∃(R x:Nat),(if P a then(k:Int) else fG P l (k+1))=((k+R:Nat):Int)/\_
  cases ha:P a
  ·simp only[iZ,jG];rcases J4 (P:=P) l (k+1) with⟨h1,h2⟩|⟨R,x,h1,h2,h3,h4⟩
   ·refine ae ⟨h1,fun x hx=>?_⟩
    rcases aV.1 hx with e|hx
    ·rw[e];exact ha
    ·exact h2 x hx
   ·refine af ⟨R+1,x,by rw[h1];congr 1;omega,by simpa using h2,h3,fun t y ht hy=>?_⟩
    cases t with
    |zero=>
     have:a=y:=by simpa using hy
     rw[<-this];exact ha
    |succ t=>exact h4 t y (by omega) (by simpa using hy)
  ·simp only[fZ];exact af ⟨0,a,rfl,rfl,ha,fun t y ht=>by omega⟩
theorem BW(Xs:List PB)(O:List Nat)(s:Nat):(il Xs O s<0/\∀b∈O,(xi Xs b).f≠(xi Xs s).t)\/∃(R x:Nat),il Xs O s=(R:Int)/\O[R]?=some x/\(xi Xs x).f=(xi Xs s).t/\∀(t y:Nat),t<R->O[t]?=some y->(xi Xs y).f≠(xi Xs s).t:=by
 have e:il Xs O s=fG (ll Xs s) O 0:=rfl;rw[e];have cp:∀b v,ll Xs s b=v->v=decide ((xi Xs s).t=(xi Xs b).f):=fun b v h=>h.symm
 rcases J4 (P:=ll Xs s) O 0 with⟨h1,h2⟩|⟨R,x,h1,h2,h3,h4⟩
 ·refine ae ⟨by omega,fun b hb hk=>?_⟩
  have:=cp b _ (h2 b hb);rw[hk] at this;simp at this
 ·refine af ⟨R,x,by rw[h1];simp,h2,?_,fun t y ht hy hk=>?_⟩
  ·have:=cp x _ h3;exact(eW this.symm).symm
  ·have:=cp y _ (h4 t y ht hy);rw[hk] at this;simp at this
section
variable{rg:List (List Pt)}{l:List Nd}{r:Int}{Xs:List PB}
abbrev dL(Xs:List PB)(i:Nat):Pt:=Ga.wv (xi Xs i).f (xi Xs i).t
theorem SX.ne(h:SX rg l r Xs){i:Nat}(hi:i<Xs.length):dL Xs i≠(0,0):=(Ga.gM h.nl (h.sd hi).pc).1
theorem SX.fl(h:SX rg l r Xs){i:Nat}(hi:i<Xs.length):(xi Xs i).f∈l/\(xi Xs i).t∈l:=(Ga.gM h.nl (h.sd hi).pc).2
theorem SX.straight(h:SX rg l r Xs){i j:Nat}(hi:i<Xs.length)(hj:j<Xs.length)(hc:(xi Xs j).f=(xi Xs i).t)(hx:fq (xi Xs j) (xi Xs i)=0):Ga.az (dL Xs i) (dL Xs j)=true:=by
 have si:=h.sd hi;have sj:=h.sd hj;rw[hc] at sj;rw[xy] at hx;have hx':=vZ.1 hx;have:=si.straight h.nl sj (by
  have e:=Ga.bZ (Ga.wv (xi Xs j).f (xi Xs j).t) (Ga.wv (xi Xs i).f (xi Xs i).t);rw[hc] at e hx';omega)
 unfold dL;rw[hc];exact this
def jR(Xs:List PB)(A:List Nat):Prop:=∀(t a b:Nat),A[t]?=some a->A[t+1]?=some b->(xi Xs b).f=(xi Xs a).t
theorem jR.tail{a:Nat}{A:List Nat}(h:jR Xs (a::A)):jR Xs A:=fun t x y hx hy=>h (t+1) x y (by simpa using hx) (by simpa using hy)
theorem jR.drop{A:List Nat}(h:jR Xs A)(R:Nat):jR Xs (A.drop R):=fun t x y hx hy=>h (R+t) x y (by rw[<-Lj];exact hx) (by rw[Nat.add_assoc,<-Lj];exact hy)
theorem jR.take{A:List Nat}(h:jR Xs A)(R:Nat):jR Xs (A.take R):=fun t x y hx hy=>by
 rw[kC] at hx hy;split at hx
 ·split at hy
  ·exact h t x y hx hy
  ·cases hy
 ·cases hx
theorem akv{b s:Nat}{A:List Nat}(h:tI Xs b (s::A)=[]):fq (xi Xs s) (xi Xs b)=0/\tI Xs s A=[]:=by
 have h':(if fq (xi Xs s) (xi Xs b)=0 then[] else[s])++tI Xs s A=[]:=h
 obtain⟨h1,h2⟩:=List.append_eq_nil_iff.1 h';refine⟨?_,h2⟩;apply mW;intro hk;rw[aa hk] at h1;cases h1
theorem SX.Jw(h:SX rg l r Xs){i:Nat}(hi:i<Xs.length):(Ga.aS (dL Xs i)->lt (ay (xi Xs i).f) (ay (xi Xs i).t))/\(¬Ga.aS (dL Xs i)->lt (ay (xi Xs i).t) (ay (xi Xs i).f)):=by
 obtain⟨h1,h2⟩:=h.fl hi;have c1:=h.nl.can _ h1;have c2:=h.nl.can _ h2;refine⟨fun hr=>(Ga.nL c1 c2).2 hr,fun hr=>(Ga.nL c2 c1).2 ?_⟩
 rw[Ga.eO (xi Xs i).f];exact Ga.gb (h.ne hi) hr
theorem SX.mono(h:SX rg l r Xs):∀(A:List Nat)(b:Nat),b<Xs.length->(∀a∈A,a<Xs.length)->jR Xs (b::A)->tI Xs b A=[]->A≠[]->∀z,A.getLast?=some z->(Ga.aS (dL Xs b)->lt (ay (xi Xs b).t) (ay (xi Xs z).t))/\(¬Ga.aS (dL Xs b)->lt (ay (xi Xs z).t) (ay (xi Xs b).t))
 |[],_,_,_,_,_,h0,_,_=>absurd rfl h0
 |s::A,b,hb,hA,hc,ht,_,z,hz=>by
  obtain⟨h1,h2⟩:=akv ht;have hs:=hA s (by simp)
  have hcs:(xi Xs s).f=(xi Xs b).t:=hc 0 b s rfl rfl;have hst:=h.straight hb hs hcs h1;have qq:=Ga.Jr hst;obtain⟨l1,l2⟩:=h.Jw hs;rw[hcs] at l1 l2;have can:∀j,j<Xs.length->Ge.Can (xi Xs j).t:=fun j hj=>h.nl.can _ (h.fl hj).2
  cases A with
  |nil=>
   have:s=z:=by simpa using hz
   rw[<-this];exact⟨fun hr=>l1 (qq.1 hr),fun hr=>l2 (fun k=>hr (qq.2 k))⟩
  |cons s' A'=>
   have hzl:z<Xs.length:=hA z (uu hz);have ih:=h.mono (s'::A') s hs (fun a ha=>hA a (bz _ ha)) hc.tail h2 (by simp) z (by simpa using hz)
   exact⟨fun hr=>lt_trans (cS (can b hb)) (cS (can s hs)) (cS (can z hzl)) (l1 (qq.1 hr)) (ih.1 (qq.1 hr)),fun hr=>lt_trans (cS (can z hzl)) (cS (can s hs)) (cS (can b hb)) (ih.2 fun k=>hr (qq.2 k)) (l2 fun k=>hr (qq.2 k))⟩
theorem SX.akw(h:SX rg l r Xs){D:List Nat}(hD:D≠[])(hl:∀a∈D,a<Xs.length)(hc:jR Xs D)(hcl:∀a z,D[0]?=some a->D.getLast?=some z->(xi Xs a).f=(xi Xs z).t):dh Xs D≠[]:=by
 intro ht;obtain⟨z,hz⟩:∃z,D.getLast?=some z:=⟨_,Sh hD⟩;have hzl:D.getLastD 0=z:=by rw[oX,hz];rfl
 have hzb:=hl z (uu hz);unfold dh at ht;rw[hzl] at ht;have hcz:jR Xs (z::D):=fun t a b ha hb=>by
  cases t with
  |zero=>
   have e:a=z:=by simpa using ha.symm
   rw[e];exact hcl b z (by simpa using hb) hz
  |succ t=>exact hc t a b (by simpa using ha) (by simpa using hb)
 obtain⟨m1,m2⟩:=h.mono D z hzb hl hcz ht hD z hz;by_cases hr:Ga.aS (dL Xs z)
 ·exact lt_irrefl _ (m1 hr)
 ·exact lt_irrefl _ (m2 hr)
structure OC(Xs:List PB)(L:List Nat)(n0:Nd)(k:Nat)(O:List Nat):Prop where
 conn:jR Xs O
 hd:∀a,O[0]?=some a->(xi Xs a).f=n0
 ZK:∀a s,O.getLast?=some a->L[k]?=some s->(xi Xs s).f=(xi Xs a).t
 nil:O=[]->∀s,L[k]?=some s->(xi Xs s).f=n0
 new:∀a,O.getLast?=some a->∀b∈O,(xi Xs b).f≠(xi Xs a).t
theorem OC.snoc{L:List Nat}{n0:Nd}{k s:Nat}{O:List Nat}(h:OC Xs L n0 k O)(hs:L[k]?=some s):jR Xs (O++[s])/\∀a,(O++[s])[0]?=some a->(xi Xs a).f=n0:=by
 refine⟨fun t a b ha hb=>?_,fun a ha=>?_⟩
 ·by_cases ht:t+1<O.length
  ·rw[eD (by omega)] at ha
   rw[eD ht] at hb;exact h.conn t a b ha hb
  ·have ht2:t+1=O.length:=by
    have:=(bY.1 hb).1;simp at this;omega
   have e1:b=s:=by
    rw[ht2] at hb;simpa using hb.symm
   rw[e1];refine h.ZK a s ?_ hs;rw[eD (by omega)] at ha
   rw[pY,<-ht2];exact ha
 ·cases O with
  |nil=>
   have:s=a:=by simpa using ha
   rw[<-this];exact h.nil rfl s hs
  |cons x rr=>exact h.hd a (by simpa using ha)
theorem OC.step{L:List Nat}{n0:Nd}{k s:Nat}{O:List Nat}{Rs:List (List Nat)}(h:OC Xs L n0 k O)(hs:L[k]?=some s)(hL:jR Xs L):OC Xs L n0 (k+1) (jl Xs (O,Rs) s).1:=by
 obtain⟨hc,hh⟩:=h.snoc hs;have hnx:∀s',L[k+1]?=some s'->(xi Xs s').f=(xi Xs s).t:=fun s' hs'=>hL k s s' hs hs'
 unfold jl;simp only;rcases BW Xs (O++[s]) s with⟨h1,h2⟩|⟨R,x,h1,h2,h3,h4⟩
 ·rw[aa (by omega)]
  have hlast:∀a,(O++[s]).getLast?=some a->a=s:=fun a ha=>by simpa using ha.symm
  refine⟨hc,hh,fun a s' ha hs'=>?_,fun h0=>by simp at h0,fun a ha b hb=>?_⟩
  ·rw[hlast a ha];exact hnx s' hs'
  ·rw[hlast a ha];exact h2 b hb
 ·rw[ah (by omega),h1,zK]
  have vE:R<(O++[s]).length:=(bY.1 h2).1;have hlast:∀a,((O++[s]).take R).getLast?=some a->(xi Xs s).t=(xi Xs a).t/\0<R:=fun a ha=>by
   rw[pY,kC,iy] at ha;split at ha
   ·rename_i hlt
    have zr:0<R:=by omega
    refine⟨?_,zr⟩;have e:min R (O++[s]).length-1=R-1:=by omega
    rw[e] at ha;have:=hc (R-1) a x ha (by rw[show R-1+1=R by omega];exact h2)
    rw[<-h3,this]
   ·cases ha
  refine⟨hc.take R,fun a ha=>?_,fun a s' ha hs'=>?_,fun h0 s' hs'=>?_,fun a ha b hb=>?_⟩
  ·rw[kC] at ha;split at ha
   ·exact hh a ha
   ·cases ha
  ·rw[hnx s' hs',(hlast a ha).1]
  ·have zr:R=0:=by
    have:=aw List.length h0;rw[iy] at this;simp at this;simp at vE;omega
   rw[zr] at h2;rw[hnx s' hs',<-h3];exact hh x h2
  ·rw[<-(hlast a ha).1];obtain⟨t,ht,I7⟩:=kB.1 hb;rw[iy] at ht;refine h4 t b (by omega) ?_
   rw[<-I7,List.getElem_take,aD]
theorem OC.all{L:List Nat}{n0:Nd}(hL:jR Xs L)(h0:∀s,L[0]?=some s->(xi Xs s).f=n0):∀k,k<=L.length->OC Xs L n0 k (bI Xs (L.take k)).1
 |0,_=>⟨fun t a b h=>by simp[bI] at h,fun a h=>by simp[bI] at h,fun a s h=>by simp[bI] at h,fun _ s hs=>h0 s hs,fun a h=>by simp[bI] at h⟩
 |k+1,hk=>by
  obtain⟨s,hs⟩:∃s,L[k]?=some s:=⟨_,aD (by omega)⟩
  have htk:L.take (k+1)=L.take k++[s]:=by rw[jH,hs];rfl
  rw[htk,xB];have:=(OC.all hL h0 k (by omega)).step (Rs:=(bI Xs (L.take k)).2) hs hL
  exact this
theorem SX.parts(h:SX rg l r Xs){L:List Nat}{n0:Nd}(hL:jR Xs L)(hl:∀a∈L,a<Xs.length)(h0:∀s,L[0]?=some s->(xi Xs s).f=n0)(k s:Nat)(hs:L[k]?=some s)(hst:0<=il Xs ((bI Xs (L.take k)).1++[s]) s):
  dh Xs (((bI Xs (L.take k)).1++[s]).drop (il Xs ((bI Xs (L.take k)).1++[s]) s).toNat)≠[]:=by
 have hk:k<L.length:=(bY.1 hs).1;have gH:=OC.all hL h0 k (by omega)
 obtain⟨hc,hh⟩:=gH.snoc hs;rcases BW Xs ((bI Xs (L.take k)).1++[s]) s with⟨h1,_⟩|⟨R,x,h1,h2,h3,_⟩
 ·omega
 ·rw[h1,zK];have vE:R<((bI Xs (L.take k)).1++[s]).length:=(bY.1 h2).1;refine h.akw ?_ ?_ (hc.drop R) ?_
  ·intro hn;have:=aw List.length hn;rw[rP] at this;simp only[fJ] at this;omega
  ·intro a ha;rcases cu.1 (Sc ha) with ha|ha
   ·exact hl a (JW Xs L k a ha)
   ·rw[bU.1 ha];exact hl s (bn hs)
  ·intro a z ha hz;rw[Lj,ux,h2] at ha;injection ha with ha;rw[<-ha,h3];have:z=s:=by
    rw[List.getLast?_drop,aa (by omega)] at hz
    simpa using hz.symm
   rw[this]
end
theorem ZL{cf:Nat->Nat->Int}:∀(l:List Nat)(m:Nat),(∀x∈l,¬cf x m<0)->bC cf l m=m
 |[],_,_=>rfl
 |b::l,m,h=>by
  show bC cf l (if cf b m<0 then b else m)=m
  rw[aa (h b (by simp))]
  exact ZL l m fun x hx=>h x (bz _ hx)
theorem akx(r:Int):takes r 0=false:=by
 unfold takes;split
 ·rfl
 ·split
  ·rfl
  ·split<;>rfl
section
variable{rg:List (List Pt)}{l:List Nd}{r:Int}{Xs:List PB}
theorem SX.PJ(h:SX rg l r Xs):∀(A:List Nat)(b c:Nat),b<Xs.length->(∀a∈A,a<Xs.length)->jR Xs (b::A)->Ga.az (dL Xs c) (dL Xs b)=true->Ga.az (dL Xs ((tI Xs b A).getLastD c)) (dL Xs (A.getLastD b))=true
 |[],b,c,_,_,_,hs=>hs
 |s::A,b,c,hb,hA,hc,hs=>by
  have hsl:=hA s (by simp)
  have hcs:(xi Xs s).f=(xi Xs b).t:=hc 0 b s rfl rfl;have ht:tI Xs b (s::A)=(if fq (xi Xs s) (xi Xs b)=0 then[] else[s])++tI Xs s A:=rfl
  have hlast:(s::A).getLastD b=A.getLastD s:=by cases A<;>rfl
  rw[ht,hlast];by_cases hx:fq (xi Xs s) (xi Xs b)=0
  ·rw[ah hx,vT];exact h.PJ A s c hsl (fun a ha=>hA a (bz _ ha)) hc.tail (Ga.N7 hs (h.straight hb hsl hcs hx))
  ·rw[aa hx];have e:([s]++tI Xs s A).getLastD c=(tI Xs s A).getLastD s:=by
    cases tI Xs s A<;>rfl
   rw[e];have PK:Ga.az (dL Xs s) (dL Xs s)=true:=(Ga.dm _ _).2 ⟨by unfold cr;grind,Ga.eG (h.ne hsl)⟩
   exact h.PJ A s s hsl (fun a ha=>hA a (bz _ ha)) hc.tail PK
theorem SX.shell(h:SX rg l r Xs){hh:Nat}{tl:List Nat}(hl:∀a∈hh::tl,a<Xs.length)(hc:jR Xs (hh::tl))(PQ:∀b∈tl,¬bg (xi Xs b).f (xi Xs hh).f<0)(hturn:0<cr (dL Xs (tl.getLastD hh)) (dL Xs hh)):cd Xs (cV Xs (hh::tl))=true:=by
 have ZM:=hl hh (by simp)
 have hlast:(hh::tl).getLastD 0=tl.getLastD hh:=by cases tl<;>rfl
 have hx:fq (xi Xs hh) (xi Xs (tl.getLastD hh))≠0:=by
  rw[xy];intro hk;have:=vZ.1 hk;have e:=Ga.bZ (dL Xs (tl.getLastD hh)) (dL Xs hh);unfold dL at*;omega
 have hT:dh Xs (hh::tl)=hh::tI Xs hh tl:=by
  unfold dh;rw[hlast];show(if fq (xi Xs hh) (xi Xs (tl.getLastD hh))=0 then[] else[hh])++tI Xs hh tl=_
  rw[aa hx];rfl
 have hle:kf Xs (hh::tI Xs hh tl)=hh:=ZL _ _ fun x hx=>PQ x (BR Xs tl hh x hx)
 have PR:tV Xs (hh::tI Xs hh tl)=0:=by
  unfold tV;rw[hle];have:fU (fun j=>j == hh) (hh::tI Xs hh tl)=0:=by
   show(if(hh == hh)=true then((0:Nat):Int) else _)=0
   rw[ah (by simp)]
   rfl
  rw[this];rfl
 have aky:cV Xs (hh::tl)=hh::tI Xs hh tl:=by
  unfold cV;rw[hT,PR];simp
 rw[aky];unfold cd;refine iu ?_;have e1:(hh::tI Xs hh tl).getLastD 0=(tI Xs hh tl).getLastD hh:=by cases tI Xs hh tl<;>rfl
 rw[e1,show(hh::tI Xs hh tl).headD 0=hh from rfl,xy]
 have PK:Ga.az (dL Xs hh) (dL Xs hh)=true:=(Ga.dm _ _).2 ⟨by unfold cr;grind,Ga.eG (h.ne ZM)⟩
 have hsm:=h.PJ tl hh hh ZM (fun a ha=>hl a (bz _ ha)) hc PK
 have k:=Ga.ze hsm (dL Xs hh);have s1:=Ga.bZ (dL Xs hh) (dL Xs ((tI Xs hh tl).getLastD hh));have s2:=Ga.bZ (dL Xs hh) (dL Xs (tl.getLastD hh));have hpos:0<cr (dL Xs ((tI Xs hh tl).getLastD hh)) (dL Xs hh):=by omega
 rw[pX hpos];decide
structure Wk(Xs:List PB)(i:Nat)(L:List Nat):Prop where
 lt:∀a∈L,a<Xs.length
 head:L[0]?=some i
 conn:jR Xs L
 LW:∀a∈L,cE Xs a∈L
 back:∀a,L.getLast?=some a->(xi Xs a).t=(xi Xs i).f
 least:∀a∈L,¬bg (xi Xs a).f (xi Xs i).f<0
def xE(Xs:List PB)(x y:Nat):Bool:=Ga.nz (dL Xs x)&&Ga.nz (dL Xs y)&&Ga.au (dL Xs y) (dL Xs x)
theorem akz(x y z:Nat)(h1:xE Xs x y=true)(h2:xE Xs y z=true):xE Xs x z=true:=by
 unfold xE Ga.nz at*;simp only[qF,wh] at*;exact⟨⟨h1.1.1,h2.1.2⟩,Ga.gZ h2.1.2 h1.1.2 h1.1.1 h2.2 h1.2⟩
theorem akA(x:Nat):xE Xs x x=false:=by unfold xE;rw[Ga.qJ];simp
theorem SX.ZN(h:SX rg l r Xs)(hB:BD Xs){i:Nat}{L:List Nat}(hW:Wk Xs i L)(hout:takes r (Ga.PP (ag rg) (xi Xs i).f)=false):∃ring∈bp Xs L,cd Xs ring=true:=by
 have vL:i∈L:=bn hW.head;have hi:=hW.lt i vL;obtain⟨hh,ZO,hhT,hmax⟩:=Ga.Od (lt:=xE Xs) (akz (Xs:=Xs)) (akA (Xs:=Xs)) (fun a=>decide ((xi Xs a).f=(xi Xs i).f)) L _ i vL (by simp) (ai _)
 have vM:(xi Xs hh).f=(xi Xs i).f:=eW hhT;have zy:=hW.lt hh ZO;have hmin:∀y∈L,(xi Xs y).f=(xi Xs i).f->Ga.au (dL Xs y) (dL Xs hh)=false:=fun y hy Fy=>by
  have:=hmax y hy (iu Fy);cases hk:Ga.au (dL Xs y) (dL Xs hh)
  ·rfl
  ·unfold xE Ga.nz at this;rw[hk,iu (h.ne zy),iu (h.ne (hW.lt y hy))] at this;cases this
 obtain⟨t0,ht0,hht⟩:=kB.1 ZO;have PU:L[t0]?=some hh:=by rw[aD ht0,hht]
 have h0:∀s,L[0]?=some s->(xi Xs s).f=(xi Xs i).f:=fun s hs=>by
  rw[hW.head] at hs;injection hs with hs;rw[hs]
 have hne:∀j,j<Xs.length->(xi Xs j).f≠(xi Xs j).t:=fun j hj e=>by
  have:=h.ne hj;unfold dL at this;rw[<-e] at this;exact this (by unfold Ga.wv;simp)
 have hstep:∀k,k<L.length->∀s,L[k]?=some s->bI Xs (L.take (k+1))=jl Xs (bI Xs (L.take k)) s:=fun k hk s hs=>by
  have htk:L.take (k+1)=L.take k++[s]:=by rw[jH,hs];rfl
  rw[htk,xB]
 have akD:∀p s,∀ring∈(p:List Nat×List (List Nat)).2,ring∈(jl Xs p s).2:=fun p s ring hr=>by
  unfold jl;split
  ·exact vU _ hr
  ·exact hr
 have key:∀d,t0+1+d<=L.length->(∃ring∈(bI Xs (L.take (t0+1+d))).2,cd Xs ring=true)\/((∃tl,(bI Xs (L.take (t0+1+d))).1=hh::tl/\∀b∈tl,(xi Xs b).f≠(xi Xs i).f)/\∀z,L[t0+d]?=some z->(xi Xs z).t≠(xi Xs i).f):=by
  intro d;induction d with
  |zero=>
   intro _;right;have gH:=OC.all hW.conn h0 t0 (by omega)
   have hO:(bI Xs (L.take t0)).1=[]:=by
    apply mW;intro hk;obtain⟨z,hz⟩:∃z,(bI Xs (L.take t0)).1.getLast?=some z:=⟨_,Sh hk⟩;obtain⟨a,ha⟩:∃a,(bI Xs (L.take t0)).1[0]?=some a:=⟨_,aD (gV.2 hk)⟩;have e1:=gH.ZK z hh hz PU;exact gH.new z hz a (bn ha) (by rw[gH.hd a ha,<-e1,vM])
   rw[ux,hstep t0 ht0 hh PU];have hto:(xi Xs hh).t≠(xi Xs i).f:=fun e=>hne hh zy (vM.trans e.symm)
   refine⟨⟨[],?_,fun b hb=>by simp at hb⟩,fun z hz=>?_⟩
   ·unfold jl;rw[hO];rcases BW Xs ([]++[hh]) hh with⟨h1,_⟩|⟨R,x,h1,h2,h3,_⟩
    ·rw[aa (by omega)]
     rfl
    ·exfalso;have:x=hh:=by
      have:=bn h2;simpa using this
     rw[this] at h3;exact hne hh zy h3
   ·rw[ux,PU] at hz;injection hz with hz;rw[<-hz];exact hto
  |succ d ih=>
   intro hd;have hk:t0+1+d<L.length:=by omega
   obtain⟨s,hs⟩:∃s,L[t0+1+d]?=some s:=⟨_,aD hk⟩;have hsL:=bn hs;have hsl:=hW.lt s hsL;rw[show t0+1+(d+1)=t0+1+d+1 by omega,hstep _ hk s hs]
   rcases ih (by omega) with⟨ring,hr1,hr2⟩|⟨⟨tl,hO,htl⟩,hz⟩
   ·exact ae ⟨ring,akD _ s ring hr1,hr2⟩
   ·have gH:=OC.all hW.conn h0 (t0+1+d) (by omega)
    obtain⟨hcs,_⟩:=gH.snoc hs;rw[hO] at gH hcs;have Al:∀b∈hh::tl,b∈L:=fun b hb=>JW Xs L (t0+1+d) b (by rw[hO];exact hb)
    have PW:(xi Xs s).f≠(xi Xs i).f:=by
     obtain⟨a,ha⟩:∃a,L[t0+d]?=some a:=⟨_,aD (by omega)⟩
     rw[hW.conn (t0+d) a s ha (by rw[show t0+d+1=t0+1+d by omega];exact hs)]
     exact hz a ha
    have hzs:∀z,L[t0+(d+1)]?=some z->z=s:=fun z hz'=>by
     rw[show t0+(d+1)=t0+1+d by omega,hs] at hz'
     injection hz' with hz';exact hz'.symm
    by_cases hst:(xi Xs s).t=(xi Xs i).f
    ·
     left;refine⟨cV Xs (hh::(tl++[s])),?_,?_⟩
     ·unfold jl;rw[hO];rcases BW Xs (hh::tl++[s]) s with⟨h1,h2⟩|⟨R,x,h1,h2,h3,h4⟩
      ·exfalso;exact h2 hh (by simp) (vM.trans hst.symm)
      ·have zr:R=0:=by
        apply mW;intro hk;exact h4 0 hh (by omega) rfl (vM.trans hst.symm)
       rw[ah (by omega),h1,zr]
       simp
     ·refine h.shell (fun a ha=>?_) hcs (fun b hb=>?_) ?_
      ·have:a∈(hh::tl)\/a=s:=by simpa[or_assoc] using ha
       rcases this with ha|ha
       ·exact hW.lt a (Al a ha)
       ·rw[ha];exact hsl
      ·have:b∈tl\/b=s:=by simpa using hb
       rw[vM];rcases this with hb|hb
       ·exact hW.least b (Al b (bz _ hb))
       ·rw[hb];exact hW.least s hsL
      ·have e:(tl++[s]).getLastD hh=s:=by simp
       rw[e];obtain⟨n1,n2,n3⟩:=h.next hB hsl
       have hnL:=hW.LW s hsL;have vN:=h.sd hsl;have ZQ:=h.sd n1;have ZR:=h.sd zy;rw[hst] at vN;rw[n2,hst] at ZQ;rw[vM] at ZR;have hris:Ga.aS (Ga.wv (xi Xs i).f (xi Xs s).f):=by
        have c1:=h.nl.can _ (h.fl hi).1;have c2:=h.nl.can _ (h.fl hsl).1;refine(Ga.nL c1 c2).1 (Bh c1 c2 ?_ (fun e=>PW e.symm))
        exact hW.least s hsL
       have hle:=hmin (cE Xs s) hnL (n2.trans hst);unfold dL at hle;rw[n2,hst,vM] at hle;have hres:=Ga.ai1 h.nl hout vN hris ZQ (fun c' hc'=>by
        obtain⟨q,hq,q1,q2⟩:=h.find hc';have:=n3 q hq (by rw[q1,hst])
        rw[JL,q1,q2,n2,hst] at this;exact this) ZR hle
       unfold dL;rw[hst,vM];exact hres
    ·right;refine⟨?_,fun z hz'=>by rw[hzs z hz'];exact hst⟩
     unfold jl;rw[hO];rcases BW Xs (hh::tl++[s]) s with⟨h1,h2⟩|⟨R,x,h1,h2,h3,h4⟩
     ·rw[aa (by omega)]
      refine⟨tl++[s],rfl,fun b hb=>?_⟩
      have:b∈tl\/b=s:=by simpa using hb
      rcases this with hb|hb
      ·exact htl b hb
      ·rw[hb];exact PW
     ·rw[ah (by omega),h1,zK]
      obtain⟨R',rfl⟩:∃R',R=R'+1:=by
       cases R with
       |zero=>
        exfalso;have:x=hh:=by simpa using h2.symm
        rw[this] at h3;exact hst (h3.symm.trans vM)
       |succ R'=>exact⟨R',rfl⟩
      refine⟨(tl++[s]).take R',by simp,fun b hb=>?_⟩
      have:=nW hb;have:b∈tl\/b=s:=by simpa using this
      rcases this with hb|hb
      ·exact htl b hb
      ·rw[hb];exact PW
 have hfin:=key (L.length-(t0+1)) (by omega)
 rw[show t0+1+(L.length-(t0+1))=L.length by omega,dN] at hfin
 rcases hfin with hfin|⟨_,hz⟩
 ·exact hfin
 ·exfalso;obtain⟨z,hzl⟩:∃z,L[L.length-1]?=some z:=⟨_,aD (by omega)⟩
  refine hz z (by rw[show t0+(L.length-(t0+1))=L.length-1 by omega];exact hzl) ?_
  exact hW.back z (by rw[pY];exact hzl)
theorem ZT{n:Nd}(hn:Ge.Can n){j:Nat}(hv:cU (xi Xs j))(hb:jC Xs n j=true):lt (ay (xi Xs j).f) (ay n):=by
 unfold jC at hb;simp only[qF,Lc,Ld,wh] at hb;obtain⟨⟨h1,h2⟩,h3⟩:=hb;refine(Ga.nL hv.cf hn).2 ?_;have hfp:=hv.cf.pos;have Xx:=hv.ct.pos;have BP:=hn.pos;generalize(xi Xs j).f=f at*;generalize(xi Xs j).t=t at*;have e1:(Ga.wv f n).1=n.1*f.2.2-f.1*n.2.2:=by unfold Ga.wv;simp only;grind
 have e2:n.2.2*(Ga.wv f t).1=f.2.2*(t.1*n.2.2-n.1*t.2.2)+t.2.2*(Ga.wv f n).1:=by unfold Ga.wv;simp only;grind
 by_cases hx:0<(Ga.wv f n).1
 ·exact ae hx
 ·have hx0:(Ga.wv f n).1=0:=by omega
  rw[hx0,zU,Int.add_zero] at e2;have hp:=aU hfp (show 0<t.1*n.2.2-n.1*t.2.2 by omega)
  have hD:0<(Ga.wv f t).1:=(Ga.aT BP).1 (by omega)
  unfold cr at h3;rw[hx0,zU,zH] at h3;exact af ⟨hx0,(Ga.aT hD).1 h3⟩
theorem SX.seen(h:SX rg l r Xs)(hB:BD Xs){i:Nat}{L:List Nat}(hW:Wk Xs i L)(hno:∀ring∈bp Xs L,cd Xs ring=false):dU Xs (xi Xs i).f Xs.length≠[]:=by
 have hi:=hW.lt i (bn hW.head);have hfl:=(h.fl hi).1;intro hs;cases hp:takes r (Ga.PP (ag rg) (xi Xs i).f)
 ·obtain⟨ring,h1,h2⟩:=h.ZN hB hW hp;rw[hno ring h1] at h2;cases h2
 ·obtain⟨f,t,E7,h1,h2,h3⟩:=Ga.aiq h.nl (akx r) hfl hp;obtain⟨j,hj,j1,j2⟩:=h.find E7;have hm:j∈dU Xs (xi Xs i).f Xs.length:=by
   refine jF.2 ⟨qH.2 hj,?_⟩;unfold jC;rw[j1,j2];generalize(xi Xs i).f=n at*;have e1:(Ga.wv n f).1=f.1*n.2.2-n.1*f.2.2:=by unfold Ga.wv;simp only;grind
   have e2:(Ga.wv n t).1=t.1*n.2.2-n.1*t.2.2:=by unfold Ga.wv;simp only;grind
   simp only[qF,Lc,Ld,wh];exact⟨⟨by omega,by omega⟩,h3⟩
  rw[hs] at hm;simp at hm
end
end Go.Proofs.YtkjhhooecopolaaGreatDoor
namespace Go.Proofs.YtkjhhooecopolaaGreatDoor
open Go.RowKit
structure St where
 aK:Nat->Bool
 ow:Nat->Nat
 ps:List Pg
def ub(P:List Nat->Bool)(Rs:List (List Nat)):List Nat:=Rs.foldl (fun acc r=>if P r then r else acc) []
def cJ(Xs:List PB)(mk:Nat->Bool)(i:Nat):List Nat:=jk (cE Xs) mk Xs.length [] i
def oU(Xs:List PB)(st:St)(i:Nat):St:=
 if st.aK i then st
 else if(bp Xs (cJ Xs st.aK i)).any (cd Xs) then
  ⟨fun j=>st.aK j||(cJ Xs st.aK i).contains j,fun j=>if(cJ Xs st.aK i).contains j then st.ps.length else st.ow j,st.ps++[(ub (cd Xs) (bp Xs (cJ Xs st.aK i)),(bp Xs (cJ Xs st.aK i)).filter fun r=> !cd Xs r)]⟩
 else
  ⟨fun j=>st.aK j||(cJ Xs st.aK i).contains j,fun j=>if(cJ Xs st.aK i).contains j then st.ow (ir Xs (xi Xs i).f) else st.ow j,st.ps.set (st.ow (ir Xs (xi Xs i).f)) ((st.ps.getD (st.ow (ir Xs (xi Xs i).f)) ([],[])).1,(st.ps.getD (st.ow (ir Xs (xi Xs i).f)) ([],[])).2++bp Xs (cJ Xs st.aK i))⟩
def aP(Xs:List PB)(k:Nat):St:=(List.range k).foldl (oU Xs) ⟨fun _=>false,fun _=>0,[]⟩
theorem zz(Xs:List PB)(k:Nat):aP Xs (k+1)=oU Xs (aP Xs k) k:=by unfold aP;rw[Gt,Ll];rfl
structure ZU(bs:List Nat)(g cap:Nat)(Inv:Nat->Value->World->Prop)(B:Nat->Value->World->Prop)(C1:Nat->Value->Nat->Nat->List Nat->World->Prop)(C2:Nat->Value->Nat->Nat->List Nat->Nat->Nat->Nat->World->Prop)
  (D1 D2:Nat->Value->Nat->Nat->List Nat->Nat->Nat->Nat->Nat->World->Prop)(E:Nat->Value->Nat->Nat->List Nat->Nat->Nat->Nat->Nat->World->Prop)(F:Nat->Value->Nat->Nat->List Nat->Nat->Nat->World->Prop)(Q:Value->World->Prop)(base:Nat):Prop where
 row:∀k lv wr,Inv k lv wr->k<bs.length->wr.cell? ⟨g,k,none⟩=some (.pointer (some ⟨bx bs k,0,none⟩))/\∃m,wr.cell? ⟨bx bs k,6,none⟩=some (.bool m)/\(m=true->Inv (k+1) lv wr)/\(m=false->B k lv wr)
 walk:∀k lv wr,B k lv wr->Calls Tryz.prog 110 #[.slice (some ⟨g,0,none⟩) bs.length cap,.pointer (some ⟨bx bs k,0,none⟩)] wr fun e w1=>∃gW cW L,e=.returned (.slice (some ⟨gW,0,none⟩) L.length cW)/\L.length<=85000000/\C1 k lv gW cW L w1
 rings:∀k lv gW cW L w1,C1 k lv gW cW L w1->Calls Tryz.prog 111 #[.slice (some ⟨gW,0,none⟩) L.length cW] w1 fun e w2=>∃gR cR n,e=.returned (.slice (some ⟨gR,0,none⟩) n cR)/\C2 k lv gW cW L gR cR n w2
 con:∀k lv gW cW L gR cR n w2,C2 k lv gW cW L gR cR n w2->Calls Tryz.prog 112 #[.slice (some ⟨gR,0,none⟩) n cR,.func (.func 113) #[] #[]] (w2.alloc (.cells #[.slice none 0 0,.slice none 0 0] 187)) fun e w4=>∃b,e=.returned (.bool b)/\(b=true->D1 k lv gW cW L gR cR n w2.heap.size w4)/\(b=false->D2 k lv gW cW L gR cR n w2.heap.size w4)
 push:∀k lv gW cW L gR cR n N w4,D1 k lv gW cW L gR cR n N w4->∃np pp,w4.ownsRow base 165 1 lv np pp/\np<=85000000/\base<=w4.heap.size/\∀g' cap' w8,w8.ownsRow base 165 1 (.slice (some ⟨g',0,none⟩) (np+1) cap') (np+1) (pp++[.pointer (some ⟨N,0,none⟩)])->(w4.alloc (.cells #[.pointer (some ⟨N,0,none⟩)] 165)).grownBy w8 lv.ownBlock->(lv.ownBlock=some g'\/g'=w4.heap.size+1)->E k (.slice (some ⟨g',0,none⟩) (np+1) cap') gW cW L gR cR n N w8
 below:∀k lv gW cW L gR cR n N w4,D2 k lv gW cW L gR cR n N w4->∃N1 N2 N3,w4.cell? ⟨bx bs k,2,none⟩=some (.complex .f64 N1 N2)/\w4.cell? ⟨bx bs k,3,none⟩=some (.int .i64 N3)/\Calls Tryz.prog 114 #[.slice (some ⟨g,0,none⟩) bs.length cap,.agg #[.complex .f64 N1 N2,.int .i64 N3]] w4 fun e w5=>∃bL ob,e=.returned (.pointer (some ⟨bL,0,none⟩))/\w5.cell? ⟨bL,7,none⟩=some (.pointer (some ⟨ob,0,none⟩))/\E k lv gW cW L gR cR n ob w5
 take:∀k lv gW cW L gR cR n ob w5,E k lv gW cW L gR cR n ob w5->Calls Tryz.prog 115 #[.pointer (some ⟨ob,0,none⟩),.slice (some ⟨gR,0,none⟩) n cR] w5 fun e w6=>e=.returned (.tuple #[])/\F k lv gW cW L ob 0 w6
 own:∀k lv gW cW L ob t wr,F k lv gW cW L ob t wr->t<L.length->∃b o,wr.cell? ⟨gW,t,none⟩=some (.pointer (some ⟨b,0,none⟩))/\wr.cell? ⟨b,7,none⟩=some o/\wr.frozen? ⟨b,7,none⟩=false/\F k lv gW cW L ob (t+1) (wr.setCell ⟨b,7,none⟩ (.pointer (some ⟨ob,0,none⟩)))
 done:∀k lv gW cW L ob wr,F k lv gW cW L ob L.length wr->k<bs.length->Inv (k+1) lv wr
 sort:∀lv wr,Inv bs.length lv wr->Calls Tryz.prog 116 #[lv] wr fun e w'=>e=.returned (.tuple #[])/\Q lv w'
theorem akI:(Tryz.prog.info? 165).map (fun i=>(i.zero,i.size,i.bytes))=some (some (.pointer none),1,8):=by kernel_rfl
theorem akJ(bs:List Nat)(g cap:Nat)(Inv:Nat->Value->World->Prop)(B:Nat->Value->World->Prop)(C1:Nat->Value->Nat->Nat->List Nat->World->Prop)(C2:Nat->Value->Nat->Nat->List Nat->Nat->Nat->Nat->World->Prop)
  (D1 D2:Nat->Value->Nat->Nat->List Nat->Nat->Nat->Nat->Nat->World->Prop)(E:Nat->Value->Nat->Nat->List Nat->Nat->Nat->Nat->Nat->World->Prop)(F:Nat->Value->Nat->Nat->List Nat->Nat->Nat->World->Prop)(Q:Value->World->Prop)(base:Nat)
  (HK:Hid (ZU bs g cap Inv B C1 C2 D1 D2 E F Q base))(w:World)(hl:bs.length<=85000000)(h0:Inv 0 (.slice none 0 0) w):
  Calls Tryz.prog 69 #[.slice (some ⟨g,0,none⟩) bs.length cap] w fun e w'=>∃lv,e=.returned lv/\Q lv w':=by
 obtain⟨j0,pD,hy0,hy1,hy2⟩:=info_parts akI;have bw:Hid (Inv 0 (.slice none 0 0) w):=h0;clear h0
 go_enter Tryz.func69,Tryz.ntmps69
 go_wp2_with fail
 go_loopg [3,13] bs.length (fun m lv iv wr=>∃k:Nat,k+m=bs.length/\iv=.int .i64 k/\Hid (Inv k lv wr))
 case atStart=>exact⟨0,by omega,rfl,bw.out⟩
 case round=>
  obtain⟨k,hkn,rfl,HE⟩:=hrel;clear bw;obtain⟨G0,xa⟩:∃G0,G0=gk:=⟨gk,rfl⟩;subst xa;by_cases hlt:k<bs.length
  ·obtain⟨c1,m,c6,yO,hm2⟩:=HK.out.row k u3 wr HE.out hlt;have eK:(k:Int)<(bs.length:Int):=by omega
   cases m
   ·have HB:Hid (B k u3 wr):=hm2 rfl;have ZV:=HK.out.walk k u3 wr HB.out;have ZW:Hid (Calls Tryz.prog 110 #[.slice (some ⟨g,0,none⟩) bs.length cap,.pointer (some ⟨bx bs k,0,none⟩)] wr fun e w1=>∃gW cW L,e=.returned (.slice (some ⟨gW,0,none⟩) L.length cW)/\L.length<=85000000/\C1 k u3 gW cW L w1):=ZV
    clear yO hm2 ZV HE HB
    go_wp2_with fail
    refine ZW.out.mono ?_;rintro e w1 ⟨gW,cW,L,rfl,jO,ZX⟩;have ZY:Hid (Calls Tryz.prog 111 #[.slice (some ⟨gW,0,none⟩) L.length cW] w1 fun e w2=>∃gR cR n,e=.returned (.slice (some ⟨gR,0,none⟩) n cR)/\C2 k u3 gW cW L gR cR n w2):=HK.out.rings k u3 gW cW L w1 ZX
    clear ZX ZW c1 c6
    go_wp2_with fail
    refine ZY.out.mono ?_;rintro e w2 ⟨gR,cR,n,rfl,G8⟩;have PX:Hid (Calls Tryz.prog 112 #[.slice (some ⟨gR,0,none⟩) n cR,.func (.func 113) #[] #[]] (w2.alloc (.cells #[.slice none 0 0,.slice none 0 0] 187)) fun e w4=>∃b,e=.returned (.bool b)/\(b=true->D1 k u3 gW cW L gR cR n w2.heap.size w4)/\(b=false->D2 k u3 gW cW L gR cR n w2.heap.size w4)):=HK.out.con k u3 gW cW L gR cR n w2 G8
    clear G8 ZY
    go_wp2_with fail
    refine PX.out.mono ?_;rintro e w4 ⟨b,rfl,hb1,hb2⟩;cases b
    ·have wq:=hb2 rfl;obtain⟨N1,N2,N3,f2,f3,ZZ⟩:=HK.out.below k u3 gW cW L gR cR n w2.heap.size w4 wq;have FE:Hid (Calls Tryz.prog 114 #[.slice (some ⟨g,0,none⟩) bs.length cap,.agg #[.complex .f64 N1 N2,.int .i64 N3]] w4 fun e w5=>∃bL ob,e=.returned (.pointer (some ⟨bL,0,none⟩))/\w5.cell? ⟨bL,7,none⟩=some (.pointer (some ⟨ob,0,none⟩))/\E k u3 gW cW L gR cR n ob w5):=ZZ
     clear hb1 hb2 wq ZZ PX
     go_wp2_with fail
     refine FE.out.mono ?_;rintro e w5 ⟨bL,ob,rfl,o7,D3⟩;have FH:Hid (E k u3 gW cW L gR cR n ob w5):=D3;clear D3 FE f2 f3
     go_wp2_with fail
     have FI:Hid (Calls Tryz.prog 115 #[.pointer (some ⟨ob,0,none⟩),.slice (some ⟨gR,0,none⟩) n cR] w5 fun e w6=>e=.returned (.tuple #[])/\F k u3 gW cW L ob 0 w6):=HK.out.take k u3 gW cW L gR cR n ob w5 FH.out
     clear FH
     go_wp2_with fail
     refine FI.out.mono ?_;rintro e w6 ⟨rfl,hF⟩;have vz:Hid (F k u3 gW cW L ob 0 w6):=hF;clear hF FI
     go_wp2_with fail
     go_loopg [49] L.length (fun m iv wr=>∃t:Nat,t+m=L.length/\iv=.int .i64 t/\Hid (F k u3 gW cW L ob t wr))
     case atStart=>exact⟨0,by omega,rfl,vz.out⟩
     case round=>
      obtain⟨t,htn,rfl,vO⟩:=hrel;clear vz;by_cases htl:t<L.length
      ·obtain⟨bb,oo,d1,d2,d3,FJ⟩:=HK.out.own k u3 gW cW L ob t wr vO.out htl;have hti:(t:Int)<(L.length:Int):=by omega
       have PY:Hid (F k u3 gW cW L ob (t+1) (wr.setCell ⟨bb,7,none⟩ (.pointer (some ⟨ob,0,none⟩)))):=FJ;clear FJ vO
       go_wp2_with fail
       go_roundg (gk-1)
       case measure=>omega
       case rel=>exact⟨t+1,by omega,by go_num,PY.out⟩
      ·have PZ:t=L.length:=by omega
       subst PZ;have cI:Hid (Inv (k+1) u3 wr):=HK.out.done k u3 gW cW L ob wr vO.out hlt;clear vO
       go_wp2_with fail
       go_roundg (G0-1)
       case measure=>omega
       case rel=>exact⟨k+1,by omega,by go_num,cI.out⟩
    ·have Z0:=hb1 rfl;obtain⟨np,pp,ho,BP,hbz,wQ⟩:=HK.out.push k u3 gW cW L gR cR n w2.heap.size w4 Z0;have tB:Hid (∀g' cap' w8,w8.ownsRow base 165 1 (.slice (some ⟨g',0,none⟩) (np+1) cap') (np+1) (pp++[.pointer (some ⟨w2.heap.size,0,none⟩)])->(w4.alloc (.cells #[.pointer (some ⟨w2.heap.size,0,none⟩)] 165)).grownBy w8 u3.ownBlock->(u3.ownBlock=some g'\/g'=w4.heap.size+1)->E k (.slice (some ⟨g',0,none⟩) (np+1) cap') gW cW L gR cR n w2.heap.size w8):=wQ;have hnb:(w4.alloc (.cells #[.pointer (some ⟨w2.heap.size,0,none⟩)] 165)).heap[w4.heap.size]?=some (.cells #[.pointer (some ⟨w2.heap.size,0,none⟩)] 165 (0,0)):=heap_alloc_new _ _;have oO:(w4.alloc (.cells #[.pointer (some ⟨w2.heap.size,0,none⟩)] 165)).ownsRow base 165 1 u3 np pp:=aO ho fun k hk=>Below.heap_alloc _ _ _ (aA ho k hk).2
     clear hb1 hb2 Z0 wQ ho PX
     go_wp2_with (at_builtin;refine wpList_append_lies _ rfl (.tmp 30) (.tmp 32) 131 rfl base 165 j0 _ 1 8 Tryz.underlying131 pD hy0 hy1 hy2 rfl (by decide) u3 np pp rfl oO ⟨w4.heap.size,0,none⟩ 1 1 [.pointer (some ⟨w2.heap.size,0,none⟩)] rfl rfl (World.news_of_block (cs:= #[.pointer (some ⟨w2.heap.size,0,none⟩)]) (t:=165) (fr:=(0,0)) hnb) (by simp[Value.oneCell']) (by decide) (by unfold maxLen;omega) (by omega) (by simp;omega) (w4.heap.size+1) (by simp) ?_;intro g' cap' w8 cM bo gK qp)
     have FH:Hid (E k (.slice (some ⟨g',0,none⟩) (np+1) cap') gW cW L gR cR n w2.heap.size w8):=tB.out g' cap' w8 cM bo gK;generalize w2.heap.size=N at*;clear cM bo gK hnb oO tB;have FI:Hid (Calls Tryz.prog 115 #[.pointer (some ⟨N,0,none⟩),.slice (some ⟨gR,0,none⟩) n cR] w8 fun e w6=>e=.returned (.tuple #[])/\F k (.slice (some ⟨g',0,none⟩) (np+1) cap') gW cW L N 0 w6):=HK.out.take k (.slice (some ⟨g',0,none⟩) (np+1) cap') gW cW L gR cR n N w8 FH.out
     clear FH
     go_wp2_with fail
     refine FI.out.mono ?_;rintro e w6 ⟨rfl,hF⟩;have vz:Hid (F k (.slice (some ⟨g',0,none⟩) (np+1) cap') gW cW L N 0 w6):=hF;clear hF FI
     go_wp2_with fail
     go_loopg [49] L.length (fun m iv wr=>∃t:Nat,t+m=L.length/\iv=.int .i64 t/\Hid (F k (.slice (some ⟨g',0,none⟩) (np+1) cap') gW cW L N t wr))
     case atStart=>exact⟨0,by omega,rfl,vz.out⟩
     case round=>
      obtain⟨t,htn,rfl,vO⟩:=hrel;clear vz;by_cases htl:t<L.length
      ·obtain⟨bb,oo,d1,d2,d3,FJ⟩:=HK.out.own k (.slice (some ⟨g',0,none⟩) (np+1) cap') gW cW L N t wr vO.out htl;have hti:(t:Int)<(L.length:Int):=by omega
       have PY:Hid (F k (.slice (some ⟨g',0,none⟩) (np+1) cap') gW cW L N (t+1) (wr.setCell ⟨bb,7,none⟩ (.pointer (some ⟨N,0,none⟩)))):=FJ;clear FJ vO
       go_wp2_with fail
       go_roundg (gk-1)
       case measure=>omega
       case rel=>exact⟨t+1,by omega,by go_num,PY.out⟩
      ·have PZ:t=L.length:=by omega
       subst PZ;have cI:Hid (Inv (k+1) (.slice (some ⟨g',0,none⟩) (np+1) cap') wr):=HK.out.done k (.slice (some ⟨g',0,none⟩) (np+1) cap') gW cW L N wr vO.out hlt;clear vO
       go_wp2_with fail
       go_roundg (G0-1)
       case measure=>omega
       case rel=>exact⟨k+1,by omega,by go_num,cI.out⟩
   ·have cI:Hid (Inv (k+1) u3 wr):=yO rfl;clear yO hm2 HE HK
    go_wp2_with fail
    go_roundg (G0-1)
    case measure=>omega
    case rel=>exact⟨k+1,by omega,by go_num,cI.out⟩
  ·have hk:k=bs.length:=by omega
   subst hk;have Z3:Hid (Calls Tryz.prog 116 #[u3] wr fun e w'=>e=.returned (.tuple #[])/\Q u3 w'):=HK.out.sort u3 wr HE.out
   clear HE HK
   go_wp2_with fail
   refine Z3.out.mono ?_;rintro e w9 ⟨rfl,hQ⟩;have HQ:Hid (Q u3 w9):=hQ;clear hQ Z3
   go_wp2_with fail
   go_ret
   exact⟨u3,rfl,HQ.out⟩
end Go.Proofs.YtkjhhooecopolaaGreatDoor
namespace Go.Proofs.YtkjhhooecopolaaGreatDoor
open Go.RowKit
open Ge
theorem xG{nx:Nat->Nat}{mk:Nat->Bool}{n:Nat}(hnx:∀j,j<n->nx j<n):∀(m:Nat)(A:List Nat)(j:Nat),j<n->iX n mk (jk nx mk m A j)+(jk nx mk m A j).length<=iX n mk A+A.length
 |0,_,_,_=>ai _
 |m+1,A,j,hj=>by
  show iX n mk (if mk j||A.contains j then A else jk nx mk m (A++[j]) (nx j))+(if mk j||A.contains j then A else jk nx mk m (A++[j]) (nx j)).length<=_
  cases hm:(mk j||A.contains j)
  ·simp only[iZ,jG];have h1:=JR hj hm;have h2:=xG (mk:=mk) hnx m (A++[j]) (nx j) (hnx j hj);rw[aX] at h2;simp only[bW,fJ] at h2;omega
  ·simp only[fZ];exact ai _
section
variable{rg:List (List Pt)}{l:List Nd}{r:Int}{Xs:List PB}
structure PV(Xs:List PB)(st:St)(k:Nat):Prop where
 closed:∀j,j<Xs.length->st.aK (cE Xs j)=st.aK j
 low:∀j,j<k->st.aK j=true
 own:∀j,j<Xs.length->st.aK j=true->st.ow j<st.ps.length
 len:st.ps.length<=k
 hol:∀(q:Nat) p,st.ps[q]?=some p->p.2.length+iX Xs.length st.aK []<=Xs.length
theorem PV.zero(Xs:List PB):PV Xs (aP Xs 0) 0:=by
 refine⟨fun _ _=>rfl,fun j h=>by omega,fun j _ h=>?_,ai _,fun q p h=>?_⟩
 ·simp[aP] at h
 ·simp[aP] at h
theorem SX.walk(h:SX rg l r Xs)(hB:BD Xs){st:St}{k:Nat}(hP:PV Xs st k)(hk:k<Xs.length)(hm:st.aK k=false):oQ (cE Xs) st.aK Xs.length k (cJ Xs st.aK k)/\Wk Xs k (cJ Xs st.aK k):=by
 have hc:=akq (nx:=cE Xs) (mk:=st.aK) (n:=Xs.length) (i:=k) (fun j hj=>(h.next hB hj).1) (fun a b ha hb he=>h.inj hB ha hb he) hP.closed hk hm
 refine⟨hc,fun a ha=>(hc.free a ha).1,hc.head,fun t a b ha hb=>?_,fun a ha=>hc.ZJ ha,fun a ha=>?_,fun a ha=>?_⟩
 ·have hal:=(hc.free a (bn ha)).1;rw[hc.step t a b ha hb];exact(h.next hB hal).2.1
 ·have hal:=(hc.free a (uu ha)).1;have:=hc.back a ha;rw[<-this];exact(h.next hB hal).2.1.symm
 ·obtain⟨h1,h2⟩:=hc.free a ha;have hka:k<=a:=by
   apply Nat.not_lt.1;intro hlt;rw[hP.low a hlt] at h2;cases h2
  rcases acU hka with hlt|he
  ·have gx:∀{i:Nat}(hi:i<Xs.length),xi Xs i=Xs[i]:=fun hi=>vC (aD hi)
   have:=mZ.1 hB.pR k a hk h1 hlt;rw[gx hk,gx h1];exact this
  ·rw[<-he,xx];omega
theorem Qa{L:List Nat}{k:Nat}(hW:Wk Xs k L):bp Xs L≠[]:=by
 have hlen:0<L.length:=gV.2 (fun e=>by have:=hW.head;rw[e] at this;simp at this)
 obtain⟨z,hz⟩:∃z,L[L.length-1]?=some z:=⟨_,aD (by omega)⟩
 have h0:∀s,L[0]?=some s->(xi Xs s).f=(xi Xs k).f:=fun s hs=>by
  rw[hW.head] at hs;injection hs with hs;rw[hs]
 have gH:=OC.all hW.conn h0 (L.length-1) (by omega)
 obtain⟨_,hh⟩:=gH.snoc hz;have hlt:L=L.take (L.length-1)++[z]:=by
  conv=>lhs;rw[<-dN (l:=L),show L.length=L.length-1+1 by omega,jH,hz]
  rfl
 have Jz:=hW.back z (by rw[pY];exact hz)
 unfold bp;rw[hlt,xB];unfold jl;rcases BW Xs ((bI Xs (L.take (L.length-1))).1++[z]) z with⟨_,h2⟩|⟨R,x,h1,_⟩
 ·exfalso;obtain⟨a,ha⟩:∃a,((bI Xs (L.take (L.length-1))).1++[z])[0]?=some a:=⟨_,aD (by simp)⟩
  exact h2 a (bn ha) ((hh a ha).trans Jz.symm)
 ·rw[ah (by omega)]
  simp
theorem PV.step(h:SX rg l r Xs)(hB:BD Xs){st:St}{k:Nat}(hP:PV Xs st k)(hk:k<Xs.length):PV Xs (oU Xs st k) (k+1):=by
 cases hm:st.aK k
 ·obtain⟨hc,hW⟩:=h.walk hB hP hk hm;have hkL:k∈cJ Xs st.aK k:=bn hW.head;have Z4:=hc.closed (fun a b ha hb he=>h.inj hB ha hb he) hP.closed
  have hleft:=xG (mk:=st.aK) (fun j hj=>(h.next hB hj).1) Xs.length [] k hk
  have FK:iX Xs.length (fun j=>st.aK j||(cJ Xs st.aK k).contains j) []=iX Xs.length st.aK (cJ Xs st.aK k):=by unfold iX;simp
  have hrl:(bp Xs (cJ Xs st.aK k)).length<=(cJ Xs st.aK k).length:=by
   have:=(Fm Xs (cJ Xs st.aK k) (cJ Xs st.aK k).length).2;rw[dN] at this;exact this
  have api:iX Xs.length st.aK (cJ Xs st.aK k)+(cJ Xs st.aK k).length<=iX Xs.length st.aK []:=hleft;have qA:∀j,j<k+1->(st.aK j||(cJ Xs st.aK k).contains j)=true:=fun j hj=>by
   by_cases e:j=k
   ·rw[e,uy.2 hkL];simp
   ·rw[hP.low j (by omega)];rfl
  have hl0:=vG Xs.length st.aK [];unfold oU;rw[hm];simp only[iZ,jG];split
  ·refine⟨Z4,qA,fun j hj lW=>?_,by simp;exact hP.len,fun q p hq=>?_⟩
   ·simp only[aX,bW,fJ];split
    ·omega
    ·rename_i hne
     have:st.aK j=true:=by
      have e:(cJ Xs st.aK k).contains j=false:=by simpa using hne
      simp only[e,GI] at lW;exact lW
     have:=hP.own j hj this;omega
   ·rw[FK];simp only at hq;by_cases mR:q<st.ps.length
    ·rw[eD mR] at hq;have:=hP.hol q p hq;omega
    ·have hq2:q=st.ps.length:=by
      have:=(bY.1 hq).1;simp at this;omega
     rw[hq2] at hq;have e:p=(ub (cd Xs) (bp Xs (cJ Xs st.aK k)),(bp Xs (cJ Xs st.aK k)).filter fun r=> !cd Xs r):=by simpa using hq.symm
     rw[e];have:=GF (fun r=> !cd Xs r) (bp Xs (cJ Xs st.aK k))
     simp only;omega
  ·rename_i hno
   have akL:∀ring∈bp Xs (cJ Xs st.aK k),cd Xs ring=false:=fun ring hr=>by
    cases hs:cd Xs ring
    ·rfl
    ·exact absurd (xS.2 ⟨ring,hr,hs⟩) (by simpa using hno)
   have BX:=h.seen hB hW akL;have hlm:=ZB BX;have hll:=Po Xs _ _ _ hlm;have hlk:ir Xs (xi Xs k).f<k:=by
    apply Nat.not_le.1;intro hle;have hb:=ZT (Xs:=Xs) (hB.v _ (gA hk)).cf (hB.v _ (gA hll)) (jF.1 hlm).2;rcases acU hle with hlt|he
    ·have gx:∀{i:Nat}(hi:i<Xs.length),xi Xs i=Xs[i]:=fun hi=>vC (aD hi)
     have:=mZ.1 hB.pR k _ hk hll hlt;rw[<-gx hk,<-gx hll] at this;exact this hb
    ·rw[<-he] at hb;exact lt_irrefl _ hb
   have Qb:=hP.own _ hll (hP.low _ hlk);refine⟨Z4,qA,fun j hj lW=>?_,by simp;have:=hP.len;omega,fun q p hq=>?_⟩
   ·simp only[Lg];split
    ·exact Qb
    ·rename_i hne
     have:st.aK j=true:=by
      have e:(cJ Xs st.aK k).contains j=false:=by simpa using hne
      simp only[e,GI] at lW;exact lW
     exact hP.own j hj this
   ·rw[FK];simp only at hq;by_cases pT:st.ow (ir Xs (xi Xs k).f)=q
    ·rw[pT] at hq;rw[rR (by rw[<-pT];exact Qb)] at hq
     injection hq with hq;rw[<-hq];simp only[aX];have hg:st.ps[q]?=some (st.ps.getD q ([],[])):=by
      rw[l9,aD (by rw[<-pT];exact Qb)];rfl
     have:=hP.hol q _ hg;omega
    ·rw[xQ pT] at hq;have:=hP.hol q p hq;omega
 ·unfold oU;rw[hm];simp only[fZ];refine⟨hP.closed,fun j hj=>?_,hP.own,by have:=hP.len;omega,hP.hol⟩
  by_cases e:j=k
  ·rw[e];exact hm
  ·exact hP.low j (by omega)
theorem SX.pv(h:SX rg l r Xs)(hB:BD Xs):∀k,k<=Xs.length->PV Xs (aP Xs k) k
 |0,_=>PV.zero Xs
 |k+1,hk=>by
  rw[zz];exact(h.pv hB k (by omega)).step h hB (by omega)
theorem SX.low(h:SX rg l r Xs)(hB:BD Xs){st:St}{k:Nat}(hP:PV Xs st k)(hk:k<Xs.length)(hm:st.aK k=false)(hno:∀ring∈bp Xs (cJ Xs st.aK k),cd Xs ring=false):dU Xs (xi Xs k).f Xs.length≠[]/\ir Xs (xi Xs k).f<Xs.length/\st.aK (ir Xs (xi Xs k).f)=true:=by
 obtain⟨_,hW⟩:=h.walk hB hP hk hm;have BX:=h.seen hB hW hno;have hlm:=ZB BX;have hll:=Po Xs _ _ _ hlm;refine⟨BX,hll,hP.low _ ?_⟩;apply Nat.not_le.1;intro hle;have hb:=ZT (Xs:=Xs) (hB.v _ (gA hk)).cf (hB.v _ (gA hll)) (jF.1 hlm).2;rcases acU hle with hlt|he
 ·have gx:∀{i:Nat}(hi:i<Xs.length),xi Xs i=Xs[i]:=fun hi=>vC (aD hi)
  have:=mZ.1 hB.pR k _ hk hll hlt;rw[<-gx hk,<-gx hll] at this;exact this hb
 ·rw[<-he] at hb;exact lt_irrefl _ hb
end
end Go.Proofs.YtkjhhooecopolaaGreatDoor

import Derived.Test.YtkjhhooecopolaaGreatDoorMz37
set_option maxRecDepth 100000
set_option maxHeartbeats 4000000
namespace Go.Proofs.YtkjhhooecopolaaGreatDoor
open Go.RowKit
open Ge
theorem Zg{cf:Nat->Nat->Int}:∀(l:List Nat)(m:Nat),(∀x∈l,¬cf x m<0)->bu cf l m=m
 |[],_,_=>rfl
 |b::l,m,h=>by
  show bu cf l (if cf b m<0 then b else m)=m
  rw[if_neg (h b (by simp))]
  exact Zg l m fun x hx=>h x (bn _ hx)
theorem aj5(r:Int):takes r 0=false:=by
 unfold takes;split
 ·rfl
 ·split
  ·rfl
  ·split<;>rfl
section
variable{rg:List (List Pt)}{l:List Nd}{r:Int}{Xs:List PB}
theorem SX.O4(h:SX rg l r Xs):∀(A:List Nat)(b c:Nat),b<Xs.length->(∀a∈A,a<Xs.length)->jH Xs (b::A)->Ga.ak (dG Xs c) (dG Xs b)=true->Ga.ak (dG Xs ((tI Xs b A).getLastD c)) (dG Xs (A.getLastD b))=true
 |[],b,c,_,_,_,hs=>hs
 |s::A,b,c,hb,hA,hc,hs=>by
  have hsl:=hA s (by simp)
  have hcs:(xi Xs s).f=(xi Xs b).t:=hc 0 b s rfl rfl;have ht:tI Xs b (s::A)=(if eT (xi Xs s) (xi Xs b)=0 then[] else[s])++tI Xs s A:=rfl
  have hlast:(s::A).getLastD b=A.getLastD s:=by cases A<;>rfl
  rw[ht,hlast];by_cases hx:eT (xi Xs s) (xi Xs b)=0
  ·rw[if_pos hx,vA];exact h.O4 A s c hsl (fun a ha=>hA a (bn _ ha)) hc.tail (Ga.Ns hs (h.straight hb hsl hcs hx))
  ·rw[if_neg hx];have e:([s]++tI Xs s A).getLastD c=(tI Xs s A).getLastD s:=by
    cases tI Xs s A<;>rfl
   rw[e];have O5:Ga.ak (dG Xs s) (dG Xs s)=true:=(Ga.cV _ _).2 ⟨by unfold cr;grind,Ga.ez (h.ne hsl)⟩
   exact h.O4 A s s hsl (fun a ha=>hA a (bn _ ha)) hc.tail O5
theorem SX.shell(h:SX rg l r Xs){hh:Nat}{tl:List Nat}(hl:∀a∈hh::tl,a<Xs.length)(hc:jH Xs (hh::tl))(O6:∀b∈tl,¬aW (xi Xs b).f (xi Xs hh).f<0)(hturn:0<cr (dG Xs (tl.getLastD hh)) (dG Xs hh)):bV Xs (cN Xs (hh::tl))=true:=by
 have Zh:=hl hh (by simp)
 have hlast:(hh::tl).getLastD 0=tl.getLastD hh:=by cases tl<;>rfl
 have hx:eT (xi Xs hh) (xi Xs (tl.getLastD hh))≠0:=by
  rw[wS];intro hk;have:=vE.1 hk;have e:=Ga.bU (dG Xs (tl.getLastD hh)) (dG Xs hh);unfold dG at*;omega
 have hT:cS Xs (hh::tl)=hh::tI Xs hh tl:=by
  unfold cS;rw[hlast];show(if eT (xi Xs hh) (xi Xs (tl.getLastD hh))=0 then[] else[hh])++tI Xs hh tl=_
  rw[if_neg hx];rfl
 have hle:jU Xs (hh::tI Xs hh tl)=hh:=Zg _ _ fun x hx=>O6 x (Bn Xs tl hh x hx)
 have O7:tH Xs (hh::tI Xs hh tl)=0:=by
  unfold tH;rw[hle];have:fM (fun j=>j == hh) (hh::tI Xs hh tl)=0:=by
   show(if(hh == hh)=true then((0:Nat):Int) else _)=0
   rw[if_pos (by simp)]
   rfl
  rw[this];rfl
 have aj6:cN Xs (hh::tl)=hh::tI Xs hh tl:=by
  unfold cN;rw[hT,O7];simp
 rw[aj6];unfold bV;refine decide_eq_true ?_;have e1:(hh::tI Xs hh tl).getLastD 0=(tI Xs hh tl).getLastD hh:=by cases tI Xs hh tl<;>rfl
 rw[e1,show(hh::tI Xs hh tl).headD 0=hh from rfl,wS]
 have O5:Ga.ak (dG Xs hh) (dG Xs hh)=true:=(Ga.cV _ _).2 ⟨by unfold cr;grind,Ga.ez (h.ne Zh)⟩
 have hsm:=h.O4 tl hh hh Zh (fun a ha=>hl a (bn _ ha)) hc O5
 have k:=Ga.yG hsm (dG Xs hh);have s1:=Ga.bU (dG Xs hh) (dG Xs ((tI Xs hh tl).getLastD hh));have s2:=Ga.bU (dG Xs hh) (dG Xs (tl.getLastD hh));have hpos:0<cr (dG Xs ((tI Xs hh tl).getLastD hh)) (dG Xs hh):=by omega
 rw[pM hpos];decide
structure Wk(Xs:List PB)(i:Nat)(L:List Nat):Prop where
 lt:∀a∈L,a<Xs.length
 head:L[0]?=some i
 conn:jH Xs L
 Ll:∀a∈L,cd Xs a∈L
 back:∀a,L.getLast?=some a->(xi Xs a).t=(xi Xs i).f
 least:∀a∈L,¬aW (xi Xs a).f (xi Xs i).f<0
def wY(Xs:List PB)(x y:Nat):Bool:=Ga.nz (dG Xs x)&&Ga.nz (dG Xs y)&&Ga.ah (dG Xs y) (dG Xs x)
theorem aj7(x y z:Nat)(h1:wY Xs x y=true)(h2:wY Xs y z=true):wY Xs x z=true:=by
 unfold wY Ga.nz at*;simp only[qq,decide_eq_true_eq] at*;exact⟨⟨h1.1.1,h2.1.2⟩,Ga.gM h2.1.2 h1.1.2 h1.1.1 h2.2 h1.2⟩
theorem aj8(x:Nat):wY Xs x x=false:=by unfold wY;rw[Ga.qx];simp
theorem SX.Zi(h:SX rg l r Xs)(hB:BD Xs){i:Nat}{L:List Nat}(hW:Wk Xs i L)(hout:takes r (Ga.PP (aa rg) (xi Xs i).f)=false):∃ring∈bf Xs L,bV Xs ring=true:=by
 have vo:i∈L:=aY hW.head;have hi:=hW.lt i vo;obtain⟨hh,Zj,hhT,hmax⟩:=Ga.Nz (lt:=wY Xs) (aj7 (Xs:=Xs)) (aj8 (Xs:=Xs)) (fun a=>decide ((xi Xs a).f=(xi Xs i).f)) L _ i vo (by simp) (ae _)
 have vp:(xi Xs hh).f=(xi Xs i).f:=of_decide_eq_true hhT;have yT:=hW.lt hh Zj;have hmin:∀y∈L,(xi Xs y).f=(xi Xs i).f->Ga.ah (dG Xs y) (dG Xs hh)=false:=fun y hy EP=>by
  have:=hmax y hy (decide_eq_true EP);cases hk:Ga.ah (dG Xs y) (dG Xs hh)
  ·rfl
  ·unfold wY Ga.nz at this;rw[hk,decide_eq_true (h.ne yT),decide_eq_true (h.ne (hW.lt y hy))] at this;cases this
 obtain⟨t0,ht0,hht⟩:=j5.1 Zj;have O8:L[t0]?=some hh:=by rw[ay ht0,hht]
 have h0:∀s,L[0]?=some s->(xi Xs s).f=(xi Xs i).f:=fun s hs=>by
  rw[hW.head] at hs;injection hs with hs;rw[hs]
 have hne:∀j,j<Xs.length->(xi Xs j).f≠(xi Xs j).t:=fun j hj e=>by
  have:=h.ne hj;unfold dG at this;rw[<-e] at this;exact this (by unfold Ga.wv;simp)
 have hstep:∀k,k<L.length->∀s,L[k]?=some s->bA Xs (L.take (k+1))=jb Xs (bA Xs (L.take k)) s:=fun k hk s hs=>by
  have htk:L.take (k+1)=L.take k++[s]:=by rw[jx,hs];rfl
  rw[htk,wV]
 have akb:∀p s,∀ring∈(p:List Nat×List (List Nat)).2,ring∈(jb Xs p s).2:=fun p s ring hr=>by
  unfold jb;split
  ·exact vB _ hr
  ·exact hr
 have key:∀d,t0+1+d<=L.length->(∃ring∈(bA Xs (L.take (t0+1+d))).2,bV Xs ring=true)\/((∃tl,(bA Xs (L.take (t0+1+d))).1=hh::tl/\∀b∈tl,(xi Xs b).f≠(xi Xs i).f)/\∀z,L[t0+d]?=some z->(xi Xs z).t≠(xi Xs i).f):=by
  intro d;induction d with
  |zero=>
   intro _;right;have gv:=OC.all hW.conn h0 t0 (by omega)
   have hO:(bA Xs (L.take t0)).1=[]:=by
    apply mL;intro hk;obtain⟨z,hz⟩:∃z,(bA Xs (L.take t0)).1.getLast?=some z:=⟨_,Rl hk⟩;obtain⟨a,ha⟩:∃a,(bA Xs (L.take t0)).1[0]?=some a:=⟨_,ay (gL.2 hk)⟩;have e1:=gv.Zf z hh hz O8;exact gv.new z hz a (aY ha) (by rw[gv.hd a ha,<-e1,vp])
   rw[tY,hstep t0 ht0 hh O8];have hto:(xi Xs hh).t≠(xi Xs i).f:=fun e=>hne hh yT (vp.trans e.symm)
   refine⟨⟨[],?_,fun b hb=>by simp at hb⟩,fun z hz=>?_⟩
   ·unfold jb;rw[hO];rcases Bo Xs ([]++[hh]) hh with⟨h1,_⟩|⟨R,x,h1,h2,h3,_⟩
    ·rw[if_neg (by omega)]
     rfl
    ·exfalso;have:x=hh:=by
      have:=aY h2;simpa using this
     rw[this] at h3;exact hne hh yT h3
   ·rw[tY,O8] at hz;injection hz with hz;rw[<-hz];exact hto
  |succ d ih=>
   intro hd;have hk:t0+1+d<L.length:=by omega
   obtain⟨s,hs⟩:∃s,L[t0+1+d]?=some s:=⟨_,ay hk⟩;have hsL:=aY hs;have hsl:=hW.lt s hsL;rw[show t0+1+(d+1)=t0+1+d+1 by omega,hstep _ hk s hs]
   rcases ih (by omega) with⟨ring,hr1,hr2⟩|⟨⟨tl,hO,htl⟩,hz⟩
   ·exact Or.inl ⟨ring,akb _ s ring hr1,hr2⟩
   ·have gv:=OC.all hW.conn h0 (t0+1+d) (by omega)
    obtain⟨hcs,_⟩:=gv.snoc hs;rw[hO] at gv hcs;have zO:∀b∈hh::tl,b∈L:=fun b hb=>Jv Xs L (t0+1+d) b (by rw[hO];exact hb)
    have O9:(xi Xs s).f≠(xi Xs i).f:=by
     obtain⟨a,ha⟩:∃a,L[t0+d]?=some a:=⟨_,ay (by omega)⟩
     rw[hW.conn (t0+d) a s ha (by rw[show t0+d+1=t0+1+d by omega];exact hs)]
     exact hz a ha
    have hzs:∀z,L[t0+(d+1)]?=some z->z=s:=fun z hz'=>by
     rw[show t0+(d+1)=t0+1+d by omega,hs] at hz'
     injection hz' with hz';exact hz'.symm
    by_cases hst:(xi Xs s).t=(xi Xs i).f
    ·
     left;refine⟨cN Xs (hh::(tl++[s])),?_,?_⟩
     ·unfold jb;rw[hO];rcases Bo Xs (hh::tl++[s]) s with⟨h1,h2⟩|⟨R,x,h1,h2,h3,h4⟩
      ·exfalso;exact h2 hh (by simp) (vp.trans hst.symm)
      ·have yQ:R=0:=by
        apply mL;intro hk;exact h4 0 hh (by omega) rfl (vp.trans hst.symm)
       rw[if_pos (by omega),h1,yQ]
       simp
     ·refine h.shell (fun a ha=>?_) hcs (fun b hb=>?_) ?_
      ·have:a∈(hh::tl)\/a=s:=by simpa[or_assoc] using ha
       rcases this with ha|ha
       ·exact hW.lt a (zO a ha)
       ·rw[ha];exact hsl
      ·have:b∈tl\/b=s:=by simpa using hb
       rw[vp];rcases this with hb|hb
       ·exact hW.least b (zO b (bn _ hb))
       ·rw[hb];exact hW.least s hsL
      ·have e:(tl++[s]).getLastD hh=s:=by simp
       rw[e];obtain⟨n1,n2,n3⟩:=h.next hB hsl
       have hnL:=hW.Ll s hsL;have vq:=h.sd hsl;have Zk:=h.sd n1;have Zl:=h.sd yT;rw[hst] at vq;rw[n2,hst] at Zk;rw[vp] at Zl;have hris:Ga.aN (Ga.wv (xi Xs i).f (xi Xs s).f):=by
        have c1:=h.nl.can _ (h.fl hi).1;have c2:=h.nl.can _ (h.fl hsl).1;refine(Ga.nr c1 c2).1 (Ay c1 c2 ?_ (fun e=>O9 e.symm))
        exact hW.least s hsL
       have hle:=hmin (cd Xs s) hnL (n2.trans hst);unfold dG at hle;rw[n2,hst,vp] at hle;have hres:=Ga.aiz h.nl hout vq hris Zk (fun c' hc'=>by
        obtain⟨q,hq,q1,q2⟩:=h.find hc';have:=n3 q hq (by rw[q1,hst])
        rw[Jk,q1,q2,n2,hst] at this;exact this) Zl hle
       unfold dG;rw[hst,vp];exact hres
    ·right;refine⟨?_,fun z hz'=>by rw[hzs z hz'];exact hst⟩
     unfold jb;rw[hO];rcases Bo Xs (hh::tl++[s]) s with⟨h1,h2⟩|⟨R,x,h1,h2,h3,h4⟩
     ·rw[if_neg (by omega)]
      refine⟨tl++[s],rfl,fun b hb=>?_⟩
      have:b∈tl\/b=s:=by simpa using hb
      rcases this with hb|hb
      ·exact htl b hb
      ·rw[hb];exact O9
     ·rw[if_pos (by omega),h1,zg]
      obtain⟨R',rfl⟩:∃R',R=R'+1:=by
       cases R with
       |zero=>
        exfalso;have:x=hh:=by simpa using h2.symm
        rw[this] at h3;exact hst (h3.symm.trans vp)
       |succ R'=>exact⟨R',rfl⟩
      refine⟨(tl++[s]).take R',by simp,fun b hb=>?_⟩
      have:=nL hb;have:b∈tl\/b=s:=by simpa using this
      rcases this with hb|hb
      ·exact htl b hb
      ·rw[hb];exact O9
 have hfin:=key (L.length-(t0+1)) (by omega)
 rw[show t0+1+(L.length-(t0+1))=L.length by omega,dI] at hfin
 rcases hfin with hfin|⟨_,hz⟩
 ·exact hfin
 ·exfalso;obtain⟨z,hzl⟩:∃z,L[L.length-1]?=some z:=⟨_,ay (by omega)⟩
  refine hz z (by rw[show t0+(L.length-(t0+1))=L.length-1 by omega];exact hzl) ?_
  exact hW.back z (by rw[pN];exact hzl)
theorem Zm{n:Nd}(hn:Ge.Can n){j:Nat}(hv:cM (xi Xs j))(hb:js Xs n j=true):lt (aj (xi Xs j).f) (aj n):=by
 unfold js at hb;simp only[qq,KJ,decide_eq_false_iff_not,decide_eq_true_eq] at hb;obtain⟨⟨h1,h2⟩,h3⟩:=hb;refine(Ga.nr hv.cf hn).2 ?_;have hfp:=hv.cf.pos;have WX:=hv.ct.pos;have Bl:=hn.pos;generalize(xi Xs j).f=f at*;generalize(xi Xs j).t=t at*;have e1:(Ga.wv f n).1=n.1*f.2.2-f.1*n.2.2:=by unfold Ga.wv;simp only;grind
 have e2:n.2.2*(Ga.wv f t).1=f.2.2*(t.1*n.2.2-n.1*t.2.2)+t.2.2*(Ga.wv f n).1:=by unfold Ga.wv;simp only;grind
 by_cases hx:0<(Ga.wv f n).1
 ·exact Or.inl hx
 ·have hx0:(Ga.wv f n).1=0:=by omega
  rw[hx0,zw,Int.add_zero] at e2;have hp:=aP hfp (show 0<t.1*n.2.2-n.1*t.2.2 by omega)
  have hD:0<(Ga.wv f t).1:=(Ga.aO Bl).1 (by omega)
  unfold cr at h3;rw[hx0,zw,za] at h3;exact Or.inr ⟨hx0,(Ga.aO hD).1 h3⟩
theorem SX.seen(h:SX rg l r Xs)(hB:BD Xs){i:Nat}{L:List Nat}(hW:Wk Xs i L)(hno:∀ring∈bf Xs L,bV Xs ring=false):dO Xs (xi Xs i).f Xs.length≠[]:=by
 have hi:=hW.lt i (aY hW.head);have hfl:=(h.fl hi).1;intro hs;cases hp:takes r (Ga.PP (aa rg) (xi Xs i).f)
 ·obtain⟨ring,h1,h2⟩:=h.Zi hB hW hp;rw[hno ring h1] at h2;cases h2
 ·obtain⟨f,t,Eu,h1,h2,h3⟩:=Ga.ahX h.nl (aj5 r) hfl hp;obtain⟨j,hj,j1,j2⟩:=h.find Eu;have hm:j∈dO Xs (xi Xs i).f Xs.length:=by
   refine jw.2 ⟨qu.2 hj,?_⟩;unfold js;rw[j1,j2];generalize(xi Xs i).f=n at*;have e1:(Ga.wv n f).1=f.1*n.2.2-n.1*f.2.2:=by unfold Ga.wv;simp only;grind
   have e2:(Ga.wv n t).1=t.1*n.2.2-n.1*t.2.2:=by unfold Ga.wv;simp only;grind
   simp only[qq,KJ,decide_eq_false_iff_not,decide_eq_true_eq];exact⟨⟨by omega,by omega⟩,h3⟩
  rw[hs] at hm;simp at hm
end
end Go.Proofs.YtkjhhooecopolaaGreatDoor
namespace Go.Proofs.YtkjhhooecopolaaGreatDoor
open Go.RowKit
structure St where
 aF:Nat->Bool
 ow:Nat->Nat
 ps:List Pg
def tO(P:List Nat->Bool)(Rs:List (List Nat)):List Nat:=Rs.foldl (fun acc r=>if P r then r else acc) []
def cD(Xs:List PB)(mk:Nat->Bool)(i:Nat):List Nat:=ja (cd Xs) mk Xs.length [] i
def oG(Xs:List PB)(st:St)(i:Nat):St:=
 if st.aF i then st
 else if(bf Xs (cD Xs st.aF i)).any (bV Xs) then
  ⟨fun j=>st.aF j||(cD Xs st.aF i).contains j,fun j=>if(cD Xs st.aF i).contains j then st.ps.length else st.ow j,st.ps++[(tO (bV Xs) (bf Xs (cD Xs st.aF i)),(bf Xs (cD Xs st.aF i)).filter fun r=> !bV Xs r)]⟩
 else
  ⟨fun j=>st.aF j||(cD Xs st.aF i).contains j,fun j=>if(cD Xs st.aF i).contains j then st.ow (ic Xs (xi Xs i).f) else st.ow j,st.ps.set (st.ow (ic Xs (xi Xs i).f)) ((st.ps.getD (st.ow (ic Xs (xi Xs i).f)) ([],[])).1,(st.ps.getD (st.ow (ic Xs (xi Xs i).f)) ([],[])).2++bf Xs (cD Xs st.aF i))⟩
def aK(Xs:List PB)(k:Nat):St:=(List.range k).foldl (oG Xs) ⟨fun _=>false,fun _=>0,[]⟩
theorem yU(Xs:List PB)(k:Nat):aK Xs (k+1)=oG Xs (aK Xs k) k:=by unfold aK;rw[FP,KR];rfl
structure Zn(bs:List Nat)(g cap:Nat)(Inv:Nat->Value->World->Prop)(B:Nat->Value->World->Prop)(C1:Nat->Value->Nat->Nat->List Nat->World->Prop)(C2:Nat->Value->Nat->Nat->List Nat->Nat->Nat->Nat->World->Prop)
  (D1 D2:Nat->Value->Nat->Nat->List Nat->Nat->Nat->Nat->Nat->World->Prop)(E:Nat->Value->Nat->Nat->List Nat->Nat->Nat->Nat->Nat->World->Prop)(F:Nat->Value->Nat->Nat->List Nat->Nat->Nat->World->Prop)(Q:Value->World->Prop)(base:Nat):Prop where
 row:∀k lv wr,Inv k lv wr->k<bs.length->wr.cell? ⟨g,k,none⟩=some (.pointer (some ⟨bx bs k,0,none⟩))/\∃m,wr.cell? ⟨bx bs k,6,none⟩=some (.bool m)/\(m=true->Inv (k+1) lv wr)/\(m=false->B k lv wr)
 walk:∀k lv wr,B k lv wr->Calls Tryz.prog 110 #[.slice (some ⟨g,0,none⟩) bs.length cap,.pointer (some ⟨bx bs k,0,none⟩)] wr fun e w1=>∃gW cW L,e=.returned (.slice (some ⟨gW,0,none⟩) L.length cW)/\L.length<=85000000/\C1 k lv gW cW L w1
 rings:∀k lv gW cW L w1,C1 k lv gW cW L w1->Calls Tryz.prog 111 #[.slice (some ⟨gW,0,none⟩) L.length cW] w1 fun e w2=>∃gR cR n,e=.returned (.slice (some ⟨gR,0,none⟩) n cR)/\C2 k lv gW cW L gR cR n w2
 con:∀k lv gW cW L gR cR n w2,C2 k lv gW cW L gR cR n w2->Calls Tryz.prog 112 #[.slice (some ⟨gR,0,none⟩) n cR,.func (.func 113) #[] #[]] (w2.alloc (.cells #[.slice none 0 0,.slice none 0 0] 187)) fun e w4=>∃b,e=.returned (.bool b)/\(b=true->D1 k lv gW cW L gR cR n w2.heap.size w4)/\(b=false->D2 k lv gW cW L gR cR n w2.heap.size w4)
 push:∀k lv gW cW L gR cR n N w4,D1 k lv gW cW L gR cR n N w4->∃np pp,w4.ownsRow base 165 1 lv np pp/\np<=85000000/\base<=w4.heap.size/\∀g' cap' w8,w8.ownsRow base 165 1 (.slice (some ⟨g',0,none⟩) (np+1) cap') (np+1) (pp++[.pointer (some ⟨N,0,none⟩)])->(w4.alloc (.cells #[.pointer (some ⟨N,0,none⟩)] 165)).grownBy w8 lv.ownBlock->(lv.ownBlock=some g'\/g'=w4.heap.size+1)->E k (.slice (some ⟨g',0,none⟩) (np+1) cap') gW cW L gR cR n N w8
 below:∀k lv gW cW L gR cR n N w4,D2 k lv gW cW L gR cR n N w4->∃N1 N2 N3,w4.cell? ⟨bx bs k,2,none⟩=some (.complex .f64 N1 N2)/\w4.cell? ⟨bx bs k,3,none⟩=some (.int .i64 N3)/\Calls Tryz.prog 114 #[.slice (some ⟨g,0,none⟩) bs.length cap,.agg #[.complex .f64 N1 N2,.int .i64 N3]] w4 fun e w5=>∃bL ob,e=.returned (.pointer (some ⟨bL,0,none⟩))/\w5.cell? ⟨bL,7,none⟩=some (.pointer (some ⟨ob,0,none⟩))/\E k lv gW cW L gR cR n ob w5
 take:∀k lv gW cW L gR cR n ob w5,E k lv gW cW L gR cR n ob w5->Calls Tryz.prog 115 #[.pointer (some ⟨ob,0,none⟩),.slice (some ⟨gR,0,none⟩) n cR] w5 fun e w6=>e=.returned (.tuple #[])/\F k lv gW cW L ob 0 w6
 own:∀k lv gW cW L ob t wr,F k lv gW cW L ob t wr->t<L.length->∃b o,wr.cell? ⟨gW,t,none⟩=some (.pointer (some ⟨b,0,none⟩))/\wr.cell? ⟨b,7,none⟩=some o/\wr.frozen? ⟨b,7,none⟩=false/\F k lv gW cW L ob (t+1) (wr.setCell ⟨b,7,none⟩ (.pointer (some ⟨ob,0,none⟩)))
 done:∀k lv gW cW L ob wr,F k lv gW cW L ob L.length wr->k<bs.length->Inv (k+1) lv wr
 sort:∀lv wr,Inv bs.length lv wr->Calls Tryz.prog 116 #[lv] wr fun e w'=>e=.returned (.tuple #[])/\Q lv w'
theorem akg:(Tryz.prog.info? 165).map (fun i=>(i.zero,i.size,i.bytes))=some (some (.pointer none),1,8):=by kernel_rfl
theorem akh(bs:List Nat)(g cap:Nat)(Inv:Nat->Value->World->Prop)(B:Nat->Value->World->Prop)(C1:Nat->Value->Nat->Nat->List Nat->World->Prop)(C2:Nat->Value->Nat->Nat->List Nat->Nat->Nat->Nat->World->Prop)
  (D1 D2:Nat->Value->Nat->Nat->List Nat->Nat->Nat->Nat->Nat->World->Prop)(E:Nat->Value->Nat->Nat->List Nat->Nat->Nat->Nat->Nat->World->Prop)(F:Nat->Value->Nat->Nat->List Nat->Nat->Nat->World->Prop)(Q:Value->World->Prop)(base:Nat)
  (HK:Hid (Zn bs g cap Inv B C1 C2 D1 D2 E F Q base))(w:World)(hl:bs.length<=85000000)(h0:Inv 0 (.slice none 0 0) w):
  Calls Tryz.prog 69 #[.slice (some ⟨g,0,none⟩) bs.length cap] w fun e w'=>∃lv,e=.returned lv/\Q lv w':=by
 obtain⟨j0,oY,hy0,hy1,hy2⟩:=info_parts akg;have bh:Hid (Inv 0 (.slice none 0 0) w):=h0;clear h0
 go_enter Tryz.func69,Tryz.ntmps69
 go_wp2_with fail
 go_loopg [3,13] bs.length (fun m lv iv wr=>∃k:Nat,k+m=bs.length/\iv=.int .i64 k/\Hid (Inv k lv wr))
 case atStart=>exact⟨0,by omega,rfl,bh.out⟩
 case round=>
  obtain⟨k,hkn,rfl,HE⟩:=hrel;clear bh;obtain⟨G0,wD⟩:∃G0,G0=gk:=⟨gk,rfl⟩;subst wD;by_cases hlt:k<bs.length
  ·obtain⟨c1,m,c6,ym,hm2⟩:=HK.out.row k u3 wr HE.out hlt;have eD:(k:Int)<(bs.length:Int):=by omega
   cases m
   ·have HB:Hid (B k u3 wr):=hm2 rfl;have Zo:=HK.out.walk k u3 wr HB.out;have Zp:Hid (Calls Tryz.prog 110 #[.slice (some ⟨g,0,none⟩) bs.length cap,.pointer (some ⟨bx bs k,0,none⟩)] wr fun e w1=>∃gW cW L,e=.returned (.slice (some ⟨gW,0,none⟩) L.length cW)/\L.length<=85000000/\C1 k u3 gW cW L w1):=Zo
    clear ym hm2 Zo HE HB
    go_wp2_with fail
    refine Zp.out.mono ?_;rintro e w1 ⟨gW,cW,L,rfl,jE,Zq⟩;have Zr:Hid (Calls Tryz.prog 111 #[.slice (some ⟨gW,0,none⟩) L.length cW] w1 fun e w2=>∃gR cR n,e=.returned (.slice (some ⟨gR,0,none⟩) n cR)/\C2 k u3 gW cW L gR cR n w2):=HK.out.rings k u3 gW cW L w1 Zq
    clear Zq Zp c1 c6
    go_wp2_with fail
    refine Zr.out.mono ?_;rintro e w2 ⟨gR,cR,n,rfl,Gw⟩;have Pb:Hid (Calls Tryz.prog 112 #[.slice (some ⟨gR,0,none⟩) n cR,.func (.func 113) #[] #[]] (w2.alloc (.cells #[.slice none 0 0,.slice none 0 0] 187)) fun e w4=>∃b,e=.returned (.bool b)/\(b=true->D1 k u3 gW cW L gR cR n w2.heap.size w4)/\(b=false->D2 k u3 gW cW L gR cR n w2.heap.size w4)):=HK.out.con k u3 gW cW L gR cR n w2 Gw
    clear Gw Zr
    go_wp2_with fail
    refine Pb.out.mono ?_;rintro e w4 ⟨b,rfl,hb1,hb2⟩;cases b
    ·have vG:=hb2 rfl;obtain⟨N1,N2,N3,f2,f3,Zt⟩:=HK.out.below k u3 gW cW L gR cR n w2.heap.size w4 vG;have EZ:Hid (Calls Tryz.prog 114 #[.slice (some ⟨g,0,none⟩) bs.length cap,.agg #[.complex .f64 N1 N2,.int .i64 N3]] w4 fun e w5=>∃bL ob,e=.returned (.pointer (some ⟨bL,0,none⟩))/\w5.cell? ⟨bL,7,none⟩=some (.pointer (some ⟨ob,0,none⟩))/\E k u3 gW cW L gR cR n ob w5):=Zt
     clear hb1 hb2 vG Zt Pb
     go_wp2_with fail
     refine EZ.out.mono ?_;rintro e w5 ⟨bL,ob,rfl,o7,Dt⟩;have E0:Hid (E k u3 gW cW L gR cR n ob w5):=Dt;clear Dt EZ f2 f3
     go_wp2_with fail
     have E7:Hid (Calls Tryz.prog 115 #[.pointer (some ⟨ob,0,none⟩),.slice (some ⟨gR,0,none⟩) n cR] w5 fun e w6=>e=.returned (.tuple #[])/\F k u3 gW cW L ob 0 w6):=HK.out.take k u3 gW cW L gR cR n ob w5 E0.out
     clear E0
     go_wp2_with fail
     refine E7.out.mono ?_;rintro e w6 ⟨rfl,hF⟩;have uU:Hid (F k u3 gW cW L ob 0 w6):=hF;clear hF E7
     go_wp2_with fail
     go_loopg [49] L.length (fun m iv wr=>∃t:Nat,t+m=L.length/\iv=.int .i64 t/\Hid (F k u3 gW cW L ob t wr))
     case atStart=>exact⟨0,by omega,rfl,uU.out⟩
     case round=>
      obtain⟨t,htn,rfl,vr⟩:=hrel;clear uU;by_cases htl:t<L.length
      ·obtain⟨bb,oo,d1,d2,d3,E8⟩:=HK.out.own k u3 gW cW L ob t wr vr.out htl;have hti:(t:Int)<(L.length:Int):=by omega
       have Pc:Hid (F k u3 gW cW L ob (t+1) (wr.setCell ⟨bb,7,none⟩ (.pointer (some ⟨ob,0,none⟩)))):=E8;clear E8 vr
       go_wp2_with fail
       go_roundg (gk-1)
       case measure=>omega
       case rel=>exact⟨t+1,by omega,by go_num,Pc.out⟩
      ·have Pd:t=L.length:=by omega
       subst Pd;have cC:Hid (Inv (k+1) u3 wr):=HK.out.done k u3 gW cW L ob wr vr.out hlt;clear vr
       go_wp2_with fail
       go_roundg (G0-1)
       case measure=>omega
       case rel=>exact⟨k+1,by omega,by go_num,cC.out⟩
    ·have Zu:=hb1 rfl;obtain⟨np,pp,ho,Bl,hbz,vX⟩:=HK.out.push k u3 gW cW L gR cR n w2.heap.size w4 Zu;have sK:Hid (∀g' cap' w8,w8.ownsRow base 165 1 (.slice (some ⟨g',0,none⟩) (np+1) cap') (np+1) (pp++[.pointer (some ⟨w2.heap.size,0,none⟩)])->(w4.alloc (.cells #[.pointer (some ⟨w2.heap.size,0,none⟩)] 165)).grownBy w8 u3.ownBlock->(u3.ownBlock=some g'\/g'=w4.heap.size+1)->E k (.slice (some ⟨g',0,none⟩) (np+1) cap') gW cW L gR cR n w2.heap.size w8):=vX;have hnb:(w4.alloc (.cells #[.pointer (some ⟨w2.heap.size,0,none⟩)] 165)).heap[w4.heap.size]?=some (.cells #[.pointer (some ⟨w2.heap.size,0,none⟩)] 165 (0,0)):=heap_alloc_new _ _;have oC:(w4.alloc (.cells #[.pointer (some ⟨w2.heap.size,0,none⟩)] 165)).ownsRow base 165 1 u3 np pp:=aJ ho fun k hk=>Below.heap_alloc _ _ _ (au ho k hk).2
     clear hb1 hb2 Zu vX ho Pb
     go_wp2_with (at_builtin;refine wpList_append_lies _ rfl (.tmp 30) (.tmp 32) 131 rfl base 165 j0 _ 1 8 Tryz.underlying131 oY hy0 hy1 hy2 rfl (by decide) u3 np pp rfl oC ⟨w4.heap.size,0,none⟩ 1 1 [.pointer (some ⟨w2.heap.size,0,none⟩)] rfl rfl (World.news_of_block (cs:= #[.pointer (some ⟨w2.heap.size,0,none⟩)]) (t:=165) (fr:=(0,0)) hnb) (by simp[Value.oneCell']) (by decide) (by unfold maxLen;omega) (by omega) (by simp;omega) (w4.heap.size+1) (by simp) ?_;intro g' cap' w8 cH aZ gA pY)
     have E0:Hid (E k (.slice (some ⟨g',0,none⟩) (np+1) cap') gW cW L gR cR n w2.heap.size w8):=sK.out g' cap' w8 cH aZ gA;generalize w2.heap.size=N at*;clear cH aZ gA hnb oC sK;have E7:Hid (Calls Tryz.prog 115 #[.pointer (some ⟨N,0,none⟩),.slice (some ⟨gR,0,none⟩) n cR] w8 fun e w6=>e=.returned (.tuple #[])/\F k (.slice (some ⟨g',0,none⟩) (np+1) cap') gW cW L N 0 w6):=HK.out.take k (.slice (some ⟨g',0,none⟩) (np+1) cap') gW cW L gR cR n N w8 E0.out
     clear E0
     go_wp2_with fail
     refine E7.out.mono ?_;rintro e w6 ⟨rfl,hF⟩;have uU:Hid (F k (.slice (some ⟨g',0,none⟩) (np+1) cap') gW cW L N 0 w6):=hF;clear hF E7
     go_wp2_with fail
     go_loopg [49] L.length (fun m iv wr=>∃t:Nat,t+m=L.length/\iv=.int .i64 t/\Hid (F k (.slice (some ⟨g',0,none⟩) (np+1) cap') gW cW L N t wr))
     case atStart=>exact⟨0,by omega,rfl,uU.out⟩
     case round=>
      obtain⟨t,htn,rfl,vr⟩:=hrel;clear uU;by_cases htl:t<L.length
      ·obtain⟨bb,oo,d1,d2,d3,E8⟩:=HK.out.own k (.slice (some ⟨g',0,none⟩) (np+1) cap') gW cW L N t wr vr.out htl;have hti:(t:Int)<(L.length:Int):=by omega
       have Pc:Hid (F k (.slice (some ⟨g',0,none⟩) (np+1) cap') gW cW L N (t+1) (wr.setCell ⟨bb,7,none⟩ (.pointer (some ⟨N,0,none⟩)))):=E8;clear E8 vr
       go_wp2_with fail
       go_roundg (gk-1)
       case measure=>omega
       case rel=>exact⟨t+1,by omega,by go_num,Pc.out⟩
      ·have Pd:t=L.length:=by omega
       subst Pd;have cC:Hid (Inv (k+1) (.slice (some ⟨g',0,none⟩) (np+1) cap') wr):=HK.out.done k (.slice (some ⟨g',0,none⟩) (np+1) cap') gW cW L N wr vr.out hlt;clear vr
       go_wp2_with fail
       go_roundg (G0-1)
       case measure=>omega
       case rel=>exact⟨k+1,by omega,by go_num,cC.out⟩
   ·have cC:Hid (Inv (k+1) u3 wr):=ym rfl;clear ym hm2 HE HK
    go_wp2_with fail
    go_roundg (G0-1)
    case measure=>omega
    case rel=>exact⟨k+1,by omega,by go_num,cC.out⟩
  ·have hk:k=bs.length:=by omega
   subst hk;have Zv:Hid (Calls Tryz.prog 116 #[u3] wr fun e w'=>e=.returned (.tuple #[])/\Q u3 w'):=HK.out.sort u3 wr HE.out
   clear HE HK
   go_wp2_with fail
   refine Zv.out.mono ?_;rintro e w9 ⟨rfl,hQ⟩;have HQ:Hid (Q u3 w9):=hQ;clear hQ Zv
   go_wp2_with fail
   go_ret
   exact⟨u3,rfl,HQ.out⟩
end Go.Proofs.YtkjhhooecopolaaGreatDoor
namespace Go.Proofs.YtkjhhooecopolaaGreatDoor
open Go.RowKit
open Ge
theorem wZ{nx:Nat->Nat}{mk:Nat->Bool}{n:Nat}(hnx:∀j,j<n->nx j<n):∀(m:Nat)(A:List Nat)(j:Nat),j<n->iN n mk (ja nx mk m A j)+(ja nx mk m A j).length<=iN n mk A+A.length
 |0,_,_,_=>ae _
 |m+1,A,j,hj=>by
  show iN n mk (if mk j||A.contains j then A else ja nx mk m (A++[j]) (nx j))+(if mk j||A.contains j then A else ja nx mk m (A++[j]) (nx j)).length<=_
  cases hm:(mk j||A.contains j)
  ·simp only[iP,if_false];have h1:=Jq hj hm;have h2:=wZ (mk:=mk) hnx m (A++[j]) (nx j) (hnx j hj);rw[aS] at h2;simp only[bO,fE] at h2;omega
  ·simp only[if_true];exact ae _
section
variable{rg:List (List Pt)}{l:List Nd}{r:Int}{Xs:List PB}
structure PV(Xs:List PB)(st:St)(k:Nat):Prop where
 closed:∀j,j<Xs.length->st.aF (cd Xs j)=st.aF j
 low:∀j,j<k->st.aF j=true
 own:∀j,j<Xs.length->st.aF j=true->st.ow j<st.ps.length
 len:st.ps.length<=k
 hol:∀(q:Nat) p,st.ps[q]?=some p->p.2.length+iN Xs.length st.aF []<=Xs.length
theorem PV.zero(Xs:List PB):PV Xs (aK Xs 0) 0:=by
 refine⟨fun _ _=>rfl,fun j h=>by omega,fun j _ h=>?_,ae _,fun q p h=>?_⟩
 ·simp[aK] at h
 ·simp[aK] at h
theorem SX.walk(h:SX rg l r Xs)(hB:BD Xs){st:St}{k:Nat}(hP:PV Xs st k)(hk:k<Xs.length)(hm:st.aF k=false):oF (cd Xs) st.aF Xs.length k (cD Xs st.aF k)/\Wk Xs k (cD Xs st.aF k):=by
 have hc:=ajY (nx:=cd Xs) (mk:=st.aF) (n:=Xs.length) (i:=k) (fun j hj=>(h.next hB hj).1) (fun a b ha hb he=>h.inj hB ha hb he) hP.closed hk hm
 refine⟨hc,fun a ha=>(hc.free a ha).1,hc.head,fun t a b ha hb=>?_,fun a ha=>hc.Ze ha,fun a ha=>?_,fun a ha=>?_⟩
 ·have hal:=(hc.free a (aY ha)).1;rw[hc.step t a b ha hb];exact(h.next hB hal).2.1
 ·have hal:=(hc.free a (tX ha)).1;have:=hc.back a ha;rw[<-this];exact(h.next hB hal).2.1.symm
 ·obtain⟨h1,h2⟩:=hc.free a ha;have hka:k<=a:=by
   apply Nat.not_lt.1;intro hlt;rw[hP.low a hlt] at h2;cases h2
  rcases acq hka with hlt|he
  ·have gx:∀{i:Nat}(hi:i<Xs.length),xi Xs i=Xs[i]:=fun hi=>uX (ay hi)
   have:=mM.1 hB.pG k a hk h1 hlt;rw[gx hk,gx h1];exact this
  ·rw[<-he,wR];omega
theorem Pe{L:List Nat}{k:Nat}(hW:Wk Xs k L):bf Xs L≠[]:=by
 have hlen:0<L.length:=gL.2 (fun e=>by have:=hW.head;rw[e] at this;simp at this)
 obtain⟨z,hz⟩:∃z,L[L.length-1]?=some z:=⟨_,ay (by omega)⟩
 have h0:∀s,L[0]?=some s->(xi Xs s).f=(xi Xs k).f:=fun s hs=>by
  rw[hW.head] at hs;injection hs with hs;rw[hs]
 have gv:=OC.all hW.conn h0 (L.length-1) (by omega)
 obtain⟨_,hh⟩:=gv.snoc hz;have hlt:L=L.take (L.length-1)++[z]:=by
  conv=>lhs;rw[<-dI (l:=L),show L.length=L.length-1+1 by omega,jx,hz]
  rfl
 have I8:=hW.back z (by rw[pN];exact hz)
 unfold bf;rw[hlt,wV];unfold jb;rcases Bo Xs ((bA Xs (L.take (L.length-1))).1++[z]) z with⟨_,h2⟩|⟨R,x,h1,_⟩
 ·exfalso;obtain⟨a,ha⟩:∃a,((bA Xs (L.take (L.length-1))).1++[z])[0]?=some a:=⟨_,ay (by simp)⟩
  exact h2 a (aY ha) ((hh a ha).trans I8.symm)
 ·rw[if_pos (by omega)]
  simp
theorem PV.step(h:SX rg l r Xs)(hB:BD Xs){st:St}{k:Nat}(hP:PV Xs st k)(hk:k<Xs.length):PV Xs (oG Xs st k) (k+1):=by
 cases hm:st.aF k
 ·obtain⟨hc,hW⟩:=h.walk hB hP hk hm;have hkL:k∈cD Xs st.aF k:=aY hW.head;have Zw:=hc.closed (fun a b ha hb he=>h.inj hB ha hb he) hP.closed
  have hleft:=wZ (mk:=st.aF) (fun j hj=>(h.next hB hj).1) Xs.length [] k hk
  have E9:iN Xs.length (fun j=>st.aF j||(cD Xs st.aF k).contains j) []=iN Xs.length st.aF (cD Xs st.aF k):=by unfold iN;simp
  have hrl:(bf Xs (cD Xs st.aF k)).length<=(cD Xs st.aF k).length:=by
   have:=(EH Xs (cD Xs st.aF k) (cD Xs st.aF k).length).2;rw[dI] at this;exact this
  have aoS:iN Xs.length st.aF (cD Xs st.aF k)+(cD Xs st.aF k).length<=iN Xs.length st.aF []:=hleft;have ql:∀j,j<k+1->(st.aF j||(cD Xs st.aF k).contains j)=true:=fun j hj=>by
   by_cases e:j=k
   ·rw[e,tZ.2 hkL];simp
   ·rw[hP.low j (by omega)];rfl
  have hl0:=vd Xs.length st.aF [];unfold oG;rw[hm];simp only[iP,if_false];split
  ·refine⟨Zw,ql,fun j hj lL=>?_,by simp;exact hP.len,fun q p hq=>?_⟩
   ·simp only[aS,bO,fE];split
    ·omega
    ·rename_i hne
     have:st.aF j=true:=by
      have e:(cD Xs st.aF k).contains j=false:=by simpa using hne
      simp only[e,F8] at lL;exact lL
     have:=hP.own j hj this;omega
   ·rw[E9];simp only at hq;by_cases mH:q<st.ps.length
    ·rw[dZ mH] at hq;have:=hP.hol q p hq;omega
    ·have hq2:q=st.ps.length:=by
      have:=(bT.1 hq).1;simp at this;omega
     rw[hq2] at hq;have e:p=(tO (bV Xs) (bf Xs (cD Xs st.aF k)),(bf Xs (cD Xs st.aF k)).filter fun r=> !bV Xs r):=by simpa using hq.symm
     rw[e];have:=F5 (fun r=> !bV Xs r) (bf Xs (cD Xs st.aF k))
     simp only;omega
  ·rename_i hno
   have akj:∀ring∈bf Xs (cD Xs st.aF k),bV Xs ring=false:=fun ring hr=>by
    cases hs:bV Xs ring
    ·rfl
    ·exact absurd (xn.2 ⟨ring,hr,hs⟩) (by simpa using hno)
   have Bp:=h.seen hB hW akj;have hlm:=Y7 Bp;have hll:=OO Xs _ _ _ hlm;have hlk:ic Xs (xi Xs k).f<k:=by
    apply Nat.not_le.1;intro hle;have hb:=Zm (Xs:=Xs) (hB.v _ (gh hk)).cf (hB.v _ (gh hll)) (jw.1 hlm).2;rcases acq hle with hlt|he
    ·have gx:∀{i:Nat}(hi:i<Xs.length),xi Xs i=Xs[i]:=fun hi=>uX (ay hi)
     have:=mM.1 hB.pG k _ hk hll hlt;rw[<-gx hk,<-gx hll] at this;exact this hb
    ·rw[<-he] at hb;exact lt_irrefl _ hb
   have Ph:=hP.own _ hll (hP.low _ hlk);refine⟨Zw,ql,fun j hj lL=>?_,by simp;have:=hP.len;omega,fun q p hq=>?_⟩
   ·simp only[KN];split
    ·exact Ph
    ·rename_i hne
     have:st.aF j=true:=by
      have e:(cD Xs st.aF k).contains j=false:=by simpa using hne
      simp only[e,F8] at lL;exact lL
     exact hP.own j hj this
   ·rw[E9];simp only at hq;by_cases pI:st.ow (ic Xs (xi Xs k).f)=q
    ·rw[pI] at hq;rw[rF (by rw[<-pI];exact Ph)] at hq
     injection hq with hq;rw[<-hq];simp only[aS];have hg:st.ps[q]?=some (st.ps.getD q ([],[])):=by
      rw[lQ,ay (by rw[<-pI];exact Ph)];rfl
     have:=hP.hol q _ hg;omega
    ·rw[xk pI] at hq;have:=hP.hol q p hq;omega
 ·unfold oG;rw[hm];simp only[if_true];refine⟨hP.closed,fun j hj=>?_,hP.own,by have:=hP.len;omega,hP.hol⟩
  by_cases e:j=k
  ·rw[e];exact hm
  ·exact hP.low j (by omega)
theorem SX.pv(h:SX rg l r Xs)(hB:BD Xs):∀k,k<=Xs.length->PV Xs (aK Xs k) k
 |0,_=>PV.zero Xs
 |k+1,hk=>by
  rw[yU];exact(h.pv hB k (by omega)).step h hB (by omega)
theorem SX.low(h:SX rg l r Xs)(hB:BD Xs){st:St}{k:Nat}(hP:PV Xs st k)(hk:k<Xs.length)(hm:st.aF k=false)(hno:∀ring∈bf Xs (cD Xs st.aF k),bV Xs ring=false):dO Xs (xi Xs k).f Xs.length≠[]/\ic Xs (xi Xs k).f<Xs.length/\st.aF (ic Xs (xi Xs k).f)=true:=by
 obtain⟨_,hW⟩:=h.walk hB hP hk hm;have Bp:=h.seen hB hW hno;have hlm:=Y7 Bp;have hll:=OO Xs _ _ _ hlm;refine⟨Bp,hll,hP.low _ ?_⟩;apply Nat.not_le.1;intro hle;have hb:=Zm (Xs:=Xs) (hB.v _ (gh hk)).cf (hB.v _ (gh hll)) (jw.1 hlm).2;rcases acq hle with hlt|he
 ·have gx:∀{i:Nat}(hi:i<Xs.length),xi Xs i=Xs[i]:=fun hi=>uX (ay hi)
  have:=mM.1 hB.pG k _ hk hll hlt;rw[<-gx hk,<-gx hll] at this;exact this hb
 ·rw[<-he] at hb;exact lt_irrefl _ hb
end
end Go.Proofs.YtkjhhooecopolaaGreatDoor

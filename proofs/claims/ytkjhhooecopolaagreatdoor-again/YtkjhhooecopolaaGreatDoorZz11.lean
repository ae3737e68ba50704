import Derived.Test.YtkjhhooecopolaaGreatDoorZz10
import Derived.Test.YtkjhhooecopolaaGreatDoorZz07
set_option maxRecDepth 100000
set_option maxHeartbeats 4000000
namespace Go.Proofs.YtkjhhooecopolaaGreatDoor
open Go.RowKit
namespace Pl
theorem Tx.bracket{α β:Type}{ok1:α->Prop}{RJ:β->Prop}{RL:α->List UInt8}{RM:β->List UInt8}{c:List Tk}{x:α}{y:β}{t:Tk}(T:Tx ok1 RL c x)(ft:Form t)(hk:t.k=40)
  (ho:ok1 x->RJ y)(ht:RM y=[40]++RL x):Tx RJ RM (t::c) y:=by
 obtain⟨s1,_,s3⟩:=wF ft 40 (by decide) hk
 refine⟨by simp,fun p fp hp=>?_,fun p fp hp=>?_,fun p u d fu hu=>?_,fun hn hl=>?_⟩
 ·rw[Bw fp hp,T.br t ft hk,s1,ht]
 ·rw[FW fp hp,T.br t ft hk,s1,ht]
 ·show(if bb p t=true then[32] else[])++(wr t++dI t (c++u::d))=((if bb p t=true then[32] else[])++(wr t++dI t c))++_
  rw[T.cl t u d fu hu];simp[List.append_assoc]
 ·have hl':c.length+1<=402:=by simpa using hl
  exact ho (T.yL (fun t ht=>hn t (by simp[ht])) (by omega))
theorem acs{α:Type}{ok:List α->Prop}{txt:α->List UInt8}{t:Tk}(ft:Form t)(hk:t.k=41)(ho:ok []):Tx ok (fun xs=>aU txt xs++[41]) [t] []:=by
 obtain⟨s1,_,s3⟩:=wF ft 41 (by decide) hk
 refine⟨by simp,fun p fp hp=>?_,fun p fp hp=>?_,fun p u d fu hu=>?_,fun _ _=>ho⟩
 ·rw[Bw fp hp,s1];rfl
 ·rw[FW fp hp,s1];rfl
 ·show(if bb p t=true then[32] else[])++(wr t++dI t (u::d))=((if bb p t=true then[32] else[])++(wr t++[]))++_
  rw[RH ft hk];simp[List.append_assoc]
theorem RN{α:Type}{ok:α->Prop}{txt:α->List UInt8}{t:Tk}{y:α}(hk:t.k=119)(hr:t.raw=EMPTY)(ht:txt y=EMPTY)(ho:ok y):Tx ok txt [t] y:=by
 have hp:bu t=EMPTY:=by unfold bu;rw[aa (by rw[hk];decide),hr]
 have s1:wr t=EMPTY:=by unfold wr;rw[aa (by rw[hk];decide),hp]
 refine⟨by simp,fun p fp hp=>?_,fun p fp hp=>?_,fun p u d fu hu=>?_,fun _ _=>ho⟩
 ·rw[Bw fp hp,s1,ht];rfl
 ·rw[FW fp hp,s1,ht];rfl
 ·show(if bb p t=true then[32] else[])++(wr t++dI t (u::d))=((if bb p t=true then[32] else[])++(wr t++[]))++_
  rw[FV (FU (by rw[hp];decide) (ae (by rw[hk];decide)))]
  simp[List.append_assoc]
theorem acu:Says (fun g=>oz g/\g.length<=402) dV ia:=by
 intro l hf h;unfold ia at h⊢;by_cases h1:(mk 40 l).1=true
 ·rw[ah h1] at h⊢;obtain⟨t,ht,hk⟩:=pC h1;have ft:Form t:=hf t (by rw[ht];simp)
  have yM:∀u∈(mk 40 l).2,Form u:=fun u hu=>hf u (by rw[ht];simp[hu])
  by_cases h2:(mk 41 (mk 40 l).2).1=true
  ·rw[ah h2];obtain⟨t2,ht2,hk2⟩:=pC h2;have ft2:Form t2:=yM t2 (by rw[ht2];simp)
   refine⟨[t,t2],?_,(acs (ok:=fun g=>oz g/\g.length<=402) (txt:=jO) ft2 hk2 ⟨fun p hp=>by simp at hp,by simp⟩).bracket ft hk id rfl⟩
   show t::t2::(mk 41 (mk 40 l).2).2=l;rw[<-ht2,<-ht]
  ·rw[aa h2] at h⊢;obtain⟨c,xs,hc,hv,_,T,_⟩:=FY acp l.length (mk 40 l).2 [] yM h;rw[oP] at hv;rw[hv];exact⟨t::c,by rw[kG,hc,<-ht],T.bracket ft hk (fun o=>⟨fun p hp=>o.2 p hp,o.1⟩) rfl⟩
 ·rw[aa h1] at h;cases h
def qN(ps:List (List (List (Int×Int)))):List UInt8:=if ps.length=0 then EMPTY else[40]++(aU dR ps++[41])
theorem RO(ps:List (List (List (Int×Int)))):uI ps=jk++([32]++qN ps):=by
 unfold uI qN;by_cases h:ps.length=0
 ·rw[ah h,ah h]
 ·rw[aa h,aa h];simp
theorem RQ:Says KT dR dv:=by
 intro l hf h;unfold dv at h⊢;by_cases h0:(wd EMPTY l).1=true
 ·rw[ah h0];obtain⟨t,ht,hk,hr⟩:=FX h0;exact⟨[t],by rw[Ah,<-ht],RN hk hr rfl ⟨by simp,fun p hp=>by simp at hp⟩⟩
 ·rw[aa h0] at h⊢;by_cases h1:(mk 40 l).1=true
  ·rw[ah h1] at h⊢;obtain⟨t,ht,hk⟩:=pC h1;have ft:Form t:=hf t (by rw[ht];simp)
   have yM:∀u∈(mk 40 l).2,Form u:=fun u hu=>hf u (by rw[ht];simp[hu])
   obtain⟨c,xs,hc,hv,hne,T,_⟩:=FY acu l.length (mk 40 l).2 [] yM h;rw[oP] at hv;rw[hv];have hl:¬xs.length=0:=fun e=>hne (fK.1 e)
   exact⟨t::c,by rw[kG,hc,<-ht],T.bracket ft hk (fun o=>⟨o.1,fun p hp=>o.2 p hp⟩) (aa hl)⟩
  ·rw[aa h1] at h;cases h
theorem acw:Says Bv qN iX:=by
 intro l hf h;unfold iX at h⊢;by_cases h0:(wd EMPTY l).1=true
 ·rw[ah h0];obtain⟨t,ht,hk,hr⟩:=FX h0;exact⟨[t],by rw[Ah,<-ht],RN hk hr rfl ⟨by simp,fun p hp=>by simp at hp⟩⟩
 ·rw[aa h0] at h⊢;by_cases h1:(mk 40 l).1=true
  ·rw[ah h1] at h⊢;obtain⟨t,ht,hk⟩:=pC h1;have ft:Form t:=hf t (by rw[ht];simp)
   have yM:∀u∈(mk 40 l).2,Form u:=fun u hu=>hf u (by rw[ht];simp[hu])
   obtain⟨c,xs,hc,hv,hne,T,_⟩:=FY RQ l.length (mk 40 l).2 [] yM h;rw[oP] at hv;rw[hv];have hl:¬xs.length=0:=fun e=>hne (fK.1 e)
   exact⟨t::c,by rw[kG,hc,<-ht],T.bracket ft hk (fun o=>⟨o.1,fun p hp=>o.2 p hp⟩) (aa hl)⟩
  ·rw[aa h1] at h;cases h
theorem RS{α:Type}{ok:α->Prop}{txt:α->List UInt8}{c:List Tk}{x:α}{a:Tk}{q:List UInt8}(T:Tx ok txt c x)(hk:a.k=119)(hr:a.raw=q):wt (a::c)=q++([32]++txt x):=by
 have h:=T.br ⟨40,[40],0,0⟩ (af (ae ⟨40,rfl,rfl,by decide⟩)) rfl
 have hne:=T.ne;cases c with
 |nil=>exact absurd rfl hne
 |cons b r=>
  rw[Bw (af (ae ⟨40,rfl,rfl,by decide⟩)) rfl] at h
  have hp:bu a=q:=by unfold bu;rw[aa (by rw[hk];decide),hr]
  have s1:wr a=q:=by unfold wr;rw[aa (by rw[hk];decide),hp]
  show wr a++([32]++(wr b++dI b r))=_;rw[h,s1]
theorem FZ{s:List UInt8}(h:(err s).1=0)(hw:(wd dQ (all s)).1=true):
  ∃gs,(bO (all s)).2.2=[gs]/\KT gs/\wt (took s)=dQ++([32]++dR gs):=by
 obtain⟨_,_,h1,_⟩:=nN h;obtain⟨_,hn,hl⟩:=KU h;have mE:=FT s;have hpw:bO (all s)=((dv (wd dQ (all s)).2).1,(dv (wd dQ (all s)).2).2.1,[(dv (wd dQ (all s)).2).2.2]):=by
  unfold bO;rw[ah hw]
 rw[hpw] at h1 mE;obtain⟨a,ha,hk,hr⟩:=FX hw;have hf:∀t∈all s,Form t:=fun t ht=>Ke (E2 s t ht)
 obtain⟨c,hc,T⟩:=RQ (wd dQ (all s)).2 (fun t ht=>hf t (by rw[ha];simp[ht])) h1
 have ht:took s=a::c:=by
  refine OZ (mE.trans (ha.trans ?_));show a::_=a::(c++_);rw[hc]
 rw[ht] at hn hl;exact⟨_,by rw[hpw],T.yL (fun t h=>hn t (by simp[h])) (by simp at hl;omega),by rw[ht];exact RS T hk hr⟩
theorem KV{s:List UInt8}(h:(err s).1=0)(hw0:(wd dQ (all s)).1=false):
  (wd jk (all s)).1=true/\Bv (bO (all s)).2.2/\wt (took s)=uI (bO (all s)).2.2:=by
 obtain⟨_,_,h1,_⟩:=nN h;obtain⟨_,hn,hl⟩:=KU h;have mE:=FT s;by_cases hw:(wd jk (all s)).1=true
 ·have hpw:bO (all s)=iX (wd jk (all s)).2:=by
   unfold bO;rw[aa (by rw[hw0];simp),ah hw]
  rw[hpw] at h1 mE⊢;obtain⟨a,ha,hk,hr⟩:=FX hw;have hf:∀t∈all s,Form t:=fun t ht=>Ke (E2 s t ht)
  obtain⟨c,hc,T⟩:=acw (wd jk (all s)).2 (fun t ht=>hf t (by rw[ha];simp[ht])) h1
  have ht:took s=a::c:=by
   refine OZ (mE.trans (ha.trans ?_));show a::_=a::(c++_);rw[hc]
  rw[ht] at hn hl;exact⟨hw,T.yL (fun t h=>hn t (by simp[h])) (by simp at hl;omega),by rw[ht,RO];exact RS T hk hr⟩
 ·have hpw:bO (all s)=(false,all s,[]):=by
   unfold bO;rw[aa (by rw[hw0];simp),aa hw]
  rw[hpw] at h1;cases h1
end Pl
namespace Pl
def oC(a:Ge.Fr):List UInt8:=if a.2=1 then Lib.itoa a.1 else Lib.itoa a.1++([47]++Lib.itoa a.2)
def dE(q:Ge.Qt):List UInt8:=oC q.1++([32]++oC q.2)
end Pl
def F4(w:World)(v:Value)(g:List (Int×Int)):Prop:=w.ownsRow 0 81 1 v g.length (oc g)
def pF(w:World)(v:Value)(rg:List (List (Int×Int))):Prop:=KR 127 F4 w v rg
theorem KW{rb:Nat}{rv:Value}{rg:List (List (Int×Int))}{w:World}(h:o8 rb rv rg w):pF w rv rg:=by
 obtain⟨vs,h1,h2,h3,_⟩:=h;exact⟨vs,h1,KS h2,fun i u x hu hx=>KS (h3 i u x hu hx)⟩
theorem acx{w:World}{v:Value}{g:List (Int×Int)}(h:F4 w v g):∃so cap,v=.slice so g.length cap:=by
 rcases h.2 with⟨hv,h0⟩|⟨b,cap,cur,hv,_⟩
 ·exact⟨none,0,by rw[hv,h0]⟩
 ·exact⟨_,cap,hv⟩
theorem RU{w:World}{so:Option Addr}{n cap:Nat}{g:List (Int×Int)}(hR:F4 w (.slice so n cap) g){k:Nat}{p:Int×Int}(hp:g[k]?=some p):
  ∃b,so=some ⟨b,0,none⟩/\b<w.heap.size/\w.cell? ⟨b,k,none⟩=some (.complex .f64 (floatOfInt .f64 p.1) (floatOfInt .f64 p.2)):=by
 have a0:(oc g)[k]?=some (vX p):=by simp[oc,hp]
 obtain⟨b,c,hv,hb,hc⟩:=Fg hR a0;injection hv with hv;exact⟨b,hv,hb,hc _ _ a0⟩
def wG(w:World)(lv:Value)(acc:List Ed)(wr:World):Prop:=
 (∃xs:List EB,xs.length=acc.length/\wr.ownsRow w.heap.size 124 4 lv acc.length (mj xs)/\∀(i:Nat) x e,xs[i]?=some x->acc[i]?=some e->iH x e)/\Below w.heap.size w wr
theorem acy(l:List EB)(e:EB):mj (l++[e])=mj l++e.cells.toList:=by simp[mj]
theorem acz:(Tryz.prog.info? 124).map (fun i=>(i.zero,i.size,i.bytes))=some (some (.agg #[.complex .f64 0 0,.float .f64 0,.complex .f64 0 0,.complex .f64 0 0]),4,56):=by kernel_rfl
theorem acA{xs:List EB}{acc:List Ed}{x:EB}{e:Ed}(hlen:xs.length=acc.length)(h:∀(i:Nat) x e,xs[i]?=some x->acc[i]?=some e->iH x e)(hx:iH x e):
  ∀(i:Nat) y f,(xs++[x])[i]?=some y->(acc++[e])[i]?=some f->iH y f:=by
 intro i u y hu hy;by_cases hi:i<xs.length
 ·rw[eG hi] at hu;rw[eG (by omega)] at hy
  exact h i u y hu hy
 ·have hi2:i=xs.length:=by
   have:=(bU.1 hu).1;simp at this;omega
  subst hi2;have e1:u=x:=by simpa using hu.symm
  have e2:y=e:=by rw[hlen] at hy;simpa using hy.symm
  subst e1 e2;exact hx
theorem KX(rg:List (List (Int×Int)))(v:Value)(w:World)(hR:pF w v rg)(hok:∀g∈rg,oz g/\g.length<=402)(hl:rg.length<=161604):
  Calls Tryz.prog 36 #[v] w fun e w'=>∃v,e=.returned v/\fG w' v (Ge.ag rg)/\Below w.heap.size w w':=by
 obtain⟨so,cap,rfl⟩:=acm hR;obtain⟨i0,hi,hz0,hz1,hz2⟩:=info_parts acz;have HR:Hid (pF w (.slice so rg.length cap) rg):=hR;have Bx:Hid (∀g∈rg,oz g/\g.length<=402):=hok;clear hR hok;have bH:Hid (wG w (.slice none 0 0) [] w):=⟨⟨[],rfl,World.ownsRow_nil _ _ _ _,fun i x e h=>by simp at h⟩,Below.refl _ _⟩
 have HLEN:Hid (∀i,(Ge.ag (rg.take i)).length<=65000000):=fun i=>by
  have h:=Ge.Kr 402 (rg.take i) (fun g hg=>(Bx.out g (rU hg)).2)
  have h2:(rg.take i).length<=161604:=by simp;omega
  omega
 go_enter Tryz.func36,Tryz.ntmps36
 go_wp2_with fail
 go_loopg [3,11] rg.length (fun m lv iv wr=>∃i:Nat,i+m=rg.length/\iv=.int .i64 i/\Hid (wG w lv (Ge.ag (rg.take i)) wr))
 case atStart=>exact⟨0,by omega,rfl,bH⟩
 case round=>
  obtain⟨i,him,rfl,HE⟩:=hrel;have aj:=HE.out.2;clear bH;by_cases hlt:i<rg.length
  ·obtain⟨g,hg⟩:∃g,rg[i]?=some g:=⟨_,aD hlt⟩;obtain⟨b,u,rfl,hb,e0,KY⟩:=acn HR.out hg;obtain⟨gs,gc,rfl⟩:=acx KY;have r0:=(aj.cell (p:=⟨b,i,none⟩) hb).trans e0;have hgl:g.length<=402:=(Bx.out g (bh hg)).2;have RX:Hid (oz g):=(Bx.out g (bh hg)).1;have wH:Hid (F4 w (.slice gs g.length gc) g):=KY;have HT:Hid (Ge.ag (rg.take (i+1))=Ge.ag (rg.take i)++Ge.gH g):=Ge.abm hg;have hli:=HLEN.out i;have ez:(i:Int)<(rg.length:Int):=by omega
   have hbr:b<wr.heap.size:=aZ hb aj.size;obtain⟨m1,sQ⟩:∃m1,m1=gk:=⟨_,rfl⟩;generalize Ge.ag (rg.take i)=A1 at*;clear hg e0 KY Bx HR HLEN
   go_wp2_with fail
   go_loopg [3,17] g.length (fun m lv nv wr=>∃n:Nat,n+m=g.length/\nv=.int .i64 n/\Hid (wG w lv (A1++Ge.jy g n) wr))
   case atStart=>exact⟨0,by omega,rfl,by simpa[Ge.abj] using HE⟩
   case round=>
    obtain⟨n,hnm,rfl,oD⟩:=hrel;have fw:=oD.out.2;clear HE r0;by_cases RY:n<g.length
    ·obtain⟨P,hP⟩:∃P,g[n]?=some P:=⟨_,aD RY⟩;obtain⟨b3,rfl,hb3,p0⟩:=RU wH.out hP;have r0:=(fw.cell (p:=⟨b3,n,none⟩) hb3).trans p0;have akS:b3<wr.heap.size:=aZ hb3 fw.size;have Bz:(n:Int)<(g.length:Int):=by omega
     obtain⟨M,Q,hQ,RZ,hM⟩:∃(M:Nat)(Q:Int×Int),g[M]?=some Q/\Ge.uz g n=some Q/\(((n:Int)+1)%(g.length:Int)=(M:Int)/\M<g.length/\(n+1)%g.length=M):=by
      by_cases kM:n+1<g.length
      ·exact⟨n+1,_,aD kM,by unfold Ge.uz;rw[ah kM];exact aD kM,by rw[Int.emod_eq_of_lt (by omega) (by omega)];omega,kM,Zx kM⟩
      ·have qA:n+1=g.length:=by omega
       exact⟨0,_,aD (show 0<g.length by omega),by unfold Ge.uz;rw[aa kM];exact aD (show 0<g.length by omega),by rw[show((n:Int)+1)=(g.length:Int) by omega,Int.emod_self];rfl,by omega,by rw[qA,Nat.mod_self]⟩
     obtain⟨hM1,hM2,hM3⟩:=hM;obtain⟨b4,hb4,_,f0⟩:=RU wH.out hQ;injection hb4 with hb4;injection hb4 with hb4;subst hb4;have s0:=(fw.cell (p:=⟨b3,M,none⟩) hb3).trans f0;have hMl:(M:Int)<(g.length:Int):=by omega
     have dh:¬((g.length:Int)=0):=by omega
     have Sa:¬(g.length=0):=by omega
     have HP:Hid (g[n]?=some P):=hP;have HQ:Hid (Ge.uz g n=some Q):=RZ;have BA:Hid (gM P.1/\gM P.2):=RX.out P (bh hP);have BB:Hid (gM Q.1/\gM Q.2):=RX.out Q (bh hQ);obtain⟨P1,P2⟩:=P;obtain⟨Q1,Q2⟩:=Q;clear p0 f0 hP hQ RZ;simp only at r0 s0;have qO:Fl (floatOfInt .f64 P1) P1:=lN (by have:=BA.out.1;unfold gM at this;omega)
     have qP:Fl (floatOfInt .f64 P2) P2:=lN (by have:=BA.out.2;unfold gM at this;omega)
     have qQ:Fl (floatOfInt .f64 Q1) Q1:=lN (by have:=BB.out.1;unfold gM at this;omega)
     have qR:Fl (floatOfInt .f64 Q2) Q2:=lN (by have:=BB.out.2;unfold gM at this;omega)
     have uJ:(!((FloatKind.f64.format.order (floatOfInt .f64 P1) (floatOfInt .f64 Q1) == some .eq)&&(FloatKind.f64.format.order (floatOfInt .f64 P2) (floatOfInt .f64 Q2) == some .eq)))= !(decide (P1=Q1)&&decide (P2=Q2)):=by
      rw[qG qO qQ,qG qP qR]
     obtain⟨wa,wb,sh,l1,l2,l3,Sb⟩:=abq qO qP qQ qR (by have:=BA.out.1;unfold gM at this;omega) (by have:=BA.out.2;unfold gM at this;omega) (by have:=BB.out.1;unfold gM at this;omega) (by have:=BB.out.2;unfold gM at this;omega)
     have HX:Hid (iH ⟨wa,wb,sh,floatOfInt .f64 P1,floatOfInt .f64 P2,floatOfInt .f64 Q1,floatOfInt .f64 Q2⟩ ((P1,P2),(Q1,Q2))):=⟨l1,l2,l3,qO,qP,qQ,qR⟩;have Sc:Hid (∀w,Calls Tryz.prog 64 #[.complex .f64 (floatOfInt .f64 P1) (floatOfInt .f64 P2),.complex .f64 (floatOfInt .f64 Q1) (floatOfInt .f64 Q2)] w fun e w'=>e=.returned (.agg #[.complex .f64 wa wb,.float .f64 sh])/\Below w.heap.size w w'):=Sb
     clear Sb l1 l2 l3 qO qP qQ qR BA BB;generalize floatOfInt .f64 P1=qO at*;generalize floatOfInt .f64 P2=qP at*;generalize floatOfInt .f64 Q1=qQ at*;generalize floatOfInt .f64 Q2=qR at*;by_cases jT:(P1,P2)=(Q1,Q2)
     ·injection jT with KZ K0;have hc:(!((FloatKind.f64.format.order qO qQ == some .eq)&&(FloatKind.f64.format.order qP qR == some .eq)))=false:=by rw[uJ,KZ,K0];simp
      have HN:Hid (wG w u3 (A1++Ge.jy g (n+1)) wr):=by
       rw[Ge.abk HP.out HQ.out (by rw[KZ,K0])];exact oD.out
      clear uJ KZ K0 oD
      go_wp2_with fail
      go_roundg (gk-1)
      case measure=>omega
      case rel=>exact⟨n+1,by omega,by go_num,HN⟩
     ·have hc:(!((FloatKind.f64.format.order qO qQ == some .eq)&&(FloatKind.f64.format.order qP qR == some .eq)))=true:=by
       rw[uJ];by_cases h1:P1=Q1
       ·by_cases h2:P2=Q2
        ·exact absurd (by rw[h1,h2]) jT
        ·simp[h2]
       ·simp[h1]
      have uK:Hid (Ge.jy g (n+1)=Ge.jy g n++[((P1,P2),(Q1,Q2))]):=Ge.abl HP.out HQ.out jT;have hal:(A1++Ge.jy g n).length<=65000402:=by
       have:=Ge.Kq g n;simp only[aT];omega
      obtain⟨A3,K1⟩:∃A3,A3=A1++Ge.jy g n:=⟨_,rfl⟩;have HA:Hid (A3=A1++Ge.jy g n):=K1;rw[<-K1] at hal oD;clear uJ jT K1
      go_wp2_with fail
      refine(Sc.out _).mono ?_;rintro e w5 ⟨rfl,az⟩;obtain⟨⟨xs,hx1,hx2,hx3⟩,_⟩:=oD.out;have Sh:Hid (∀(i:Nat) x e,xs[i]?=some x->A3[i]?=some e->iH x e):=hx3;have ib:=fw.trans (az.mono fw.size);have cI:w5.ownsRow w.heap.size 124 4 u3 A3.length (mj xs):=aO hx2 fun k hk=>az.block k (aB hx2 k hk).2
      have hs5:=ib.size;clear hx2 hx3 oD
      go_wp2_with (at_builtin;refine wpList_append_lies _ rfl (.tmp 33) (.tmp 40) 72 rfl w.heap.size 124 i0 _ 4 56 Tryz.underlying72 hi hz0 hz1 hz2 rfl (by decide) u3 A3.length (mj xs) rfl (aO cI (fun k hk=>Below.heap_alloc _ _ _ (aB cI k hk).2)) ⟨w5.heap.size,0,none⟩ 1 1 [.complex .f64 wa wb,.float .f64 sh,.complex .f64 qO qP,.complex .f64 qQ qR] rfl rfl (World.news_of_block (cs:= #[.complex .f64 wa wb,.float .f64 sh,.complex .f64 qO qP,.complex .f64 qQ qR]) (t:=124) (fr:=(0,0)) (heap_alloc_new w5 _)) (by simp[Value.oneCell']) (by decide) (by unfold maxLen;omega) (by omega) (by simp;omega) (w5.heap.size+1) (by simp) ?_;intro g' cap' w6 eN jA yN yO)
      have HN:Hid (wG w (.slice (some ⟨g',0,none⟩) (A3.length+1) cap') (A1++Ge.jy g (n+1)) w6):=by
       rw[uK.out,<-eF,<-HA.out];refine⟨⟨xs++[⟨wa,wb,sh,qO,qP,qQ,qR⟩],by simp[hx1],?_,acA hx1 Sh.out HX.out⟩,(ib.alloc ib.size _).grown jA (by simp;omega) (fun k hk=>(aB cI k hk).1)⟩
       rw[acy,aT];exact eN
      clear eN jA cI HX Sh Sc
      go_roundg (gk-1)
      case measure=>omega
      case rel=>exact⟨n+1,by omega,by go_num,HN⟩
    ·have hn:n=g.length:=by omega
     subst hn;have HN:Hid (wG w u3 (Ge.ag (rg.take (i+1))) wr):=by
      rw[HT.out,<-Ge.Ko];exact oD.out
     clear oD wH HT
     go_wp2_with fail
     go_roundg (m1-1)
     case measure=>omega
     case rel=>exact⟨i+1,by omega,by go_num,HN⟩
  ·have hk:i=rg.length:=by omega
   subst hk;have HF:Hid (wG w u3 (Ge.ag rg) wr):=by
    have:=HE.out;rw[fg] at this;exact this
   clear HE HR Bx HLEN
   go_wp2_with fail
   go_ret
   obtain⟨⟨xs,h1,h2,h3⟩,h4⟩:=HF.out;exact⟨_,rfl,⟨xs,h1,KS h2,h3⟩,h4⟩
namespace Pl
def rings(s:List UInt8):List (List (Int×Int)):=(bO (all s)).2.2.flatten
def wI(x y d:Int):Bool:=decide (d<1)||decide (d>60)||decide (x< -100000)||decide (x>100000)||decide (y< -100000)||decide (y>100000)
def qT(s:List UInt8)(x y d:Int):Int×Bool×Nat×Nat:=
 if(err s).1=0 then
  if wI x y d then(0,false,5,0)
  else if(Ge.ag (rings s)).any (Ge.fo (x,y) d) then(0,true,0,0)
  else(Ge.total (Ge.fu (x,y) d) (Ge.ag (rings s)),false,0,0)
 else(0,false,err s)
def wJ(r:Int×Bool×Nat×Nat):Value:=.tuple #[.int .i64 r.1,.bool r.2.1,.int .i64 r.2.2.1,.int .i64 r.2.2.2]
end Pl
theorem acB{ps:List (List (List (Int×Int)))}(hok:Bv ps):∀e∈Ge.ag ps.flatten,dU e:=fun e he=>by
 obtain⟨g,hg,h1,h2⟩:=Ge.abo he;obtain⟨p,hp,F5⟩:=xQ.1 hg;have ho:=((hok.2 p hp).2 g F5).1;exact⟨(ho _ h1).1,(ho _ h1).2,(ho _ h2).1,(ho _ h2).2⟩
theorem acC{ps:List (List (List (Int×Int)))}(hok:Bv ps):(Ge.ag ps.flatten).length<=65000000:=by
 have h:=Ge.QP 402 402 ps (fun p hp=>⟨(hok.2 p hp).1,fun g hg=>((hok.2 p hp).2 g hg).2⟩)
 have:=hok.1;omega
namespace Ge
theorem F6{x y d X Y D G:Int}(hx:x=G*X)(hy:y=G*Y)(hd:d=G*D)(a:Pt):rel (x,y) d a=(G*(rel (X,Y) D a).1,G*(rel (X,Y) D a).2):=by
 unfold rel;rw[hx,hy,hd];simp only[Zy];constructor<;>grind
theorem sc{G z:Int}(h:0<G):(0<G*z↔0<z)/\(G*z<0↔z<0)/\(G*z=0↔z=0)/\(G*z<=0↔z<=0):=by
 rcases eD z 0 with hz|hz|hz
 ·have:=tZ h hz;omega
 ·subst hz;omega
 ·have:=aR h hz;omega
theorem Si(G:Int)(u v:Pt):cr (G*u.1,G*u.2) (G*v.1,G*v.2)=(G*G)*cr u v:=by unfold cr;grind
theorem acD(G:Int)(u v:Pt):dt (G*u.1,G*u.2) (G*v.1,G*v.2)=(G*G)*dt u v:=by unfold dt;grind
theorem K2{x y d X Y D G:Int}(hG:0<G)(hx:x=G*X)(hy:y=G*Y)(hd:d=G*D)(e:Pt×Pt):fo (x,y) d e=fo (X,Y) D e:=by
 unfold fo on;rw[F6 hx hy hd,F6 hx hy hd,Si,acD];have h2:=aR hG hG;congr 1
 ·exact decide_eq_decide.2 (sc h2).2.2.1
 ·exact decide_eq_decide.2 (sc h2).2.2.2
theorem acE{x y d X Y D G:Int}(hG:0<G)(hx:x=G*X)(hy:y=G*Y)(hd:d=G*D)(a b:Pt):fr (x,y) d a b=fr (X,Y) D a b:=by
 unfold fr right;rw[F6 hx hy hd,F6 hx hy hd,Si];have h2:=aR hG hG;simp only[(sc h2).1,(sc h2).2.1,(sc hG).1,(sc hG).2.2.2]
theorem Sj{f g:Pt->Pt->Int}(l:List (Pt×Pt))(h:∀a b,f a b=g a b):total f l=total g l:=by
 unfold total;congr 1;exact Jk fun e _=>h e.1 e.2
end Ge
theorem acF{s:List UInt8}(h:(Pl.err s).1=0):Bv (Pl.bO (Pl.all s)).2.2:=by
 cases hw:(Pl.wd Pl.dQ (Pl.all s)).1
 ·exact(Pl.KV h hw).2.1
 ·obtain⟨gs,e,h1,_⟩:=Pl.FZ h hw;rw[e];exact⟨by simp,fun g hg=>by rw[bI.1 hg];exact h1⟩
theorem acG{ps:List (List (List (Int×Int)))}(h:∀p∈ps,p.length<=402):ps.flatten.length<=ps.length*402:=by
 induction ps with
 |nil=>simp
 |cons p r ih=>
  have h1:=ih (fun x hx=>h x (by simp[hx]))
  have h2:=h p (by simp)
  rw[Et,aT,cG,Es];omega
theorem F7{s:List UInt8}(h:(Pl.err s).1=0):(∀g∈Pl.rings s,oz g/\g.length<=402)/\(Pl.rings s).length<=161604/\(∀e∈Ge.ag (Pl.rings s),dU e)/\(Ge.ag (Pl.rings s)).length<=65000000:=by
 have hok:=acF h;refine⟨fun g hg=>?_,?_,acB hok,acC hok⟩
 ·obtain⟨p,hp,F5⟩:=xQ.1 hg;exact(hok.2 p hp).2 g F5
 ·have h1:=acG (fun p hp=>(hok.2 p hp).1)
  have h2:=hok.1;unfold Pl.rings;omega
theorem acH{s:List UInt8}{x y d:Int}(h:(Pl.err s).1=0)(hb:Pl.wI x y d=false){X Y D G:Int}(hG:0<G)(hx:x=G*X)(hy:y=G*Y)(hd:d=G*D):
  Pl.qT s x y d=if(Ge.ag (Pl.rings s)).any (Ge.fo (X,Y) D) then(0,true,0,0) else(Ge.total (Ge.fr (X,Y) D) (Ge.ag (Pl.rings s)),false,0,0):=by
 unfold Pl.qT;rw[ah h,aa (by rw[hb];simp)]
 have e1:Ge.fo (x,y) d=Ge.fo (X,Y) D:=funext fun e=>Ge.K2 hG hx hy hd e
 rw[e1];by_cases ha:(Ge.ag (Pl.rings s)).any (Ge.fo (X,Y) D)=true
 ·rw[ah ha,ah ha]
 ·rw[aa ha,aa ha];have hno:∀e,e∈Ge.ag (Pl.rings s)->Ge.fo (x,y) d e=false:=fun e he=>by
   rw[e1];cases hf:Ge.fo (X,Y) D e
   ·rfl
   ·exact absurd (Ag.2 ⟨e,he,hf⟩) ha
  rw[<-Ge.Pd (x,y) d (Pl.rings s) hno,Ge.Sj _ (Ge.acE hG hx hy hd)]
namespace Pl
def BC{α:Type}(sz:α->Nat)(item:List Tk->Bool×List Tk×α):Prop:=∀l,(item l).1=true->sz (item l).2.2+(item l).2.1.length<=l.length
def bA{α:Type}(sz:α->Nat)(l:List α):Nat:=(l.map sz).sum
theorem Sk{α:Type}(sz:α->Nat)(l:List α)(x:α):bA sz (l++[x])=bA sz l+sz x:=by simp[bA]
theorem mk_le(c:Nat)(l:List Tk):(mk c l).2.length<=l.length:=by
 cases l with
 |nil=>simp[mk]
 |cons t r=>
  have e:mk c (t::r)=if t.k=c then(true,r) else(false,t::r):=rfl
  rw[e];split<;>simp
theorem F8(q:List UInt8)(l:List Tk):(wd q l).2.length<=l.length:=by
 cases l with
 |nil=>simp[wd]
 |cons t r=>
  have e:wd q (t::r)=if t.k=119/\t.raw=q then(true,r) else(false,t::r):=rfl
  rw[e];split<;>simp
theorem F9{α:Type}{sz:α->Nat}{item:List Tk->Bool×List Tk×α}(hi:BC sz item):
  ∀(f:Nat)(l:List Tk)(acc:List α),(bY item f l acc).1=true->bA sz (bY item f l acc).2.2+(bY item f l acc).2.1.length<=bA sz acc+l.length
 |0,l,acc,h=>by cases h
 |f+1,l,acc,h=>by
  unfold bY at h⊢;by_cases h1:(item l).1=true
  ·have k1:=hi l h1;rw[ah h1] at h⊢;by_cases h2:(mk 44 (item l).2.1).1=true
   ·rw[ah h2] at h⊢;have ih:=F9 hi f _ _ h;have k2:=mk_le 44 (item l).2.1;rw[Sk] at ih;omega
   ·rw[aa h2];have k2:=mk_le 41 (item l).2.1;simp only;rw[Sk];omega
  ·rw[aa h1] at h;cases h
theorem acI:BC (fun _=>1) fq:=fun l h=>by
 match l,h with
 |[],h=>cases h
 |[x],h=>cases h
 |x::y::r,h=>
  have e:fq (x::y::r)=if x.k=110 then(if y.k=110 then(true,r,(x.n,y.n)) else(false,y::r,(0,0))) else(false,x::y::r,(0,0)):=rfl
  rw[e] at h⊢;split
  ·split
   ·simp;omega
   ·simp;omega
  ·rename_i hx;rw[aa hx] at h;cases h
theorem acJ:BC (bA fun _=>1) ia:=fun l h=>by
 unfold ia at h⊢;by_cases h1:(mk 40 l).1=true
 ·have k1:=mk_le 40 l;rw[ah h1] at h⊢;by_cases h2:(mk 41 (mk 40 l).2).1=true
  ·have k2:=mk_le 41 (mk 40 l).2;rw[ah h2];simp[bA];omega
  ·rw[aa h2] at h⊢;have k:=F9 acI _ _ _ h;have e:bA (fun _:Int×Int=>1) []=0:=rfl
   omega
 ·rw[aa h1] at h;cases h
theorem Sl:BC (bA (bA fun _=>1)) dv:=fun l h=>by
 unfold dv at h⊢;by_cases h0:(wd EMPTY l).1=true
 ·have k0:=F8 EMPTY l;rw[ah h0];simp[bA];exact k0
 ·rw[aa h0] at h⊢;by_cases h1:(mk 40 l).1=true
  ·have k1:=mk_le 40 l;rw[ah h1] at h⊢;have k:=F9 acJ _ _ _ h;have e:bA (bA fun _=>1) ([]:List (List (Int×Int)))=0:=rfl
   omega
  ·rw[aa h1] at h;cases h
theorem acK:BC (bA (bA (bA fun _=>1))) iX:=fun l h=>by
 unfold iX at h⊢;by_cases h0:(wd EMPTY l).1=true
 ·have k0:=F8 EMPTY l;rw[ah h0];simp[bA];exact k0
 ·rw[aa h0] at h⊢;by_cases h1:(mk 40 l).1=true
  ·have k1:=mk_le 40 l;rw[ah h1] at h⊢;have k:=F9 Sl _ _ _ h;have e:bA (bA (bA fun _=>1)) ([]:List (List (List (Int×Int))))=0:=rfl
   omega
  ·rw[aa h1] at h;cases h
theorem acL{α:Type}(l:List α):bA (fun _=>1) l=l.length:=by
 induction l with
 |nil=>rfl
 |cons a l ih=>
  have e:bA (fun _=>1) (a::l)=1+bA (fun _=>1) l:=by simp[bA]
  rw[e,ih,cG];omega
theorem acM(rg:List (List (Int×Int))):(Ge.ag rg).length<=bA (bA fun _=>1) rg:=by
 induction rg with
 |nil=>simp[Ge.ag]
 |cons g r ih=>
  have e:Ge.ag (g::r)=Ge.gH g++Ge.ag r:=vw;have h1:(Ge.gH g).length<=g.length:=by rw[<-Ge.Ko];exact Ge.Kq g _
  have h2:bA (bA fun _=>1) (g::r)=bA (fun _=>1) g+bA (bA fun _=>1) r:=by simp[bA]
  rw[e,aT,h2,acL];omega
theorem acN(ps:List (List (List (Int×Int)))):bA (bA fun _=>1) ps.flatten=bA (bA (bA fun _=>1)) ps:=by
 induction ps with
 |nil=>rfl
 |cons p r ih=>
  have h1:bA (bA fun _=>1) (p++r.flatten)=bA (bA fun _=>1) p+bA (bA fun _=>1) r.flatten:=by simp[bA]
  have h2:bA (bA (bA fun _=>1)) (p::r)=bA (bA fun _=>1) p+bA (bA (bA fun _=>1)) r:=by simp[bA]
  rw[Et,h1,h2,ih]
theorem Sm{s:List UInt8}(h:(err s).1=0):(Ge.ag (rings s)).length<=402:=by
 obtain⟨h5,_,h1,_⟩:=nN h;have hl:=E3 s;have k:bA (bA (bA fun _=>1)) (bO (all s)).2.2<=(all s).length:=by
  unfold bO at h1⊢;by_cases hw:(wd dQ (all s)).1=true
  ·rw[ah hw] at h1⊢;have k1:=Sl _ h1;have k2:=F8 dQ (all s);have e:bA (bA (bA fun _=>1)) [(dv (wd dQ (all s)).2).2.2]=bA (bA fun _=>1) (dv (wd dQ (all s)).2).2.2:=by simp[bA]
   simp only;rw[e];omega
  ·rw[aa hw] at h1⊢;by_cases hm:(wd jk (all s)).1=true
   ·rw[ah hm] at h1⊢;have k1:=acK _ h1;have k2:=F8 jk (all s);omega
   ·rw[aa hm] at h1;cases h1
 have k2:=acM (rings s);have k3:bA (bA fun _=>1) (rings s)=bA (bA (bA fun _=>1)) (bO (all s)).2.2:=acN _
 have k4:s.length<=400:=by
  unfold err at h;by_cases hs:400<s.length
  ·rw[ah hs] at h;cases h
  ·omega
 omega
end Pl
namespace Ge
def pG(acc:List Qt)(c:List Qt):List Qt:=c.foldl (fun a q=>ins q a) acc
def eO(l:List (Pt×Pt)):List Qt:=l.foldl (fun acc e=>pG acc (nM l e)) []
end Ge
namespace Pl
def wK(s:List UInt8):List UInt8:=if(err s).1=0 then aU dE (Ge.eO (Ge.ag (rings s))) else[]
end Pl
namespace Ge
def isNode(l:List (Pt×Pt))(q:Qt):Prop:=
 (∃e∈l,q=pt e.1\/q=pt e.2)\/∃e∈l,∃f∈l,cu e f≠0/\q=eA e f/\hq (eA e f) e=true/\hq (eA e f) f=true
theorem Sn:∀(c acc:List Qt),(∀q∈acc,fL q)->(∀q∈c,fL q)->∀r,r∈pG acc c↔r∈acc\/r∈c
 |[],acc,_,_,r=>by simp[pG]
 |q::c,acc,ha,hc,r=>by
  have hq:=hc q (by simp)
  have e:pG acc (q::c)=pG (ins q acc) c:=rfl;rw[e,Sn c (ins q acc) (uE hq ha) (fun x hx=>hc x (by simp[hx])) r,qK hq ha r,aP]
  constructor
  ·rintro((h|h)|h)
   ·exact af (ae h)
   ·exact ae h
   ·exact af (af h)
  ·rintro(h|h|h)
   ·exact ae (af h)
   ·exact ae (ae h)
   ·exact af h
def adds(e f:Pt×Pt)(r:Qt):Prop:=
 (cu e f≠0/\r=eA e f/\hq (eA e f) e=true/\hq (eA e f) f=true)\/(cu e f=0/\((r=pt f.1/\hq (pt f.1) e=true)\/(r=pt f.2/\hq (pt f.2) e=true)))
theorem acO{e f:Pt×Pt}{o:List Qt}(ho:∀q∈o,fL q):(∀q∈wE e o f,fL q)/\∀r,r∈wE e o f↔r∈o\/adds e f r:=by
 unfold wE adds;by_cases hc:cu e f=0
 ·rw[ah hc];dsimp only;have h1:=qK (qM f.1) ho;have r1:=uE (qM f.1) ho;by_cases a:hq (pt f.1) e=true
  ·rw[ah a];have h2:=qK (qM f.2) r1;by_cases b:hq (pt f.2) e=true
   ·rw[ah b];refine⟨uE (qM f.2) r1,fun r=>?_⟩
    rw[h2,h1];simp only[hc,a,b,ne_eq,ua,rP,rR,oQ,rO];constructor
    ·rintro(h|h|h)
     ·exact af (af h)
     ·exact af (ae h)
     ·exact ae h
    ·rintro(h|h|h)
     ·exact af (af h)
     ·exact af (ae h)
     ·exact ae h
   ·rw[aa b];refine⟨r1,fun r=>?_⟩
    rw[h1]
    grind
  ·rw[aa a];have h2:=qK (qM f.2) ho;by_cases b:hq (pt f.2) e=true
   ·rw[ah b];refine⟨uE (qM f.2) ho,fun r=>?_⟩
    rw[h2]
    grind
   ·rw[aa b];refine⟨ho,fun r=>?_⟩
    simp[hc,a,b]
 ·rw[aa hc];have h1:=qK (RA hc) ho;by_cases a:(hq (eA e f) e&&hq (eA e f) f)=true
  ·rw[ah a];obtain⟨a1,a2⟩:=(Bool.and_eq_true_iff).1 a;refine⟨uE (RA hc) ho,fun r=>?_⟩
   rw[h1];simp only[hc,a1,a2,ne_eq,vB,rR,oQ,rP,rQ];exact⟨fun h=>h.symm,fun h=>h.symm⟩
  ·rw[aa a];refine⟨ho,fun r=>?_⟩
   constructor
   ·exact ae
   ·rintro(h|⟨_,_,h1,h2⟩|⟨h,_⟩)
    ·exact h
    ·exact absurd (by rw[h1,h2];rfl) a
    ·exact absurd h hc
theorem Sp(e:Pt×Pt):∀(l:List (Pt×Pt))(o:List Qt),(∀q∈o,fL q)->(∀q∈l.foldl (wE e) o,fL q)/\∀r,r∈l.foldl (wE e) o↔r∈o\/∃f∈l,adds e f r
 |[],o,ho=>⟨ho,fun r=>by simp⟩
 |f::l,o,ho=>by
  obtain⟨h1,h2⟩:=acO (e:=e) (f:=f) ho;obtain⟨h3,h4⟩:=Sp e l (wE e o f) h1;refine⟨h3,fun r=>?_⟩
  rw[qj,h4,h2];constructor
  ·rintro((h|h)|⟨g,hg,h⟩)
   ·exact ae h
   ·exact af ⟨f,by simp,h⟩
   ·exact af ⟨g,by simp[hg],h⟩
  ·rintro(h|⟨g,hg,h⟩)
   ·exact ae (ae h)
   ·rcases aP.1 hg with e'|e'
    ·subst e';exact ae (af h)
    ·exact af ⟨g,e',h⟩
theorem Gc(l:List (Pt×Pt))(e:Pt×Pt):(∀q∈nM l e,fL q)/\∀r,r∈nM l e↔r=pt e.1\/r=pt e.2\/∃f∈l,adds e f r:=by
 have h0:∀q∈([]:List Qt),fL q:=fun q h=>by simp at h
 have h1:=uE (qM e.1) h0;have h2:=uE (qM e.2) h1;obtain⟨h3,h4⟩:=Sp e l _ h2;refine⟨h3,fun r=>?_⟩
 unfold nM;rw[h4,qK (qM e.2) h1,qK (qM e.1) h0];constructor
 ·rintro((h|h|h)|h)
  ·exact af (ae h)
  ·exact ae h
  ·simp at h
  ·exact af (af h)
 ·rintro(h|h|h)
  ·exact ae (af (ae h))
  ·exact ae (ae h)
  ·exact af h
theorem Sq(L:List (Pt×Pt)):∀(l:List (Pt×Pt))(acc:List Qt),(∀q∈acc,fL q)->qJ acc->
  (∀q∈l.foldl (fun acc e=>pG acc (nM L e)) acc,fL q)/\qJ (l.foldl (fun acc e=>pG acc (nM L e)) acc)/\∀r,r∈l.foldl (fun acc e=>pG acc (nM L e)) acc↔r∈acc\/∃e∈l,r∈nM L e
 |[],acc,h,ha=>⟨h,ha,fun r=>by simp⟩
 |e::l,acc,h,ha=>by
  have hc:=(Gc L e).1;have hm:=Sn (nM L e) acc h hc;have hr:∀q∈pG acc (nM L e),fL q:=fun q hq=>by
   rcases(hm q).1 hq with k|k
   ·exact h q k
   ·exact hc q k
  have has:qJ (pG acc (nM L e)):=by
   clear hm hr;generalize nM L e=c at hc;induction c generalizing acc with
   |nil=>exact ha
   |cons q c ih=>
    have hq:=hc q (by simp)
    exact ih (ins q acc) (uE hq h) (Q9 hq h ha) (fun x hx=>hc x (by simp[hx]))
  obtain⟨h1,h2,h3⟩:=Sq L l (pG acc (nM L e)) hr has;refine⟨h1,h2,fun r=>?_⟩
  rw[qj,h3,hm];constructor
  ·rintro((k|k)|⟨g,hg,k⟩)
   ·exact ae k
   ·exact af ⟨e,by simp,k⟩
   ·exact af ⟨g,by simp[hg],k⟩
  ·rintro(k|⟨g,hg,k⟩)
   ·exact ae (ae k)
   ·rcases aP.1 hg with e'|e'
    ·subst e';exact ae (af k)
    ·exact af ⟨g,e',k⟩
theorem BF(l:List (Pt×Pt)):(∀q∈eO l,fL q)/\qJ (eO l)/\∀r,r∈eO l↔isNode l r:=by
 obtain⟨h1,h2,h3⟩:=Sq l l [] (fun q h=>by simp at h) List.Pairwise.nil
 refine⟨h1,h2,fun r=>?_⟩
 unfold eO;rw[h3];unfold isNode;constructor
 ·rintro(h|⟨e,he,h⟩)
  ·simp at h
  ·rcases((Gc l e).2 r).1 h with h|h|⟨f,hf,h⟩
   ·exact ae ⟨e,he,ae h⟩
   ·exact ae ⟨e,he,af h⟩
   ·rcases h with⟨a,b,c,d⟩|⟨_,⟨h,_⟩|⟨h,_⟩⟩
    ·exact af ⟨e,he,f,hf,a,b,c,d⟩
    ·exact ae ⟨f,hf,ae h⟩
    ·exact ae ⟨f,hf,af h⟩
 ·rintro(⟨e,he,h⟩|⟨e,he,f,hf,a,b,c,d⟩)
  ·refine af ⟨e,he,((Gc l e).2 r).2 ?_⟩;rcases h with h|h
   ·exact ae h
   ·exact af (ae h)
  ·exact af ⟨e,he,((Gc l e).2 r).2 (af (af ⟨f,hf,ae ⟨a,b,c,d⟩⟩))⟩
theorem Sr(e f:Pt×Pt):cu f e= -cu e f:=by unfold cu;grind
theorem acP{e f:Pt×Pt}(h:cu e f≠0):eA f e=eA e f:=by
 have h':cu f e≠0:=by rw[Sr];omega
 unfold eA;have e1:mX f e*cu e f=mX e f*cu f e:=by unfold mX mT cu;grind
 have e2:mY f e*cu e f=mY e f*cu f e:=by unfold mY mT cu;grind
 rw[yB h' h e1,yB h' h e2]
end Ge
theorem qU(x:Int)(g:Nat): -(x.natAbs:Int)<=x.tdiv g/\x.tdiv g<=(x.natAbs:Int):=by
 have h:(x.tdiv g).natAbs<=x.natAbs:=by
  rw[Int.natAbs_tdiv];exact Nat.div_le_self _ _
 omega
theorem acQ{a b:Nat}{x y:Int}(D:Int)(h1:Fl a x)(h2:Fl b y)(hx: -16000000<=x/\x<=16000000)(hy: -16000000<=y/\y<=16000000)(hD:D<0/\ -300000<=D)(G:Nat)(hG:Int.gcd (Int.gcd x y:Nat) D=G)(w:World):
  Calls Tryz.prog 37 #[.complex .f64 a b,.int .i64 D] w fun e w'=>e=.returned (.agg #[.complex .f64 (floatOfInt .f64 (x.tdiv (-(G:Int)))) (floatOfInt .f64 (y.tdiv (-(G:Int)))),.int .i64 (D.tdiv (-(G:Int)))])/\Below w.heap.size w w':=by
 have sJ:0<G:=by rw[<-hG];exact qI (by omega)
 have abC:Int.gcd x y<=16000000:=by
  by_cases hz:x=0
  ·rw[hz,Int.gcd_zero_left];omega
  ·have:=aki (b:=y) hz;omega
 have hGD:G<=300000:=by
  have:=akj (a:=(Int.gcd x y:Nat)) (b:=D) (by omega)
  omega
 have c1:=h1.int (by omega) (by omega)
 have c2:=h2.int (by omega) (by omega)
 have hc1:∀w,(convert 120 3 (.float .f64 a)).run Tryz.prog w=.ok (.int .i64 x) w:=fun w=>run_convert_float_int w 120 3 .f64 .i64 a x (by rw[Tryz.underlying120];rfl) Tryz.underlying3 c1
 have hc2:∀w,(convert 120 3 (.float .f64 b)).run Tryz.prog w=.ok (.int .i64 y) w:=fun w=>run_convert_float_int w 120 3 .f64 .i64 b y (by rw[Tryz.underlying120];rfl) Tryz.underlying3 c2
 have KC:Hid (∀w1,Calls Tryz.prog 65 #[.int .i64 x,.int .i64 y] w1 fun e w'=>e=.returned (.int .i64 (Int.gcd x y:Nat))/\Below w1.heap.size w1 w'):=fun w1=>Bj x y w1 (by omega) (by omega)
 have KD:Hid (∀w1,Calls Tryz.prog 65 #[.int .i64 (Int.gcd x y:Nat),.int .i64 D] w1 fun e w'=>e=.returned (.int .i64 (G:Int))/\Below w1.heap.size w1 w'):=fun w1=>by rw[<-hG];exact Bj _ D w1 (by omega) (by omega)
 obtain⟨XQ,wm⟩:∃q,q=x.tdiv (-(G:Int)):=⟨_,rfl⟩;obtain⟨YQ,wo⟩:∃q,q=y.tdiv (-(G:Int)):=⟨_,rfl⟩;obtain⟨DQ,wq⟩:∃q,q=D.tdiv (-(G:Int)):=⟨_,rfl⟩;rw[<-wm,<-wo,<-wq];have HP:Hid (∀w1,Calls Tryz.prog 38 #[.int .i64 XQ,.int .i64 YQ] w1 fun e w'=>e=.returned (.complex .f64 (floatOfInt .f64 XQ) (floatOfInt .f64 YQ))/\w'=w1):=fun w1=>AY _ _ w1
 have hw1:IntKind.i64.wrap (x.tdiv (-(G:Int)))=XQ:=by rw[wm,vH,IntKind.wrap_i64];have:=qU x G;omega
 have hw2:IntKind.i64.wrap (y.tdiv (-(G:Int)))=YQ:=by rw[wo,vH,IntKind.wrap_i64];have:=qU y G;omega
 have hw3:IntKind.i64.wrap (D.tdiv (-(G:Int)))=DQ:=by rw[wq,vH,IntKind.wrap_i64];have:=qU D G;omega
 have qH:IntKind.i64.wrap (-(x.tdiv (G:Int)))=XQ:=by rw[<-vH];exact hw1
 have Gd:IntKind.i64.wrap (-(y.tdiv (G:Int)))=YQ:=by rw[<-vH];exact hw2
 have jB:IntKind.i64.wrap (-(D.tdiv (G:Int)))=DQ:=by rw[<-vH];exact hw3
 have hw4:IntKind.i64.wrap (-(G:Int))= -(G:Int):=by rw[IntKind.wrap_i64];omega
 clear wm wo wq;have Q3:¬G=0:=by omega
 have Q4:¬(-(G:Int)=0):=by omega
 generalize Int.gcd x y=GXY at*;clear c1 c2 h1 h2 hG;have hE:=heap_alloc_new w (.cells #[.complex .f64 0 0,.int .i64 0] 83);have hb0:Below w.heap.size w (w.alloc (.cells #[.complex .f64 0 0,.int .i64 0] 83)):=(Below.refl _ _).alloc (ax _) _;have hz:w.heap.size<(w.alloc (.cells #[.complex .f64 0 0,.int .i64 0] 83)).heap.size:=by simp
 go_enter Tryz.func37,Tryz.ntmps37
 go_wp2_with (first |(simp only[hc1])|(simp only[hc2]))
 generalize w.alloc (.cells #[.complex .f64 0 0,.int .i64 0] 83)=W at*;generalize hB:w.heap.size=B at*;refine(KC.out _).mono ?_;rintro e w1 ⟨rfl,hb1⟩
 go_wp2_with fail
 refine(KD.out _).mono ?_;rintro e w2 ⟨rfl,hb2⟩;have hs1:=hb1.size;have df:=(hb2.block _ (show B<w1.heap.size by omega)).trans ((hb1.block _ hz).trans hE)
 have aj:=(hb0.trans (hb1.mono (dN hz))).trans (hb2.mono (by omega))
 have e0:w2.cell? ⟨B,0,none⟩=some (.complex .f64 0 0):=cell_of df 0;have e1:w2.cell? ⟨B,1,none⟩=some (.int .i64 0):=cell_of df 1;have z0:w2.frozen? ⟨B,0,none⟩=false:=aX df 0;have z1:w2.frozen? ⟨B,1,none⟩=false:=aX df 1;clear hE df hb1 hb2 hb0
 go_wp2_with fail
 go_region_held3 (fun w'=>w'.frozen? ⟨B,0,none⟩=false/\w'.frozen? ⟨B,1,none⟩=false) (go_keep) (first
  |(go_at_call 38;refine(HP.out _).mono ?_;rintro e w5 ⟨rfl,qH⟩;subst qH)
  |(simp only[eK];go_simp))
 go_wp2_with fail
 refine bodyPost_ret (v:=.agg #[.complex .f64 (floatOfInt .f64 XQ) (floatOfInt .f64 YQ),.int .i64 DQ]) (by simp[results,Tryz.results37,go_sem,e0,e1]) rfl ⟨rfl,?_⟩
 rw[hB];exact((aj.setCell (ax _) _).setCell (ax _) _).drew
end Go.Proofs.YtkjhhooecopolaaGreatDoor

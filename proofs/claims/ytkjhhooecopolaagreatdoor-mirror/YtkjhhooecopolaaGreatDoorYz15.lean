import Derived.Test.YtkjhhooecopolaaGreatDoorYz07
import Derived.Test.YtkjhhooecopolaaGreatDoorYz14
set_option maxRecDepth 100000
set_option maxHeartbeats 4000000
namespace Go.Proofs.YtkjhhooecopolaaGreatDoor
open Go.RowKit
def IC(w:World)(v:Value)(g:List (Int×Int)):Prop:=w.ownsRow 0 81 1 v g.length (qg g)
def vg(w:World)(v:Value)(rg:List (List (Int×Int))):Prop:=yF 127 IC w v rg
theorem Vj{rb:Nat}{rv:Value}{rg:List (List (Int×Int))}{w:World}(h:qM rb rv rg w):vg w rv rg:=by
 obtain⟨vs,h1,h2,h3,_⟩:=h;exact⟨vs,h1,wX h2,fun i u x hu hx=>wX (h3 i u x hu hx)⟩
theorem afW{w:World}{v:Value}{g:List (Int×Int)}(h:IC w v g):∃so cap,v=.slice so g.length cap:=by
 rcases h.2 with⟨hv,h0⟩|⟨b,cap,cur,hv,_⟩
 ·exact⟨none,0,by rw[hv,h0]⟩
 ·exact⟨_,cap,hv⟩
theorem Vk{w:World}{so:Option Addr}{n cap:Nat}{g:List (Int×Int)}(hR:IC w (.slice so n cap) g){k:Nat}{p:Int×Int}(hp:g[k]?=some p):
  ∃b,so=some ⟨b,0,none⟩/\b<w.heap.size/\w.cell? ⟨b,k,none⟩=some (.complex .f64 (floatOfInt .f64 p.1) (floatOfInt .f64 p.2)):=by
 have a0:(qg g)[k]?=some (yr p):=by simp[qg,hp]
 obtain⟨b,c,hv,hb,hc⟩:=Dm hR a0;injection hv with hv;exact⟨b,hv,hb,hc _ _ a0⟩
def yN(w:World)(lv:Value)(acc:List Ed)(wr:World):Prop:=
 (∃xs:List EB,xs.length=acc.length/\wr.ownsRow w.heap.size 124 4 lv acc.length (og xs)/\∀(i:Nat) x e,xs[i]?=some x->acc[i]?=some e->jc x e)/\Below w.heap.size w wr
theorem afX(l:List EB)(e:EB):og (l++[e])=og l++e.cells.toList:=by simp[og]
theorem afY:(Tryz.prog.info? 124).map (fun i=>(i.zero,i.size,i.bytes))=some (some (.agg #[.complex .f64 0 0,.float .f64 0,.complex .f64 0 0,.complex .f64 0 0]),4,56):=by kernel_rfl
theorem afZ{xs:List EB}{acc:List Ed}{x:EB}{e:Ed}(hlen:xs.length=acc.length)(h:∀(i:Nat) x e,xs[i]?=some x->acc[i]?=some e->jc x e)(hx:jc x e):
  ∀(i:Nat) y f,(xs++[x])[i]?=some y->(acc++[e])[i]?=some f->jc y f:=by
 intro i u y hu hy;by_cases hi:i<xs.length
 ·rw[eD hi] at hu;rw[eD (by omega)] at hy
  exact h i u y hu hy
 ·have hi2:i=xs.length:=by
   have:=(bY.1 hu).1;simp at this;omega
  subst hi2;have e1:u=x:=by simpa using hu.symm
  have e2:y=e:=by rw[hlen] at hy;simpa using hy.symm
  subst e1 e2;exact hx
theorem Vl(rg:List (List (Int×Int)))(v:Value)(w:World)(hR:vg w v rg)(hok:∀g∈rg,mD g/\g.length<=402)(hl:rg.length<=161604):
  Calls Tryz.prog 36 #[v] w fun e w'=>∃v,e=.returned v/\gG w' v (Ge.ag rg)/\Below w.heap.size w w':=by
 obtain⟨so,cap,rfl⟩:=qW hR;obtain⟨i0,hi,hz0,hz1,hz2⟩:=info_parts afY;have HR:Hid (vg w (.slice so rg.length cap) rg):=hR;have iV:Hid (∀g∈rg,mD g/\g.length<=402):=hok;clear hR hok;have bw:Hid (yN w (.slice none 0 0) [] w):=⟨⟨[],rfl,World.ownsRow_nil _ _ _ _,fun i x e h=>by simp at h⟩,Below.refl _ _⟩
 have HLEN:Hid (∀i,(Ge.ag (rg.take i)).length<=65000000):=fun i=>by
  have h:=Ge.Ms 402 (rg.take i) (fun g hg=>(iV.out g (nW hg)).2)
  have h2:(rg.take i).length<=161604:=by simp;omega
  omega
 go_enter Tryz.func36,Tryz.ntmps36
 go_wp2_with fail
 go_loopg [3,11] rg.length (fun m lv iv wr=>∃i:Nat,i+m=rg.length/\iv=.int .i64 i/\Hid (yN w lv (Ge.ag (rg.take i)) wr))
 case atStart=>exact⟨0,by omega,rfl,bw⟩
 case round=>
  obtain⟨i,him,rfl,HE⟩:=hrel;have ak:=HE.out.2;clear bw;by_cases hlt:i<rg.length
  ·obtain⟨g,hg⟩:∃g,rg[i]?=some g:=⟨_,aD hlt⟩;obtain⟨b,u,rfl,hb,e0,jt⟩:=AQ HR.out hg;obtain⟨gs,gc,rfl⟩:=afW jt;have r0:=(ak.cell (p:=⟨b,i,none⟩) hb).trans e0;have hgl:g.length<=402:=(iV.out g (bn hg)).2;have Vm:Hid (mD g):=(iV.out g (bn hg)).1;have vh:Hid (IC w (.slice gs g.length gc) g):=jt;have HT:Hid (Ge.ag (rg.take (i+1))=Ge.ag (rg.take i)++Ge.fN g):=Ge.aen hg;have hli:=HLEN.out i;have eK:(i:Int)<(rg.length:Int):=by omega
   have hbr:b<wr.heap.size:=aQ hb ak.size;obtain⟨m1,yO⟩:∃m1,m1=gk:=⟨_,rfl⟩;generalize Ge.ag (rg.take i)=A1 at*;clear hg e0 jt iV HR HLEN
   go_wp2_with fail
   go_loopg [3,17] g.length (fun m lv nv wr=>∃n:Nat,n+m=g.length/\nv=.int .i64 n/\Hid (yN w lv (A1++Ge.jX g n) wr))
   case atStart=>exact⟨0,by omega,rfl,by simpa[Ge.aek] using HE⟩
   case round=>
    obtain⟨n,hnm,rfl,kZ⟩:=hrel;have jZ:=kZ.out.2;clear HE r0;by_cases ID:n<g.length
    ·obtain⟨P,hP⟩:∃P,g[n]?=some P:=⟨_,aD ID⟩;obtain⟨b3,rfl,hb3,p0⟩:=Vk vh.out hP;have r0:=(jZ.cell (p:=⟨b3,n,none⟩) hb3).trans p0;have af2:b3<wr.heap.size:=aQ hb3 jZ.size;have AZ:(n:Int)<(g.length:Int):=by omega
     obtain⟨M,Q,hQ,Vn,hM⟩:∃(M:Nat)(Q:Int×Int),g[M]?=some Q/\Ge.wK g n=some Q/\(((n:Int)+1)%(g.length:Int)=(M:Int)/\M<g.length/\(n+1)%g.length=M):=by
      by_cases mh:n+1<g.length
      ·exact⟨n+1,_,aD mh,by unfold Ge.wK;rw[ah mh];exact aD mh,by rw[Int.emod_eq_of_lt (by omega) (by omega)];omega,mh,acA mh⟩
      ·have yn:n+1=g.length:=by omega
       exact⟨0,_,aD (show 0<g.length by omega),by unfold Ge.wK;rw[aa mh];exact aD (show 0<g.length by omega),by rw[show((n:Int)+1)=(g.length:Int) by omega,Int.emod_self];rfl,by omega,by rw[yn,Nat.mod_self]⟩
     obtain⟨hM1,hM2,hM3⟩:=hM;obtain⟨b4,hb4,_,f0⟩:=Vk vh.out hQ;injection hb4 with hb4;injection hb4 with hb4;subst hb4;have s0:=(jZ.cell (p:=⟨b3,M,none⟩) hb3).trans f0;have hMl:(M:Int)<(g.length:Int):=by omega
     have dE:¬((g.length:Int)=0):=by omega
     have Vo:¬(g.length=0):=by omega
     have HP:Hid (g[n]?=some P):=hP;have HQ:Hid (Ge.wK g n=some Q):=Vn;have AR:Hid (gJ P.1/\gJ P.2):=Vm.out P (bn hP);have DW:Hid (gJ Q.1/\gJ Q.2):=Vm.out Q (bn hQ);obtain⟨P1,P2⟩:=P;obtain⟨Q1,Q2⟩:=Q;clear p0 f0 hP hQ Vn;simp only at r0 s0;have sZ:Fl (floatOfInt .f64 P1) P1:=qh (by have:=AR.out.1;unfold gJ at this;omega)
     have td:Fl (floatOfInt .f64 P2) P2:=qh (by have:=AR.out.2;unfold gJ at this;omega)
     have tz:Fl (floatOfInt .f64 Q1) Q1:=qh (by have:=DW.out.1;unfold gJ at this;omega)
     have tA:Fl (floatOfInt .f64 Q2) Q2:=qh (by have:=DW.out.2;unfold gJ at this;omega)
     have wY:(!((FloatKind.f64.format.order (floatOfInt .f64 P1) (floatOfInt .f64 Q1) == some .eq)&&(FloatKind.f64.format.order (floatOfInt .f64 P2) (floatOfInt .f64 Q2) == some .eq)))= !(decide (P1=Q1)&&decide (P2=Q2)):=by
      rw[sG sZ tz,sG td tA]
     obtain⟨wa,wb,sh,l1,l2,l3,Vp⟩:=aer sZ td tz tA (by have:=AR.out.1;unfold gJ at this;omega) (by have:=AR.out.2;unfold gJ at this;omega) (by have:=DW.out.1;unfold gJ at this;omega) (by have:=DW.out.2;unfold gJ at this;omega)
     have HX:Hid (jc ⟨wa,wb,sh,floatOfInt .f64 P1,floatOfInt .f64 P2,floatOfInt .f64 Q1,floatOfInt .f64 Q2⟩ ((P1,P2),(Q1,Q2))):=⟨l1,l2,l3,sZ,td,tz,tA⟩;have Vq:Hid (∀w,Calls Tryz.prog 64 #[.complex .f64 (floatOfInt .f64 P1) (floatOfInt .f64 P2),.complex .f64 (floatOfInt .f64 Q1) (floatOfInt .f64 Q2)] w fun e w'=>e=.returned (.agg #[.complex .f64 wa wb,.float .f64 sh])/\Below w.heap.size w w'):=Vp
     clear Vp l1 l2 l3 sZ td tz tA AR DW;generalize floatOfInt .f64 P1=sZ at*;generalize floatOfInt .f64 P2=td at*;generalize floatOfInt .f64 Q1=tz at*;generalize floatOfInt .f64 Q2=tA at*;by_cases kN:(P1,P2)=(Q1,Q2)
     ·injection kN with Na Nb;have hc:(!((FloatKind.f64.format.order sZ tz == some .eq)&&(FloatKind.f64.format.order td tA == some .eq)))=false:=by rw[wY,Na,Nb];simp
      have HN:Hid (yN w u3 (A1++Ge.jX g (n+1)) wr):=by
       rw[Ge.ael HP.out HQ.out (by rw[Na,Nb])];exact kZ.out
      clear wY Na Nb kZ
      go_wp2_with fail
      go_roundg (gk-1)
      case measure=>omega
      case rel=>exact⟨n+1,by omega,by go_num,HN⟩
     ·have hc:(!((FloatKind.f64.format.order sZ tz == some .eq)&&(FloatKind.f64.format.order td tA == some .eq)))=true:=by
       rw[wY];by_cases h1:P1=Q1
       ·by_cases h2:P2=Q2
        ·exact absurd (by rw[h1,h2]) kN
        ·simp[h2]
       ·simp[h1]
      have tB:Hid (Ge.jX g (n+1)=Ge.jX g n++[((P1,P2),(Q1,Q2))]):=Ge.aem HP.out HQ.out kN;have hal:(A1++Ge.jX g n).length<=65000402:=by
       have:=Ge.Mr g n;simp only[aX];omega
      obtain⟨A3,Nc⟩:∃A3,A3=A1++Ge.jX g n:=⟨_,rfl⟩;have HA:Hid (A3=A1++Ge.jX g n):=Nc;rw[<-Nc] at hal kZ;clear wY kN Nc
      go_wp2_with fail
      refine(Vq.out _).mono ?_;rintro e w5 ⟨rfl,ax⟩;obtain⟨⟨xs,hx1,hx2,hx3⟩,_⟩:=kZ.out;have Ba:Hid (∀(i:Nat) x e,xs[i]?=some x->A3[i]?=some e->jc x e):=hx3;have kK:=jZ.trans (ax.mono jZ.size);have dG:w5.ownsRow w.heap.size 124 4 u3 A3.length (og xs):=aO hx2 fun k hk=>ax.block k (aA hx2 k hk).2
      have hs5:=kK.size;clear hx2 hx3 kZ
      go_wp2_with (at_builtin;refine wpList_append_lies _ rfl (.tmp 33) (.tmp 40) 72 rfl w.heap.size 124 i0 _ 4 56 Tryz.underlying72 hi hz0 hz1 hz2 rfl (by decide) u3 A3.length (og xs) rfl (aO dG (fun k hk=>Below.heap_alloc _ _ _ (aA dG k hk).2)) ⟨w5.heap.size,0,none⟩ 1 1 [.complex .f64 wa wb,.float .f64 sh,.complex .f64 sZ td,.complex .f64 tz tA] rfl rfl (World.news_of_block (cs:= #[.complex .f64 wa wb,.float .f64 sh,.complex .f64 sZ td,.complex .f64 tz tA]) (t:=124) (fr:=(0,0)) (heap_alloc_new w5 _)) (by simp[Value.oneCell']) (by decide) (by unfold maxLen;omega) (by omega) (by simp;omega) (w5.heap.size+1) (by simp) ?_;intro g' cap' w6 gm lN DX DY)
      have HN:Hid (yN w (.slice (some ⟨g',0,none⟩) (A3.length+1) cap') (A1++Ge.jX g (n+1)) w6):=by
       rw[tB.out,<-fI,<-HA.out];refine⟨⟨xs++[⟨wa,wb,sh,sZ,td,tz,tA⟩],by simp[hx1],?_,afZ hx1 Ba.out HX.out⟩,(kK.alloc kK.size _).grown lN (by simp;omega) (fun k hk=>(aA dG k hk).1)⟩
       rw[afX,aX];exact gm
      clear gm lN dG HX Ba Vq
      go_roundg (gk-1)
      case measure=>omega
      case rel=>exact⟨n+1,by omega,by go_num,HN⟩
    ·have hn:n=g.length:=by omega
     subst hn;have HN:Hid (yN w u3 (Ge.ag (rg.take (i+1))) wr):=by
      rw[HT.out,<-Ge.Mq];exact kZ.out
     clear kZ vh HT
     go_wp2_with fail
     go_roundg (m1-1)
     case measure=>omega
     case rel=>exact⟨i+1,by omega,by go_num,HN⟩
  ·have hk:i=rg.length:=by omega
   subst hk;have HF:Hid (yN w u3 (Ge.ag rg) wr):=by
    have:=HE.out;rw[dN] at this;exact this
   clear HE HR iV HLEN
   go_wp2_with fail
   go_ret
   obtain⟨⟨xs,h1,h2,h3⟩,h4⟩:=HF.out;exact⟨_,rfl,⟨xs,h1,wX h2,h3⟩,h4⟩
namespace Pl
def rings(s:List UInt8):List (List (Int×Int)):=(aM (all s)).2.2.flatten
def Bb(x y d:Int):Bool:=decide (d<1)||decide (d>60)||decide (x< -100000)||decide (x>100000)||decide (y< -100000)||decide (y>100000)
def dQ(s:List UInt8)(x y d:Int):Int×Bool×Nat×Nat:=
 if(err s).1=0 then
  if Bb x y d then(0,false,5,0)
  else if(Ge.ag (rings s)).any (Ge.fo (x,y) d) then(0,true,0,0)
  else(Ge.total (Ge.fu (x,y) d) (Ge.ag (rings s)),false,0,0)
 else(0,false,err s)
def Bc(r:Int×Bool×Nat×Nat):Value:=.tuple #[.int .i64 r.1,.bool r.2.1,.int .i64 r.2.2.1,.int .i64 r.2.2.2]
end Pl
theorem af3{ps:List (List (List (Int×Int)))}(hok:mG ps):∀e∈Ge.ag ps.flatten,fB e:=fun e he=>by
 obtain⟨g,hg,h1,h2⟩:=Ge.aep he;obtain⟨p,hp,IE⟩:=zS.1 hg;have ho:=((hok.2 p hp).2 g IE).1;exact⟨(ho _ h1).1,(ho _ h1).2,(ho _ h2).1,(ho _ h2).2⟩
theorem af4{ps:List (List (List (Int×Int)))}(hok:mG ps):(Ge.ag ps.flatten).length<=65000000:=by
 have h:=Ge.TU 402 402 ps (fun p hp=>⟨(hok.2 p hp).1,fun g hg=>((hok.2 p hp).2 g hg).2⟩)
 have:=hok.1;omega
namespace Ge
theorem IG{x y d X Y D G:Int}(hx:x=G*X)(hy:y=G*Y)(hd:d=G*D)(a:Pt):rel (x,y) d a=(G*(rel (X,Y) D a).1,G*(rel (X,Y) D a).2):=by
 unfold rel;rw[hx,hy,hd];simp only[acB];constructor<;>grind
theorem sc{G z:Int}(h:0<G):(0<G*z↔0<z)/\(G*z<0↔z<0)/\(G*z=0↔z=0)/\(G*z<=0↔z<=0):=by
 rcases fD z 0 with hz|hz|hz
 ·have:=vV h hz;omega
 ·subst hz;omega
 ·have:=aU h hz;omega
theorem Vr(G:Int)(u v:Pt):cr (G*u.1,G*u.2) (G*v.1,G*v.2)=(G*G)*cr u v:=by unfold cr;grind
theorem af5(G:Int)(u v:Pt):dt (G*u.1,G*u.2) (G*v.1,G*v.2)=(G*G)*dt u v:=by unfold dt;grind
theorem Nf{x y d X Y D G:Int}(hG:0<G)(hx:x=G*X)(hy:y=G*Y)(hd:d=G*D)(e:Pt×Pt):fo (x,y) d e=fo (X,Y) D e:=by
 unfold fo on;rw[IG hx hy hd,IG hx hy hd,Vr,af5];have h2:=aU hG hG;congr 1
 ·exact decide_eq_decide.2 (sc h2).2.2.1
 ·exact decide_eq_decide.2 (sc h2).2.2.2
theorem af6{x y d X Y D G:Int}(hG:0<G)(hx:x=G*X)(hy:y=G*Y)(hd:d=G*D)(a b:Pt):fr (x,y) d a b=fr (X,Y) D a b:=by
 unfold fr right;rw[IG hx hy hd,IG hx hy hd,Vr];have h2:=aU hG hG;simp only[(sc h2).1,(sc h2).2.1,(sc hG).1,(sc hG).2.2.2]
theorem Vs{f g:Pt->Pt->Int}(l:List (Pt×Pt))(h:∀a b,f a b=g a b):total f l=total g l:=by
 unfold total;congr 1;exact La fun e _=>h e.1 e.2
end Ge
theorem Vt{s:List UInt8}(h:(Pl.err s).1=0):mG (Pl.aM (Pl.all s)).2.2:=by
 cases hw:(Pl.wd Pl.bB (Pl.all s)).1
 ·exact(Pl.Vb h hw).2.1
 ·obtain⟨gs,e,h1,_⟩:=Pl.Va h hw;rw[e];exact⟨by simp,fun g hg=>by rw[bU.1 hg];exact h1⟩
theorem af7{ps:List (List (List (Int×Int)))}(h:∀p∈ps,p.length<=402):ps.flatten.length<=ps.length*402:=by
 induction ps with
 |nil=>simp
 |cons p r ih=>
  have h1:=ih (fun x hx=>h x (by simp[hx]))
  have h2:=h p (by simp)
  rw[Cy,aX,bW,GG];omega
theorem IH{s:List UInt8}(h:(Pl.err s).1=0):(∀g∈Pl.rings s,mD g/\g.length<=402)/\(Pl.rings s).length<=161604/\(∀e∈Ge.ag (Pl.rings s),fB e)/\(Ge.ag (Pl.rings s)).length<=65000000:=by
 have hok:=Vt h;refine⟨fun g hg=>?_,?_,af3 hok,af4 hok⟩
 ·obtain⟨p,hp,IE⟩:=zS.1 hg;exact(hok.2 p hp).2 g IE
 ·have h1:=af7 (fun p hp=>(hok.2 p hp).1)
  have h2:=hok.1;unfold Pl.rings;omega
theorem af8{s:List UInt8}{x y d:Int}(h:(Pl.err s).1=0)(hb:Pl.Bb x y d=false){X Y D G:Int}(hG:0<G)(hx:x=G*X)(hy:y=G*Y)(hd:d=G*D):
  Pl.dQ s x y d=if(Ge.ag (Pl.rings s)).any (Ge.fo (X,Y) D) then(0,true,0,0) else(Ge.total (Ge.fr (X,Y) D) (Ge.ag (Pl.rings s)),false,0,0):=by
 unfold Pl.dQ;rw[ah h,aa (by rw[hb];simp)]
 have e1:Ge.fo (x,y) d=Ge.fo (X,Y) D:=funext fun e=>Ge.Nf hG hx hy hd e
 rw[e1];by_cases ha:(Ge.ag (Pl.rings s)).any (Ge.fo (X,Y) D)=true
 ·rw[ah ha,ah ha]
 ·rw[aa ha,aa ha];have hno:∀e,e∈Ge.ag (Pl.rings s)->Ge.fo (x,y) d e=false:=fun e he=>by
   rw[e1];cases hf:Ge.fo (X,Y) D e
   ·rfl
   ·exact absurd (xS.2 ⟨e,he,hf⟩) ha
  rw[<-Ge.Sn (x,y) d (Pl.rings s) hno,Ge.Vs _ (Ge.af6 hG hx hy hd)]
namespace Pl
def DZ{α:Type}(sz:α->Nat)(item:List Tk->Bool×List Tk×α):Prop:=∀l,(item l).1=true->sz (item l).2.2+(item l).2.1.length<=l.length
def bH{α:Type}(sz:α->Nat)(l:List α):Nat:=(l.map sz).sum
theorem Vu{α:Type}(sz:α->Nat)(l:List α)(x:α):bH sz (l++[x])=bH sz l+sz x:=by simp[bH]
theorem mk_le(c:Nat)(l:List Tk):(mk c l).2.length<=l.length:=by
 cases l with
 |nil=>simp[mk]
 |cons t r=>
  have e:mk c (t::r)=if t.k=c then(true,r) else(false,t::r):=rfl
  rw[e];split<;>simp
theorem II(q:List UInt8)(l:List Tk):(wd q l).2.length<=l.length:=by
 cases l with
 |nil=>simp[wd]
 |cons t r=>
  have e:wd q (t::r)=if t.k=119/\t.raw=q then(true,r) else(false,t::r):=rfl
  rw[e];split<;>simp
theorem IJ{α:Type}{sz:α->Nat}{item:List Tk->Bool×List Tk×α}(hi:DZ sz item):
  ∀(f:Nat)(l:List Tk)(acc:List α),(bV item f l acc).1=true->bH sz (bV item f l acc).2.2+(bV item f l acc).2.1.length<=bH sz acc+l.length
 |0,l,acc,h=>by cases h
 |f+1,l,acc,h=>by
  unfold bV at h⊢;by_cases h1:(item l).1=true
  ·have k1:=hi l h1;rw[ah h1] at h⊢;by_cases h2:(mk 44 (item l).2.1).1=true
   ·rw[ah h2] at h⊢;have ih:=IJ hi f _ _ h;have k2:=mk_le 44 (item l).2.1;rw[Vu] at ih;omega
   ·rw[aa h2];have k2:=mk_le 41 (item l).2.1;simp only;rw[Vu];omega
  ·rw[aa h1] at h;cases h
theorem af9:DZ (fun _=>1) cK:=fun l h=>by
 match l,h with
 |[],h=>cases h
 |[x],h=>cases h
 |x::y::r,h=>
  have e:cK (x::y::r)=if x.k=110 then(if y.k=110 then(true,r,(x.n,y.n)) else(false,y::r,(0,0))) else(false,x::y::r,(0,0)):=rfl
  rw[e] at h⊢;split
  ·split
   ·simp;omega
   ·simp;omega
  ·rename_i hx;rw[aa hx] at h;cases h
theorem aga:DZ (bH fun _=>1) dB:=fun l h=>by
 unfold dB at h⊢;by_cases h1:(mk 40 l).1=true
 ·have k1:=mk_le 40 l;rw[ah h1] at h⊢;by_cases h2:(mk 41 (mk 40 l).2).1=true
  ·have k2:=mk_le 41 (mk 40 l).2;rw[ah h2];simp[bH];omega
  ·rw[aa h2] at h⊢;have k:=IJ af9 _ _ _ h;have e:bH (fun _:Int×Int=>1) []=0:=rfl
   omega
 ·rw[aa h1] at h;cases h
theorem Vv:DZ (bH (bH fun _=>1)) bA:=fun l h=>by
 unfold bA at h⊢;by_cases h0:(wd EMPTY l).1=true
 ·have k0:=II EMPTY l;rw[ah h0];simp[bH];exact k0
 ·rw[aa h0] at h⊢;by_cases h1:(mk 40 l).1=true
  ·have k1:=mk_le 40 l;rw[ah h1] at h⊢;have k:=IJ aga _ _ _ h;have e:bH (bH fun _=>1) ([]:List (List (Int×Int)))=0:=rfl
   omega
  ·rw[aa h1] at h;cases h
theorem agb:DZ (bH (bH (bH fun _=>1))) eY:=fun l h=>by
 unfold eY at h⊢;by_cases h0:(wd EMPTY l).1=true
 ·have k0:=II EMPTY l;rw[ah h0];simp[bH];exact k0
 ·rw[aa h0] at h⊢;by_cases h1:(mk 40 l).1=true
  ·have k1:=mk_le 40 l;rw[ah h1] at h⊢;have k:=IJ Vv _ _ _ h;have e:bH (bH (bH fun _=>1)) ([]:List (List (List (Int×Int))))=0:=rfl
   omega
  ·rw[aa h1] at h;cases h
theorem agc{α:Type}(l:List α):bH (fun _=>1) l=l.length:=by
 induction l with
 |nil=>rfl
 |cons a l ih=>
  have e:bH (fun _=>1) (a::l)=1+bH (fun _=>1) l:=by simp[bH]
  rw[e,ih,bW];omega
theorem agd(rg:List (List (Int×Int))):(Ge.ag rg).length<=bH (bH fun _=>1) rg:=by
 induction rg with
 |nil=>simp[Ge.ag]
 |cons g r ih=>
  have e:Ge.ag (g::r)=Ge.fN g++Ge.ag r:=uj;have h1:(Ge.fN g).length<=g.length:=by rw[<-Ge.Mq];exact Ge.Mr g _
  have h2:bH (bH fun _=>1) (g::r)=bH (fun _=>1) g+bH (bH fun _=>1) r:=by simp[bH]
  rw[e,aX,h2,agc];omega
theorem age(ps:List (List (List (Int×Int)))):bH (bH fun _=>1) ps.flatten=bH (bH (bH fun _=>1)) ps:=by
 induction ps with
 |nil=>rfl
 |cons p r ih=>
  have h1:bH (bH fun _=>1) (p++r.flatten)=bH (bH fun _=>1) p+bH (bH fun _=>1) r.flatten:=by simp[bH]
  have h2:bH (bH (bH fun _=>1)) (p::r)=bH (bH fun _=>1) p+bH (bH (bH fun _=>1)) r:=by simp[bH]
  rw[Cy,h1,h2,ih]
theorem agf{s:List UInt8}(h:(err s).1=0):(Ge.ag (rings s)).length<=402:=by
 obtain⟨h5,_,h1,_⟩:=yK h;have hl:=yq s;have k:bH (bH (bH fun _=>1)) (aM (all s)).2.2<=(all s).length:=by
  unfold aM at h1⊢;by_cases hw:(wd bB (all s)).1=true
  ·rw[ah hw] at h1⊢;have k1:=Vv _ h1;have k2:=II bB (all s);have e:bH (bH (bH fun _=>1)) [(bA (wd bB (all s)).2).2.2]=bH (bH fun _=>1) (bA (wd bB (all s)).2).2.2:=by simp[bH]
   simp only;rw[e];omega
  ·rw[aa hw] at h1⊢;by_cases hm:(wd cP (all s)).1=true
   ·rw[ah hm] at h1⊢;have k1:=agb _ h1;have k2:=II cP (all s);omega
   ·rw[aa hm] at h1;cases h1
 have k2:=agd (rings s);have k3:bH (bH fun _=>1) (rings s)=bH (bH (bH fun _=>1)) (aM (all s)).2.2:=age _
 have k4:s.length<=400:=by
  unfold err at h;by_cases hs:400<s.length
  ·rw[ah hs] at h;cases h
  ·omega
 omega
end Pl
namespace Ge
def q8(acc:List Qt)(c:List Qt):List Qt:=c.foldl (fun a q=>ins q a) acc
def gq(l:List (Pt×Pt)):List Qt:=l.foldl (fun acc e=>q8 acc (pJ l e)) []
end Ge
namespace Pl
end Pl
namespace Ge
def isNode(l:List (Pt×Pt))(q:Qt):Prop:=
 (∃e∈l,q=pt e.1\/q=pt e.2)\/∃e∈l,∃f∈l,bG e f≠0/\q=dJ e f/\hq (dJ e f) e=true/\hq (dJ e f) f=true
theorem Vw:∀(c acc:List Qt),(∀q∈acc,fR q)->(∀q∈c,fR q)->∀r,r∈q8 acc c↔r∈acc\/r∈c
 |[],acc,_,_,r=>by simp[q8]
 |q::c,acc,ha,hc,r=>by
  have hq:=hc q (by simp)
  have e:q8 acc (q::c)=q8 (ins q acc) c:=rfl;rw[e,Vw c (ins q acc) (wP hq ha) (fun x hx=>hc x (by simp[hx])) r,sK hq ha r,aV]
  constructor
  ·rintro((h|h)|h)
   ·exact af (ae h)
   ·exact ae h
   ·exact af (af h)
  ·rintro(h|h|h)
   ·exact ae (af h)
   ·exact ae (ae h)
   ·exact af h
def adds(e f:Pt×Pt)(r:Qt):Prop:=
 (bG e f≠0/\r=dJ e f/\hq (dJ e f) e=true/\hq (dJ e f) f=true)\/(bG e f=0/\((r=pt f.1/\hq (pt f.1) e=true)\/(r=pt f.2/\hq (pt f.2) e=true)))
theorem agh{e f:Pt×Pt}{o:List Qt}(ho:∀q∈o,fR q):(∀q∈yI e o f,fR q)/\∀r,r∈yI e o f↔r∈o\/adds e f r:=by
 unfold yI adds;by_cases hc:bG e f=0
 ·rw[ah hc];dsimp only;have h1:=sK (sU f.1) ho;have r1:=wP (sU f.1) ho;by_cases a:hq (pt f.1) e=true
  ·rw[ah a];have h2:=sK (sU f.2) r1;by_cases b:hq (pt f.2) e=true
   ·rw[ah b];refine⟨wP (sU f.2) r1,fun r=>?_⟩
    rw[h2,h1];simp only[hc,a,b,ne_eq,vW,um,ur,qE,uk];constructor
    ·rintro(h|h|h)
     ·exact af (af h)
     ·exact af (ae h)
     ·exact ae h
    ·rintro(h|h|h)
     ·exact af (af h)
     ·exact af (ae h)
     ·exact ae h
   ·rw[aa b];refine⟨r1,fun r=>?_⟩
    rw[h1]
    grind
  ·rw[aa a];have h2:=sK (sU f.2) ho;by_cases b:hq (pt f.2) e=true
   ·rw[ah b];refine⟨wP (sU f.2) ho,fun r=>?_⟩
    rw[h2]
    grind
   ·rw[aa b];refine⟨ho,fun r=>?_⟩
    simp[hc,a,b]
 ·rw[aa hc];have h1:=sK (UZ hc) ho;by_cases a:(hq (dJ e f) e&&hq (dJ e f) f)=true
  ·rw[ah a];obtain⟨a1,a2⟩:=(Bool.and_eq_true_iff).1 a;refine⟨wP (UZ hc) ho,fun r=>?_⟩
   rw[h1];simp only[hc,a1,a2,ne_eq,xN,ur,qE,um,uo];exact⟨fun h=>h.symm,fun h=>h.symm⟩
  ·rw[aa a];refine⟨ho,fun r=>?_⟩
   constructor
   ·exact ae
   ·rintro(h|⟨_,_,h1,h2⟩|⟨h,_⟩)
    ·exact h
    ·exact absurd (by rw[h1,h2];rfl) a
    ·exact absurd h hc
theorem Vx(e:Pt×Pt):∀(l:List (Pt×Pt))(o:List Qt),(∀q∈o,fR q)->(∀q∈l.foldl (yI e) o,fR q)/\∀r,r∈l.foldl (yI e) o↔r∈o\/∃f∈l,adds e f r
 |[],o,ho=>⟨ho,fun r=>by simp⟩
 |f::l,o,ho=>by
  obtain⟨h1,h2⟩:=agh (e:=e) (f:=f) ho;obtain⟨h3,h4⟩:=Vx e l (yI e o f) h1;refine⟨h3,fun r=>?_⟩
  rw[rQ,h4,h2];constructor
  ·rintro((h|h)|⟨g,hg,h⟩)
   ·exact ae h
   ·exact af ⟨f,by simp,h⟩
   ·exact af ⟨g,by simp[hg],h⟩
  ·rintro(h|⟨g,hg,h⟩)
   ·exact ae (ae h)
   ·rcases aV.1 hg with e'|e'
    ·subst e';exact ae (af h)
    ·exact af ⟨g,e',h⟩
theorem IK(l:List (Pt×Pt))(e:Pt×Pt):(∀q∈pJ l e,fR q)/\∀r,r∈pJ l e↔r=pt e.1\/r=pt e.2\/∃f∈l,adds e f r:=by
 have h0:∀q∈([]:List Qt),fR q:=fun q h=>by simp at h
 have h1:=wP (sU e.1) h0;have h2:=wP (sU e.2) h1;obtain⟨h3,h4⟩:=Vx e l _ h2;refine⟨h3,fun r=>?_⟩
 unfold pJ;rw[h4,sK (sU e.2) h1,sK (sU e.1) h0];constructor
 ·rintro((h|h|h)|h)
  ·exact af (ae h)
  ·exact ae h
  ·simp at h
  ·exact af (af h)
 ·rintro(h|h|h)
  ·exact ae (af (ae h))
  ·exact ae (ae h)
  ·exact af h
theorem Vy(L:List (Pt×Pt)):∀(l:List (Pt×Pt))(acc:List Qt),(∀q∈acc,fR q)->sJ acc->
  (∀q∈l.foldl (fun acc e=>q8 acc (pJ L e)) acc,fR q)/\sJ (l.foldl (fun acc e=>q8 acc (pJ L e)) acc)/\∀r,r∈l.foldl (fun acc e=>q8 acc (pJ L e)) acc↔r∈acc\/∃e∈l,r∈pJ L e
 |[],acc,h,ha=>⟨h,ha,fun r=>by simp⟩
 |e::l,acc,h,ha=>by
  have hc:=(IK L e).1;have hm:=Vw (pJ L e) acc h hc;have hr:∀q∈q8 acc (pJ L e),fR q:=fun q hq=>by
   rcases(hm q).1 hq with k|k
   ·exact h q k
   ·exact hc q k
  have has:sJ (q8 acc (pJ L e)):=by
   clear hm hr;generalize pJ L e=c at hc;induction c generalizing acc with
   |nil=>exact ha
   |cons q c ih=>
    have hq:=hc q (by simp)
    exact ih (ins q acc) (wP hq h) (Ul hq h ha) (fun x hx=>hc x (by simp[hx]))
  obtain⟨h1,h2,h3⟩:=Vy L l (q8 acc (pJ L e)) hr has;refine⟨h1,h2,fun r=>?_⟩
  rw[rQ,h3,hm];constructor
  ·rintro((k|k)|⟨g,hg,k⟩)
   ·exact ae k
   ·exact af ⟨e,by simp,k⟩
   ·exact af ⟨g,by simp[hg],k⟩
  ·rintro(k|⟨g,hg,k⟩)
   ·exact ae (ae k)
   ·rcases aV.1 hg with e'|e'
    ·subst e';exact ae (af k)
    ·exact af ⟨g,e',k⟩
theorem yP(l:List (Pt×Pt)):(∀q∈gq l,fR q)/\sJ (gq l)/\∀r,r∈gq l↔isNode l r:=by
 obtain⟨h1,h2,h3⟩:=Vy l l [] (fun q h=>by simp at h) List.Pairwise.nil
 refine⟨h1,h2,fun r=>?_⟩
 unfold gq;rw[h3];unfold isNode;constructor
 ·rintro(h|⟨e,he,h⟩)
  ·simp at h
  ·rcases((IK l e).2 r).1 h with h|h|⟨f,hf,h⟩
   ·exact ae ⟨e,he,ae h⟩
   ·exact ae ⟨e,he,af h⟩
   ·rcases h with⟨a,b,c,d⟩|⟨_,⟨h,_⟩|⟨h,_⟩⟩
    ·exact af ⟨e,he,f,hf,a,b,c,d⟩
    ·exact ae ⟨f,hf,ae h⟩
    ·exact ae ⟨f,hf,af h⟩
 ·rintro(⟨e,he,h⟩|⟨e,he,f,hf,a,b,c,d⟩)
  ·refine af ⟨e,he,((IK l e).2 r).2 ?_⟩;rcases h with h|h
   ·exact ae h
   ·exact af (ae h)
  ·exact af ⟨e,he,((IK l e).2 r).2 (af (af ⟨f,hf,ae ⟨a,b,c,d⟩⟩))⟩
theorem Vz(e f:Pt×Pt):bG f e= -bG e f:=by unfold bG;grind
theorem agi{e f:Pt×Pt}(h:bG e f≠0):dJ f e=dJ e f:=by
 have h':bG f e≠0:=by rw[Vz];omega
 unfold dJ;have e1:mX f e*bG e f=mX e f*bG f e:=by unfold mX mT bG;grind
 have e2:mY f e*bG e f=mY e f*bG f e:=by unfold mY mT bG;grind
 rw[Az h' h e1,Az h' h e2]
end Ge
theorem tD(x:Int)(g:Nat): -(x.natAbs:Int)<=x.tdiv g/\x.tdiv g<=(x.natAbs:Int):=by
 have h:(x.tdiv g).natAbs<=x.natAbs:=by
  rw[Int.natAbs_tdiv];exact Nat.div_le_self _ _
 omega
theorem agj{a b:Nat}{x y:Int}(D:Int)(h1:Fl a x)(h2:Fl b y)(hx: -16000000<=x/\x<=16000000)(hy: -16000000<=y/\y<=16000000)(hD:D<0/\ -300000<=D)(G:Nat)(hG:Int.gcd (Int.gcd x y:Nat) D=G)(w:World):
  Calls Tryz.prog 37 #[.complex .f64 a b,.int .i64 D] w fun e w'=>e=.returned (.agg #[.complex .f64 (floatOfInt .f64 (x.tdiv (-(G:Int)))) (floatOfInt .f64 (y.tdiv (-(G:Int)))),.int .i64 (D.tdiv (-(G:Int)))])/\Below w.heap.size w w':=by
 have uO:0<G:=by rw[<-hG];exact sI (by omega)
 have aeC:Int.gcd x y<=16000000:=by
  by_cases hz:x=0
  ·rw[hz,Int.gcd_zero_left];omega
  ·have:=anP (b:=y) hz;omega
 have hGD:G<=300000:=by
  have:=anQ (a:=(Int.gcd x y:Nat)) (b:=D) (by omega)
  omega
 have c1:=h1.int (by omega) (by omega)
 have c2:=h2.int (by omega) (by omega)
 have hc1:∀w,(convert 120 3 (.float .f64 a)).run Tryz.prog w=.ok (.int .i64 x) w:=fun w=>run_convert_float_int w 120 3 .f64 .i64 a x (by rw[Tryz.underlying120];rfl) Tryz.underlying3 c1
 have hc2:∀w,(convert 120 3 (.float .f64 b)).run Tryz.prog w=.ok (.int .i64 y) w:=fun w=>run_convert_float_int w 120 3 .f64 .i64 b y (by rw[Tryz.underlying120];rfl) Tryz.underlying3 c2
 have Au:Hid (∀w1,Calls Tryz.prog 65 #[.int .i64 x,.int .i64 y] w1 fun e w'=>e=.returned (.int .i64 (Int.gcd x y:Nat))/\Below w1.heap.size w1 w'):=fun w1=>Du x y w1 (by omega) (by omega)
 have Av:Hid (∀w1,Calls Tryz.prog 65 #[.int .i64 (Int.gcd x y:Nat),.int .i64 D] w1 fun e w'=>e=.returned (.int .i64 (G:Int))/\Below w1.heap.size w1 w'):=fun w1=>by rw[<-hG];exact Du _ D w1 (by omega) (by omega)
 obtain⟨XQ,yw⟩:∃q,q=x.tdiv (-(G:Int)):=⟨_,rfl⟩;obtain⟨YQ,yx⟩:∃q,q=y.tdiv (-(G:Int)):=⟨_,rfl⟩;obtain⟨DQ,yz⟩:∃q,q=D.tdiv (-(G:Int)):=⟨_,rfl⟩;rw[<-yw,<-yx,<-yz];have HP:Hid (∀w1,Calls Tryz.prog 38 #[.int .i64 XQ,.int .i64 YQ] w1 fun e w'=>e=.returned (.complex .f64 (floatOfInt .f64 XQ) (floatOfInt .f64 YQ))/\w'=w1):=fun w1=>De _ _ w1
 have hw1:IntKind.i64.wrap (x.tdiv (-(G:Int)))=XQ:=by rw[yw,xU,IntKind.wrap_i64];have:=tD x G;omega
 have hw2:IntKind.i64.wrap (y.tdiv (-(G:Int)))=YQ:=by rw[yx,xU,IntKind.wrap_i64];have:=tD y G;omega
 have hw3:IntKind.i64.wrap (D.tdiv (-(G:Int)))=DQ:=by rw[yz,xU,IntKind.wrap_i64];have:=tD D G;omega
 have sH:IntKind.i64.wrap (-(x.tdiv (G:Int)))=XQ:=by rw[<-xU];exact hw1
 have IL:IntKind.i64.wrap (-(y.tdiv (G:Int)))=YQ:=by rw[<-xU];exact hw2
 have lg:IntKind.i64.wrap (-(D.tdiv (G:Int)))=DQ:=by rw[<-xU];exact hw3
 have hw4:IntKind.i64.wrap (-(G:Int))= -(G:Int):=by rw[IntKind.wrap_i64];omega
 clear yw yx yz;have Uf:¬G=0:=by omega
 have Ug:¬(-(G:Int)=0):=by omega
 generalize Int.gcd x y=GXY at*;clear c1 c2 h1 h2 hG;have hE:=heap_alloc_new w (.cells #[.complex .f64 0 0,.int .i64 0] 83);have hb0:Below w.heap.size w (w.alloc (.cells #[.complex .f64 0 0,.int .i64 0] 83)):=(Below.refl _ _).alloc (ai _) _;have hz:w.heap.size<(w.alloc (.cells #[.complex .f64 0 0,.int .i64 0] 83)).heap.size:=by simp
 go_enter Tryz.func37,Tryz.ntmps37
 go_wp2_with (first |(simp only[hc1])|(simp only[hc2]))
 generalize w.alloc (.cells #[.complex .f64 0 0,.int .i64 0] 83)=W at*;generalize hB:w.heap.size=B at*;refine(Au.out _).mono ?_;rintro e w1 ⟨rfl,hb1⟩
 go_wp2_with fail
 refine(Av.out _).mono ?_;rintro e w2 ⟨rfl,hb2⟩;have hs1:=hb1.size;have dD:=(hb2.block _ (show B<w1.heap.size by omega)).trans ((hb1.block _ hz).trans hE)
 have ak:=(hb0.trans (hb1.mono (eF hz))).trans (hb2.mono (by omega))
 have e0:w2.cell? ⟨B,0,none⟩=some (.complex .f64 0 0):=cell_of dD 0;have e1:w2.cell? ⟨B,1,none⟩=some (.int .i64 0):=cell_of dD 1;have z0:w2.frozen? ⟨B,0,none⟩=false:=aH dD 0;have z1:w2.frozen? ⟨B,1,none⟩=false:=aH dD 1;clear hE dD hb1 hb2 hb0
 go_wp2_with fail
 go_region_held3 (fun w'=>w'.frozen? ⟨B,0,none⟩=false/\w'.frozen? ⟨B,1,none⟩=false) (go_keep) (first
  |(go_at_call 38;refine(HP.out _).mono ?_;rintro e w5 ⟨rfl,sH⟩;subst sH)
  |(simp only[fL];go_simp))
 go_wp2_with fail
 refine bodyPost_ret (v:=.agg #[.complex .f64 (floatOfInt .f64 XQ) (floatOfInt .f64 YQ),.int .i64 DQ]) (by simp[results,Tryz.results37,go_sem,e0,e1]) rfl ⟨rfl,?_⟩
 rw[hB];exact((ak.setCell (ai _) _).setCell (ai _) _).drew
end Go.Proofs.YtkjhhooecopolaaGreatDoor
namespace Go.Proofs.YtkjhhooecopolaaGreatDoor.Ge
abbrev Nd:=Int×Int×Int
structure Can(n:Nd):Prop where
 pos:0<n.2.2
 co:Int.gcd (Int.gcd n.1 n.2.1) n.2.2=1
def ay(n:Nd):Qt:=(aW n.1 n.2.2,aW n.2.1 n.2.2)
theorem VA{n m:Nd}(hn:Can n)(h1:n.1*m.2.2=m.1*n.2.2)(h2:n.2.1*m.2.2=m.2.1*n.2.2):n.2.2∣m.2.2:=by
 have d1:n.2.2∣n.1*m.2.2:=⟨m.1,by rw[h1,eA]⟩
 have d2:n.2.2∣n.2.1*m.2.2:=⟨m.2.1,by rw[h2,eA]⟩
 have d3:n.2.2∣(Int.gcd (n.1*m.2.2) (n.2.1*m.2.2):Int):=Int.dvd_coe_gcd d1 d2;rw[Int.gcd_mul_right] at d3;have d4:n.2.2∣(Int.gcd n.1 n.2.1:Int)*m.2.2:=by
  rw[K2] at d3;rcases Int.natAbs_eq m.2.2 with h|h
  ·rw[h];exact d3
  ·rw[h,xL];exact Int.dvd_neg.2 d3
 exact MC (by rw[acv];exact hn.co) d4
theorem agk{n m:Nd}(hn:Can n)(hm:Can m)(h1:n.1*m.2.2=m.1*n.2.2)(h2:n.2.1*m.2.2=m.2.1*n.2.2):n=m:=by
 have a:=VA hn h1 h2;have b:=VA hm h1.symm h2.symm;have p1:=acC hm.pos a;have p2:=acC hn.pos b;have e:n.2.2=m.2.2:=by omega
 have hz:m.2.2≠0:=by have:=hm.pos;omega
 rw[e] at h1 h2;have e1:=RH hz h1;have e2:=RH hz h2;exact eB e1 (eB e2 e)
theorem agl{g z:Int}(hg:0<g):(g*z).sign=z.sign:=by
 rw[RJ,pX hg,Cv]
theorem Bd{a b c d:Int}(hb:0<b)(hd:0<d):fc (aW a b) (aW c d)=(a*d-c*b).sign:=by
 obtain⟨g,g0,e1,e2,gp⟩:=Ay (n:=a) (d:=b) (by omega)
 obtain⟨k,k0,e3,e4,kp⟩:=Ay (n:=c) (d:=d) (by omega)
 have hg:=gp.2 hb;have hk:=kp.2 hd;unfold fc;have:a*d-c*b=(g*k)*((aW a b).1*(aW c d).2-(aW c d).1*(aW a b).2):=by
  generalize aW a b=A at*;generalize aW c d=B at*;rw[e1,e2,e3,e4];grind
 rw[this,agl (aU hg hk)]
theorem cS{n:Nd}(h:Can n):fR (ay n):=⟨Ax (by have:=h.pos;omega),Ax (by have:=h.pos;omega)⟩
theorem IM{n m:Nd}(hn:Can n)(hm:Can m):pc (ay n) (ay m)=if(n.1*m.2.2-m.1*n.2.2).sign=0 then(n.2.1*m.2.2-m.2.1*n.2.2).sign else(n.1*m.2.2-m.1*n.2.2).sign:=by
 unfold pc ay;rw[Bd hn.pos hm.pos,Bd hn.pos hm.pos]
theorem vk{n m:Nd}(hn:Can n)(hm:Can m)(h:pc (ay n) (ay m)=0):n=m:=by
 rw[IM hn hm] at h;split at h
 ·rename_i h1
  have a:=vZ.1 h1;have b:=vZ.1 h;exact agk hn hm (by omega) (by omega)
 ·contradiction
theorem IP{n m:Nd}(hn:Can n)(hm:Can m)(h:ay n=ay m):n=m:=vk hn hm (by rw[h];exact yA _)
theorem IQ{x y d k X Y P:Int}(hd:d≠0)(h1:x=k*X)(h2:y=k*Y)(h3:d=k*P)(hP:0<P)(hk:k.natAbs=Int.gcd (Int.gcd x y:Nat) d):Can (X,Y,P)/\ay (X,Y,P)=(aW x d,aW y d):=by
 have k0:k≠0:=by rintro rfl;rw[Cw] at h3;exact hd h3
 refine⟨⟨hP,?_⟩,?_⟩
 ·show Int.gcd (Int.gcd X Y:Nat) P=1;have e1:Int.gcd x y=k.natAbs*Int.gcd X Y:=by rw[h1,h2,acw]
  have e2:Int.gcd (Int.gcd x y:Nat) d=k.natAbs*Int.gcd (Int.gcd X Y:Nat) P:=by
   have:Int.gcd (k*((Int.gcd X Y:Nat):Int)) (k*P)=k.natAbs*Int.gcd (Int.gcd X Y:Nat) P:=acw ..;rw[<-this,e1,h3];unfold Int.gcd;congr 1;rw[nV];simp[Int.natAbs_mul]
  rw[e2] at hk;have kp:0<k.natAbs:=by omega
  exact anU kp (by omega)
 ·unfold ay;show(aW X P,aW Y P)=_;rw[Az (n:=X) (d:=P) (m:=x) (e:=d) (by omega) hd (by rw[h1,h3];grind),Az (n:=Y) (d:=P) (m:=y) (e:=d) (by omega) hd (by rw[h2,h3];grind)]
theorem IU{x g:Int}(h:g∣x):x=g*x.tdiv g:=(rU h).symm
end Go.Proofs.YtkjhhooecopolaaGreatDoor.Ge
namespace Go.Proofs.YtkjhhooecopolaaGreatDoor
open Go.RowKit
def ie(n:Ge.Nd):Value:=.agg #[.complex .f64 (floatOfInt .f64 n.1) (floatOfInt .f64 n.2.1),.int .i64 n.2.2]
theorem IW{a b:Nat}{x y:Int}(D:Int)(h1:Fl a x)(h2:Fl b y)(hx: -16000000<=x/\x<=16000000)(hy: -16000000<=y/\y<=16000000)(hD:D≠0/\ -300000<=D/\D<=300000):
  ∃n:Ge.Nd,Ge.Can n/\Ge.ay n=(Ge.aW x D,Ge.aW y D)/\dC n.1 n.2.1 n.2.2/\∀w,Calls Tryz.prog 37 #[.complex .f64 a b,.int .i64 D] w fun e w'=>e=.returned (ie n)/\Below w.heap.size w w':=by
 obtain⟨G,hG⟩:∃G,Int.gcd (Int.gcd x y:Nat) D=G:=⟨_,rfl⟩;have uO:0<G:=by rw[<-hG];exact acs _ hD.1
 have dg:(G:Int)∣(Int.gcd x y:Nat):=by rw[<-hG];exact xR ..
 have dd:(G:Int)∣D:=by rw[<-hG];exact vY ..
 have dx:(G:Int)∣x:=xV dg (xR ..);have dy:(G:Int)∣y:=xV dg (vY ..);have ex:=Ge.IU dx;have ey:=Ge.IU dy;have ed:=Ge.IU dd;have bx:=tD x G;have by':=tD y G
 have bd:=tD D G;rcases fD D 0 with h|h|h
 ·have call:=agj D h1 h2 hx hy ⟨h,hD.2.1⟩ G hG;rw[xU,xU,xU] at call;have hP:0< -(D.tdiv G):=by
   rcases Int.lt_or_le (D.tdiv G) 0 with q|q
   ·omega
   ·have:=iY (Int.natCast_nonneg G) q;omega
  obtain⟨c1,c2⟩:=Ge.IQ (x:=x) (y:=y) (d:=D) (k:= -(G:Int)) (X:= -(x.tdiv G)) (Y:= -(y.tdiv G)) (P:= -(D.tdiv G)) hD.1 (ex.trans (zT ..).symm) (ey.trans (zT ..).symm) (ed.trans (zT ..).symm) hP (by rw[hG];omega)
  exact⟨(-(x.tdiv G), -(y.tdiv G), -(D.tdiv G)),c1,c2,⟨by show(-(x.tdiv G)).natAbs<=_;omega,by show(-(y.tdiv G)).natAbs<=_;omega,hP,by show -(D.tdiv G)<=_;omega⟩,call⟩
 ·exact absurd h hD.1
 ·have call:=Ue D h1 h2 hx hy ⟨h,hD.2.2⟩ G hG;have hP:0<D.tdiv G:=by
   rcases Int.lt_or_le 0 (D.tdiv G) with q|q
   ·exact q
   ·have:=iY (Int.natCast_nonneg G) (Int.neg_nonneg_of_nonpos q);rw[xL] at this;omega
  obtain⟨c1,c2⟩:=Ge.IQ (x:=x) (y:=y) (d:=D) (k:=(G:Int)) (X:=x.tdiv G) (Y:=y.tdiv G) (P:=D.tdiv G) hD.1 ex ey ed hP (by rw[hG];omega)
  exact⟨(x.tdiv G,y.tdiv G,D.tdiv G),c1,c2,⟨by show(x.tdiv G).natAbs<=_;omega,by show(y.tdiv G).natAbs<=_;omega,hP,by show D.tdiv G<=_;omega⟩,call⟩
end Go.Proofs.YtkjhhooecopolaaGreatDoor

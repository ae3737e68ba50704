import Derived.Test.YtkjhhooecopolaaGreatDoorWz10
set_option maxRecDepth 100000
set_option maxHeartbeats 4000000
namespace Go.Proofs.YtkjhhooecopolaaGreatDoor
open Go.RowKit
def H4(w:World)(v:Value)(g:List (Int×Int)):Prop:=w.ownsRow 0 81 1 v g.length (pH g)
def xL(w:World)(v:Value)(rg:List (List (Int×Int))):Prop:=L3 127 H4 w v rg
theorem adZ{rb:Nat}{rv:Value}{rg:List (List (Int×Int))}{w:World}(h:qu rb rv rg w):xL w rv rg:=by
 obtain⟨vs,h1,h2,h3,_⟩:=h;exact⟨vs,h1,L4 h2,fun i u x hu hx=>L4 (h3 i u x hu hx)⟩
theorem ad0{w:World}{v:Value}{g:List (Int×Int)}(h:H4 w v g):∃so cap,v=.slice so g.length cap:=by
 rcases h.2 with⟨hv,h0⟩|⟨b,cap,cur,hv,_⟩
 ·exact⟨none,0,by rw[hv,h0]⟩
 ·exact⟨_,cap,hv⟩
theorem Tt{w:World}{so:Option Addr}{n cap:Nat}{g:List (Int×Int)}(hR:H4 w (.slice so n cap) g){k:Nat}{p:Int×Int}(hp:g[k]?=some p):
  ∃b,so=some ⟨b,0,none⟩/\b<w.heap.size/\w.cell? ⟨b,k,none⟩=some (.complex .f64 (floatOfInt .f64 p.1) (floatOfInt .f64 p.2)):=by
 have a0:(pH g)[k]?=some (xt p):=by simp[pH,hp]
 obtain⟨b,c,hv,hb,hc⟩:=GZ hR a0;injection hv with hv;exact⟨b,hv,hb,hc _ _ a0⟩
def xM(w:World)(lv:Value)(acc:List Ed)(wr:World):Prop:=
 (∃xs:List EB,xs.length=acc.length/\wr.ownsRow w.heap.size 124 4 lv acc.length (nG xs)/\∀(i:Nat) x e,xs[i]?=some x->acc[i]?=some e->jK x e)/\Below w.heap.size w wr
theorem ad1(l:List EB)(e:EB):nG (l++[e])=nG l++e.cells.toList:=by simp[nG]
theorem ad2:(Tryz.prog.info? 124).map (fun i=>(i.zero,i.size,i.bytes))=some (some (.agg #[.complex .f64 0 0,.float .f64 0,.complex .f64 0 0,.complex .f64 0 0]),4,56):=by kernel_rfl
theorem ad3{xs:List EB}{acc:List Ed}{x:EB}{e:Ed}(hlen:xs.length=acc.length)(h:∀(i:Nat) x e,xs[i]?=some x->acc[i]?=some e->jK x e)(hx:jK x e):
  ∀(i:Nat) y f,(xs++[x])[i]?=some y->(acc++[e])[i]?=some f->jK y f:=by
 intro i u y hu hy;by_cases hi:i<xs.length
 ·rw[fC hi] at hu;rw[fC (by omega)] at hy
  exact h i u y hu hy
 ·have hi2:i=xs.length:=by
   have:=(bZ.1 hu).1;simp at this;omega
  subst hi2;have e1:u=x:=by simpa using hu.symm
  have e2:y=e:=by rw[hlen] at hy;simpa using hy.symm
  subst e1 e2;exact hx
theorem ad4(rg:List (List (Int×Int)))(v:Value)(w:World)(hR:xL w v rg)(hok:∀g∈rg,pN g/\g.length<=402)(hl:rg.length<=161604):
  Calls Tryz.prog 36 #[v] w fun e w'=>∃v,e=.returned v/\iW w' v (Ge.ae rg)/\Below w.heap.size w w':=by
 obtain⟨so,cap,rfl⟩:=adP hR;obtain⟨i0,hi,hz0,hz1,hz2⟩:=info_parts ad2;have HR:Hid (xL w (.slice so rg.length cap) rg):=hR;have CU:Hid (∀g∈rg,pN g/\g.length<=402):=hok;clear hR hok;have bW:Hid (xM w (.slice none 0 0) [] w):=⟨⟨[],rfl,World.ownsRow_nil _ _ _ _,fun i x e h=>by simp at h⟩,Below.refl _ _⟩
 have HLEN:Hid (∀i,(Ge.ae (rg.take i)).length<=65000000):=fun i=>by
  have h:=Ge.LF 402 (rg.take i) (fun g hg=>(CU.out g (qh hg)).2)
  have h2:(rg.take i).length<=161604:=by simp;omega
  omega
 go_enter Tryz.func36,Tryz.ntmps36
 go_wp2_with fail
 go_loopg [3,11] rg.length (fun m lv iv wr=>∃i:Nat,i+m=rg.length/\iv=.int .i64 i/\Hid (xM w lv (Ge.ae (rg.take i)) wr))
 case atStart=>exact⟨0,by omega,rfl,bW⟩
 case round=>
  obtain⟨i,him,rfl,HE⟩:=hrel;have aw:=HE.out.2;clear bW;by_cases hlt:i<rg.length
  ·obtain⟨g,hg⟩:∃g,rg[i]?=some g:=⟨_,aC hlt⟩;obtain⟨b,u,rfl,hb,e0,L8⟩:=adQ HR.out hg;obtain⟨gs,gc,rfl⟩:=ad0 L8;have r0:=(aw.cell (p:=⟨b,i,none⟩) hb).trans e0;have hgl:g.length<=402:=(CU.out g (aZ hg)).2;have Tu:Hid (pN g):=(CU.out g (aZ hg)).1;have xN:Hid (H4 w (.slice gs g.length gc) g):=L8;have HT:Hid (Ge.ae (rg.take (i+1))=Ge.ae (rg.take i)++Ge.dY g):=Ge.acT hg;have hli:=HLEN.out i;have fN:(i:Int)<(rg.length:Int):=by omega
   have hbr:b<wr.heap.size:=bu hb aw.size;obtain⟨m1,xO⟩:∃m1,m1=gk:=⟨_,rfl⟩;generalize Ge.ae (rg.take i)=A1 at*;clear hg e0 L8 CU HR HLEN
   go_wp2_with fail
   go_loopg [3,17] g.length (fun m lv nv wr=>∃n:Nat,n+m=g.length/\nv=.int .i64 n/\Hid (xM w lv (A1++Ge.jX g n) wr))
   case atStart=>exact⟨0,by omega,rfl,by simpa[Ge.acQ] using HE⟩
   case round=>
    obtain⟨n,hnm,rfl,pO⟩:=hrel;have iI:=pO.out.2;clear HE r0;by_cases Tv:n<g.length
    ·obtain⟨P,hP⟩:∃P,g[n]?=some P:=⟨_,aC Tv⟩;obtain⟨b3,rfl,hb3,p0⟩:=Tt xN.out hP;have r0:=(iI.cell (p:=⟨b3,n,none⟩) hb3).trans p0;have am3:b3<wr.heap.size:=bu hb3 iI.size;have CV:(n:Int)<(g.length:Int):=by omega
     obtain⟨M,Q,hQ,Tw,hM⟩:∃(M:Nat)(Q:Int×Int),g[M]?=some Q/\Ge.vG g n=some Q/\(((n:Int)+1)%(g.length:Int)=(M:Int)/\M<g.length/\(n+1)%g.length=M):=by
      by_cases lV:n+1<g.length
      ·exact⟨n+1,_,aC lV,by unfold Ge.vG;rw[aj lV];exact aC lV,by rw[Int.emod_eq_of_lt (by omega) (by omega)];omega,lV,aa7 lV⟩
      ·have rJ:n+1=g.length:=by omega
       exact⟨0,_,aC (show 0<g.length by omega),by unfold Ge.vG;rw[af lV];exact aC (show 0<g.length by omega),by rw[show((n:Int)+1)=(g.length:Int) by omega,Int.emod_self];rfl,by omega,by rw[rJ,Nat.mod_self]⟩
     obtain⟨hM1,hM2,hM3⟩:=hM;obtain⟨b4,hb4,_,f0⟩:=Tt xN.out hQ;injection hb4 with hb4;injection hb4 with hb4;subst hb4;have s0:=(iI.cell (p:=⟨b3,M,none⟩) hb3).trans f0;have hMl:(M:Int)<(g.length:Int):=by omega
     have dH:¬((g.length:Int)=0):=by omega
     have Ty:¬(g.length=0):=by omega
     have HP:Hid (g[n]?=some P):=hP;have HQ:Hid (Ge.vG g n=some Q):=Tw;have CW:Hid (fX P.1/\fX P.2):=Tu.out P (aZ hP);have CZ:Hid (fX Q.1/\fX Q.2):=Tu.out Q (aZ hQ);obtain⟨P1,P2⟩:=P;obtain⟨Q1,Q2⟩:=Q;clear p0 f0 hP hQ Tw;simp only at r0 s0;have rX:Fl (floatOfInt .f64 P1) P1:=qx (by have:=CW.out.1;unfold fX at this;omega)
     have rY:Fl (floatOfInt .f64 P2) P2:=qx (by have:=CW.out.2;unfold fX at this;omega)
     have rZ:Fl (floatOfInt .f64 Q1) Q1:=qx (by have:=CZ.out.1;unfold fX at this;omega)
     have r9:Fl (floatOfInt .f64 Q2) Q2:=qx (by have:=CZ.out.2;unfold fX at this;omega)
     have vO:(!((FloatKind.f64.format.order (floatOfInt .f64 P1) (floatOfInt .f64 Q1) == some .eq)&&(FloatKind.f64.format.order (floatOfInt .f64 P2) (floatOfInt .f64 Q2) == some .eq)))= !(decide (P1=Q1)&&decide (P2=Q2)):=by
      rw[rP rX rZ,rP rY r9]
     obtain⟨wa,wb,sh,l1,l2,l3,Tz⟩:=acW rX rY rZ r9 (by have:=CW.out.1;unfold fX at this;omega) (by have:=CW.out.2;unfold fX at this;omega) (by have:=CZ.out.1;unfold fX at this;omega) (by have:=CZ.out.2;unfold fX at this;omega)
     have HX:Hid (jK ⟨wa,wb,sh,floatOfInt .f64 P1,floatOfInt .f64 P2,floatOfInt .f64 Q1,floatOfInt .f64 Q2⟩ ((P1,P2),(Q1,Q2))):=⟨l1,l2,l3,rX,rY,rZ,r9⟩;have TB:Hid (∀w,Calls Tryz.prog 64 #[.complex .f64 (floatOfInt .f64 P1) (floatOfInt .f64 P2),.complex .f64 (floatOfInt .f64 Q1) (floatOfInt .f64 Q2)] w fun e w'=>e=.returned (.agg #[.complex .f64 wa wb,.float .f64 sh])/\Below w.heap.size w w'):=Tz
     clear Tz l1 l2 l3 rX rY rZ r9 CW CZ;generalize floatOfInt .f64 P1=rX at*;generalize floatOfInt .f64 P2=rY at*;generalize floatOfInt .f64 Q1=rZ at*;generalize floatOfInt .f64 Q2=r9 at*;by_cases kL:(P1,P2)=(Q1,Q2)
     ·injection kL with L9 Ma;have hc:(!((FloatKind.f64.format.order rX rZ == some .eq)&&(FloatKind.f64.format.order rY r9 == some .eq)))=false:=by rw[vO,L9,Ma];simp
      have HN:Hid (xM w u3 (A1++Ge.jX g (n+1)) wr):=by
       rw[Ge.acR HP.out HQ.out (by rw[L9,Ma])];exact pO.out
      clear vO L9 Ma pO
      go_wp2_with fail
      go_roundg (gk-1)
      case measure=>omega
      case rel=>exact⟨n+1,by omega,by go_num,HN⟩
     ·have hc:(!((FloatKind.f64.format.order rX rZ == some .eq)&&(FloatKind.f64.format.order rY r9 == some .eq)))=true:=by
       rw[vO];by_cases h1:P1=Q1
       ·by_cases h2:P2=Q2
        ·exact absurd (by rw[h1,h2]) kL
        ·simp[h2]
       ·simp[h1]
      have vP:Hid (Ge.jX g (n+1)=Ge.jX g n++[((P1,P2),(Q1,Q2))]):=Ge.acS HP.out HQ.out kL;have hal:(A1++Ge.jX g n).length<=65000402:=by
       have:=Ge.LC g n;simp only[aX];omega
      obtain⟨A3,Mb⟩:∃A3,A3=A1++Ge.jX g n:=⟨_,rfl⟩;have HA:Hid (A3=A1++Ge.jX g n):=Mb;rw[<-Mb] at hal pO;clear vO kL Mb
      go_wp2_with fail
      refine(TB.out _).mono ?_;rintro e w5 ⟨rfl,az⟩;obtain⟨⟨xs,hx1,hx2,hx3⟩,_⟩:=pO.out;have TC:Hid (∀(i:Nat) x e,xs[i]?=some x->A3[i]?=some e->jK x e):=hx3;have l8:=iI.trans (az.mono iI.size);have dN:w5.ownsRow w.heap.size 124 4 u3 A3.length (nG xs):=aU hx2 fun k hk=>az.block k (aB hx2 k hk).2
      have hs5:=l8.size;clear hx2 hx3 pO
      go_wp2_with (at_builtin;refine wpList_append_lies _ rfl (.tmp 33) (.tmp 40) 72 rfl w.heap.size 124 i0 _ 4 56 Tryz.underlying72 hi hz0 hz1 hz2 rfl (by decide) u3 A3.length (nG xs) rfl (aU dN (fun k hk=>Below.heap_alloc _ _ _ (aB dN k hk).2)) ⟨w5.heap.size,0,none⟩ 1 1 [.complex .f64 wa wb,.float .f64 sh,.complex .f64 rX rY,.complex .f64 rZ r9] rfl rfl (World.news_of_block (cs:= #[.complex .f64 wa wb,.float .f64 sh,.complex .f64 rX rY,.complex .f64 rZ r9]) (t:=124) (fr:=(0,0)) (heap_alloc_new w5 _)) (by simp[Value.oneCell']) (by decide) (by unfold maxLen;omega) (by omega) (by simp;omega) (w5.heap.size+1) (by simp) ?_;intro g' cap' w6 fY lC C0 C3)
      have HN:Hid (xM w (.slice (some ⟨g',0,none⟩) (A3.length+1) cap') (A1++Ge.jX g (n+1)) w6):=by
       rw[vP.out,<-fB,<-HA.out];refine⟨⟨xs++[⟨wa,wb,sh,rX,rY,rZ,r9⟩],by simp[hx1],?_,ad3 hx1 TC.out HX.out⟩,(l8.alloc l8.size _).grown lC (by simp;omega) (fun k hk=>(aB dN k hk).1)⟩
       rw[ad1,aX];exact fY
      clear fY lC dN HX TC TB
      go_roundg (gk-1)
      case measure=>omega
      case rel=>exact⟨n+1,by omega,by go_num,HN⟩
    ·have hn:n=g.length:=by omega
     subst hn;have HN:Hid (xM w u3 (Ge.ae (rg.take (i+1))) wr):=by
      rw[HT.out,<-Ge.LB];exact pO.out
     clear pO xN HT
     go_wp2_with fail
     go_roundg (m1-1)
     case measure=>omega
     case rel=>exact⟨i+1,by omega,by go_num,HN⟩
  ·have hk:i=rg.length:=by omega
   subst hk;have HF:Hid (xM w u3 (Ge.ae rg) wr):=by
    have:=HE.out;rw[gm] at this;exact this
   clear HE HR CU HLEN
   go_wp2_with fail
   go_ret
   obtain⟨⟨xs,h1,h2,h3⟩,h4⟩:=HF.out;exact⟨_,rfl,⟨xs,h1,L4 h2,h3⟩,h4⟩
namespace Pl
def rings(s:List UInt8):List (List (Int×Int)):=(cz (all s)).2.2.flatten
end Pl
theorem ad5{ps:List (List (List (Int×Int)))}(hok:CR ps):∀e∈Ge.ae ps.flatten,eO e:=fun e he=>by
 obtain⟨g,hg,h1,h2⟩:=Ge.Sk he;obtain⟨p,hp,zR⟩:=tO.1 hg;have ho:=((hok.2 p hp).2 g zR).1;exact⟨(ho _ h1).1,(ho _ h1).2,(ho _ h2).1,(ho _ h2).2⟩
theorem ad6{ps:List (List (List (Int×Int)))}(hok:CR ps):(Ge.ae ps.flatten).length<=65000000:=by
 have h:=Ge.Sj 402 402 ps (fun p hp=>⟨(hok.2 p hp).1,fun g hg=>((hok.2 p hp).2 g hg).2⟩)
 have:=hok.1;omega
namespace Ge
theorem TD{x y d X Y D G:Int}(hx:x=G*X)(hy:y=G*Y)(hd:d=G*D)(a:Pt):rel (x,y) d a=(G*(rel (X,Y) D a).1,G*(rel (X,Y) D a).2):=by
 unfold rel;rw[hx,hy,hd];simp only[aa8];constructor<;>grind
theorem sc{G z:Int}(h:0<G):(0<G*z↔0<z)/\(G*z<0↔z<0)/\(G*z=0↔z=0)/\(G*z<=0↔z<=0):=by
 rcases eK z 0 with hz|hz|hz
 ·have:=wT h hz;omega
 ·subst hz;omega
 ·have:=aR h hz;omega
theorem ad7(G:Int)(u v:Pt):cr (G*u.1,G*u.2) (G*v.1,G*v.2)=(G*G)*cr u v:=by unfold cr;grind
theorem ad8(G:Int)(u v:Pt):dt (G*u.1,G*u.2) (G*v.1,G*v.2)=(G*G)*dt u v:=by unfold dt;grind
theorem TE{x y d X Y D G:Int}(hG:0<G)(hx:x=G*X)(hy:y=G*Y)(hd:d=G*D)(e:Pt×Pt):fo (x,y) d e=fo (X,Y) D e:=by
 unfold fo on;rw[TD hx hy hd,TD hx hy hd,ad7,ad8];have h2:=aR hG hG;congr 1
 ·exact decide_eq_decide.2 (sc h2).2.2.1
 ·exact decide_eq_decide.2 (sc h2).2.2.2
theorem ad9{f g:Pt->Pt->Int}(l:List (Pt×Pt))(h:∀a b,f a b=g a b):total f l=total g l:=by
 unfold total;congr 1;exact rB fun e _=>h e.1 e.2
end Ge
theorem aea{s:List UInt8}(h:(Pl.err s).1=0):CR (Pl.cz (Pl.all s)).2.2:=by
 cases hw:(Pl.wd Pl.iq (Pl.all s)).1
 ·exact(Pl.Tq h hw).2.1
 ·obtain⟨gs,e,h1,_⟩:=Pl.Tp h hw;rw[e];exact⟨by simp,fun g hg=>by rw[bY.1 hg];exact h1⟩
theorem aeb{ps:List (List (List (Int×Int)))}(h:∀p∈ps,p.length<=402):ps.flatten.length<=ps.length*402:=by
 induction ps with
 |nil=>simp
 |cons p r ih=>
  have h1:=ih (fun x hx=>h x (by simp[hx]))
  have h2:=h p (by simp)
  rw[tN,aX,cN,FN];omega
theorem Mc{s:List UInt8}(h:(Pl.err s).1=0):(∀g∈Pl.rings s,pN g/\g.length<=402)/\(Pl.rings s).length<=161604/\(∀e∈Ge.ae (Pl.rings s),eO e)/\(Ge.ae (Pl.rings s)).length<=65000000:=by
 have hok:=aea h;refine⟨fun g hg=>?_,?_,ad5 hok,ad6 hok⟩
 ·obtain⟨p,hp,zR⟩:=tO.1 hg;exact(hok.2 p hp).2 g zR
 ·have h1:=aeb (fun p hp=>(hok.2 p hp).1)
  have h2:=hok.1;unfold Pl.rings;omega
namespace Pl
def C4{α:Type}(sz:α->Nat)(item:List Tk->Bool×List Tk×α):Prop:=∀l,(item l).1=true->sz (item l).2.2+(item l).2.1.length<=l.length
def bI{α:Type}(sz:α->Nat)(l:List α):Nat:=(l.map sz).sum
theorem TF{α:Type}(sz:α->Nat)(l:List α)(x:α):bI sz (l++[x])=bI sz l+sz x:=by simp[bI]
theorem mk_le(c:Nat)(l:List Tk):(mk c l).2.length<=l.length:=by
 cases l with
 |nil=>simp[mk]
 |cons t r=>
  have e:mk c (t::r)=if t.k=c then(true,r) else(false,t::r):=rfl
  rw[e];split<;>simp
theorem H6(q:List UInt8)(l:List Tk):(wd q l).2.length<=l.length:=by
 cases l with
 |nil=>simp[wd]
 |cons t r=>
  have e:wd q (t::r)=if t.k=119/\t.raw=q then(true,r) else(false,t::r):=rfl
  rw[e];split<;>simp
theorem H7{α:Type}{sz:α->Nat}{item:List Tk->Bool×List Tk×α}(hi:C4 sz item):
  ∀(f:Nat)(l:List Tk)(acc:List α),(cE item f l acc).1=true->bI sz (cE item f l acc).2.2+(cE item f l acc).2.1.length<=bI sz acc+l.length
 |0,l,acc,h=>by cases h
 |f+1,l,acc,h=>by
  unfold cE at h⊢;by_cases h1:(item l).1=true
  ·have k1:=hi l h1;rw[aj h1] at h⊢;by_cases h2:(mk 44 (item l).2.1).1=true
   ·rw[aj h2] at h⊢;have ih:=H7 hi f _ _ h;have k2:=mk_le 44 (item l).2.1;rw[TF] at ih;omega
   ·rw[af h2];have k2:=mk_le 41 (item l).2.1;simp only;rw[TF];omega
  ·rw[af h1] at h;cases h
theorem aec:C4 (fun _=>1) fk:=fun l h=>by
 match l,h with
 |[],h=>cases h
 |[x],h=>cases h
 |x::y::r,h=>
  have e:fk (x::y::r)=if x.k=110 then(if y.k=110 then(true,r,(x.n,y.n)) else(false,y::r,(0,0))) else(false,x::y::r,(0,0)):=rfl
  rw[e] at h⊢;split
  ·split
   ·simp;omega
   ·simp;omega
  ·rename_i hx;rw[af hx] at h;cases h
theorem aed:C4 (bI fun _=>1) gH:=fun l h=>by
 unfold gH at h⊢;by_cases h1:(mk 40 l).1=true
 ·have k1:=mk_le 40 l;rw[aj h1] at h⊢;by_cases h2:(mk 41 (mk 40 l).2).1=true
  ·have k2:=mk_le 41 (mk 40 l).2;rw[aj h2];simp[bI];omega
  ·rw[af h2] at h⊢;have k:=H7 aec _ _ _ h;have e:bI (fun _:Int×Int=>1) []=0:=rfl
   omega
 ·rw[af h1] at h;cases h
theorem TG:C4 (bI (bI fun _=>1)) dB:=fun l h=>by
 unfold dB at h⊢;by_cases h0:(wd EMPTY l).1=true
 ·have k0:=H6 EMPTY l;rw[aj h0];simp[bI];exact k0
 ·rw[af h0] at h⊢;by_cases h1:(mk 40 l).1=true
  ·have k1:=mk_le 40 l;rw[aj h1] at h⊢;have k:=H7 aed _ _ _ h;have e:bI (bI fun _=>1) ([]:List (List (Int×Int)))=0:=rfl
   omega
  ·rw[af h1] at h;cases h
theorem aee:C4 (bI (bI (bI fun _=>1))) iH:=fun l h=>by
 unfold iH at h⊢;by_cases h0:(wd EMPTY l).1=true
 ·have k0:=H6 EMPTY l;rw[aj h0];simp[bI];exact k0
 ·rw[af h0] at h⊢;by_cases h1:(mk 40 l).1=true
  ·have k1:=mk_le 40 l;rw[aj h1] at h⊢;have k:=H7 TG _ _ _ h;have e:bI (bI (bI fun _=>1)) ([]:List (List (List (Int×Int))))=0:=rfl
   omega
  ·rw[af h1] at h;cases h
theorem aef{α:Type}(l:List α):bI (fun _=>1) l=l.length:=by
 induction l with
 |nil=>rfl
 |cons a l ih=>
  have e:bI (fun _=>1) (a::l)=1+bI (fun _=>1) l:=by simp[bI]
  rw[e,ih,cN];omega
theorem aeg(rg:List (List (Int×Int))):(Ge.ae rg).length<=bI (bI fun _=>1) rg:=by
 induction rg with
 |nil=>simp[Ge.ae]
 |cons g r ih=>
  have e:Ge.ae (g::r)=Ge.dY g++Ge.ae r:=po;have h1:(Ge.dY g).length<=g.length:=by rw[<-Ge.LB];exact Ge.LC g _
  have h2:bI (bI fun _=>1) (g::r)=bI (fun _=>1) g+bI (bI fun _=>1) r:=by simp[bI]
  rw[e,aX,h2,aef];omega
theorem aeh(ps:List (List (List (Int×Int)))):bI (bI fun _=>1) ps.flatten=bI (bI (bI fun _=>1)) ps:=by
 induction ps with
 |nil=>rfl
 |cons p r ih=>
  have h1:bI (bI fun _=>1) (p++r.flatten)=bI (bI fun _=>1) p+bI (bI fun _=>1) r.flatten:=by simp[bI]
  have h2:bI (bI (bI fun _=>1)) (p::r)=bI (bI fun _=>1) p+bI (bI (bI fun _=>1)) r:=by simp[bI]
  rw[tN,h1,h2,ih]
theorem aei{s:List UInt8}(h:(err s).1=0):(Ge.ae (rings s)).length<=402:=by
 obtain⟨h5,_,h1,_⟩:=uk h;have hl:=GL s;have k:bI (bI (bI fun _=>1)) (cz (all s)).2.2<=(all s).length:=by
  unfold cz at h1⊢;by_cases hw:(wd iq (all s)).1=true
  ·rw[aj hw] at h1⊢;have k1:=TG _ h1;have k2:=H6 iq (all s);have e:bI (bI (bI fun _=>1)) [(dB (wd iq (all s)).2).2.2]=bI (bI fun _=>1) (dB (wd iq (all s)).2).2.2:=by simp[bI]
   simp only;rw[e];omega
  ·rw[af hw] at h1⊢;by_cases hm:(wd jf (all s)).1=true
   ·rw[aj hm] at h1⊢;have k1:=aee _ h1;have k2:=H6 jf (all s);omega
   ·rw[af hm] at h1;cases h1
 have k2:=aeg (rings s);have k3:bI (bI fun _=>1) (rings s)=bI (bI (bI fun _=>1)) (cz (all s)).2.2:=aeh _
 have k4:s.length<=400:=by
  unfold err at h;by_cases hs:400<s.length
  ·rw[aj hs] at h;cases h
  ·omega
 omega
end Pl
namespace Ge
def qB(acc:List Qt)(c:List Qt):List Qt:=c.foldl (fun a q=>ins q a) acc
def gV(l:List (Pt×Pt)):List Qt:=l.foldl (fun acc e=>qB acc (oL l e)) []
end Ge
namespace Pl
end Pl
namespace Ge
def isNode(l:List (Pt×Pt))(q:Qt):Prop:=
 (∃e∈l,q=pt e.1\/q=pt e.2)\/∃e∈l,∃f∈l,cK e f≠0/\q=fw e f/\hq (fw e f) e=true/\hq (fw e f) f=true
theorem TH:∀(c acc:List Qt),(∀q∈acc,gq q)->(∀q∈c,gq q)->∀r,r∈qB acc c↔r∈acc\/r∈c
 |[],acc,_,_,r=>by simp[qB]
 |q::c,acc,ha,hc,r=>by
  have hq:=hc q (by simp)
  have e:qB acc (q::c)=qB (ins q acc) c:=rfl;rw[e,TH c (ins q acc) (vK hq ha) (fun x hx=>hc x (by simp[hx])) r,rS hq ha r,aP]
  constructor
  ·rintro((h|h)|h)
   ·exact ah (ag h)
   ·exact ag h
   ·exact ah (ah h)
  ·rintro(h|h|h)
   ·exact ag (ah h)
   ·exact ag (ag h)
   ·exact ah h
def adds(e f:Pt×Pt)(r:Qt):Prop:=
 (cK e f≠0/\r=fw e f/\hq (fw e f) e=true/\hq (fw e f) f=true)\/(cK e f=0/\((r=pt f.1/\hq (pt f.1) e=true)\/(r=pt f.2/\hq (pt f.2) e=true)))
theorem aej{e f:Pt×Pt}{o:List Qt}(ho:∀q∈o,gq q):(∀q∈xJ e o f,gq q)/\∀r,r∈xJ e o f↔r∈o\/adds e f r:=by
 unfold xJ adds;by_cases hc:cK e f=0
 ·rw[aj hc];dsimp only;have h1:=rS (rV f.1) ho;have r1:=vK (rV f.1) ho;by_cases a:hq (pt f.1) e=true
  ·rw[aj a];have h2:=rS (rV f.2) r1;by_cases b:hq (pt f.2) e=true
   ·rw[aj b];refine⟨vK (rV f.2) r1,fun r=>?_⟩
    rw[h2,h1];simp only[hc,a,b,ne_eq,uT,tJ,tL,qf,tH];constructor
    ·rintro(h|h|h)
     ·exact ah (ah h)
     ·exact ah (ag h)
     ·exact ag h
    ·rintro(h|h|h)
     ·exact ah (ah h)
     ·exact ah (ag h)
     ·exact ag h
   ·rw[af b];refine⟨r1,fun r=>?_⟩
    rw[h1]
    grind
  ·rw[af a];have h2:=rS (rV f.2) ho;by_cases b:hq (pt f.2) e=true
   ·rw[aj b];refine⟨vK (rV f.2) ho,fun r=>?_⟩
    rw[h2]
    grind
   ·rw[af b];refine⟨ho,fun r=>?_⟩
    simp[hc,a,b]
 ·rw[af hc];have h1:=rS (Tb hc) ho;by_cases a:(hq (fw e f) e&&hq (fw e f) f)=true
  ·rw[aj a];obtain⟨a1,a2⟩:=(Bool.and_eq_true_iff).1 a;refine⟨vK (Tb hc) ho,fun r=>?_⟩
   rw[h1];simp only[hc,a1,a2,ne_eq,wW,tL,qf,tJ,tK];exact⟨fun h=>h.symm,fun h=>h.symm⟩
  ·rw[af a];refine⟨ho,fun r=>?_⟩
   constructor
   ·exact ag
   ·rintro(h|⟨_,_,h1,h2⟩|⟨h,_⟩)
    ·exact h
    ·exact absurd (by rw[h1,h2];rfl) a
    ·exact absurd h hc
theorem TI(e:Pt×Pt):∀(l:List (Pt×Pt))(o:List Qt),(∀q∈o,gq q)->(∀q∈l.foldl (xJ e) o,gq q)/\∀r,r∈l.foldl (xJ e) o↔r∈o\/∃f∈l,adds e f r
 |[],o,ho=>⟨ho,fun r=>by simp⟩
 |f::l,o,ho=>by
  obtain⟨h1,h2⟩:=aej (e:=e) (f:=f) ho;obtain⟨h3,h4⟩:=TI e l (xJ e o f) h1;refine⟨h3,fun r=>?_⟩
  rw[rq,h4,h2];constructor
  ·rintro((h|h)|⟨g,hg,h⟩)
   ·exact ag h
   ·exact ah ⟨f,by simp,h⟩
   ·exact ah ⟨g,by simp[hg],h⟩
  ·rintro(h|⟨g,hg,h⟩)
   ·exact ag (ag h)
   ·rcases aP.1 hg with e'|e'
    ·subst e';exact ag (ah h)
    ·exact ah ⟨g,e',h⟩
theorem H8(l:List (Pt×Pt))(e:Pt×Pt):(∀q∈oL l e,gq q)/\∀r,r∈oL l e↔r=pt e.1\/r=pt e.2\/∃f∈l,adds e f r:=by
 have h0:∀q∈([]:List Qt),gq q:=fun q h=>by simp at h
 have h1:=vK (rV e.1) h0;have h2:=vK (rV e.2) h1;obtain⟨h3,h4⟩:=TI e l _ h2;refine⟨h3,fun r=>?_⟩
 unfold oL;rw[h4,rS (rV e.2) h1,rS (rV e.1) h0];constructor
 ·rintro((h|h|h)|h)
  ·exact ah (ag h)
  ·exact ag h
  ·simp at h
  ·exact ah (ah h)
 ·rintro(h|h|h)
  ·exact ag (ah (ag h))
  ·exact ag (ag h)
  ·exact ah h
theorem TJ(L:List (Pt×Pt)):∀(l:List (Pt×Pt))(acc:List Qt),(∀q∈acc,gq q)->rR acc->
  (∀q∈l.foldl (fun acc e=>qB acc (oL L e)) acc,gq q)/\rR (l.foldl (fun acc e=>qB acc (oL L e)) acc)/\∀r,r∈l.foldl (fun acc e=>qB acc (oL L e)) acc↔r∈acc\/∃e∈l,r∈oL L e
 |[],acc,h,ha=>⟨h,ha,fun r=>by simp⟩
 |e::l,acc,h,ha=>by
  have hc:=(H8 L e).1;have hm:=TH (oL L e) acc h hc;have hr:∀q∈qB acc (oL L e),gq q:=fun q hq=>by
   rcases(hm q).1 hq with k|k
   ·exact h q k
   ·exact hc q k
  have has:rR (qB acc (oL L e)):=by
   clear hm hr;generalize oL L e=c at hc;induction c generalizing acc with
   |nil=>exact ha
   |cons q c ih=>
    have hq:=hc q (by simp)
    exact ih (ins q acc) (vK hq h) (SF hq h ha) (fun x hx=>hc x (by simp[hx]))
  obtain⟨h1,h2,h3⟩:=TJ L l (qB acc (oL L e)) hr has;refine⟨h1,h2,fun r=>?_⟩
  rw[rq,h3,hm];constructor
  ·rintro((k|k)|⟨g,hg,k⟩)
   ·exact ag k
   ·exact ah ⟨e,by simp,k⟩
   ·exact ah ⟨g,by simp[hg],k⟩
  ·rintro(k|⟨g,hg,k⟩)
   ·exact ag (ag k)
   ·rcases aP.1 hg with e'|e'
    ·subst e';exact ag (ah k)
    ·exact ah ⟨g,e',k⟩
theorem xP(l:List (Pt×Pt)):(∀q∈gV l,gq q)/\rR (gV l)/\∀r,r∈gV l↔isNode l r:=by
 obtain⟨h1,h2,h3⟩:=TJ l l [] (fun q h=>by simp at h) List.Pairwise.nil
 refine⟨h1,h2,fun r=>?_⟩
 unfold gV;rw[h3];unfold isNode;constructor
 ·rintro(h|⟨e,he,h⟩)
  ·simp at h
  ·rcases((H8 l e).2 r).1 h with h|h|⟨f,hf,h⟩
   ·exact ag ⟨e,he,ag h⟩
   ·exact ag ⟨e,he,ah h⟩
   ·rcases h with⟨a,b,c,d⟩|⟨_,⟨h,_⟩|⟨h,_⟩⟩
    ·exact ah ⟨e,he,f,hf,a,b,c,d⟩
    ·exact ag ⟨f,hf,ag h⟩
    ·exact ag ⟨f,hf,ah h⟩
 ·rintro(⟨e,he,h⟩|⟨e,he,f,hf,a,b,c,d⟩)
  ·refine ah ⟨e,he,((H8 l e).2 r).2 ?_⟩;rcases h with h|h
   ·exact ag h
   ·exact ah (ag h)
  ·exact ah ⟨e,he,((H8 l e).2 r).2 (ah (ah ⟨f,hf,ag ⟨a,b,c,d⟩⟩))⟩
theorem TM(e f:Pt×Pt):cK f e= -cK e f:=by unfold cK;grind
theorem aek{e f:Pt×Pt}(h:cK e f≠0):fw f e=fw e f:=by
 have h':cK f e≠0:=by rw[TM];omega
 unfold fw;have e1:mX f e*cK e f=mX e f*cK f e:=by unfold mX mT cK;grind
 have e2:mY f e*cK e f=mY e f*cK f e:=by unfold mY mT cK;grind
 rw[zE h' h e1,zE h' h e2]
end Ge
theorem se(x:Int)(g:Nat): -(x.natAbs:Int)<=x.tdiv g/\x.tdiv g<=(x.natAbs:Int):=by
 have h:(x.tdiv g).natAbs<=x.natAbs:=by
  rw[Int.natAbs_tdiv];exact Nat.div_le_self _ _
 omega
theorem ael{a b:Nat}{x y:Int}(D:Int)(h1:Fl a x)(h2:Fl b y)(hx: -16000000<=x/\x<=16000000)(hy: -16000000<=y/\y<=16000000)(hD:D<0/\ -300000<=D)(G:Nat)(hG:Int.gcd (Int.gcd x y:Nat) D=G)(w:World):
  Calls Tryz.prog 37 #[.complex .f64 a b,.int .i64 D] w fun e w'=>e=.returned (.agg #[.complex .f64 (floatOfInt .f64 (x.tdiv (-(G:Int)))) (floatOfInt .f64 (y.tdiv (-(G:Int)))),.int .i64 (D.tdiv (-(G:Int)))])/\Below w.heap.size w w':=by
 have CH:0<G:=by rw[<-hG];exact ue (by omega)
 have ac5:Int.gcd x y<=16000000:=by
  by_cases hz:x=0
  ·rw[hz,Int.gcd_zero_left];omega
  ·have:=ams (b:=y) hz;omega
 have hGD:G<=300000:=by
  have:=amt (a:=(Int.gcd x y:Nat)) (b:=D) (by omega)
  omega
 have c1:=h1.int (by omega) (by omega)
 have c2:=h2.int (by omega) (by omega)
 have hc1:∀w,(convert 120 3 (.float .f64 a)).run Tryz.prog w=.ok (.int .i64 x) w:=fun w=>run_convert_float_int w 120 3 .f64 .i64 a x (by rw[Tryz.underlying120];rfl) Tryz.underlying3 c1
 have hc2:∀w,(convert 120 3 (.float .f64 b)).run Tryz.prog w=.ok (.int .i64 y) w:=fun w=>run_convert_float_int w 120 3 .f64 .i64 b y (by rw[Tryz.underlying120];rfl) Tryz.underlying3 c2
 have LM:Hid (∀w1,Calls Tryz.prog 65 #[.int .i64 x,.int .i64 y] w1 fun e w'=>e=.returned (.int .i64 (Int.gcd x y:Nat))/\Below w1.heap.size w1 w'):=fun w1=>CG x y w1 (by omega) (by omega)
 have LN:Hid (∀w1,Calls Tryz.prog 65 #[.int .i64 (Int.gcd x y:Nat),.int .i64 D] w1 fun e w'=>e=.returned (.int .i64 (G:Int))/\Below w1.heap.size w1 w'):=fun w1=>by rw[<-hG];exact CG _ D w1 (by omega) (by omega)
 obtain⟨XQ,xz⟩:∃q,q=x.tdiv (-(G:Int)):=⟨_,rfl⟩;obtain⟨YQ,xA⟩:∃q,q=y.tdiv (-(G:Int)):=⟨_,rfl⟩;obtain⟨DQ,xB⟩:∃q,q=D.tdiv (-(G:Int)):=⟨_,rfl⟩;rw[<-xz,<-xA,<-xB];have HP:Hid (∀w1,Calls Tryz.prog 38 #[.int .i64 XQ,.int .i64 YQ] w1 fun e w'=>e=.returned (.complex .f64 (floatOfInt .f64 XQ) (floatOfInt .f64 YQ))/\w'=w1):=fun w1=>GU _ _ w1
 have hw1:IntKind.i64.wrap (x.tdiv (-(G:Int)))=XQ:=by rw[xz,xd,IntKind.wrap_i64];have:=se x G;omega
 have hw2:IntKind.i64.wrap (y.tdiv (-(G:Int)))=YQ:=by rw[xA,xd,IntKind.wrap_i64];have:=se y G;omega
 have hw3:IntKind.i64.wrap (D.tdiv (-(G:Int)))=DQ:=by rw[xB,xd,IntKind.wrap_i64];have:=se D G;omega
 have rQ:IntKind.i64.wrap (-(x.tdiv (G:Int)))=XQ:=by rw[<-xd];exact hw1
 have H9:IntKind.i64.wrap (-(y.tdiv (G:Int)))=YQ:=by rw[<-xd];exact hw2
 have kO:IntKind.i64.wrap (-(D.tdiv (G:Int)))=DQ:=by rw[<-xd];exact hw3
 have hw4:IntKind.i64.wrap (-(G:Int))= -(G:Int):=by rw[IntKind.wrap_i64];omega
 clear xz xA xB;have Sz:¬G=0:=by omega
 have SA:¬(-(G:Int)=0):=by omega
 generalize Int.gcd x y=GXY at*;clear c1 c2 h1 h2 hG;have hE:=heap_alloc_new w (.cells #[.complex .f64 0 0,.int .i64 0] 83);have hb0:Below w.heap.size w (w.alloc (.cells #[.complex .f64 0 0,.int .i64 0] 83)):=(Below.refl _ _).alloc (ay _) _;have hz:w.heap.size<(w.alloc (.cells #[.complex .f64 0 0,.int .i64 0] 83)).heap.size:=by simp
 go_enter Tryz.func37,Tryz.ntmps37
 go_wp2_with (first |(simp only[hc1])|(simp only[hc2]))
 generalize w.alloc (.cells #[.complex .f64 0 0,.int .i64 0] 83)=W at*;generalize hB:w.heap.size=B at*;refine(LM.out _).mono ?_;rintro e w1 ⟨rfl,hb1⟩
 go_wp2_with fail
 refine(LN.out _).mono ?_;rintro e w2 ⟨rfl,hb2⟩;have hs1:=hb1.size;have dC:=(hb2.block _ (show B<w1.heap.size by omega)).trans ((hb1.block _ hz).trans hE)
 have aw:=(hb0.trans (hb1.mono (eJ hz))).trans (hb2.mono (by omega))
 have e0:w2.cell? ⟨B,0,none⟩=some (.complex .f64 0 0):=cell_of dC 0;have e1:w2.cell? ⟨B,1,none⟩=some (.int .i64 0):=cell_of dC 1;have z0:w2.frozen? ⟨B,0,none⟩=false:=bw dC 0;have z1:w2.frozen? ⟨B,1,none⟩=false:=bw dC 1;clear hE dC hb1 hb2 hb0
 go_wp2_with fail
 go_region_held3 (fun w'=>w'.frozen? ⟨B,0,none⟩=false/\w'.frozen? ⟨B,1,none⟩=false) (go_keep) (first
  |(go_at_call 38;refine(HP.out _).mono ?_;rintro e w5 ⟨rfl,rQ⟩;subst rQ)
  |(simp only[fW];go_simp))
 go_wp2_with fail
 refine bodyPost_ret (v:=.agg #[.complex .f64 (floatOfInt .f64 XQ) (floatOfInt .f64 YQ),.int .i64 DQ]) (by simp[results,Tryz.results37,go_sem,e0,e1]) rfl ⟨rfl,?_⟩
 rw[hB];exact((aw.setCell (ay _) _).setCell (ay _) _).drew
end Go.Proofs.YtkjhhooecopolaaGreatDoor
namespace Go.Proofs.YtkjhhooecopolaaGreatDoor.Ge
abbrev Nd:=Int×Int×Int
structure Can(n:Nd):Prop where
 pos:0<n.2.2
 co:Int.gcd (Int.gcd n.1 n.2.1) n.2.2=1
def ax(n:Nd):Qt:=(aW n.1 n.2.2,aW n.2.1 n.2.2)
theorem TN{n m:Nd}(hn:Can n)(h1:n.1*m.2.2=m.1*n.2.2)(h2:n.2.1*m.2.2=m.2.1*n.2.2):n.2.2∣m.2.2:=by
 have d1:n.2.2∣n.1*m.2.2:=⟨m.1,by rw[h1,dX]⟩
 have d2:n.2.2∣n.2.1*m.2.2:=⟨m.2.1,by rw[h2,dX]⟩
 have d3:n.2.2∣(Int.gcd (n.1*m.2.2) (n.2.1*m.2.2):Int):=aa9 d1 d2;rw[Int.gcd_mul_right] at d3;have d4:n.2.2∣(Int.gcd n.1 n.2.1:Int)*m.2.2:=by
  rw[Ks] at d3;rcases Int.natAbs_eq m.2.2 with h|h
  ·rw[h];exact d3
  ·rw[h,wU];exact Int.dvd_neg.2 d3
 exact LO (by rw[aa2];exact hn.co) d4
theorem aem{n m:Nd}(hn:Can n)(hm:Can m)(h1:n.1*m.2.2=m.1*n.2.2)(h2:n.2.1*m.2.2=m.2.1*n.2.2):n=m:=by
 have a:=TN hn h1 h2;have b:=TN hm h1.symm h2.symm;have p1:=aba hm.pos a;have p2:=aba hn.pos b;have e:n.2.2=m.2.2:=by omega
 have hz:m.2.2≠0:=by have:=hm.pos;omega
 rw[e] at h1 h2;have e1:=Qp hz h1;have e2:=Qp hz h2;exact bX e1 (bX e2 e)
theorem aen{g z:Int}(hg:0<g):(g*z).sign=z.sign:=by
 rw[Qq,pq hg,tM]
theorem zS{a b c d:Int}(hb:0<b)(hd:0<d):fc (aW a b) (aW c d)=(a*d-c*b).sign:=by
 obtain⟨g,g0,e1,e2,gp⟩:=xD (n:=a) (d:=b) (by omega)
 obtain⟨k,k0,e3,e4,kp⟩:=xD (n:=c) (d:=d) (by omega)
 have hg:=gp.2 hb;have hk:=kp.2 hd;unfold fc;have:a*d-c*b=(g*k)*((aW a b).1*(aW c d).2-(aW c d).1*(aW a b).2):=by
  generalize aW a b=A at*;generalize aW c d=B at*;rw[e1,e2,e3,e4];grind
 rw[this,aen (aR hg hk)]
theorem df{n:Nd}(h:Can n):gq (ax n):=⟨zD (by have:=h.pos;omega),zD (by have:=h.pos;omega)⟩
theorem Ia{n m:Nd}(hn:Can n)(hm:Can m):pc (ax n) (ax m)=if(n.1*m.2.2-m.1*n.2.2).sign=0 then(n.2.1*m.2.2-m.2.1*n.2.2).sign else(n.1*m.2.2-m.1*n.2.2).sign:=by
 unfold pc ax;rw[zS hn.pos hm.pos,zS hn.pos hm.pos]
theorem um{n m:Nd}(hn:Can n)(hm:Can m)(h:pc (ax n) (ax m)=0):n=m:=by
 rw[Ia hn hm] at h;split at h
 ·rename_i h1
  have a:=uY.1 h1;have b:=uY.1 h;exact aem hn hm (by omega) (by omega)
 ·contradiction
theorem zT{n m:Nd}(hn:Can n)(hm:Can m)(h:ax n=ax m):n=m:=um hn hm (by rw[h];exact xC _)
theorem Ib{x y d k X Y P:Int}(hd:d≠0)(h1:x=k*X)(h2:y=k*Y)(h3:d=k*P)(hP:0<P)(hk:k.natAbs=Int.gcd (Int.gcd x y:Nat) d):Can (X,Y,P)/\ax (X,Y,P)=(aW x d,aW y d):=by
 have k0:k≠0:=by rintro rfl;rw[uW] at h3;exact hd h3
 refine⟨⟨hP,?_⟩,?_⟩
 ·show Int.gcd (Int.gcd X Y:Nat) P=1;have e1:Int.gcd x y=k.natAbs*Int.gcd X Y:=by rw[h1,h2,aa3]
  have e2:Int.gcd (Int.gcd x y:Nat) d=k.natAbs*Int.gcd (Int.gcd X Y:Nat) P:=by
   have:Int.gcd (k*((Int.gcd X Y:Nat):Int)) (k*P)=k.natAbs*Int.gcd (Int.gcd X Y:Nat) P:=aa3 ..;rw[<-this,e1,h3];unfold Int.gcd;congr 1;rw[oa];simp[Int.natAbs_mul]
  rw[e2] at hk;have kp:0<k.natAbs:=by omega
  exact amx kp (by omega)
 ·unfold ax;show(aW X P,aW Y P)=_;rw[zE (n:=X) (d:=P) (m:=x) (e:=d) (by omega) hd (by rw[h1,h3];grind),zE (n:=Y) (d:=P) (m:=y) (e:=d) (by omega) hd (by rw[h2,h3];grind)]
theorem Ic{x g:Int}(h:g∣x):x=g*x.tdiv g:=(xa h).symm
end Go.Proofs.YtkjhhooecopolaaGreatDoor.Ge
namespace Go.Proofs.YtkjhhooecopolaaGreatDoor
open Go.RowKit
def gZ(n:Ge.Nd):Value:=.agg #[.complex .f64 (floatOfInt .f64 n.1) (floatOfInt .f64 n.2.1),.int .i64 n.2.2]
theorem Ie{a b:Nat}{x y:Int}(D:Int)(h1:Fl a x)(h2:Fl b y)(hx: -16000000<=x/\x<=16000000)(hy: -16000000<=y/\y<=16000000)(hD:D≠0/\ -300000<=D/\D<=300000):
  ∃n:Ge.Nd,Ge.Can n/\Ge.ax n=(Ge.aW x D,Ge.aW y D)/\dM n.1 n.2.1 n.2.2/\∀w,Calls Tryz.prog 37 #[.complex .f64 a b,.int .i64 D] w fun e w'=>e=.returned (gZ n)/\Below w.heap.size w w':=by
 obtain⟨G,hG⟩:∃G,Int.gcd (Int.gcd x y:Nat) D=G:=⟨_,rfl⟩;have CH:0<G:=by rw[<-hG];exact aa0 _ hD.1
 have dg:(G:Int)∣(Int.gcd x y:Nat):=by rw[<-hG];exact BF ..
 have dd:(G:Int)∣D:=by rw[<-hG];exact yY ..
 have dx:(G:Int)∣x:=BH dg (BF ..);have dy:(G:Int)∣y:=BH dg (yY ..);have ex:=Ge.Ic dx;have ey:=Ge.Ic dy;have ed:=Ge.Ic dd;have bx:=se x G;have by':=se y G
 have bd:=se D G;rcases eK D 0 with h|h|h
 ·have call:=ael D h1 h2 hx hy ⟨h,hD.2.1⟩ G hG;rw[xd,xd,xd] at call;have hP:0< -(D.tdiv G):=by
   rcases Int.lt_or_le (D.tdiv G) 0 with q|q
   ·omega
   ·have:=iN (Int.natCast_nonneg G) q;omega
  obtain⟨c1,c2⟩:=Ge.Ib (x:=x) (y:=y) (d:=D) (k:= -(G:Int)) (X:= -(x.tdiv G)) (Y:= -(y.tdiv G)) (P:= -(D.tdiv G)) hD.1 (ex.trans (y7 ..).symm) (ey.trans (y7 ..).symm) (ed.trans (y7 ..).symm) hP (by rw[hG];omega)
  exact⟨(-(x.tdiv G), -(y.tdiv G), -(D.tdiv G)),c1,c2,⟨by show(-(x.tdiv G)).natAbs<=_;omega,by show(-(y.tdiv G)).natAbs<=_;omega,hP,by show -(D.tdiv G)<=_;omega⟩,call⟩
 ·exact absurd h hD.1
 ·have call:=ac4 D h1 h2 hx hy ⟨h,hD.2.2⟩ G hG;have hP:0<D.tdiv G:=by
   rcases Int.lt_or_le 0 (D.tdiv G) with q|q
   ·exact q
   ·have:=iN (Int.natCast_nonneg G) (Int.neg_nonneg_of_nonpos q);rw[wU] at this;omega
  obtain⟨c1,c2⟩:=Ge.Ib (x:=x) (y:=y) (d:=D) (k:=(G:Int)) (X:=x.tdiv G) (Y:=y.tdiv G) (P:=D.tdiv G) hD.1 ex ey ed hP (by rw[hG];omega)
  exact⟨(x.tdiv G,y.tdiv G,D.tdiv G),c1,c2,⟨by show(x.tdiv G).natAbs<=_;omega,by show(y.tdiv G).natAbs<=_;omega,hP,by show D.tdiv G<=_;omega⟩,call⟩
end Go.Proofs.YtkjhhooecopolaaGreatDoor
namespace Go.Proofs.YtkjhhooecopolaaGreatDoor
open Go.RowKit
theorem Ig{e:Ed}(h:eO e):(-100<=e.2.1-e.1.1/\e.2.1-e.1.1<=100)/\(-100<=e.2.2-e.1.2/\e.2.2-e.1.2<=100):=by
 obtain⟨a,b,c,d⟩:=h;unfold small at a b c d;omega
theorem TP(x y:EB)(e f:Ed)(hx:jK x e)(hy:jK y f)(he:eO e)(hf:eO f)(w:World):
  Calls Tryz.prog 179 #[.agg #[.complex .f64 x.wa x.wb,.float .f64 x.sh],.agg #[.complex .f64 y.wa y.wb,.float .f64 y.sh]] w fun r w'=>r=.returned (.bool (decide (Ge.cK e f=0)))/\Below w.heap.size w w':=by
 have we:=Ig he;have wf:=Ig hf;obtain⟨im,f1,hl⟩:=Cz hx.wa hx.wb hy.wa hy.wb (by unfold sm;omega) (by unfold sm;omega) (by unfold sm;omega) (by unfold sm;omega)
 have HL:Hid (∀w,Calls Tryz.prog 101 #[.complex .f64 x.wa x.wb,.complex .f64 y.wa y.wb] w fun e w'=>e=.returned (.float .f64 im)/\w'=w):=hl
 have q:=rP f1 kM;have hc:decide (Ge.cK e f=0)=(FloatKind.f64.format.order im 0 == some .eq):=by rw[q];rfl
 rw[hc];clear hl q hc f1 hx hy he hf we wf;obtain⟨wa,wb,sh,fa,fb,ta,tb⟩:=x;obtain⟨jg,jh,sh',l9,mb,mf,mg⟩:=y;simp only at*;have hb0:Below w.heap.size w ((w.alloc (.cells #[.complex .f64 wa wb,.float .f64 sh] 122)).alloc (.cells #[.complex .f64 jg jh,.float .f64 sh'] 122)):=((Below.refl _ _).alloc (ay _) _).alloc (by simp) _
 go_enter Tryz.func179,Tryz.ntmps179
 go_wp2_with fail
 refine(HL.out _).mono ?_;rintro e w1 ⟨rfl,rfl⟩
 go_wp2_with fail
 go_ret
 exact⟨rfl,hb0⟩
theorem aeo(e f:Ed):(f.2.1-f.1.1)*((e.2.1-e.1.1)*e.1.2-(e.2.2-e.1.2)*e.1.1)-(e.2.1-e.1.1)*((f.2.1-f.1.1)*f.1.2-(f.2.2-f.1.2)*f.1.1)=Ge.mX e f:=by
 unfold Ge.mX Ge.mT Ge.cK;grind
theorem aep(e f:Ed):(f.2.2-f.1.2)*((e.2.1-e.1.1)*e.1.2-(e.2.2-e.1.2)*e.1.1)-(e.2.2-e.1.2)*((f.2.1-f.1.1)*f.1.2-(f.2.2-f.1.2)*f.1.1)=Ge.mY e f:=by
 unfold Ge.mY Ge.mT Ge.cK;grind
theorem TQ{a b s z:Nat}{x y t:Int}(h1:Fl a x)(h2:Fl b y)(h3:Fl s t)(hz:Fl z 0)(b1:sm x)(b2:sm y)(b3:sm t):
  ∃re im,(∀ty w,(binOp .mul ty (.complex .f64 a b) (.complex .f64 s z)).run Tryz.prog w=.ok (.complex .f64 re im) w)/\Fl re (x*t)/\Fl im (y*t):=by
 have m1:=oF b1 b3;have m2:=oF b2 b3;obtain⟨re,im,e,f1,f2⟩:=Lz h1 h2 h3 hz (by omega) (by omega) (by omega) (by omega) (by omega) (by omega)
 refine⟨re,im,fun ty w=>run_complex_mul (P:=Tryz.prog) w ty a b s z re im e,?_,?_⟩
 ·have:x*t=x*t-y*0:=by omega
  rw[this];exact f1
 ·have:y*t=x*0+y*t:=by omega
  rw[this];exact f2
theorem aeq(x y:EB)(e f:Ed)(hx:jK x e)(hy:jK y f)(he:eO e)(hf:eO f)(hc:Ge.cK e f≠0):
  ∃n:Ge.Nd,Ge.Can n/\Ge.ax n=Ge.fw e f/\dM n.1 n.2.1 n.2.2/\∀w,Calls Tryz.prog 180 #[.agg #[.complex .f64 x.wa x.wb,.float .f64 x.sh],.agg #[.complex .f64 y.wa y.wb,.float .f64 y.sh]] w fun r w'=>r=.returned (gZ n)/\Below w.heap.size w w':=by
 have we:=Ig he;have wf:=Ig hf;have cin:=Tc he hf;obtain⟨im,f1,hl⟩:=Cz hx.wa hx.wb hy.wa hy.wb (by unfold sm;omega) (by unfold sm;omega) (by unfold sm;omega) (by unfold sm;omega)
 have hcr:(e.2.1-e.1.1)*(f.2.2-f.1.2)-(e.2.2-e.1.2)*(f.2.1-f.1.1)=Ge.cK e f:=rfl;rw[hcr] at f1;have c1:=f1.int (by omega) (by omega)
 obtain⟨p1,p2,o1,g1,g2⟩:=TQ hy.wa hy.wb hx.sh kM (by unfold sm;omega) (by unfold sm;omega) (G6 he)
 obtain⟨r1,r2,o2,k1,k2⟩:=TQ hx.wa hx.wb hy.sh kM (by unfold sm;omega) (by unfold sm;omega) (G6 hf)
 have cx:=aeo e f;have cy:=aep e f;obtain⟨s1,s2,e3,j1,j2⟩:=Lx g1 g2 k1 k2 (by rw[cx];omega) (by rw[cy];omega)
 have o3:=fun t w=>run_complex_sum (P:=Tryz.prog) w .sub (ah rfl) t .f64 p1 p2 r1 r2 s1 s2 e3
 rw[cx] at j1;rw[cy] at j2;obtain⟨n,n1,n2,n3,hN⟩:=Ie (Ge.cK e f) j1 j2 (by omega) (by omega) (by omega)
 refine⟨n,n1,n2,n3,fun w=>?_⟩
 have HL:Hid (∀w,Calls Tryz.prog 101 #[.complex .f64 x.wa x.wb,.complex .f64 y.wa y.wb] w fun e w'=>e=.returned (.float .f64 im)/\w'=w):=hl
 generalize Ge.cK e f=C at*;have hc1:∀w,(convert 120 3 (.float .f64 im)).run Tryz.prog w=.ok (.int .i64 C) w:=fun w=>run_convert_float_int w 120 3 .f64 .i64 im C (by rw[Tryz.underlying120];rfl) Tryz.underlying3 c1
 unfold gZ at*;generalize floatOfInt .f64 n.1=N1 at*;generalize floatOfInt .f64 n.2.1=N2 at*;have HN:Hid (∀w,Calls Tryz.prog 37 #[.complex .f64 s1 s2,.int .i64 C] w fun e w'=>e=.returned (.agg #[.complex .f64 N1 N2,.int .i64 n.2.2])/\Below w.heap.size w w'):=hN
 clear hl hN c1 cx cy j1 j2 e3 g1 g2 k1 k2 n1 n2 n3 f1 hcr cin we wf hx hy he hf hc;obtain⟨wa,wb,sh,fa,fb,ta,tb⟩:=x;obtain⟨jg,jh,sh',l9,mb,mf,mg⟩:=y;simp only at*;have hb1:Below w.heap.size w ((w.alloc (.cells #[.complex .f64 wa wb,.float .f64 sh] 122)).alloc (.cells #[.complex .f64 jg jh,.float .f64 sh'] 122)):=((Below.refl _ _).alloc (ay _) _).alloc (by simp) _
 go_enter Tryz.func180,Tryz.ntmps180
 go_wp2_with (first |(simp only[o1])|(simp only[o2])|(simp only[o3]))
 have hs1:w.heap.size+2=((w.alloc (.cells #[.complex .f64 wa wb,.float .f64 sh] 122)).alloc (.cells #[.complex .f64 jg jh,.float .f64 sh'] 122)).heap.size:=by simp
 generalize(w.alloc (.cells #[.complex .f64 wa wb,.float .f64 sh] 122)).alloc (.cells #[.complex .f64 jg jh,.float .f64 sh'] 122)=W1 at*;have hE:=heap_alloc_new W1 (.cells #[.complex .f64 0 0,.int .i64 0] 83);have hb0:=hb1.alloc (by omega) (.cells #[.complex .f64 0 0,.int .i64 0] 83)
 have hz:W1.heap.size<(W1.alloc (.cells #[.complex .f64 0 0,.int .i64 0] 83)).heap.size:=by simp
 generalize W1.alloc (.cells #[.complex .f64 0 0,.int .i64 0] 83)=W at*;generalize hB:w.heap.size=B at*;generalize W1.heap.size=B1 at*;have oJ:B1=B+1+1:=by omega
 have qC:B<=B+1+1:=by omega
 subst oJ;clear hs1;refine(HL.out _).mono ?_;rintro e w1 ⟨rfl,rfl⟩
 go_wp2_with (simp only)
 refine(HN.out _).mono ?_;rintro e w2 ⟨rfl,hb2⟩;have dC:=(hb2.block _ hz).trans hE;have aw:=hb0.trans (hb2.mono (by omega))
 have e0:w2.cell? ⟨B+1+1,0,none⟩=some (.complex .f64 0 0):=cell_of dC 0;have e1:w2.cell? ⟨B+1+1,1,none⟩=some (.int .i64 0):=cell_of dC 1;have z0:w2.frozen? ⟨B+1+1,0,none⟩=false:=bw dC 0;have z1:w2.frozen? ⟨B+1+1,1,none⟩=false:=bw dC 1;clear hE dC hb2 hb0 hb1
 go_wp2_with (simp only[fW];go_simp)
 refine bodyPost_ret (v:=.agg #[.complex .f64 N1 N2,.int .i64 n.2.2]) (by simp[results,Tryz.results180,go_sem,e0,e1]) rfl ⟨rfl,?_⟩
 rw[hB];exact(aw.setCell qC _).setCell qC _
end Go.Proofs.YtkjhhooecopolaaGreatDoor

import Derived.Test.YtkjhhooecopolaaGreatDoorFz19
import Derived.Test.YtkjhhooecopolaaGreatDoorFz20
set_option maxRecDepth 100000
set_option maxHeartbeats 4000000
namespace Go.Proofs.YtkjhhooecopolaaGreatDoor
open Go.Proofs.Tryz
open Value renaming int->I,agg->u,bool->aC,slice->D
open IntKind renaming i64->J
open Ending renaming returned->aJ
open Go renaming World->G,Value->Y
open Option renaming some->K,none->Z
open Bool renaming true->aP,false->aQ
section
open Go.RowKit
def e6(e:Ed):N.O:=if e.2.1-e.1.1<0\/(e.2.1-e.1.1=0/\e.2.2-e.1.2<0) then(-(e.2.1-e.1.1), -(e.2.2-e.1.2)) else(e.2.1-e.1.1,e.2.2-e.1.2)
def kH(l:V Ed)(e:Ed):V RS:=((N.gz l e).zip (N.gz l e).tail).map λq=>(q,e6 e,e)
def fM(O:V RS)(p:RS):V RS:=if O.any (λq=>decide (q.1=p.1)) then O else O++[p]
def ki(l:V Ed):V RS:=(l.flatMap<|kH l).foldl fM []
theorem abF(l:V Ed)(v:Y)(w:G)(hR:je w v l)(hl:l.length<=1000)(he:∀e∈l,cM e):
  M 185 #[v] w λe w'=>∃v',e=aJ v'/\eZ 263 w v' (ki l) w':=by
 obtain⟨so,cap,rfl⟩:=uY hR;have HR:H (je w (D so l.length cap) l):=hR;have HE:H (∀e∈l,cM e):=he;clear hR he;go_enter func185,ntmps185;go_wp2_with fail
 go_loopg [3,4] l.length (λm ov iv wr=>∃i:Nat,i+m=l.length/\iv=I J i/\H (eZ 263 w ov (((l.take i).flatMap<|kH l).foldl fM []) wr/\(((l.take i).flatMap<|kH l).foldl fM []).length<=i*2002))
 case atStart=>exact⟨0,U,rfl,⟨ak _ _ _ _,Below.refl _ _⟩,E⟩
 case round=>
  obtain⟨i,him,rfl,HO⟩:=hrel;by_cases hlt:i<l.length
  .obtain⟨e,ru⟩:∃e,l[i]?=K e:=⟨_,be hlt⟩;obtain⟨b,rfl,hb,c0,c1,c2,c3⟩:=xI HR.o ru;obtain⟨r0,r1,r2,r3⟩:=ajE HO.o.1.dg hb c0 c1 c2 c3;have ry:H (b<wr.heap.size):=bg hb HO.o.1.dg.size;have iH:(i:Int)<(l.length:Int):=U;have qj:H (cM e):=HE.o e<|bB ru;obtain⟨m1,jG⟩:=am gk;have tK:H (i+m1=l.length/\i<l.length/\m1=gk):=⟨U,hlt,jG⟩;have HT:H ((l.take<|i+1).flatMap (kH l)=(l.take i).flatMap (kH l)++kH l e):=by
    show _=_;rw[fg,ru];simp
   generalize(l.take i).flatMap (kH l)=A1 at*;have aW:H (w.cell? ⟨b,i*4,Z⟩=K (I J e.1.1)/\w.cell? ⟨b,i*4+1,Z⟩=K (I J e.1.2)/\w.cell? ⟨b,i*4+2,Z⟩=K (I J e.2.1)/\w.cell? ⟨b,i*4+3,Z⟩=K (I J e.2.2)/\b<w.heap.size):=⟨c0,c1,c2,c3,hb⟩;clear ru c0 c1 c2 c3 hb him hlt jG;have yE:H (∀w1,je w1 (D (K ⟨b,0,Z⟩) l.length cap) l->M 82 #[D (K ⟨b,0,Z⟩) l.length cap,u<|jq e] w1 λr w'=>∃v',r=aJ v'/\dq w' v' (N.gz l e)/\Good (N.gz l e)/\Below w1.heap.size w1 w'):=λw1 h1=>YO l e _ w1 h1 hl HE.o qj.o;have Gm:=Nq l e;have tL:H (kH l e=((N.gz l e).zip (N.gz l e).tail).map λq=>(q,e6 e,e)):=rfl;generalize kH l e=PE at*;generalize N.gz l e=g at*;obtain⟨⟨ex,ey⟩,fx,fy⟩:=e;simp only[jq] at r0 r1 r2 r3 yE aW;have H4:H (∀w1,M 135 #[u #[I J ex,I J ey,I J fx,I J fy]] w1 λe w'=>e=aJ (I J<|fx-ex)/\Below w1.heap.size w1 w'):=λw1=>pZ ex ey fx fy w1 qj.o.a qj.o.c;have H5:H (∀w1,M 137 #[u #[I J ex,I J ey,I J fx,I J fy]] w1 λe w'=>e=aJ (I J<|fy-ey)/\Below w1.heap.size w1 w'):=λw1=>qZ ex ey fx fy w1 qj.o.b qj.o.d;have rx:H (je wr (D (K ⟨b,0,Z⟩) l.length cap) l):=fk GM HR.o HO.o.1.dg;go_wp2_with fail;refine(yE.o _ rx.o).mono ?_;rintro e w2 ⟨cv,rfl,OH,hG,hb2⟩;obtain⟨f0,f1,f2,f3⟩:=ajE hb2 ry.o r0 r1 r2 r3;have vB:H (b<w2.heap.size):=bg ry.o hb2.size;have uP:H (eZ 263 w u3 (A1.foldl fM []) w2):=HO.o.1.next hb2
   have HLN:H ((A1.foldl fM []).length<=i*2002):=HO.o.2;have OI:H (dq w2 cv g):=OH;clear r0 r1 r2 r3 ry hb2 OH HO yE rx hG;go_wp2_with fail;refine(H4.o _).mono ?_;rintro e w3 ⟨rfl,hb⟩;obtain⟨g0,g1,g2,g3⟩:=ajE hb vB.o f0 f1 f2 f3;have aV:H (b<w3.heap.size):=bg vB.o hb.size;have OJ:H (eZ 263 w u3 (A1.foldl fM []) w3):=uP.o.next hb
   have OL:H (dq w3 cv g):=fk kU OI.o hb;clear f0 f1 f2 f3 vB hb uP OI H4;go_wp2_with fail;refine(H5.o _).mono ?_;rintro e w4 ⟨rfl,hb⟩;have HO4:H (eZ 263 w u3 (A1.foldl fM []) w4):=OJ.o.next hb
   have OM:H (dq w4 cv g):=fk kU OL.o hb;clear g0 g1 g2 g3 aV hb OJ OL H5;obtain⟨cs,cc,rfl⟩:=nQ OM.o;have jH:∀{x o:Int},small x->small o-> -100<=o-x/\o-x<=100:=λhx hy=>by unfold small at*;omega
   have s1:=jH qj.o.a qj.o.c;have s2:=jH qj.o.b qj.o.d;simp only at s1 s2;have ON:H (e6 ((ex,ey),fx,fy)=if fx-ex<0\/(fx-ex=0/\fy-ey<0) then(-(fx-ex), -(fy-ey)) else(fx-ex,fy-ey)):=rfl;generalize e6 ((ex,ey),fx,fy)=DP at*;generalize fx-ex=t at*;generalize fy-ey=B at*;have w1:J.wrap (-t)= -t:=by rw[ah];omega
   have w2':J.wrap (-B)= -B:=by rw[ah];omega
   clear s1 s2 jH;have hcs:(t<0/\H (DP=(-t, -B)))\/(¬t<0/\(t == 0)=aP/\B<0/\H (DP=(-t, -B)))\/(¬t<0/\(t == 0)=aP/\¬B<0/\H (DP=(t,B)))\/(¬t<0/\(t == 0)=aQ/\H (DP=(t,B))):=by
    unfold H Hid;rw[ON.o];rcases dG t 0 with q|q|q
    .exact j ⟨q,y<|j q⟩
    .by_cases q2:B<0
     .exact F (j ⟨U,by simp[q],q2,y<|F ⟨q,q2⟩⟩)
     .exact F (F<|j ⟨U,by simp[q],q2,X U⟩)
    .exact F (F<|F ⟨U,aq,X U⟩)
   clear ON;have GP:H (g.length<=2002):=by show _<=_;omega
   clear Gm;rcases hcs with⟨hu,HD⟩|⟨hu,hv,hy,HD⟩|⟨hu,hv,hy,HD⟩|⟨hu,hv,HD⟩
   all_goals
    go_wp2_with fail
    first
     |(have OO:H (DP=(-t, -B)):=HD;clear w1 w2' HD;generalize -t=D1 at*;generalize -B=D2 at*)
     |(have OO:H (DP=(t,B)):=HD;clear w1 w2' HD;generalize t=D1 at*;generalize B=D2 at*)
    try clear hu
    try clear hv
    try clear hy
    go_loopg [3,8] (g.length-1) (λm ov kv wr=>∃k:Nat,k+m=g.length-1/\kv=I J k/\H (eZ 263 w ov ((A1++PE.take k).foldl fM []) wr/\dq wr (D cs g.length cc) g/\((A1++PE.take k).foldl fM []).length<=i*2002+k))
    case atStart=>exact⟨0,U,rfl,by rw[show A1++PE.take 0=A1 by simp];exact HO4.o,OM.o,by rw[show A1++PE.take 0=A1 by simp];exact HLN.o⟩
    case round=>
     obtain⟨k,tq,rfl,HK⟩:=hrel;obtain⟨O,hO⟩:=am<|(A1++PE.take k).foldl fM [];have OP:H (O=(A1++PE.take k).foldl fM []):=hO;rw[<-hO] at HK;obtain⟨os,oc,rfl⟩:=jX HK.o.1.own;have:O.length<=4004000:=by have:=HK.o.2.2;have:=tK.o;have:=GP.o;have:i*2002<=1000*2002:=Am _ U;omega
     clear hO;obtain⟨R,hj⟩:=am<|k+1;have:J.wrap ((k:Int)+1)=(R:Int):=by rw[ah];have:=GP.o;omega
     have HJ:H (R=k+1):=hj;by_cases hlt:k+1<g.length
     .have iH:(R:Int)<(g.length:Int):=U;obtain⟨P,yF,hX,hcs⟩:=abE HK.o.2.1 U;subst yF;obtain⟨a,ha⟩:∃a,g[k]?=K a:=⟨_,be U⟩;obtain⟨c,hc⟩:∃c,g[R]?=K c:=⟨_,be U⟩;obtain⟨x0,x1,x2,x3⟩:=hcs k a ha;obtain⟨y0,y1,y2,y3⟩:=hcs R c hc;obtain⟨r0,r1,r2,r3⟩:=ajE HK.o.1.dg aW.o.2.2.2.2 aW.o.1 aW.o.2.1 aW.o.2.2.1 aW.o.2.2.2.1;have vC:H (PE[k]?=K ((a,c),DP,((ex,ey),fx,fy))):=by
       show _=_;have L:(g.zip g.tail)[k]?=K (a,c):=Kd.2 ⟨ha,by rw[List.getElem?_tail,<-hj];exact hc⟩;rw[tL.o,List.getElem?_map,L];rfl
      obtain⟨⟨a1,a2⟩,a3,a4⟩:=a;obtain⟨⟨c1,c2⟩,c3,c4⟩:=c;simp only at x0 x1 x2 x3 y0 y1 y2 y3;have:(k:Int)<(g.length:Int):=U;obtain⟨m2,hm2⟩:=am gk;have CF:H (k+m2=g.length-1/\k+1<g.length/\m2=gk):=⟨U,hlt,hm2⟩;clear ha hc hcs hX hlt tq hm2 hj;go_wp2_with fail;go_region_held3 (λw'=>apS w' P (k*4) (I J a1) (I J a2) (I J a3) (I J a4)/\apS w' P (R*4) (I J c1) (I J c2) (I J c3) (I J c4)/\apS w' b (i*4) (I J ex) (I J ey) (I J fx) (I J fy)) (go_keep) (fail);have HP:H ((wr.alloc<|.cells #[I J a1,I J a2,I J a3,I J a4,I J c1,I J c2,I J c3,I J c4,I J D1,I J D2,I J ex,I J ey,I J fx,I J fy] 263).heap[wr.heap.size]?=K (.cells #[I J a1,I J a2,I J a3,I J a4,I J c1,I J c2,I J c3,I J c4,I J D1,I J D2,I J ex,I J ey,I J fx,I J fy] 263 (0,0))):=aa _ _;have vD:H (eZ 263 w (D os O.length oc) O (wr.alloc<|.cells #[I J a1,I J a2,I J a3,I J a4,I J c1,I J c2,I J c3,I J c4,I J D1,I J D2,I J ex,I J ey,I J fx,I J fy] 263)/\dq (wr.alloc<|.cells #[I J a1,I J a2,I J a3,I J a4,I J c1,I J c2,I J c3,I J c4,I J D1,I J D2,I J ex,I J ey,I J fx,I J fy] 263) (D (K ⟨P,0,Z⟩) g.length cc) g):=⟨HK.o.1.next<|dS _ _,fk kU HK.o.2.1<|dS _ _⟩;have OQ:H (O.length<=i*2002+k):=HK.o.2.2;clear x0 x1 x2 x3 y0 y1 y2 y3 r0 r1 r2 r3 HK;go_wp2_with fail;generalize wr.alloc (.cells #[I J a1,I J a2,I J a3,I J a4,I J c1,I J c2,I J c3,I J c4,I J D1,I J D2,I J ex,I J ey,I J fx,I J fy] 263)=W at*;generalize wr.heap.size=PB at*
      go_loopg [10,11] O.length (λm bv nv wr=>∃n:Nat,n+m=O.length/\nv=I J n/\bv=aC ((O.take n).any λq=>decide (q.1=(((a1,a2),a3,a4),(c1,c2),c3,c4)))/\H (Below W.heap.size W wr))
      case atStart=>exact⟨0,U,rfl,rfl,(Below.refl _ _).drew⟩
      case round=>
       obtain⟨n,vb,rfl,rfl,HB⟩:=hrel;by_cases GQ:n<O.length
       .obtain⟨Q,nW,hY,hys⟩:=mN vD.o.1.own U;subst nW;obtain⟨s,hs⟩:∃s,O[n]?=K s:=⟨_,be GQ⟩;obtain⟨y0,y1,y2,y3,y4,y5,y6,y7,_⟩:=(hys n s hs).mv HB.o hY;have T:=apJ HP.o;have p0:=aR HB.o (bz HP.o) T;have p1:=aR HB.o (bw HP.o) T;have p2:=aR HB.o (bQ HP.o) T;have p3:=aR HB.o (bV HP.o) T;have p4:=aR HB.o (nB HP.o) T;have p5:=aR HB.o (nC HP.o) T;have p6:=aR HB.o (qR HP.o) T;have p7:=aR HB.o (Fa HP.o) T;have vE:H (((O.take<|n+1).any λq=>decide (q.1=(((a1,a2),a3,a4),(c1,c2),c3,c4)))=(((O.take n).any λq=>decide (q.1=(((a1,a2),a3,a4),(c1,c2),c3,c4)))||decide (s.1=(((a1,a2),a3,a4),(c1,c2),c3,c4)))):=by
         show _=_;rw[fg,hs];simp
        have:(n:Int)<(O.length:Int):=U;obtain⟨⟨f,Cc⟩,d⟩:=s;have:∀w1,(Op.equalIn 10000 100 (u #[I J f.1.1,I J f.1.2,I J f.2.1,I J f.2.2])<|u #[I J a1,I J a2,I J a3,I J a4]).run prog w1=.ok (decide (f=((a1,a2),a3,a4))) w1:=λw1=>q_in f ((a1,a2),a3,a4) w1;have q2:∀w1,(Op.equalIn 10000 100 (u #[I J Cc.1.1,I J Cc.1.2,I J Cc.2.1,I J Cc.2.2])<|u #[I J c1,I J c2,I J c3,I J c4]).run prog w1=.ok (decide (Cc=((c1,c2),c3,c4))) w1:=λw1=>q_in Cc ((c1,c2),c3,c4) w1;have hd:decide ((f,Cc)=(((a1,a2),a3,a4),(c1,c2),c3,c4))=(decide (f=((a1,a2),a3,a4))&&decide (Cc=((c1,c2),c3,c4))):=by simp[Prod.mk.injEq]
        simp only at vE y0 y1 y2 y3 y4 y5 y6 y7;rw[hd] at vE;have vF:H (n+gk=O.length/\n<O.length):=⟨U,GQ⟩;generalize((O.take n).any λq=>decide (q.1=(((a1,a2),a3,a4),(c1,c2),c3,c4)))=p at*
        generalize decide (f=((a1,a2),a3,a4))=F1 at*;generalize decide (Cc=((c1,c2),c3,c4))=F2 at*;clear hd hs hys hY T GQ vb;have hcs:(p=aP/\H (((O.take<|n+1).any λq=>decide (q.1=(((a1,a2),a3,a4),(c1,c2),c3,c4)))=aP))\/(p=aQ/\F1=aQ/\H (((O.take<|n+1).any λq=>decide (q.1=(((a1,a2),a3,a4),(c1,c2),c3,c4)))=aQ))\/(p=aQ/\F1=aP/\H (((O.take<|n+1).any λq=>decide (q.1=(((a1,a2),a3,a4),(c1,c2),c3,c4)))=F2)):=by
         unfold H Hid;rw[vE.o];cases p<;>cases F1<;>simp
        clear vE;rcases hcs with⟨rfl,HV⟩|⟨rfl,rfl,HV⟩|⟨rfl,rfl,HV⟩
        .as_aux_lemma=>
          go_wp2_with fail;refine aN (S:=λw'=>w'.cell? ⟨Q,n*14,Z⟩=K (I J f.1.1)/\w'.cell? ⟨Q,n*14+1,Z⟩=K (I J f.1.2)/\w'.cell? ⟨Q,n*14+2,Z⟩=K (I J f.2.1)/\w'.cell? ⟨Q,n*14+3,Z⟩=K (I J f.2.2)/\w'.cell? ⟨Q,n*14+4,Z⟩=K (I J Cc.1.1)/\w'.cell? ⟨Q,n*14+5,Z⟩=K (I J Cc.1.2)/\w'.cell? ⟨Q,n*14+6,Z⟩=K (I J Cc.2.1)/\w'.cell? ⟨Q,n*14+7,Z⟩=K (I J Cc.2.2)/\w'.cell? ⟨PB,0,Z⟩=K (I J a1)/\w'.cell? ⟨PB,1,Z⟩=K (I J a2)/\w'.cell? ⟨PB,2,Z⟩=K (I J a3)/\w'.cell? ⟨PB,3,Z⟩=K (I J a4)/\w'.cell? ⟨PB,4,Z⟩=K (I J c1)/\w'.cell? ⟨PB,5,Z⟩=K (I J c2)/\w'.cell? ⟨PB,6,Z⟩=K (I J c3)/\w'.cell? ⟨PB,7,Z⟩=K (I J c4)) z ⟨y0,y1,y2,y3,y4,y5,y6,y7,p0,p1,p2,p3,p4,p5,p6,p7⟩<|λhHeld=>?_
          iterate 2
           (refine gY (oi:=⟨_,_,_,_,_,_⟩) (v:=?_) rfl rfl (by rfl) hHeld ?_ ?_;rotate_left;(· intro w' az;obtain⟨s0,s1,s2,s3,s4,s5,s6,s7,s8,s9,rn,rp,s12,CG,CH,CJ⟩:=az;go_simp;try with_reducible rfl);simp only[Act.put,dh,di,cQ])
          iterate 18
           (refine pL (oi:=⟨_,_,_,_,_,_⟩) rfl rfl hHeld ?_;simp only[Act.put,dh,di,cQ])
          iterate 2
           (refine gY (oi:=⟨_,_,_,_,_,_⟩) (v:=?_) rfl rfl (by rfl) hHeld ?_ ?_;rotate_left;(· intro w' az;obtain⟨s0,s1,s2,s3,s4,s5,s6,s7,s8,s9,rn,rp,s12,CG,CH,CJ⟩:=az;go_simp;try with_reducible rfl);simp only[Act.put,dh,di,cQ])
          refine aO z ?_ _;go_wp2_with fail;go_roundg (gk-1)
          case measure=>have:=vF.o;omega
          case rel=>exact⟨n+1,by have:=vF.o;omega,af,by rw[HV.o],HB.o.drew⟩
        .as_aux_lemma=>
          go_wp2_with fail;refine aN (S:=λw'=>w'.cell? ⟨Q,n*14,Z⟩=K (I J f.1.1)/\w'.cell? ⟨Q,n*14+1,Z⟩=K (I J f.1.2)/\w'.cell? ⟨Q,n*14+2,Z⟩=K (I J f.2.1)/\w'.cell? ⟨Q,n*14+3,Z⟩=K (I J f.2.2)/\w'.cell? ⟨Q,n*14+4,Z⟩=K (I J Cc.1.1)/\w'.cell? ⟨Q,n*14+5,Z⟩=K (I J Cc.1.2)/\w'.cell? ⟨Q,n*14+6,Z⟩=K (I J Cc.2.1)/\w'.cell? ⟨Q,n*14+7,Z⟩=K (I J Cc.2.2)/\w'.cell? ⟨PB,0,Z⟩=K (I J a1)/\w'.cell? ⟨PB,1,Z⟩=K (I J a2)/\w'.cell? ⟨PB,2,Z⟩=K (I J a3)/\w'.cell? ⟨PB,3,Z⟩=K (I J a4)/\w'.cell? ⟨PB,4,Z⟩=K (I J c1)/\w'.cell? ⟨PB,5,Z⟩=K (I J c2)/\w'.cell? ⟨PB,6,Z⟩=K (I J c3)/\w'.cell? ⟨PB,7,Z⟩=K (I J c4)) z ⟨y0,y1,y2,y3,y4,y5,y6,y7,p0,p1,p2,p3,p4,p5,p6,p7⟩<|λhHeld=>?_
          iterate 11
           (refine gY (oi:=⟨_,_,_,_,_,_⟩) (v:=?_) rfl rfl (by rfl) hHeld ?_ ?_;rotate_left;(· intro w' az;obtain⟨s0,s1,s2,s3,s4,s5,s6,s7,s8,s9,rn,rp,s12,CG,CH,CJ⟩:=az;go_simp;try with_reducible rfl);simp only[Act.put,dh,di,cQ])
          iterate 8
           (refine pL (oi:=⟨_,_,_,_,_,_⟩) rfl rfl hHeld ?_;simp only[Act.put,dh,di,cQ])
          iterate 3
           (refine gY (oi:=⟨_,_,_,_,_,_⟩) (v:=?_) rfl rfl (by rfl) hHeld ?_ ?_;rotate_left;(· intro w' az;obtain⟨s0,s1,s2,s3,s4,s5,s6,s7,s8,s9,rn,rp,s12,CG,CH,CJ⟩:=az;go_simp;try with_reducible rfl);simp only[Act.put,dh,di,cQ])
          refine aO z ?_ _;go_wp2_with fail;go_roundg (gk-1)
          case measure=>have:=vF.o;omega
          case rel=>exact⟨n+1,by have:=vF.o;omega,af,by rw[HV.o],HB.o.drew⟩
        .as_aux_lemma=>
          go_wp2_with fail;refine aN (S:=λw'=>w'.cell? ⟨Q,n*14,Z⟩=K (I J f.1.1)/\w'.cell? ⟨Q,n*14+1,Z⟩=K (I J f.1.2)/\w'.cell? ⟨Q,n*14+2,Z⟩=K (I J f.2.1)/\w'.cell? ⟨Q,n*14+3,Z⟩=K (I J f.2.2)/\w'.cell? ⟨Q,n*14+4,Z⟩=K (I J Cc.1.1)/\w'.cell? ⟨Q,n*14+5,Z⟩=K (I J Cc.1.2)/\w'.cell? ⟨Q,n*14+6,Z⟩=K (I J Cc.2.1)/\w'.cell? ⟨Q,n*14+7,Z⟩=K (I J Cc.2.2)/\w'.cell? ⟨PB,0,Z⟩=K (I J a1)/\w'.cell? ⟨PB,1,Z⟩=K (I J a2)/\w'.cell? ⟨PB,2,Z⟩=K (I J a3)/\w'.cell? ⟨PB,3,Z⟩=K (I J a4)/\w'.cell? ⟨PB,4,Z⟩=K (I J c1)/\w'.cell? ⟨PB,5,Z⟩=K (I J c2)/\w'.cell? ⟨PB,6,Z⟩=K (I J c3)/\w'.cell? ⟨PB,7,Z⟩=K (I J c4)) z ⟨y0,y1,y2,y3,y4,y5,y6,y7,p0,p1,p2,p3,p4,p5,p6,p7⟩<|λhHeld=>?_
          iterate 22
           (refine gY (oi:=⟨_,_,_,_,_,_⟩) (v:=?_) rfl rfl (by rfl) hHeld ?_ ?_;rotate_left;(· intro w' az;obtain⟨s0,s1,s2,s3,s4,s5,s6,s7,s8,s9,rn,rp,s12,CG,CH,CJ⟩:=az;go_simp;try with_reducible rfl);simp only[Act.put,dh,di,cQ])
          refine aO z ?_ _;go_wp2_with fail;go_roundg (gk-1)
          case measure=>have:=vF.o;omega
          case rel=>exact⟨n+1,by have:=vF.o;omega,af,by rw[HV.o],HB.o.drew⟩
       .have hn:n=O.length:=U;subst hn;rw[dV];have HAD:H ((A1++PE.take (k+1)).foldl fM []=fM O ((((a1,a2),a3,a4),(c1,c2),c3,c4),DP,((ex,ey),fx,fy))):=by
         show _=_;rw[fg,vC.o,OP.o,<-ep,nw];rfl
        have GS:H (fM O ((((a1,a2),a3,a4),(c1,c2),c3,c4),DP,((ex,ey),fx,fy))=if(O.any λq=>decide (q.1=(((a1,a2),a3,a4),(c1,c2),c3,c4))) then O else O++[((((a1,a2),a3,a4),(c1,c2),c3,c4),DP,((ex,ey),fx,fy))]):=rfl;generalize(O.any λq=>decide (q.1=(((a1,a2),a3,a4),(c1,c2),c3,c4)))=p at*
        cases p
        .have T:=apJ HP.o;have p0:=aR HB.o (bz HP.o) T;have p1:=aR HB.o (bw HP.o) T;have p2:=aR HB.o (bQ HP.o) T;have p3:=aR HB.o (bV HP.o) T;have p4:=aR HB.o (nB HP.o) T;have p5:=aR HB.o (nC HP.o) T;have p6:=aR HB.o (qR HP.o) T;have p7:=aR HB.o (Fa HP.o) T;have:=aR HB.o (Ay HP.o) T;have:=aR HB.o (Fb HP.o) T;have:=aR HB.o (KG HP.o) T;have:=aR HB.o (KH HP.o) T;have:=aR HB.o (Oy HP.o) T;have:=aR HB.o (Oz HP.o) T;have CK:H (eZ 263 w (D os O.length oc) O wr/\dq wr (D (K ⟨P,0,Z⟩) g.length cc) g):=⟨vD.o.1.next HB.o,fk kU vD.o.2 HB.o⟩;have ho:=CK.o.1.own;have:w.heap.size<=wr.heap.size:=CK.o.1.dg.size;have jI:H ((A1++PE.take (k+1)).foldl fM []=O++[((((a1,a2),a3,a4),(c1,c2),c3,c4),DP,((ex,ey),fx,fy))]):=by show _=_;rw[HAD.o,GS.o];rfl
         clear T HAD GS vD HP;go_wp2_with (at_builtin;refine ii rfl abD underlying259 (ed ho) (aa _ _) ?_;intro g' cap' w8 fX mO jW);have vG:H (eZ 263 w (D (K ⟨g',0,Z⟩) (O.length+1) cap') ((A1++PE.take (k+1)).foldl fM []) w8/\dq w8 (D (K ⟨P,0,Z⟩) g.length cc) g):=by
          refine⟨?_,td kU mO (λk hk=>fJ ho hk) ae CK.o.2⟩;rw[jI.o];exact CK.o.1.pR mO (by rw[vA,bG];rw[OO.o];exact fX)
         clear mO fX ho jW;go_wp2_with fail;go_roundg (m2-1)
         case measure=>have:=CF.o;omega
         case rel=>exact⟨k+1,by have:=CF.o;omega,by rw[HJ.o],vG.o.1,vG.o.2,by rw[jI.o];have:=OQ.o;simp;omega⟩
        .have jI:H ((A1++PE.take (k+1)).foldl fM []=O):=by show _=_;rw[HAD.o,GS.o];rfl
         go_wp2_with fail;go_roundg (m2-1)
         case measure=>have:=CF.o;omega
         case rel=>exact⟨k+1,by have:=CF.o;omega,by rw[HJ.o],by rw[jI.o];exact vD.o.1.next HB.o,fk kU vD.o.2 HB.o,by rw[jI.o];have:=OQ.o;omega⟩
     .have hk:PE.take k=PE:=ku (by rw[tL.o];simp;omega);have jI:H (O=(A1++PE).foldl fM []):=by show _=_;rw[OP.o,hk]
      have iH:¬(R:Int)<(g.length:Int):=U;have GT:H (k<=2002):=by have:=GP.o;show _<=_;omega
      clear hlt hj tq hk;go_wp2_with fail;go_roundg (m1-1)
      case measure=>have:=tK.o;omega
      case rel=>
       refine⟨i+1,by have:=tK.o;omega,af,?_,?_⟩
       .rw[HT.o,<-jI.o];exact HK.o.1
       .rw[HT.o,<-jI.o];have h1:=HK.o.2.2;have:=GT.o;omega
  .have hk:i=l.length:=U;subst hk;rw[dV] at HO;clear hlt him;go_wp2_with fail;go_ret;exact⟨_,rfl,HO.o.1⟩
end
end Go.Proofs.YtkjhhooecopolaaGreatDoor

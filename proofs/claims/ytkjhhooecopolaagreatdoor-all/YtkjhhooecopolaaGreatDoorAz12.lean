import Derived.Test.YtkjhhooecopolaaGreatDoorAz11
import Derived.Test.YtkjhhooecopolaaGreatDoorAz09
import Derived.Test.YtkjhhooecopolaaGreatDoorRows
set_option maxRecDepth 100000
set_option maxHeartbeats 4000000
namespace Go.Proofs.YtkjhhooecopolaaGreatDoor
open Go.Proofs.Tryz
open Value renaming int->I,complex->A,agg->u,bool->aC,string->aD,slice->D,tuple->aG
open IntKind renaming i64->J
open FloatKind renaming f64->C
open Ending renaming returned->aJ
open Go renaming World->G,Value->Y
open Option renaming some->K,none->Z
open Bool renaming true->aP,false->aQ
section
open Go.RowKit
variable{w wr wr' w':G}{ov:Y}
def CI(w:G)(b:Array Y)(c:Y)(a:V N.Qt)(wr:G):Prop:=
 dq wr c a/\Good a/\ag w wr/\w.heap.size<wr.heap.size/\wr.heap[w.heap.size]?=K (.cells b 151 (0,0))
theorem CI.below{ev:Array Y}{out:V N.Qt}(h:CI w ev ov out wr)(a:ag wr wr'):CI w ev ov out wr':=by obtain⟨d,e,b,c,f⟩:=h;exact⟨fk kU d a,e,b.trans<|a.mono b.size,bg c a.size,(a.block _ c).trans f⟩
theorem CI.put{ev:Array Y}{xL:Y}{out:V N.Qt}{p:N.Qt}(h:CI w ev ov out wr)(a:ag wr wr')(k:dq wr' xL (N.ins p out))(g:cS p)(b:N.dD p):CI w ev xL (N.ins p out) wr':=by obtain⟨l,e,c,d,f⟩:=h;exact⟨k,e.ins g b,c.trans<|a.mono c.size,bg d a.size,(a.block _ d).trans f⟩
theorem vg{ev:Array Y}{out:V N.Qt}(h:CI w ev ov out wr)(p:N.Qt)(d:cS p)(a:N.dD p)(g:out.length<=100000000):
  M 83 #[ov,u<|qA p] wr λe w'=>∃b,e=aJ b/\CI w ev b (N.ins p out) w'/\ag wr w':=by refine(XU out p ov wr h.1 g h.2.1.bm d h.2.1.red a h.2.1.kF).mono ?_;rintro e w' ⟨b,rfl,f,c⟩;exact⟨b,rfl,h.put c f d a,c⟩
theorem xT(e:Ed)(a:V N.Qt)(f:Ed):(N.dM e a f).length<=a.length+2:=by unfold N.dM;split;have b:=N.lI (N.pt f.1) a;have:=N.lI (N.pt f.2)<|N.ins (N.pt f.1) a;have:=N.lI (N.pt f.2) a;dsimp only;split<;>split<;>omega;have b:=N.lI (N.eF e f) a;split<;>omega
theorem YO(l:V Ed)(e:Ed)(v:Y)(w:G)(hR:je w v l)(hl:l.length<=1000)(hs:∀f∈l,cM f)(he:cM e):
  M 82 #[v,u<|jq e] w λr w'=>∃v',r=aJ v'/\dq w' v' (N.gz l e)/\Good (N.gz l e)/\Below w.heap.size w w':=by
 obtain⟨so,cap,rfl⟩:=uY hR;have HR:H (je w (D so l.length cap) l):=hR;have HS:H (∀f∈l,cM f):=hs;have HE:H (cM e):=he;have qe:H (∀w1,M 136 #[u #[I J e.1.1,I J e.1.2]] w1 λr w'=>r=aJ (u<|qA<|N.pt e.1)/\Below w1.heap.size w1 w'):=λw1=>Bv e.1.1 e.1.2 w1;have qf:H (∀w1,M 136 #[u #[I J e.2.1,I J e.2.2]] w1 λr w'=>r=aJ (u<|qA<|N.pt e.2)/\Below w1.heap.size w1 w'):=λw1=>Bv e.2.1 e.2.2 w1;have MJ:H (cS (N.pt e.1)/\cS (N.pt e.2)):=⟨tu he.a he.b,tu he.c he.d⟩;have gh:H (CI w (jq e) (D Z 0 0) [] (w.alloc<|.cells (jq e) 151)):=⟨iF<|ak _ 0 _ _,Yl,(Below.refl _ _).alloc (aX _) _,E,aa _ _⟩;simp only[jq] at gh⊢;go_enter func82,ntmps82;go_wp2_with fail;generalize w.alloc (.cells #[I J e.1.1,I J e.1.2,I J e.2.1,I J e.2.2] 151)=W at*;refine(qe.o _).mono ?_;rintro r w1 ⟨rfl,i⟩;have YP:H (CI w #[I J e.1.1,I J e.1.2,I J e.2.1,I J e.2.2] (D Z 0 0) [] w1):=gh.o.below i;go_wp2_with fail;refine(vg YP.o (N.pt e.1) MJ.o.1 (N.iw _) E).mono ?_;rintro r w2 ⟨v2,rfl,h2,_⟩;have aeS:H (CI w #[I J e.1.1,I J e.1.2,I J e.2.1,I J e.2.2] v2 (N.ins (N.pt e.1) []) w2):=h2;have xU:=h2.2.2.2.2;have c2:=bQ xU;have c3:=bV xU;go_wp2_with fail;refine(qf.o _).mono ?_;rintro r w3 ⟨rfl,j⟩;have YR:H (CI w #[I J e.1.1,I J e.1.2,I J e.2.1,I J e.2.2] v2 (N.ins (N.pt e.1) []) w3):=aeS.o.below j;go_wp2_with fail;refine(vg YR.o (N.pt e.2) MJ.o.2 (N.iw _) (by have:=N.lI (N.pt e.1) [];simp at this;omega)).mono ?_;rintro r w4 ⟨v4,rfl,h4,_⟩;have MK:H (CI w #[I J e.1.1,I J e.1.2,I J e.2.1,I J e.2.2] v4 (N.ins (N.pt e.2)<|N.ins (N.pt e.1) []) w4/\(N.ins (N.pt e.2)<|N.ins (N.pt e.1) []).length<=2):=⟨h4,by
  have h1:=N.lI (N.pt e.1) [];have h2:=N.lI (N.pt e.2) (N.ins (N.pt e.1) []);simp at h1;omega⟩
 have Gm:H (N.gz l e=l.foldl (N.dM e) (N.ins (N.pt e.2)<|N.ins (N.pt e.1) [])):=rfl;generalize N.ins (N.pt e.2) (N.ins (N.pt e.1) [])=o at*
 go_wp2_with fail
 go_loopg [5,6] l.length (λm ov iv wr=>∃k:Nat,k+m=l.length/\iv=I J k/\H (CI w #[I J e.1.1,I J e.1.2,I J e.2.1,I J e.2.2] ov ((l.take k).foldl (N.dM e) o) wr/\((l.take k).foldl (N.dM e) o).length<=2+2*k))
 case atStart=>exact⟨0,U,rfl,MK.o.1,MK.o.2⟩
 case round=>
  obtain⟨k,tq,rfl,HB⟩:=hrel;have F7:=HB.o.1.2.2.1;by_cases hlt:k<l.length
  .obtain⟨f,hf⟩:∃f,l[k]?=K f:=⟨_,be hlt⟩;obtain⟨b,rfl,hb,c0,c1,c2,c3⟩:=xI HR.o hf;obtain⟨r0,r1,r2,r3⟩:=ajE F7 hb c0 c1 c2 c3;have iH:(k:Int)<(l.length:Int):=U;have T:H (cM f):=HS.o f<|bB hf;have YS:(l.take<|k+1).foldl (N.dM e) o=N.dM e ((l.take k).foldl (N.dM e) o) f:=by
    obtain⟨h1,h2⟩:=bX.1 hf;rw[lV h1,h2,nw];rfl
   have HT:H ((l.take<|k+1).foldl (N.dM e) o=N.dM e ((l.take k).foldl (N.dM e) o) f):=YS;have hlen:=HB.o.2;generalize(l.take k).foldl (N.dM e) o=O at*;have H1:H (∀w1,M 135 #[u #[I J e.1.1,I J e.1.2,I J e.2.1,I J e.2.2]] w1 λr w'=>r=aJ (I J<|e.2.1-e.1.1)/\Below w1.heap.size w1 w'):=λw1=>pZ _ _ _ _ w1 HE.o.a HE.o.c;have H2:H (∀w1,M 137 #[u #[I J e.1.1,I J e.1.2,I J e.2.1,I J e.2.2]] w1 λr w'=>r=aJ (I J<|e.2.2-e.1.2)/\Below w1.heap.size w1 w'):=λw1=>qZ _ _ _ _ w1 HE.o.b HE.o.d;have H3:H (∀w1,M 135 #[u #[I J f.1.1,I J f.1.2,I J f.2.1,I J f.2.2]] w1 λr w'=>r=aJ (I J<|f.2.1-f.1.1)/\Below w1.heap.size w1 w'):=λw1=>pZ _ _ _ _ w1 T.o.a T.o.c;have H4:H (∀w1,M 137 #[u #[I J f.1.1,I J f.1.2,I J f.2.1,I J f.2.2]] w1 λr w'=>r=aJ (I J<|f.2.2-f.1.2)/\Below w1.heap.size w1 w'):=λw1=>qZ _ _ _ _ w1 T.o.b T.o.d;have jH:∀{x d:Int},small x->small d-> -100<=d-x/\d-x<=100:=λhx hy=>by unfold small at*;omega
   have x1:=jH HE.o.a HE.o.c;have x2:=jH HE.o.b HE.o.d;have x3:=jH T.o.a T.o.c;have x4:=jH T.o.b T.o.d;have m1: -10000<=(e.2.1-e.1.1)*(f.2.2-f.1.2)/\(e.2.1-e.1.1)*(f.2.2-f.1.2)<=10000:=ee (a:=100) (b:=100) x1 x4;have m2: -10000<=(e.2.2-e.1.2)*(f.2.1-f.1.1)/\(e.2.2-e.1.2)*(f.2.1-f.1.1)<=10000:=ee (a:=100) (b:=100) x2 x3;have v1:J.wrap ((e.2.1-e.1.1)*(f.2.2-f.1.2))=(e.2.1-e.1.1)*(f.2.2-f.1.2):=by rw[ah];omega
   have v2:J.wrap ((e.2.2-e.1.2)*(f.2.1-f.1.1))=(e.2.2-e.1.2)*(f.2.1-f.1.1):=by rw[ah];omega
   have tw:H (CI w #[I J e.1.1,I J e.1.2,I J e.2.1,I J e.2.2] u5 O (wr.alloc<|.cells #[I J f.1.1,I J f.1.2,I J f.2.1,I J f.2.2] 151)):=HB.o.1.below<|(Below.refl _ _).alloc (aX _) _;have tx:=aa wr<|.cells #[I J f.1.1,I J f.1.2,I J f.2.1,I J f.2.2] 151;have hzb:wr.heap.size<(wr.alloc<|.cells #[I J f.1.1,I J f.1.2,I J f.2.1,I J f.2.2] 151).heap.size:=E;go_wp2_with fail;generalize wr.alloc (.cells #[I J f.1.1,I J f.1.2,I J f.2.1,I J f.2.2] 151)=W0 at*;generalize wr.heap.size=c at*;have xV:=tw.o.2.2.2.1;have hEb:=tw.o.2.2.2.2;obtain⟨z0,z1,z2,z3⟩:=ajG hEb;obtain⟨z4,z5,z6,z7⟩:=ajG tx;go_region_held3 (λw'=>as9 w' w.heap.size (I J e.1.1) (I J e.1.2) (I J e.2.1) (I J e.2.2)/\as9 w' c (I J f.1.1) (I J f.1.2) (I J f.2.1) (I J f.2.2)) (go_keep) (first
     |(go_at_call_of 135 (u #[I J e.1.1,I J e.1.2,I J e.2.1,I J e.2.2]);refine(H1.o _).mono ?_;rintro r' w1' ⟨rfl,i⟩;have xW:w.heap.size<w1'.heap.size:=bg xV i.size;have vh:c<w1'.heap.size:=bg hzb i.size;obtain⟨f0,f1,f2,f3⟩:=ajE i xV z0 z1 z2 z3;obtain⟨f4,f5,f6,f7⟩:=ajE i hzb z4 z5 z6 z7;have YT:=(i.block c hzb).trans tx)
     |(go_at_call_of 137 (u #[I J f.1.1,I J f.1.2,I J f.2.1,I J f.2.2]);refine(H4.o _).mono ?_;rintro r' w2' ⟨rfl,z⟩;have xX:w.heap.size<w2'.heap.size:=bg xW z.size;have hgb:c<w2'.heap.size:=bg vh z.size;obtain⟨g0,g1,g2,g3⟩:=ajE z xW f0 f1 f2 f3;obtain⟨g4,g5,g6,g7⟩:=ajE z vh f4 f5 f6 f7;have hge:=(z.block c vh).trans YT)
     |(go_at_call_of 137 (u #[I J e.1.1,I J e.1.2,I J e.2.1,I J e.2.2]);refine(H2.o _).mono ?_;rintro r' ML ⟨rfl,j⟩;have xY:w.heap.size<ML.heap.size:=bg xX j.size;have vi:c<ML.heap.size:=bg hgb j.size;obtain⟨h0,h1,h2,h3⟩:=ajE j xX g0 g1 g2 g3;obtain⟨h4,h5,h6,h7⟩:=ajE j hgb g4 g5 g6 g7;have YU:=(j.block c hgb).trans hge)
     |(go_at_call_of 135 (u #[I J f.1.1,I J f.1.2,I J f.2.1,I J f.2.2]);refine(H3.o _).mono ?_;rintro r' BT ⟨rfl,F⟩;have ty:w.heap.size<BT.heap.size:=bg xY F.size;have hib:c<BT.heap.size:=bg vi F.size;obtain⟨i0,i1,i2,i3⟩:=ajE F xY h0 h1 h2 h3;obtain⟨i4,i5,i6,i7⟩:=ajE F vi h4 h5 h6 h7;have tz:=(F.block c vi).trans YU))
   have tA:H (CI w #[I J e.1.1,I J e.1.2,I J e.2.1,I J e.2.2] u5 O BT):=((((tw.o.below<|(Below.refl _ _).drew).below i).below z).below j).below F;by_cases hc:N.cH e f=0
   .have heq:(e.2.1-e.1.1)*(f.2.2-f.1.2)=(e.2.2-e.1.2)*(f.2.1-f.1.1):=by unfold N.cH at hc;omega
    have MM:H (∀w1,M 136 #[u #[I J f.1.1,I J f.1.2]] w1 λr w'=>r=aJ (u #[I J f.1.1,I J 1,I J f.1.2,I J 1])/\Below w1.heap.size w1 w'):=λw1=>Bv f.1.1 f.1.2 w1;have BW:H (∀w1,M 136 #[u #[I J f.2.1,I J f.2.2]] w1 λr w'=>r=aJ (u #[I J f.2.1,I J 1,I J f.2.2,I J 1])/\Below w1.heap.size w1 w'):=λw1=>Bv f.2.1 f.2.2 w1;have YV:H (∀w1,M 80 #[u #[I J e.1.1,I J e.1.2,I J e.2.1,I J e.2.2],u #[I J f.1.1,I J 1,I J f.1.2,I J 1]] w1 λr w'=>r=aJ (aC<|N.hq (N.pt f.1) e)/\Below w1.heap.size w1 w'):=λw1=>BG (N.pt f.1) e w1 (tu T.o.a T.o.b) HE.o;have tB:H (∀w1,M 80 #[u #[I J e.1.1,I J e.1.2,I J e.2.1,I J e.2.2],u #[I J f.2.1,I J 1,I J f.2.2,I J 1]] w1 λr w'=>r=aJ (aC<|N.hq (N.pt f.2) e)/\Below w1.heap.size w1 w'):=λw1=>BG (N.pt f.2) e w1 (tu T.o.c T.o.d) HE.o;have HST:H (N.dM e O f=(let o1:=if N.hq (N.pt f.1) e then N.ins (N.pt f.1) O else O
      if N.hq (N.pt f.2) e then N.ins (N.pt f.2) o1 else o1)):=by
     unfold N.dM H Hid;rw[y hc]
    go_wp2_with fail;go_region_held3 (λw'=>as9 w' w.heap.size (I J e.1.1) (I J e.1.2) (I J e.2.1) (I J e.2.2)/\as9 w' c (I J f.1.1) (I J f.1.2) (I J f.2.1) (I J f.2.2)) (go_keep) (first
      |(go_at_call 136;refine(MM.o _).mono ?_;rintro r' MN ⟨rfl,n⟩;have acb:w.heap.size<MN.heap.size:=bg ty n.size;have acd:c<MN.heap.size:=bg hib n.size;obtain⟨m10,m11,m12,m13⟩:=ajE n ty i0 i1 i2 i3;obtain⟨m14,m15,m16⟩:=ajD n hib i4 i5 i6;have m17:=(aR n i7 hib))
      |(go_at_call 80;refine(YV.o _).mono ?_;rintro r' Gn ⟨rfl,p⟩;have R:w.heap.size<Gn.heap.size:=bg acb p.size;have S:c<Gn.heap.size:=bg acd p.size;obtain⟨m20,m21,m22,m23⟩:=ajE p acb m10 m11 m12 m13;obtain⟨m24,MO,MS⟩:=ajD p acd m14 m15 m16;have MU:=(aR p m17 acd)))
    have MV:H (CI w #[I J e.1.1,I J e.1.2,I J e.2.1,I J e.2.2] u5 O Gn):=((tA.o.below<|(Below.refl _ _).drew).below n).below p;cases BX:N.hq (N.pt f.1) e
    .go_wp2_with fail;go_region_held3 (λw'=>as9 w' w.heap.size (I J e.1.1) (I J e.1.2) (I J e.2.1) (I J e.2.2)/\as9 w' c (I J f.1.1) (I J f.1.2) (I J f.2.1) (I J f.2.2)) (go_keep) (first
       |(go_at_call 136;refine(BW.o _).mono ?_;rintro r' MW ⟨rfl,q⟩;have ace:w.heap.size<MW.heap.size:=bg R q.size;have acf:c<MW.heap.size:=bg S q.size;obtain⟨YW,YX,m32,YY⟩:=ajE q R m20 m21 m22 m23;obtain⟨YZ,Za,Zb⟩:=ajD q S m24 MO MS;have Zc:=(aR q MU S))
       |(go_at_call 80;refine(tB.o _).mono ?_;rintro r' adh ⟨rfl,s⟩;have xZ:w.heap.size<adh.heap.size:=bg ace s.size;have yg:c<adh.heap.size:=bg acf s.size;obtain⟨Zd,Ze,Zf,Zg⟩:=ajE s ace YW YX m32 YY;obtain⟨Zh,Zi,Zj⟩:=ajD s acf YZ Za Zb;have Zk:=(aR s Zc acf)))
     have MX:H (CI w #[I J e.1.1,I J e.1.2,I J e.2.1,I J e.2.2] u5 O adh):=((MV.o.below<|(Below.refl _ _).drew).below q).below s;cases rm:N.hq (N.pt f.2) e
     .go_wp2_with fail;have HN:H ((l.take<|k+1).foldl (N.dM e) o=O):=by
       rw[HT.o,HST.o,BX,rm];rfl
      have L:H (CI w #[I J e.1.1,I J e.1.2,I J e.2.1,I J e.2.2] u5 ((l.take<|k+1).foldl (N.dM e) o) adh/\((l.take<|k+1).foldl (N.dM e) o).length<=2+2*(k+1)):=by
       refine⟨by rw[HN.o];exact MX.o,?_⟩;rw[HT.o];have:=xT e O f;omega
      go_roundg (gk-1)
      case measure=>omega
      case rel=>exact⟨k+1,U,af,L⟩
     .go_wp2_with fail;refine(BW.o _).mono ?_;rintro r' Gp ⟨rfl,aku⟩;have Zl:H (CI w #[I J e.1.1,I J e.1.2,I J e.2.1,I J e.2.2] u5 O Gp):=MX.o.below aku;go_wp2_with fail;refine(vg Zl.o (N.pt f.2) (tu T.o.c T.o.d) (N.iw _) U).mono ?_;rintro r' BZ ⟨MY,rfl,Zu,aoM⟩;have Zv:H (CI w #[I J e.1.1,I J e.1.2,I J e.2.1,I J e.2.2] MY (N.ins (N.pt f.2) O) BZ):=Zu;go_wp2_with fail;have HN:H ((l.take<|k+1).foldl (N.dM e) o=(N.ins (N.pt f.2) O)):=by
       rw[HT.o,HST.o,BX,rm];rfl
      have L:H (CI w #[I J e.1.1,I J e.1.2,I J e.2.1,I J e.2.2] MY ((l.take<|k+1).foldl (N.dM e) o) BZ/\((l.take<|k+1).foldl (N.dM e) o).length<=2+2*(k+1)):=by
       refine⟨by rw[HN.o];exact Zv.o,?_⟩;rw[HT.o];have:=xT e O f;omega
      go_roundg (gk-1)
      case measure=>omega
      case rel=>exact⟨k+1,U,af,L⟩
    .go_wp2_with fail;have akx:=N.lI (N.pt f.1) (O);refine(MM.o _).mono ?_;rintro r' Gq ⟨rfl,t⟩;have Zw:H (CI w #[I J e.1.1,I J e.1.2,I J e.2.1,I J e.2.2] u5 O Gq):=MV.o.below t;have yj:w.heap.size<Gq.heap.size:=bg R t.size;have yk:c<Gq.heap.size:=bg S t.size;obtain⟨Zx,Zy,Zz,ZA⟩:=ajE t R m20 m21 m22 m23;obtain⟨ZB,ZC,ZD,ZE⟩:=ajE t S m24 MO MS MU;go_wp2_with fail;refine(vg Zw.o (N.pt f.1) (tu T.o.a T.o.b) (N.iw _) U).mono ?_;rintro r' Gs ⟨B0,rfl,ZF,Q⟩;have yl:w.heap.size<Gs.heap.size:=bg yj Q.size;have ym:c<Gs.heap.size:=bg yk Q.size;obtain⟨ZG,ZH,ZI,ZJ⟩:=ajE Q yj Zx Zy Zz ZA;obtain⟨ZK,ZL,ZM,ZN⟩:=ajE Q yk ZB ZC ZD ZE;have ZO:H (CI w #[I J e.1.1,I J e.1.2,I J e.2.1,I J e.2.2] B0 (N.ins (N.pt f.1) O) Gs):=ZF;go_wp2_with fail;go_region_held3 (λw'=>as9 w' w.heap.size (I J e.1.1) (I J e.1.2) (I J e.2.1) (I J e.2.2)/\as9 w' c (I J f.1.1) (I J f.1.2) (I J f.2.1) (I J f.2.2)) (go_keep) (first
       |(go_at_call 136;refine(BW.o _).mono ?_;rintro r' MZ ⟨rfl,B⟩;have yo:w.heap.size<MZ.heap.size:=bg yl B.size;have yp:c<MZ.heap.size:=bg ym B.size;obtain⟨ZQ,ZR,ZS,ZT⟩:=ajE B yl ZG ZH ZI ZJ;obtain⟨ZU,ZV,ZW⟩:=ajD B ym ZK ZL ZM;have ZX:=(aR B ZN ym))
       |(go_at_call 80;refine(tB.o _).mono ?_;rintro r' Ca ⟨rfl,g⟩;have aoN:w.heap.size<Ca.heap.size:=bg yo g.size;have aoO:c<Ca.heap.size:=bg yp g.size;obtain⟨ZY,ZZ,Z0,Z2⟩:=ajE g yo ZQ ZR ZS ZT;obtain⟨Z3,Z4,Z5⟩:=ajD g yp ZU ZV ZW;have Z6:=(aR g ZX yp)))
     have M0:H (CI w #[I J e.1.1,I J e.1.2,I J e.2.1,I J e.2.2] B0 (N.ins (N.pt f.1) O) Ca):=((ZO.o.below<|(Below.refl _ _).drew).below B).below g;cases rm:N.hq (N.pt f.2) e
     .go_wp2_with fail;have HN:H ((l.take<|k+1).foldl (N.dM e) o=(N.ins (N.pt f.1) O)):=by
       rw[HT.o,HST.o,BX,rm];rfl
      have L:H (CI w #[I J e.1.1,I J e.1.2,I J e.2.1,I J e.2.2] B0 ((l.take<|k+1).foldl (N.dM e) o) Ca/\((l.take<|k+1).foldl (N.dM e) o).length<=2+2*(k+1)):=by
       refine⟨by rw[HN.o];exact M0.o,?_⟩;rw[HT.o];have:=xT e O f;omega
      go_roundg (gk-1)
      case measure=>omega
      case rel=>exact⟨k+1,U,af,L⟩
     .go_wp2_with fail;refine(BW.o _).mono ?_;rintro r' Gt ⟨rfl,akv⟩;have Z7:H (CI w #[I J e.1.1,I J e.1.2,I J e.2.1,I J e.2.2] B0 (N.ins (N.pt f.1) O) Gt):=M0.o.below akv;go_wp2_with fail;refine(vg Z7.o (N.pt f.2) (tu T.o.c T.o.d) (N.iw _) U).mono ?_;rintro r' Cb ⟨M5,rfl,aag,aoP⟩;have aah:H (CI w #[I J e.1.1,I J e.1.2,I J e.2.1,I J e.2.2] M5 (N.ins (N.pt f.2)<|N.ins (N.pt f.1) O) Cb):=aag;go_wp2_with fail;have HN:H ((l.take<|k+1).foldl (N.dM e) o=(N.ins (N.pt f.2)<|N.ins (N.pt f.1) O)):=by
       rw[HT.o,HST.o,BX,rm];rfl
      have L:H (CI w #[I J e.1.1,I J e.1.2,I J e.2.1,I J e.2.2] M5 ((l.take<|k+1).foldl (N.dM e) o) Cb/\((l.take<|k+1).foldl (N.dM e) o).length<=2+2*(k+1)):=by
       refine⟨by rw[HN.o];exact aah.o,?_⟩;rw[HT.o];have:=xT e O f;omega
      go_roundg (gk-1)
      case measure=>omega
      case rel=>exact⟨k+1,U,af,L⟩
   .have hne:¬((e.2.1-e.1.1)*(f.2.2-f.1.2)=(e.2.2-e.1.2)*(f.2.1-f.1.1)):=λh=>hc (by unfold N.cH;omega);obtain⟨P,hP⟩:∃P,N.eF e f=P:=⟨_,rfl⟩;have vj:H (cS P/\N.dD P):=hP▸⟨Ym HE.o T.o hc,N.BE hc⟩;have HM:H (∀w1,M 138 #[u #[I J e.1.1,I J e.1.2,I J e.2.1,I J e.2.2],u #[I J f.1.1,I J f.1.2,I J f.2.1,I J f.2.2]] w1 λr w'=>r=aJ (u #[I J P.1.1,I J P.1.2,I J P.2.1,I J P.2.2])/\Below w1.heap.size w1 w'):=λw1=>hP▸Yk e f w1 HE.o T.o hc;have HA:H (∀w1,M 80 #[u #[I J e.1.1,I J e.1.2,I J e.2.1,I J e.2.2],u #[I J P.1.1,I J P.1.2,I J P.2.1,I J P.2.2]] w1 λr w'=>r=aJ (aC<|N.hq P e)/\Below w1.heap.size w1 w'):=λw1=>BG P e w1 vj.o.1 HE.o;have HB':H (∀w1,M 80 #[u #[I J f.1.1,I J f.1.2,I J f.2.1,I J f.2.2],u #[I J P.1.1,I J P.1.2,I J P.2.1,I J P.2.2]] w1 λr w'=>r=aJ (aC<|N.hq P f)/\Below w1.heap.size w1 w'):=λw1=>BG P f w1 vj.o.1 T.o;have HST:H (N.dM e O f=if N.hq P e&&N.hq P f then N.ins P O else O):=by
     unfold N.dM H Hid;rw[X hc,hP]
    have HCa:H (CI w #[I J e.1.1,I J e.1.2,I J e.2.1,I J e.2.2] u5 O BT):=tA;have hEa:=tz;have M6:=hib;go_wp2_with fail;refine(HM.o _).mono ?_;rintro r' aL ⟨rfl,jS⟩;have Gu:H (CI w #[I J e.1.1,I J e.1.2,I J e.2.1,I J e.2.2] u5 O aL):=HCa.o.below jS;have adD:=Gu.o.2.2.2.2;have hwb:w.heap.size<_:=Gu.o.2.2.2.1;have hEb:=(jS.block c M6).trans hEa;have aal:c<aL.heap.size:=bg M6 jS.size;obtain⟨akJ,akK,akL,akM⟩:=ajG adD;have HCc:H (CI w #[I J e.1.1,I J e.1.2,I J e.2.1,I J e.2.2] u5 O (aL.alloc<|.cells #[I J P.1.1,I J P.1.2,I J P.2.1,I J P.2.2] 100)):=Gu.o.below<|(Below.refl _ _).alloc (aX _) _;have hEc:(aL.alloc<|.cells #[I J P.1.1,I J P.1.2,I J P.2.1,I J P.2.2] 100).heap[c]?=K (.cells #[I J f.1.1,I J f.1.2,I J f.2.1,I J f.2.2] 151 (0,0)):=by rw[ad _ _ _ aal];exact hEb
    have M7:c<(aL.alloc<|.cells #[I J P.1.1,I J P.1.2,I J P.2.1,I J P.2.2] 100).heap.size:=aq;have hPc:=aa aL<|.cells #[I J P.1.1,I J P.1.2,I J P.2.1,I J P.2.2] 100;have M8:aL.heap.size<(aL.alloc<|.cells #[I J P.1.1,I J P.1.2,I J P.2.1,I J P.2.2] 100).heap.size:=E;go_wp2_with fail;generalize aL.alloc (.cells #[I J P.1.1,I J P.1.2,I J P.2.1,I J P.2.2] 100)=w6' at*;generalize aL.heap.size=PB at*;refine(HA.o _).mono ?_;rintro r' Gv ⟨rfl,yq⟩;have Gw:H (CI w #[I J e.1.1,I J e.1.2,I J e.2.1,I J e.2.2] u5 O Gv):=HCc.o.below yq;have yr:=(yq.block c M7).trans hEc;have yt:=(yq.block PB M8).trans hPc;have Na:PB<Gv.heap.size:=bg M8 yq.size;obtain⟨akW,akX,akY,akZ⟩:=ajG yr;obtain⟨ak0,ak1,ak2,ak3⟩:=ajG yt;go_wp2_with fail;refine(HB'.o _).mono ?_;rintro r' Ce ⟨rfl,yu⟩;have Cf:H (CI w #[I J e.1.1,I J e.1.2,I J e.2.1,I J e.2.2] u5 O Ce):=Gw.o.below yu;have Cj:=(yu.block PB Na).trans yt;obtain⟨alf,alg,alh,ali⟩:=ajG Cj;cases hA:N.hq P e<;>cases hB:N.hq P f;rotate_left 3
    .have HN:H ((l.take<|k+1).foldl (N.dM e) o=N.ins P O):=by
      rw[HT.o,HST.o,hA,hB];rfl
     have hlx:=N.lI P O;go_wp2_with fail;refine(vg Cf.o P vj.o.1 vj.o.2 U).mono ?_;rintro r' w9 ⟨v9,rfl,h9,_⟩;have L:H (CI w #[I J e.1.1,I J e.1.2,I J e.2.1,I J e.2.2] v9 ((l.take<|k+1).foldl (N.dM e) o) w9/\((l.take<|k+1).foldl (N.dM e) o).length<=2+2*(k+1)):=by rw[HN.o];exact⟨h9,U⟩
     go_wp2_with fail;go_roundg (gk-1)
     case measure=>omega
     case rel=>exact⟨k+1,U,af,L⟩
    all_goals
     have HN:H ((l.take<|k+1).foldl (N.dM e) o=O):=by
      rw[HT.o,HST.o,hA,hB];rfl
     have L:H (CI w #[I J e.1.1,I J e.1.2,I J e.2.1,I J e.2.2] u5 ((l.take<|k+1).foldl (N.dM e) o) Ce/\((l.take<|k+1).foldl (N.dM e) o).length<=2+2*(k+1)):=by rw[HN.o];exact⟨Cf.o,U⟩
     go_wp2_with fail;go_roundg (gk-1)
     case measure=>omega
     case rel=>exact⟨k+1,U,af,L⟩
  .have hk:k=l.length:=U;subst hk;have Gx:H (CI w #[I J e.1.1,I J e.1.2,I J e.2.1,I J e.2.2] u5 (N.gz l e) wr):=by
    have:=HB.o.1;rw[dV,<-Gm.o] at this;exact this
   go_wp2_with fail;go_ret;exact⟨_,rfl,Gx.o.1,Gx.o.2.1,Gx.o.2.2.1⟩
namespace Pl
def jr(a:N.Fr):V UInt8:=if a.2=1 then Lib.itoa a.1 else Lib.itoa a.1++([47]++Lib.itoa a.2)
def fC(q:N.Qt):V UInt8:=jr q.1++([32]++jr q.2)
end Pl
theorem Nb{a:N.Fr}(c: -10000000<=a.1/\a.1<=10000000)(b:0<a.2/\a.2<=1000000):(Pl.jr a).length<=50:=by have:=aaS a.1 U U;have:=aaS a.2 U U;unfold Pl.jr;split;omega;simp;omega
theorem Nc(n d:Int)(w:G)(S:Gl w)(L: -10000000<=n/\n<=10000000)(F:0<d/\d<=1000000):
  M 127 #[u #[I J n,I J d]] w λe w'=>e=aJ (aD ⟨(Pl.jr (n,d)).toArray⟩)/\Below w.heap.size w w':=by have s:=hid<|λw1 p=>Lu n w1 p U U;have v:=hid<|λw1 p=>Lu d w1 p U U;have P:=aaS n U U;have Q:=aaS d U U;have c:Below w.heap.size w (w.alloc<|.cells #[I J n,I J d] 97):=(Below.refl _ _).alloc (aX _) _;have t:=aa w<|.cells #[I J n,I J d] 97;have k:w.heap.size<(w.alloc<|.cells #[I J n,I J d] 97).heap.size:=E;have b:Gl (w.alloc<|.cells #[I J n,I J d] 97):=S.alloc _;by_cases g:d=1;have l:H (Pl.jr (n,d)=Lib.itoa n):=y g;rw[l.o];subst g;generalize Lib.itoa n=m at*;clear l P Q;go_enter func127,ntmps127;go_wp2_with fail;refine(s.o _ b).mono ?_;rintro e w1 ⟨rfl,r⟩;go_wp2_with fail;go_ret;exact⟨rfl,c.trans<|r.mono c.size⟩;have l:H (Pl.jr (n,d)=Lib.itoa n++([47]++Lib.itoa d)):=X g;rw[l.o];generalize Lib.itoa n=m at*;generalize Lib.itoa d=x at*;have:¬9223372036854775807<m.length+1:=U;have:¬9223372036854775807<m.length+1+x.length:=U;clear l;go_enter func127,ntmps127;go_wp2_with fail;generalize w.alloc (.cells #[I J n,I J d] 97)=W at*;generalize R:w.heap.size=B at*;have o:=bz t;have z:=bw t;go_region_held3 (λw'=>atb w' B (I J n)<|I J d) (go_keep) (first|(go_at_call_of 88 (I J n);refine(s.o _ b.drew).mono ?_;rintro e N ⟨rfl,a⟩;have q:=b.drew.below a b.sz;have i:=aR a o k;have j:=(aR a z k))|(go_at_call_of 88 (I J d);refine(v.o _ q).mono ?_;rintro e O ⟨rfl,f⟩;have:=aR f i (bg k a.size);have:=(aR f j (bg k a.size))));go_wp2_with fail;go_ret;refine⟨by simp[ByteArray.mk_append_mk],?_⟩;rw[R];exact(c.drew.trans<|a.mono<|du k).trans<|f.mono<|el (du k) a.size
theorem Nf(q:N.Qt)(w:G)(S:Gl w)(l:cS q):
  M 74 #[u (qA q)] w λe w'=>e=aJ (aD ⟨(Pl.fC q).toArray⟩)/\Below w.heap.size w w':=by obtain⟨⟨a,b⟩,c,d⟩:=q;have P:=hid<|λw1 p=>Nc a b w1 p l.xn l.xd;have x:=hid<|λw1 p=>Nc c d w1 p l.yn l.yd;have:=Nb (a:=(a,b)) l.xn l.xd;have:=Nb (a:=(c,d)) l.yn l.yd;have t:H (Pl.fC ((a,b),(c,d))=Pl.jr (a,b)++([32]++Pl.jr (c,d))):=rfl;rw[t.o];generalize Pl.jr (a,b)=v at*;generalize Pl.jr (c,d)=Q at*;simp only[qA];have:¬9223372036854775807<v.length+1:=U;have:¬9223372036854775807<v.length+1+Q.length:=U;have s:Below w.heap.size w (w.alloc<|.cells #[I J a,I J b,I J c,I J d] 100):=(Below.refl _ _).alloc (aX _) _;have n:=aa w<|.cells #[I J a,I J b,I J c,I J d] 100;have k:w.heap.size<(w.alloc<|.cells #[I J a,I J b,I J c,I J d] 100).heap.size:=E;have m:Gl (w.alloc<|.cells #[I J a,I J b,I J c,I J d] 100):=S.alloc _;clear t l;go_enter func74,ntmps74;go_wp2_with fail;generalize w.alloc (.cells #[I J a,I J b,I J c,I J d] 100)=W at*;generalize R:w.heap.size=B at*;obtain⟨z,F,L,O⟩:=ajG n;go_region_held3 (λw'=>as9 w' B (I J a) (I J b) (I J c)<|I J d) (go_keep) (first|(go_at_call_of 127 (u #[I J a,I J b]);refine(P.o _ m.drew).mono ?_;rintro e T ⟨rfl,f⟩;have r:=m.drew.below f m.sz;obtain⟨i,j,o⟩:=ajD f k z F L;have y:=(aR f O k))|(go_at_call_of 127 (u #[I J c,I J d]);refine(x.o _ r).mono ?_;rintro e V ⟨rfl,g⟩;have:=aR g i (bg k f.size);have:=aR g j (bg k f.size);have:=aR g o (bg k f.size);have:=(aR g y (bg k f.size))));go_wp2_with fail;go_ret;refine⟨by simp[ByteArray.mk_append_mk],?_⟩;rw[R];exact(s.drew.trans<|f.mono<|du k).trans<|g.mono<|el (du k) f.size
theorem an3(l:V Ed)(v:Y)(g d t s x y r:Int)(w:G)(hR:je w v l)(hl:l.length<=65000000)(he:∀e∈l,cM e)(hp:oK g d t s x y r)(hdd:0<r)
  (hno:∀e∈l,N.fo (x,y) r e=aQ):
  M 81 #[v,u<|uW g d t s] w λe w'=>e=aJ (I J<|N.total (N.fu (x,y) r) l)/\Below w.heap.size w w':=by obtain⟨so,cap,rfl⟩:=uY hR;have HR:=hid hR;have HE:=hid he;have j:=hid hp;have HN:=hid hno;have HT:H (∀k:Nat, -(k:Int)<=N.total (N.fu (x,y) r) (l.take k)/\N.total (N.fu (x,y) r) (l.take k)<=(k:Int)):=λk=>(by have h:=tn (N.fu (x,y) r) (Me _ _)<|l.take k;have h2:(l.take k).length<=k:=aq;omega);have rq:H (0<r):=hdd;simp only[uW];have hb0:Below w.heap.size w (w.alloc<|.cells #[I J g,I J d,I J t,I J s] 100):=(Below.refl _ _).alloc (aX _) _;have O:=aa w<|.cells #[I J g,I J d,I J t,I J s] 100;have tw:H (Below w.heap.size w (w.alloc<|.cells #[I J g,I J d,I J t,I J s] 100)/\(w.alloc<|.cells #[I J g,I J d,I J t,I J s] 100).heap[w.heap.size]?=K (.cells #[I J g,I J d,I J t,I J s] 100 (0,0))):=⟨hb0,O⟩;go_enter func81,ntmps81;go_wp2_with fail;go_loopg [5,6] l.length (λn tv iv wr=>∃k:Nat,k+n=l.length/\iv=I J k/\tv=I J (N.total (N.fu (x,y) r)<|l.take k)/\H (Below w.heap.size w wr/\w.heap.size<wr.heap.size/\wr.heap[w.heap.size]?=K (.cells #[I J g,I J d,I J t,I J s] 100 (0,0))));(case atStart=>exact⟨0,U,rfl,rfl,tw.o.1,E,tw.o.2⟩);case round=>obtain⟨k,hkn,rfl,rfl,HB⟩:=hrel;obtain⟨f,hwz,i⟩:=HB.o;have GN:=HT.o k;by_cases hlt:k<l.length;(.obtain⟨e,ru⟩:∃e,l[k]?=K e:=⟨_,be hlt⟩;obtain⟨b,rfl,hb,c0,c1,c2,c3⟩:=xI HR.o ru;obtain⟨r0,r1,r2,r3⟩:=ajE f hb c0 c1 c2 c3;obtain⟨p0,p1,p2,p3⟩:=ajG i;have iH:(k:Int)<(l.length:Int):=U;have L:=bB ru;have rr:H (N.total (N.fu (x,y) r) (l.take<|k+1)=N.total (N.fu (x,y) r) (l.take k)+N.fu (x,y) r e.1 e.2):=Bx _ ru;have p:H (cM e):=HE.o e L;have HNO:=hid<|HN.o e L;generalize N.total (N.fu (x,y) r) (l.take k)=T at*;obtain⟨⟨m,B⟩,q,P⟩:=e;simp only at r0 r1 r2 r3;have hst:=XE j.o ((m,B),q,P) rq.o _ _ _ _ rfl rfl rfl rfl;have HH:H (∀w1,M 80 #[u #[I J m,I J B,I J q,I J P],u #[I J g,I J d,I J t,I J s]] w1 λe w'=>e=aJ (aC aQ)/\Below w1.heap.size w1 w'):=λw1=>(by have:=Bt ((m,B),q,P) g d t s x y r w1 p.o j.o;rw[HNO.o] at this;exact this);have m1: -50000000<=m*d/\m*d<=50000000:=ee (a:=50) (b:=1000000) p.o.a ⟨by have:=j.o.bm.xd;omega,j.o.bm.xd.2⟩;have m2: -50000000<=q*d/\q*d<=50000000:=ee (a:=50) (b:=1000000) p.o.c ⟨by have:=j.o.bm.xd;omega,j.o.bm.xd.2⟩;have H1:H (∀w1,M 49 #[u #[I J g,I J d],u #[I J m,I J 1]] w1 λe w'=>e=aJ (I J (g*1-m*d).sign)/\Below w1.heap.size w1 w'):=λw1=>qa g d m 1 _ _ w1 rfl rfl (by have:=j.o.bm.xn;omega) U;have H2:H (∀w1,M 49 #[u #[I J g,I J d],u #[I J q,I J 1]] w1 λe w'=>e=aJ (I J (g*1-q*d).sign)/\Below w1.heap.size w1 w'):=λw1=>qa g d q 1 _ _ w1 rfl rfl (by have:=j.o.bm.xn;omega) U;have H3:=hid<|λw1=>Bn m B q P g d t s w1 p.o.a p.o.b p.o.c p.o.d j.o.bm;have H4:=hid<|λw1=>pZ m B q P w1 p.o.a p.o.c;simp only at hst;generalize N.fu (x,y) r (m,B) (q,P)=FU at*;generalize(g*1-m*d).sign=SA at*;generalize(g*1-q*d).sign=SB at*;generalize((q-m)*(t-B*s)*d-(P-B)*(g-m*d)*s).sign=SS at*;generalize hDX:q-m=DX at*;have HST:=hid hst;have hL0:Below w.heap.size w (wr.alloc<|.cells #[I J m,I J B,I J q,I J P] 151):=f.alloc f.size _;have CY:=aa wr<|.cells #[I J m,I J B,I J q,I J P] 151;have O:(wr.alloc<|.cells #[I J m,I J B,I J q,I J P] 151).heap[w.heap.size]?=K (.cells #[I J g,I J d,I J t,I J s] 100 (0,0)):=(by rw[ad _ _ _ hwz];exact i);have hsz:wr.heap.size+1=(wr.alloc<|.cells #[I J m,I J B,I J q,I J P] 151).heap.size:=E;go_wp2_with fail;generalize wr.alloc (.cells #[I J m,I J B,I J q,I J P] 151)=w0 at*;generalize hEe:wr.heap.size=c at*;refine(HH.o _).mono ?_;rintro e w1 ⟨rfl,z⟩;have G9:=(z.block _ (show c<w0.heap.size by omega)).trans CY;have W:=(z.block _ (show w.heap.size<w0.heap.size by omega)).trans O;have arW:=z.size;have hL1:=hL0.trans<|z.mono U;have e10:=bz G9;have q10:=bz W;have q11:=bw W;go_wp2_with fail;refine(H1.o _).mono ?_;rintro e w2 ⟨rfl,A⟩;have xU:=(A.block _ (show c<w1.heap.size by omega)).trans G9;have X:=(A.block _ (show w.heap.size<w1.heap.size by omega)).trans W;have alJ:=A.size;have hL2:=hL1.trans<|A.mono U;have e22:=bQ xU;have q20:=bz X;have q21:=bw X;go_wp2_with fail;refine(H2.o _).mono ?_;rintro e w3 ⟨rfl,C⟩;have Q:=(C.block _ (show c<w2.heap.size by omega)).trans xU;have S:=(C.block _ (show w.heap.size<w2.heap.size by omega)).trans X;have alK:=C.size;have hL3:=hL2.trans<|C.mono U;obtain⟨e30,e31,e32,e33⟩:=ajG Q;obtain⟨q30,q31,q32,q33⟩:=ajG S;go_wp2_with fail;refine(H3.o _).mono ?_;rintro e w4 ⟨rfl,D⟩;have R:=(D.block _ (show c<w3.heap.size by omega)).trans Q;have ay:=(D.block _ (show w.heap.size<w3.heap.size by omega)).trans S;have asa:=D.size;have hL4:=hL3.trans<|D.mono U;obtain⟨e40,e41,e42,e43⟩:=ajG R;go_wp2_with fail;refine(H4.o _).mono ?_;rintro e w5 ⟨rfl,F⟩;have o:=(F.block _ (show c<w4.heap.size by omega)).trans R;have hP5:=(F.block _ (show w.heap.size<w4.heap.size by omega)).trans ay;have asg:=F.size;have hL5:=hL4.trans<|F.mono U;obtain⟨e50,e51,e52,e53⟩:=ajG o;rcases(show DX<0\/DX=0\/0<DX by omega) with hdx|hdx|hdx<;>rcases(show SA<0\/0<=SA by omega) with hsa|hsa<;>rcases(show SB<0\/0<=SB by omega) with hsb|hsb<;>rcases(show SS<0\/SS=0\/0<SS by omega) with hss|hss|hss;all_goals (go_wp2_with fail;refine(H4.o _).mono ?_;rintro e w6 ⟨rfl,Z⟩;have hP6:=(Z.block _ (show w.heap.size<w5.heap.size by omega)).trans hP5;have asl:=Z.size;have X4:=hL5.trans<|Z.mono U;go_wp2_with fail;go_roundg (gk-1);(case measure=>omega);case rel=>refine⟨k+1,U,af,?_,X4,U,hP6⟩;congr 1;rw[rr.o,HST.o];(repeat' split);all_goals omega));have hk:k=l.length:=U;subst hk;rw[dV];go_wp2_with fail;go_ret;exact⟨rfl,f⟩
namespace Pl
def rings(s:V UInt8):V (V (Int×Int)):=(bO<|all s).2.2.flatten
def aeT(x y d:Int):Bool:=decide (d<1)||decide (d>60)||decide (x< -100000)||decide (x>100000)||decide (y< -100000)||decide (y>100000)
def ae6(s:V UInt8)(x y d:Int):Int×Bool×Nat×Nat:=
 if(err s).1=0 then
  if aeT x y d then(0,aQ,5,0)
  else if(N.o<|rings s).any (N.fo (x,y) d) then(0,aP,0,0)
  else(N.total (N.fu (x,y) d)<|N.o<|rings s,aQ,0,0)
 else(0,aQ,err s)
def afj(r:Int×Bool×Nat×Nat):Y:=aG #[I J r.1,aC r.2.1,I J r.2.2.1,I J r.2.2.2]
end Pl
theorem aav{ps:V (V<|V (Int×Int))}(c:mg ps):∀e∈N.o ps.flatten,cM e:=λe h=>by
 obtain⟨g,k,d,f⟩:=N.Xx h;obtain⟨p,l,b⟩:=pG.1 k;have a:=((c.2 p l).2 g b).1;exact⟨(a _ d).1,(a _ d).2,(a _ f).1,(a _ f).2⟩
theorem aaw{ps:V (V<|V (Int×Int))}(a:mg ps):(N.o ps.flatten).length<=65000000:=by have:=N.ti 402 402 ps<|λp b=>⟨(a.2 p b).1,λg c=>((a.2 p b).2 g c).2⟩;have:=a.1;omega
theorem an6{x y d:Int}(h:Pl.aeT x y d=aQ):oK (qb x d) (nN x d) (qb y d) (nN y d) x y d:=by unfold Pl.aeT at h;simp only[ant,E7] at h;obtain⟨⟨⟨⟨⟨b,c⟩,e⟩,f⟩,g⟩,k⟩:=h;have a:d≠0:=U;have:=agt (Bo x d)<|oI a;have:=agt (xG x d)<|oI a;have:=agt (Bo y d)<|oI a;have:=agt (xG y d)<|oI a;have:=LW (n:=x) (d:=d) U;have:=LW (n:=y) (d:=d) U;have:=oI (n:=x) a;have:=oI (n:=y) a;exact⟨⟨U,U,U,U⟩,⟨_,U,Bo x d,xG x d⟩,⟨_,U,Bo y d,xG y d⟩⟩
theorem aax{s:ByteArray}{W:ByteArray}{so:Option Addr}{pn pc:Nat}(h:(Pl.err s.data.toList).1=0)
  (f:((Pl.err s.data.toList).1=0->((∃a,(Pl.bO<|Pl.all s.data.toList).2.2=[a]/\W=⟨Pl.ew.toArray⟩/\kD w' (D so pn pc) [a]/\uM a/\Pl.xx s.data.toList=Pl.ew++([32]++Pl.jR a))\/
    (W=⟨Pl.fA.toArray⟩/\kD w' (D so pn pc) (Pl.bO (Pl.all s.data.toList)).2.2/\mg (Pl.bO (Pl.all s.data.toList)).2.2/\Pl.xx s.data.toList=Pl.xt (Pl.bO (Pl.all s.data.toList)).2.2)))):
  kD w' (D so pn pc) (Pl.bO<|Pl.all s.data.toList).2.2/\mg (Pl.bO<|Pl.all s.data.toList).2.2:=by rcases f h with⟨a,e,_,b,c,_⟩|⟨_,b,c,_⟩;rw[e];exact⟨b,E,λg d=>by rw[cI.1 d];exact c⟩;exact⟨b,c⟩
theorem an7(s:ByteArray)(x c d:Int)(w:G)(hm:s.size<=maxLen):
  M 54 #[aD s,I J x,I J c,I J d] w λe w'=>e=aJ (Pl.afj<|Pl.ae6 s.data.toList x c d)/\ag w w':=by
 have HR:H (∀w1,M 14 #[aD s] w1 λe w'=>ag w1 w'/\∃W r q pc,e=aJ (aG #[u #[aD W,D r q pc,I J 0],I J (Pl.err s.data.toList).1,I J (Pl.err s.data.toList).2])/\
   ((Pl.err s.data.toList).1=0->kD w' (D r q pc) (Pl.bO (Pl.all s.data.toList)).2.2/\mg (Pl.bO (Pl.all s.data.toList)).2.2)):=λw1=>by
  refine(FT s w1 hm).mono ?_;rintro e w' ⟨hb,W,r,q,pc,rfl,hr⟩;exact⟨hb,W,r,q,pc,rfl,λh=>aax h hr⟩
 by_cases h0:(Pl.err s.data.toList).1=0
 .have he2:=(tf h0).2.1;have hwd:Pl.ae6 s.data.toList x c d=if Pl.aeT x c d then(0,aQ,5,0)
    else if(N.o<|Pl.rings s.data.toList).any (N.fo (x,c) d) then(0,aP,0,0)
    else(N.total (N.fu (x,c) d)<|N.o<|Pl.rings s.data.toList,aQ,0,0):=y h0
  rw[hwd];clear hwd;have T4:H (∀w1,M 14 #[aD s] w1 λe w'=>ag w1 w'/\∃W r q pc,e=aJ (aG #[u #[aD W,D r q pc,I J 0],I J 0,I J 0])/\
    kD w' (D r q pc) (Pl.bO (Pl.all s.data.toList)).2.2/\mg (Pl.bO (Pl.all s.data.toList)).2.2):=λw1=>by
   refine(HR.o w1).mono ?_;rintro e w' ⟨hb,W,r,q,pc,rfl,hr⟩;exact⟨hb,W,r,q,pc,by rw[h0,he2];rfl,hr h0⟩
  have wC:H (Pl.rings s.data.toList=(Pl.bO<|Pl.all s.data.toList).2.2.flatten):=rfl;generalize(Pl.bO<|Pl.all s.data.toList).2.2=PS at*;generalize Pl.rings s.data.toList=RG at*;clear HR he2 h0;rcases(show d<1\/(¬d<1/\60<d)\/(¬d<1/\¬60<d/\x< -100000)\/(¬d<1/\¬60<d/\¬x< -100000/\100000<x)\/(¬d<1/\¬60<d/\¬x< -100000/\¬100000<x/\c< -100000)\/(¬d<1/\¬60<d/\¬x< -100000/\¬100000<x/\¬c< -100000/\100000<c)\/(¬d<1/\¬60<d/\¬x< -100000/\¬100000<x/\¬c< -100000/\¬100000<c) by omega) with h1|⟨h1,h2⟩|⟨h1,h2,h3⟩|⟨h1,h2,h3,h4⟩|⟨h1,h2,h3,h4,h5⟩|⟨h1,h2,h3,h4,h5,h6⟩|⟨h1,h2,h3,h4,h5,h6⟩;rotate_left 6
  .have l:Pl.aeT x c d=aQ:=by
    unfold Pl.aeT;simp only[ant,E7];omega
   have JI:=hid<|an6 l;rw[l];have HF1:H (∀w1,M 46 #[I J x,I J d] w1 (ai (u #[I J (qb x d),I J<|nN x d]) w1)):=λw1=>amy x d w1 _ rfl U U U (by
    by_cases hx:x<0
    .exact j ⟨ff hx,U⟩
    .exact F ⟨jd hx,U⟩)
   have HF2:H (∀w1,M 46 #[I J c,I J d] w1 (ai (u #[I J (qb c d),I J<|nN c d]) w1)):=λw1=>amy c d w1 _ rfl U U U (by
    by_cases hx:c<0
    .exact j ⟨ff hx,U⟩
    .exact F ⟨jd hx,U⟩)
   generalize qb x d=O at*;generalize nN x d=L at*;generalize qb c d=Y at*;generalize nN c d=T at*;simp only[jD,kf];clear l;obtain⟨p,hES⟩:=am<|N.o PS.flatten;rw[wC.o,<-hES];have HES:=hid hES;clear wC hES;go_enter func54,ntmps54;go_wp2_with fail;refine(T4.o _).mono ?_;rintro e w1 ⟨t,W,r,q,pc,rfl,pS,hok⟩;have C:H (kD w1 (D r q pc) PS/\mg PS):=⟨pS,hok⟩;clear pS hok;have hSB:=aa w1<|.cells #[aD W,D r q pc,I J 0] 29;have vx:ag w1 (w1.alloc<|.cells #[aD W,D r q pc,I J 0] 29):=aj _ _;have Rv:w1.heap.size<(w1.alloc<|.cells #[aD W,D r q pc,I J 0] 29).heap.size:=E;go_wp2_with fail;generalize w1.alloc (.cells #[aD W,D r q pc,I J 0] 29)=w2 at*;refine(HF1.o _).mono ?_;rintro e w3 ⟨rfl,hb3⟩;go_wp2_with fail;refine(HF2.o _).mono ?_;rintro e P ⟨rfl,hb4⟩;have hs3:=hb3.size;have hs4:=hb4.size;have Q:=(hb4.block _<|bg Rv hs3).trans<|(hb3.block _ Rv).trans hSB;have S:=(vx.trans<|hb3.mono U).trans<|hb4.mono U;have x0:=bz Q;have x1:=bw Q;have x2:=bQ Q;have aic:w1.heap.size<P.heap.size:=U;have HED:H (M 79 #[u #[aD W,D r q pc,I J 0]] (P.alloc<|.cells #[I J O,I J L,I J Y,I J T] 100) λe w'=>∃v,e=aJ v/\je w' v p/\Below (P.alloc<|.cells #[I J O,I J L,I J Y,I J T] 100).heap.size (P.alloc<|.cells #[I J O,I J L,I J Y,I J T] 100) w'):=
    HES.o▸XH PS W _ _ (fk AY C.o.1<|S.alloc S.size _) C.o.2
   have alM:ag w (P.alloc<|.cells #[I J O,I J L,I J Y,I J T] 100):=by
    have:=t.trans<|S.mono t.size;exact this.alloc this.size _
   have hPB:=aa P<|.cells #[I J O,I J L,I J Y,I J T] 100;have hsP:P.heap.size<(P.alloc<|.cells #[I J O,I J L,I J Y,I J T] 100).heap.size:=E;have qj:=hid<|HES.o▸aav C.o.2;have hel:=HES.o▸aaw C.o.2;clear hb3 hb4 hSB Q vx Rv HF1 HF2 T4 C S;go_wp2_with fail;refine HED.o.mono ?_;rintro e w5 ⟨v,rfl,hre,jS⟩;obtain⟨lo,lc,rfl⟩:=uY hre;have hP5:=(jS.block _ hsP).trans hPB;have alA:=alM.trans<|jS.mono alM.size;have hs5:=bg hsP jS.size;have HRE:=hid hre;clear HED hPB hsP alM jS hre x0 x1 x2;go_wp2_with fail
   go_loopg [17] p.length (λm iv wr=>∃i:Nat,i+m=p.length/\iv=I J i/\H ((∀e∈p.take i,N.fo (x,c) d e=aQ)/\ag w5 wr))
   case atStart=>exact⟨0,U,rfl,E,Below.refl _ _⟩
   case round=>
    obtain⟨i,him,rfl,HB⟩:=hrel;have n:=HB.o.2;have hs6:=n.size;have hP6:=(n.block _ hs5).trans hP5;obtain⟨p0,p1,p2,p3⟩:=ajG hP6;have R:=alA.trans<|n.mono alA.size;have g:P.heap.size<wr.heap.size:=U;by_cases hlt:i<p.length
    .obtain⟨e,ru⟩:∃e,p[i]?=K e:=⟨_,be hlt⟩;obtain⟨b,rfl,hb,c0,c1,c2,c3⟩:=xI HRE.o ru;obtain⟨r0,r1,r2,r3⟩:=ajE n hb c0 c1 c2 c3;have B:=bg hb hs6;have iH:(i:Int)<(p.length:Int):=U;have z:=bB ru;have HH:=hid<|λw1=>Bt e O L Y T x c d w1 (qj.o e z) JI.o;clear c0 c1 c2 c3;cases A:N.fo (x,c) d e
     .rw[A] at HH;have HN:H (∀e∈p.take (i+1),N.fo (x,c) d e=aQ):=λe' he'=>by
       obtain⟨h1,h2⟩:=bX.1 ru;rw[lV h1,h2] at he';rcases dm.1 he' with h|h
       .exact HB.o.1 e' h
       .rw[cI.1 h];exact A
      clear A ru z HB;go_wp2_with fail;go_region_held3 (λw'=>ata w' b (i*4) (I J e.1.1) (I J e.1.2) (I J e.2.1) (I J e.2.2)/\as9 w' P.heap.size (I J O) (I J L) (I J Y) (I J T)) (go_keep) (first |(go_at_call 80;refine(HH.o _).mono ?_;rintro e' w7 ⟨rfl,f⟩;obtain⟨s0,s1,s2,s3⟩:=ajE f B r0 r1 r2 r3;obtain⟨t0,t1,t2⟩:=ajD f g p0 p1 p2;have t3:=(aR f p3 g)));have HN2:H ((∀e∈p.take (i+1),N.fo (x,c) d e=aQ)/\ag w5 w7):=⟨HN.o,n.drew.trans<|f.mono hs6⟩;clear f HN;go_wp2_with fail;go_roundg (gk-1)
      case measure=>omega
      case rel=>exact⟨i+1,U,af,HN2⟩
     .rw[A] at HH;have HA:=hid<|Aw.2 ⟨e,z,A⟩;clear A ru z HB;go_wp2_with fail;go_region_held3 (λw'=>ata w' b (i*4) (I J e.1.1) (I J e.1.2) (I J e.2.1) (I J e.2.2)/\as9 w' P.heap.size (I J O) (I J L) (I J Y) (I J T)) (go_keep) (first |(go_at_call 80;refine(HH.o _).mono ?_;rintro e' w7 ⟨rfl,f⟩;obtain⟨s0,s1,s2,s3⟩:=ajE f B r0 r1 r2 r3;obtain⟨t0,t1,t2⟩:=ajD f g p0 p1 p2;have t3:=(aR f p3 g)));have hbz:=R.drew.trans<|f.mono (by have:=R.size;exact this);go_wp2_with fail;exact ab (v:=aG #[I J 0,aC aP,I J 0,I J 0]) (by simp[results,results54,go_sem]) rfl ⟨rfl,hbz⟩
    .have hi:i=p.length:=U;subst hi;have HNO:H (∀e∈p,N.fo (x,c) d e=aQ):=by
      have:=HB.o.1;rw[dV] at this;exact this
     have HA:H (¬p.any (N.fo (x,c) d)=aP):=λh=>by
      obtain⟨e,h1,h2⟩:=Aw.1 h;rw[HNO.o e h1] at h2;cases h2
     have HO:H (M 81 #[D lo p.length lc,u #[I J O,I J L,I J Y,I J T]] wr (ai (I J<|N.total (N.fu (x,c) d) p) wr)):=
      an3 p _ O L Y T x c d wr (tc HRE.o λk cur hc=>n.block k<|apJ hc) U qj.o JI.o U HNO.o
     clear HB;go_wp2_with fail;refine HO.o.mono ?_;rintro e w7 ⟨rfl,f⟩;have hbz:=R.trans<|f.mono R.size;go_wp2_with fail;exact ab (v:=aG #[I J (N.total (N.fu (x,c) d) p),aC aQ,I J 0,I J 0]) (by simp[results,results54,go_sem]) rfl ⟨rfl,hbz⟩
  all_goals
   have l:Pl.aeT x c d=aP:=by
    unfold Pl.aeT;simp only[E1,pE];omega
   rw[l];simp only[jk,Pl.afj];clear l wC;go_enter func54,ntmps54;go_wp2_with fail;refine(T4.o _).mono ?_;rintro e w1 ⟨t,W,r,q,pc,rfl,_⟩;go_wp2_with fail;exact ab (v:=aG #[I J 0,aC aQ,I J 5,I J 0]) (by simp[results,results54,go_sem]) rfl ⟨rfl,t.alloc t.size _⟩
 .have hw:Pl.ae6 s.data.toList x c d=(0,aQ,Pl.err s.data.toList):=X h0;rw[hw];have hne:(((Pl.err s.data.toList).1:Int) != 0)=aP:=by rw[qL];omega
  simp only[Pl.afj];generalize(Pl.err s.data.toList).1=a at*;generalize(Pl.err s.data.toList).2=Pp at*;clear hw h0;go_enter func54,ntmps54;go_wp2_with fail;refine(HR.o _).mono ?_;rintro e w1 ⟨t,W,r,q,pc,rfl,_⟩;go_wp2_with fail;exact ab (v:=aG #[I J 0,aC aQ,I J a,I J Pp]) (by simp[results,results54,go_sem]) rfl ⟨rfl,t.alloc t.size _⟩
def P4(W:G)(X:Nat)(a b c d:Int):Prop:=W.heap[X]?=K (.cells #[I J a,I J b,I J c,I J d] 100 (0,0))
def Bw(w W:G):Prop:=ag w W
theorem P4.mv{X:Nat}{a b c d:Int}(h:P4 w X a b c d)(e:Bw w w'):P4 w' X a b c d:=(e.block X<|apJ h).trans h
def fh:V N.Qt->V N.Qt->Int
 |p::a,q::b=>if N.pc p q=0 then fh a b else N.pc p q
 |a,b=>(a.length:Int)-(b.length:Int)
theorem OG(a b:V N.Qt)(v f:Y)(w:G)(hR:dq w v a)(hS:dq w f b)(ha:∀q∈a,cS q)(hb:∀q∈b,cS q)(hla:a.length<=20000000402)(hlb:b.length<=20000000402):
  M 51 #[v,f] w (ai (I J<|fh a b) w):=by obtain⟨so,cap,rfl⟩:=nQ hR;obtain⟨to,cbp,rfl⟩:=nQ hS;have HR:=hid hR;have HS:=hid hS;have HQ:H ((∀q∈a,cS q)/\∀q∈b,cS q):=⟨ha,hb⟩;clear hR hS ha hb;go_enter func51,ntmps51;go_wp2_with fail;go_loopg [5] a.length (λg iv wr=>∃i:Nat,i+g=a.length/\i<=b.length/\iv=I J i/\H (ag w wr/\fh a b=fh (a.drop i) (b.drop i)));(case atStart=>exact⟨0,U,U,rfl,Below.refl _ _,rfl⟩);case round=>obtain⟨i,hg,hib,rfl,l⟩:=hrel;by_cases Q:i<a.length/\i<b.length;(.obtain⟨h1,h2⟩:=Q;obtain⟨p,j⟩:∃p,a[i]?=K p:=⟨_,be h1⟩;obtain⟨q,y⟩:∃q,b[i]?=K q:=⟨_,be h2⟩;obtain⟨c,rfl,R,F,L,O,T⟩:=tt HR.o j;obtain⟨d,rfl,S,W,y1,y2,y3⟩:=tt HS.o y;have HE:H (fh a b=if N.pc p q=0 then fh (a.drop<|i+1) (b.drop<|i+1) else N.pc p q):=(by show _=_;rw[l.o.2,lU h1,lU h2,(bX.1 j).2,(bX.1 y).2];rfl);have P:=λ(o:Nat)(h:c<w.heap.size)=>l.o.1.cell (p:=⟨c,o,Z⟩) h;have m:=λ(o:Nat)(h:d<w.heap.size)=>l.o.1.cell (p:=⟨d,o,Z⟩) h;replace F:=(P _ R).trans F;replace L:=(P _ R).trans L;replace O:=(P _ R).trans O;replace T:=(P _ R).trans T;replace W:=(m _ S).trans W;replace y1:=(m _ S).trans y1;replace y2:=(m _ S).trans y2;replace y3:=(m _ S).trans y3;have HP:=hid<|λw1=>Bu p q w1 (HQ.o.1 p<|bB j)<|HQ.o.2 q<|bB y;have m1:(i:Int)<(a.length:Int):=U;have m2:(i:Int)<(b.length:Int):=U;have n:=hid l.o.1;clear P m j y l;go_wp2_with fail;go_region_held3 (λw'=>ata w' c (i*4) (I J p.1.1) (I J p.1.2) (I J p.2.1) (I J p.2.2)/\ata w' d (i*4) (I J q.1.1) (I J q.1.2) (I J q.2.1) (I J q.2.2)) (go_keep) (first|(go_at_call 47;refine(HP.o _).mono ?_;rintro e w7 ⟨rfl,x⟩;have k:=λ(b o:Nat)(h:b<wr.heap.size)=>(x.cell (p:=⟨b,o,Z⟩) h);have hs:=n.o.size;replace F:=(k c _ U).trans F;replace L:=(k c _ U).trans L;replace O:=(k c _ U).trans O;replace T:=(k c _ U).trans T;replace W:=(k d _ U).trans W;replace y1:=(k d _ U).trans y1;replace y2:=(k d _ U).trans y2;replace y3:=(k d _ U).trans y3;have B:H (ag w w7):=n.o.drew.trans (x.mono n.o.drew.size);clear k hs x));obtain⟨z,hz⟩:=am<|N.pc p q;have s:=HE.o;rw[<-hz] at s⊢;by_cases h0:z=0;(.subst h0;have t:H (fh a b=fh (a.drop<|i+1) (b.drop<|i+1)):=(by rw[s];rfl);go_wp2_with fail;go_roundg (a.length-(i+1));(case measure=>omega);case rel=>exact⟨i+1,U,U,bd _ U,B.o,t.o⟩);have t:H (fh a b=z):=(by rw[s,X h0];rfl);have hzb:(z != 0)=aP:=(by simp[h0]);go_wp2_with fail;go_ret;exact⟨by rw[t.o];rfl,B.o⟩);have hf:fh a b=(a.length:Int)-(b.length:Int):=(by rw[l.o.2];rcases Af i a.length with z|z;rw[show b.drop i=[] from Kq U];have e:(i:Int)=b.length:=U;(cases m:a.drop i with|nil=>have:=bd List.length m;simp at this;omega|cons p r=>have:=bd List.length m;simp only[jQ] at this;simp only[fh,fw];omega);rw[show a.drop i=[] from Kq z];simp only[fh,fw,jQ];omega);have HF:=hid hf;have hwr:J.wrap ((a.length:Int)-(b.length:Int))=(a.length:Int)-(b.length:Int):=(by rw[ah];omega);have HB:=l.o.1;clear hf l;by_cases z:i<a.length;have m1:(i:Int)<(a.length:Int):=U;have m2:¬(i:Int)<(b.length:Int):=U;clear Q;go_wp2_with fail;go_ret;exact⟨by rw[HF.o];rfl,HB⟩;have m1:¬(i:Int)<(a.length:Int):=U;go_wp2_with fail;go_ret;exact⟨by rw[HF.o];rfl,HB⟩
def agA(w:G)(v:Y)(a:V (V N.Qt)):Prop:=nJ 92 dq w v a
def zJ(w:G)(v:Y)(ps:V (V<|V N.Qt)):Prop:=nJ 91 agA w v ps
def agC(w:G)(b o:Nat)(a x y d r:Int)(s:ByteArray):Prop:=
 w.cell? ⟨b,o,Z⟩=K (I J a)/\w.cell? ⟨b,o+1,Z⟩=K (I J x)/\w.cell? ⟨b,o+2,Z⟩=K (I J y)/\w.cell? ⟨b,o+3,Z⟩=K (I J d)/\
  w.cell? ⟨b,o+4,Z⟩=K (I .u8 r)/\w.cell? ⟨b,o+5,Z⟩=K (aD s)
def Eb(w:G)(c:Option Addr)(n:Nat):Prop:=
 ∀k,k<n->∃b o a x y d r s,c=K ⟨b,o,Z⟩/\b<w.heap.size/\s.size<=maxLen/\agC w b (o+k*6) a x y d r s
end
section
open Go.RowKit Go.Deep
theorem Tryz.opCells:Tryz.prog.cellsOf 26=6:=z
theorem Tryz.intCells:Tryz.prog.cellsOf 3=1:=z
theorem Tryz.byteCells:Tryz.prog.cellsOf 5=1:=z
theorem Tryz.strCells:Tryz.prog.cellsOf 9=1:=z
section
variable{H:Type}{enc:TypeId×Y->H}{W:G}{spare:Nat->Bool}{held:Bool}
theorem six{α:Type}:∀{l:V α},l.length=6->∃a b c d e f,l=[a,b,c,d,e,f]
 |[a,b,c,d,e,f],_=>⟨a,b,c,d,e,f,rfl⟩
theorem aiR{so:Option Addr}{n cap:Nat}{d:DataW H}{p:V MemPlace}(h:DataW.Trod enc prog W 0 spare held 22 (D so n cap) d p):n<=maxLen/\Eb W so n:=by obtain⟨fuel,T⟩:=h;rcases open_slice underlying22 T with⟨f,hx⟩|⟨a,len,x,m,fl,c,Pl,f,hb,hl,hm,q,hx,l⟩;simp[Value.cells] at f;obtain⟨rfl,rfl,rfl⟩:=f;exact⟨iq _,λk C=>absurd C<|Nat.not_lt_zero _⟩;simp[Value.cells] at f;obtain⟨rfl,rfl,rfl⟩:=f;refine⟨el hl hm,λk C=>?_⟩;have hspot:a.spot=Z:=(by obtain⟨N,L,_⟩:=l 0 (by rw[q];split<;>omega);rw[Tryz.opCells] at L;obtain⟨_,zl,zc⟩:=World.cells?_some L;obtain⟨q0,q1,q2,q3,q4,q5,rfl⟩:=six zl;simpa[Addr.add] using World.cell?_spot (v:=q0) (zc 0 U));obtain⟨M,A,O⟩:=l k (by rw[q];split<;>omega);rw[Tryz.opCells] at A;obtain⟨_,g,hcell⟩:=World.cells?_some A;obtain⟨xs,k',X,hxy,_,r,e⟩:=DataW.trod_struct underlying26 O;obtain⟨b,o,t⟩:=a;obtain rfl:t=Z:=hspot;obtain⟨y0,y1,y2,y3,y4,y5,rfl⟩:=six (r.trans<|by rfl);obtain⟨v0,v1,v2,v3,v4,v5,rfl⟩:=six g;clear r g;have i:=e 0 _ rfl;have j:=e 1 _ rfl;have u:=e 2 _ rfl;have w:=e 3 _ rfl;have y:=e 4 _ rfl;have z:=e 5 _ rfl;simp[Tryz.intCells,Tryz.byteCells,Tryz.strCells] at i j u w y z;obtain⟨n0,F,_,_⟩:=agl underlying3 i;obtain⟨n1,I,_,_⟩:=agl underlying3 j;obtain⟨n2,J,_,_⟩:=agl underlying3 u;obtain⟨n3,K,_,_⟩:=agl underlying3 w;obtain⟨n4,i4,_,_⟩:=agl underlying5 y;obtain⟨s,i5,_,hs⟩:=DataW.trod_string underlying9 z;simp only[List.cons.injEq,pI] at F I J K i4 i5;subst F I J K i4 i5;have e0:=hcell 0 U;have B:=hcell 1 U;have P:=hcell 2 U;have Q:=hcell 3 U;have R:=hcell 4 U;have S:=hcell 5 U;simp[Go.WideShapes.add_plain] at e0 B P Q R S;exact⟨b,o,n0,n1,n2,n3,n4,s,rfl,by simpa using aek _ _ e0,hs,e0,B,P,Q,R,S⟩
end
end
section
open Go.ChangeShapes Go.WideShapes Go.ChangeAt Go.RowKit Go.Deep
theorem Vg:Tryz.prog.globalNamed "strconv.ErrSyntax" =some 0:=by kernel_rfl
theorem Vh:Tryz.prog.globalNamed "strconv.ErrRange" =some 1:=by kernel_rfl
theorem Vi:Tryz.prog.globalNamed "internal/strconv.uint64pow10" =some 3:=by kernel_rfl
theorem aiY:Tryz.prog.globalNamed "math/bits.deBruijn32tab" =some 4:=by kernel_rfl
theorem aiZ:Tryz.prog.globalNamed "math/bits.deBruijn64tab" =some 5:=by kernel_rfl
theorem ai0:(Tryz.prog.globals[0]?).map (·.type)=K 199:=z
theorem ai1:(Tryz.prog.globals[1]?).map (·.type)=K 199:=z
theorem ai2:(Tryz.prog.globals[3]?).map (·.type)=K 356:=z
theorem Vj: "*" ++ "errors.errorString" = "*errors.errorString" :=by decide
theorem Vk(u:TypeId)(h:Tryz.prog.typeName? 3 u=some "*errors.errorString"):u=359:=
 typeName_ptr_named (nm:= "errors.errorString") (by rw[Vj];kernel_rfl) (by kernel_rfl) (by decide) u (by rw[Vj];exact h)
theorem cellsE:Tryz.prog.cellsOf 361=1:=z
theorem ai3:Tryz.prog.cellsOf 282=1:=z
theorem ai4:Tryz.prog.cellsOf 356=20:=z
theorem Ad{W:G}{n:String}{g:Nat}{cs:Array Y}(b:Tryz.prog.globalNamed n=K g)(a:W.var? prog n=K cs):g<W.heap.size:=by simp only[World.var?,b,Option.bind_some] at a;split at a;rename_i h;exact apJ h;cases a
theorem ai5{W:G}(h:laidMetH prog Rows.printsRow.laid W):Gl W:=by rw[MakeChecks.laidMetH_plain _ _ _ z] at h;have e:=h.tail;have a:=e.tail;have f:=a.tail;have p:=f.tail;obtain⟨j,L,c,_,_,_⟩:=laid_sentinel f Vh ai1 underlying199 Vk underlying359 underlying361 rfl rfl underlying9 cellsE Tryz.strCells;obtain⟨o,M,d,_,_,_⟩:=laid_sentinel p Vg ai0 underlying199 Vk underlying359 underlying361 rfl rfl underlying9 cellsE Tryz.strCells;refine⟨?_,⟨_,_,d⟩,⟨_,_,c⟩,?_⟩;obtain⟨ps,⟨A,N,l,u,E,I,t,B,b,q,_⟩,_,_⟩:=e;obtain⟨i,⟨C,O,m,w,F,J,v,P,R,r,_⟩,_,_⟩:=h;obtain⟨g,⟨D,T,n,y,H,K,x,Q,S,s,_⟩,_,_⟩:=a;have:=Ad aiZ b;omega;exact Lib.tabIs_of_head (k:=.u64) (zs:=Lib.pow10Tab) Vi ai2 underlying356 underlying282 ai3 ai4 a
theorem ai6(os:Os)(a:Array Y):laidMetH prog Rows.printsRow.laid ((World.doorLaid prog 400 os).forCall (λ_ _=>0) ⟨#[],a,[]⟩).memory:=
 laidMetH_of_parts3 (fuel:=8) (laidMet_of_run' 8 z z) z z
end
end Go.Proofs.YtkjhhooecopolaaGreatDoor

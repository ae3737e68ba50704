import Derived.Test.YtkjhhooecopolaaGreatDoorFz08
set_option maxRecDepth 100000
set_option maxHeartbeats 4000000
namespace Go.Proofs.YtkjhhooecopolaaGreatDoor
open Go.Proofs.Tryz
open Value renaming int->I,complex->A,agg->u,bool->aC,string->aD,slice->D,pointer->aF,tuple->aG
open IntKind renaming i64->J
open FloatKind renaming f64->C
open Ending renaming returned->aJ
open Go renaming World->G,Value->Y
open Option renaming some->K,none->Z
open Bool renaming true->aP,false->aQ
section
open Go.RowKit
variable{w wr:G}{pb tb cap k:Nat}{lv:Y}
theorem tg(b f cap:Nat)(s:V UInt8)(a l:V Pl.Tk)(w:G)(q:V UInt8)(k:Pl.eU s l)(c:PS b f cap a l aQ w)(m:a.length<=402):
  M 29 #[aF (K ⟨b,0,Z⟩),aD ⟨q.toArray⟩] w λe w'=>e=aJ (aC (Pl.wd q l).1)/\PS b f cap a (Pl.wd q l).2 aQ w'/\Fp b w w':=by
 cases l with
 |nil=>exact k.elim
 |cons t r=>
  by_cases d:t.k=119
  .by_cases g:t.raw=q
   .have e:Pl.wd q (t::r)=(aP,r):=by simp[Pl.wd,d,g]
    rw[e];exact WK b f cap a r t w ⟨q.toArray⟩ c m d<|by rw[g]
   .have e:Pl.wd q (t::r)=(aQ,t::r):=by simp[Pl.wd,g]
    rw[e];refine(WN b f cap a r t w ⟨q.toArray⟩ c m d ?_).mono ?_
    .rw[aee,aee,ou];intro h;exact g<|by simpa using h
    .rintro e w' ⟨rfl,n,rfl⟩;exact⟨rfl,c.drewN n,(Fp.refl b w).drewN n⟩
  .have e:Pl.wd q (t::r)=(aQ,t::r):=by simp[Pl.wd,d]
   rw[e];refine(WM b f cap a r t w ⟨q.toArray⟩ c m d).mono ?_;rintro e w' ⟨rfl,n,rfl⟩;exact⟨rfl,c.drewN n,(Fp.refl b w).drewN n⟩
theorem both{a b:Prop}(c:a)(d:b):b/\a:=⟨d,c⟩
theorem LJ(S tb cap:Nat)(s:V UInt8)(a l:V Pl.Tk)(w:G)(hch:Pl.eU s l)(hP:PS S tb cap a l aQ w)(hl:a.length<=402)(hll:l.length<=402):
  M 30 #[aF (K ⟨S,0,Z⟩)] w (FI nK S tb cap a (Pl.cZ l) w):=by
 obtain⟨aB,hinfo⟩:=both Xa Ls;generalize L:Pl.cZ l=T;have HT:=hid L;clear L;go_enter func30,ntmps30;go_wp2_with fail;refine(tg S tb cap s a l w Pl.EMPTY hch hP hl).mono ?_;rintro e w1 ⟨rfl,FN,Lq⟩;cases hm:(Pl.wd Pl.EMPTY l).1
 .rw[pP hm] at FN;have HM:H (M 42 #[aF (K ⟨S,0,Z⟩),I .u8 40] w1 λe w'=>e=aJ (aG #[])/\Fp S w w'/\∃l1 P,PS S tb cap a l1 P w'/\Pl.eU s l1/\l1.length<=l.length/\
    ((P=aP/\sZ T l1 aP [])\/(P=aQ/\Pl.eW Pl.eY l.length l1 []=T))):=by
   have hg:=Pl.pQ (c:=40) hch U;have L:=HT.o;unfold Pl.cZ at L;rw[X (by rw[hm];simp)] at L;cases l with
   |nil=>exact hch.elim
   |cons t r=>
    by_cases hk:t.k=40
    .have e:Pl.mk 40 (t::r)=(aP,r):=by simp[Pl.mk,hk]
     refine(AQ S tb cap a r t w1 40 FN hl hk U).mono ?_;rintro e' w' ⟨rfl,h1,h2⟩;rw[e] at hg L;rw[y rfl] at L;exact⟨rfl,Lq.trans h2,r,aQ,h1,hg.2,E,F ⟨rfl,L⟩⟩
    .have e:Pl.mk 40 (t::r)=(aQ,t::r):=by simp[Pl.mk,hk]
     refine(AR S tb cap a r t w1 40 FN hl hk).mono ?_;rintro e' w' ⟨rfl,h1,h2⟩;rw[e] at L;rw[X E] at L;exact⟨rfl,Lq.trans h2,t::r,aP,h1,hch,aX _,j ⟨rfl,F ⟨rfl,by rw[<-L];exact⟨rfl,rfl⟩⟩⟩⟩
  clear HT;go_wp2_with fail;refine HM.o.mono ?_;rintro e w3 ⟨rfl,hf3,l1,P,nL,xy,nH,N⟩;have gh:H (oG 63 me Pl.eY S tb cap s a T w l.length (D Z 0 0) (!P) w3):=by
   refine⟨l1,[],P,[],nL,hf3,xy,rfl,ak _ _ _ _,λi b x hu=>(by simp at hu),E,hll,λhm'=>?_,λhm'=>?_⟩
   .rcases N with⟨rfl,_⟩|⟨rfl,h⟩
    .cases hm'
    .exact⟨rfl,h,nH⟩
   .rcases N with⟨rfl,h⟩|⟨rfl,h⟩
    .exact h
    .cases hm'
  have hb2:w3.cell? ⟨S,2,Z⟩=K (aC P):=by
   obtain⟨c,_,hb⟩:=nL.box;exact apL hb 2
  clear N HM nH xy nL hf3 FN Lq hm hch hP;cases P
  all_goals
   go_wp2_with fail
   go_loopg [4,5] l.length (λg lv mv wr=>∃more:Bool,mv=aC more/\H (oG 63 me Pl.eY S tb cap s a T w g lv more wr))
   case atStart=>exact⟨_,rfl,gh⟩
   case round=>
    obtain⟨more,rfl,HR⟩:=hrel;obtain⟨l2,p,P,vs,z,hf2,m,hvl,hown,pS,hacc,FG,W,hfin⟩:=HR.o;have:=hf2.size;clear HR gh hb2;cases more
    .have hF:=hfin rfl;clear hfin W;go_wp2_with fail;refine(FC hF m z hl).mono ?_;rintro e w4 ⟨rfl,ay,Q,xq⟩;go_wp2_with fail;go_ret;refine⟨_,rfl,ay,hf2.trans Q,?_,p,⟨vs,hvl,iF<|uJ hown Q z,λi b x hu hx=>uK aB ae (pS i b x hu hx) Q z⟩,λh=>(xq h).symm⟩;rcases hown.2 with⟨hv,_⟩|⟨g,cap,cur,hv,_⟩
     .exact⟨_,_,_,hv⟩
     .exact⟨_,_,_,hv⟩
    .obtain⟨rfl,hrow,hlen⟩:=W rfl;clear hfin W;have hne:l2≠[]:=λe=>by rw[e] at m;exact m
     obtain⟨g1,rfl⟩:∃g1,gk=g1+1:=⟨gk-1,by have:=fT.2 hne;omega⟩;have v:=hid hrow;have HLEN:=hid hlen;have hl2:l2.length<=402:=U;clear hrow hne hlen;go_wp2_with fail;refine(W9 S tb cap s a l2 _ m z hl hl2).mono ?_;rintro e w4 ⟨v4,rfl,ay,Q,⟨so,n4,c4,rfl⟩,x4,xz,pT⟩;have:=Q.size;have f:=uJ hown Q z;have aS:=hid pT;have xA:=hid xz;have pU:=hid<|λi b x hu hx=>uK aB ae (pS i b x hu hx) Q z;clear pT xz pS;go_wp2_with (at_builtin;refine ii rfl hinfo underlying57 (ed f) (aa _ _) ?_;intro g cap' w5 ho hgrow xj);have n:=ay.pR hgrow (λk hk=>fJ f hk) ae;have aE:=(hf2.trans Q).pR hgrow<|λk hk=>(bn f k hk).1;have xB:=FK (R:=me) hvl (λi b x hu hx=>td aB hgrow (λk hk=>fJ f hk) ae<|pU.o i b x hu hx)<|td aB hgrow (λk hk=>fJ f hk) ae xA.o;have O:=Pl.Ll l2 m;have ho':w5.ownsRow w.heap.size 63 1 (D (K ⟨g,0,Z⟩) (p.length+1) cap') (p++[x4]).length (vs++[D so n4 c4]):=by
      simpa using ho
     have B:(vs++[D so n4 c4]).length=(p++[x4]).length:=by simp[hvl]
     have aT:=hid xB;clear hgrow ho f hown ay Q z hf2 pU xA xB;refine(AX 44 O.2 n hl).mono ?_;rintro e w6 ⟨rfl,n6,rfl⟩;have q:H (∀(i:Nat) b d,(vs++[D so n4 c4])[i]?=K b->(p++[x4])[i]?=K d->me (w5.drewN n6) b d):=λi b d hu hy=>aB _ _ _ _ (aT.o i b d hu hy)<|λ_ _ _ _ _=>rfl;cases hb:(Pl.eY l2).1
     .rw[hb] at n;have HN:H (oG 63 me Pl.eY S tb cap s a T w g1 (D (K ⟨g,0,Z⟩) (p.length+1) cap') aQ<|w5.drewN n6):=by
       refine⟨_,p++[x4],aP,_,n.drewN n6,aE.drewN n6,O.2,B,ho',q.o,aq,U,λh=>(by cases h),λ_=>F ⟨rfl,?_⟩⟩;rw[<-v.o,uC hb];exact⟨rfl,rfl⟩
      clear v aS n aE O ho' m q aT B hvl;go_wp2_with fail;go_roundg g1
      case measure=>omega
      case rel=>exact⟨_,rfl,HN⟩
     .rw[hb] at n;have hxy:=aS.o hb;cases hm:(Pl.mk 44 (Pl.eY l2).2.1).1
      .have HN:H (oG 63 me Pl.eY S tb cap s a T w g1 (D (K ⟨g,0,Z⟩) (p.length+1) cap') aQ<|w5.drewN n6):=by
        refine⟨_,p++[x4],aQ,_,n.drewN n6,aE.drewN n6,O.2,B,ho',q.o,aq,U,λh=>(by cases h),λ_=>j ⟨rfl,?_⟩⟩;rw[<-v.o,uE hb hm,hxy]
       clear v aS n aE O ho' m hxy q aT B hvl;go_wp2_with fail;go_roundg g1
       case measure=>omega
       case rel=>exact⟨_,rfl,HN⟩
      .obtain⟨t3,r3,pV,hk3⟩:∃t3 r3,(Pl.eY l2).2.1=t3::r3/\t3.k=44:=FE hm;rw[pV] at n;obtain⟨c3,hc3,o⟩:=n.box;have qX:=(n.drewN n6).next U c3 hc3 o
       have HN:H (oG 63 me Pl.eY S tb cap s a T w g1 (D (K ⟨g,0,Z⟩) (p.length+1) cap') aP<|(w5.drewN n6).setCell ⟨S,1,Z⟩<|I J<|(c3.length:Int)+1):=by
        have qY:=O.2;have hlt:=(λl h=>Pl.AN l h) l2 hb;have:=HLEN.o;rw[pV] at qY hlt;simp only[dc] at hlt;refine⟨r3,p++[x4],aQ,_,qX,(aE.drewN n6).set 1 _,(Pl.Goes.tail qY U).2,B,bH ho'<|λk hk=>bY (λe=>lE (w:=w5) ho' o ae<|by rw[hk,e]) _,?_,aq,U,λ_=>⟨rfl,?_,U⟩,λh=>(by cases h)⟩
        .exact λi b d hu hy=>uK aB ae (q.o i b d hu hy) ((Fp.refl S _).set 1 _)<|n.drewN n6
        .rw[<-v.o,uD hb hm,hxy,pV];simp[Pl.mk,hk3]
       have:=apL (w:=w5.drewN n6) o 1;have:=bE (w:=w5.drewN n6) o 1;have:c3.length<=402:=by have h:=bd List.length hc3;simp at h;omega
       clear v aS n aE O ho' m hxy qX hc3 o pV q aT B hvl;generalize w5.drewN n6=w7 at*
       go_wp2_with fail;go_roundg g1
       case measure=>omega
       case rel=>exact⟨_,rfl,HN⟩
 .have L:=HT.o;unfold Pl.cZ at L;rw[y hm] at L;subst L;clear HT;go_wp2_with fail;go_ret;exact⟨_,rfl,FN,Lq,⟨_,_,_,rfl⟩,[],⟨[],rfl,ak _ _ _ _,λi b x hu=>(by simp at hu)⟩,λ_=>rfl⟩
theorem Xk(S tb cap:Nat)(s:V UInt8)(a l:V Pl.Tk)(w:G)(hch:Pl.eU s l)(hP:PS S tb cap a l aQ w)(hl:a.length<=402)(hll:l.length<=402):
  M 31 #[aF (K ⟨S,0,Z⟩)] w (FI kD S tb cap a (Pl.gu l) w):=by
 obtain⟨aB,hinfo⟩:=both Xb FH;generalize L:Pl.gu l=T;have HT:=hid L;clear L;go_enter func31,ntmps31;go_wp2_with fail;refine(tg S tb cap s a l w Pl.EMPTY hch hP hl).mono ?_;rintro e w1 ⟨rfl,FN,Lq⟩;cases hm:(Pl.wd Pl.EMPTY l).1
 .rw[pP hm] at FN;have HM:H (M 42 #[aF (K ⟨S,0,Z⟩),I .u8 40] w1 λe w'=>e=aJ (aG #[])/\Fp S w w'/\∃l1 P,PS S tb cap a l1 P w'/\Pl.eU s l1/\l1.length<=l.length/\
    ((P=aP/\sZ T l1 aP [])\/(P=aQ/\Pl.eW Pl.cZ l.length l1 []=T))):=by
   have hg:=Pl.pQ (c:=40) hch U;have L:=HT.o;unfold Pl.gu at L;rw[X (by rw[hm];simp)] at L;cases l with
   |nil=>exact hch.elim
   |cons t r=>
    by_cases hk:t.k=40
    .have e:Pl.mk 40 (t::r)=(aP,r):=by simp[Pl.mk,hk]
     refine(AQ S tb cap a r t w1 40 FN hl hk U).mono ?_;rintro e' w' ⟨rfl,h1,h2⟩;rw[e] at hg L;rw[y rfl] at L;exact⟨rfl,Lq.trans h2,r,aQ,h1,hg.2,E,F ⟨rfl,L⟩⟩
    .have e:Pl.mk 40 (t::r)=(aQ,t::r):=by simp[Pl.mk,hk]
     refine(AR S tb cap a r t w1 40 FN hl hk).mono ?_;rintro e' w' ⟨rfl,h1,h2⟩;rw[e] at L;rw[X E] at L;exact⟨rfl,Lq.trans h2,t::r,aP,h1,hch,aX _,j ⟨rfl,F ⟨rfl,by rw[<-L];exact⟨rfl,rfl⟩⟩⟩⟩
  clear HT;go_wp2_with fail;refine HM.o.mono ?_;rintro e w3 ⟨rfl,hf3,l1,P,nL,xy,nH,N⟩;have gh:H (oG 57 nK Pl.cZ S tb cap s a T w l.length (D Z 0 0) (!P) w3):=by
   refine⟨l1,[],P,[],nL,hf3,xy,rfl,ak _ _ _ _,λi b x hu=>(by simp at hu),E,hll,λhm'=>?_,λhm'=>?_⟩
   .rcases N with⟨rfl,_⟩|⟨rfl,h⟩
    .cases hm'
    .exact⟨rfl,h,nH⟩
   .rcases N with⟨rfl,h⟩|⟨rfl,h⟩
    .exact h
    .cases hm'
  have hb2:w3.cell? ⟨S,2,Z⟩=K (aC P):=by
   obtain⟨c,_,hb⟩:=nL.box;exact apL hb 2
  clear N HM nH xy nL hf3 FN Lq hm hch hP;cases P
  all_goals
   go_wp2_with fail
   go_loopg [4,5] l.length (λg lv mv wr=>∃more:Bool,mv=aC more/\H (oG 57 nK Pl.cZ S tb cap s a T w g lv more wr))
   case atStart=>exact⟨_,rfl,gh⟩
   case round=>
    obtain⟨more,rfl,HR⟩:=hrel;obtain⟨l2,p,P,vs,z,hf2,m,hvl,hown,pS,hacc,FG,W,hfin⟩:=HR.o;have:=hf2.size;clear HR gh hb2;cases more
    .have hF:=hfin rfl;clear hfin W;go_wp2_with fail;refine(FC hF m z hl).mono ?_;rintro e w4 ⟨rfl,ay,Q,xq⟩;go_wp2_with fail;go_ret;refine⟨_,rfl,ay,hf2.trans Q,?_,p,⟨vs,hvl,iF<|uJ hown Q z,λi b x hu hx=>uK aB ae (pS i b x hu hx) Q z⟩,λh=>(xq h).symm⟩;rcases hown.2 with⟨hv,_⟩|⟨g,cap,cur,hv,_⟩
     .exact⟨_,_,_,hv⟩
     .exact⟨_,_,_,hv⟩
    .obtain⟨rfl,hrow,hlen⟩:=W rfl;clear hfin W;have hne:l2≠[]:=λe=>by rw[e] at m;exact m
     obtain⟨g1,rfl⟩:∃g1,gk=g1+1:=⟨gk-1,by have:=fT.2 hne;omega⟩;have v:=hid hrow;have HLEN:=hid hlen;have hl2:l2.length<=402:=U;clear hrow hne hlen;go_wp2_with fail;refine(LJ S tb cap s a l2 _ m z hl hl2).mono ?_;rintro e w4 ⟨v4,rfl,ay,Q,⟨so,n4,c4,rfl⟩,x4,xz,pT⟩;have:=Q.size;have f:=uJ hown Q z;have aS:=hid pT;have xA:=hid xz;have pU:=hid<|λi b x hu hx=>uK aB ae (pS i b x hu hx) Q z;clear pT xz pS;go_wp2_with (at_builtin;refine ii rfl hinfo underlying27 (ed f) (aa _ _) ?_;intro g cap' w5 ho hgrow xj);have n:=ay.pR hgrow (λk hk=>fJ f hk) ae;have aE:=(hf2.trans Q).pR hgrow<|λk hk=>(bn f k hk).1;have xB:=FK (R:=nK) hvl (λi b x hu hx=>td aB hgrow (λk hk=>fJ f hk) ae<|pU.o i b x hu hx)<|td aB hgrow (λk hk=>fJ f hk) ae xA.o;have O:=Pl.Fy l2 m;have ho':w5.ownsRow w.heap.size 57 1 (D (K ⟨g,0,Z⟩) (p.length+1) cap') (p++[x4]).length (vs++[D so n4 c4]):=by
      simpa using ho
     have B:(vs++[D so n4 c4]).length=(p++[x4]).length:=by simp[hvl]
     have aT:=hid xB;clear hgrow ho f hown ay Q z hf2 pU xA xB;refine(AX 44 O.2 n hl).mono ?_;rintro e w6 ⟨rfl,n6,rfl⟩;have q:H (∀(i:Nat) b d,(vs++[D so n4 c4])[i]?=K b->(p++[x4])[i]?=K d->nK (w5.drewN n6) b d):=λi b d hu hy=>aB _ _ _ _ (aT.o i b d hu hy)<|λ_ _ _ _ _=>rfl;cases hb:(Pl.cZ l2).1
     .rw[hb] at n;have HN:H (oG 57 nK Pl.cZ S tb cap s a T w g1 (D (K ⟨g,0,Z⟩) (p.length+1) cap') aQ<|w5.drewN n6):=by
       refine⟨_,p++[x4],aP,_,n.drewN n6,aE.drewN n6,O.2,B,ho',q.o,aq,U,λh=>(by cases h),λ_=>F ⟨rfl,?_⟩⟩;rw[<-v.o,uC hb];exact⟨rfl,rfl⟩
      clear v aS n aE O ho' m q aT B hvl;go_wp2_with fail;go_roundg g1
      case measure=>omega
      case rel=>exact⟨_,rfl,HN⟩
     .rw[hb] at n;have hxy:=aS.o hb;cases hm:(Pl.mk 44 (Pl.cZ l2).2.1).1
      .have HN:H (oG 57 nK Pl.cZ S tb cap s a T w g1 (D (K ⟨g,0,Z⟩) (p.length+1) cap') aQ<|w5.drewN n6):=by
        refine⟨_,p++[x4],aQ,_,n.drewN n6,aE.drewN n6,O.2,B,ho',q.o,aq,U,λh=>(by cases h),λ_=>j ⟨rfl,?_⟩⟩;rw[<-v.o,uE hb hm,hxy]
       clear v aS n aE O ho' m hxy q aT B hvl;go_wp2_with fail;go_roundg g1
       case measure=>omega
       case rel=>exact⟨_,rfl,HN⟩
      .obtain⟨t3,r3,pV,hk3⟩:∃t3 r3,(Pl.cZ l2).2.1=t3::r3/\t3.k=44:=FE hm;rw[pV] at n;obtain⟨c3,hc3,o⟩:=n.box;have qX:=(n.drewN n6).next U c3 hc3 o
       have HN:H (oG 57 nK Pl.cZ S tb cap s a T w g1 (D (K ⟨g,0,Z⟩) (p.length+1) cap') aP<|(w5.drewN n6).setCell ⟨S,1,Z⟩<|I J<|(c3.length:Int)+1):=by
        have qY:=O.2;have hlt:=(λl h=>(Pl.xl l h).1) l2 hb;have:=HLEN.o;rw[pV] at qY hlt;simp only[dc] at hlt;refine⟨r3,p++[x4],aQ,_,qX,(aE.drewN n6).set 1 _,(Pl.Goes.tail qY U).2,B,bH ho'<|λk hk=>bY (λe=>lE (w:=w5) ho' o ae<|by rw[hk,e]) _,?_,aq,U,λ_=>⟨rfl,?_,U⟩,λh=>(by cases h)⟩
        .exact λi b d hu hy=>uK aB ae (q.o i b d hu hy) ((Fp.refl S _).set 1 _)<|n.drewN n6
        .rw[<-v.o,uD hb hm,hxy,pV];simp[Pl.mk,hk3]
       have:=apL (w:=w5.drewN n6) o 1;have:=bE (w:=w5.drewN n6) o 1;have:c3.length<=402:=by have h:=bd List.length hc3;simp at h;omega
       clear v aS n aE O ho' m hxy qX hc3 o pV q aT B hvl;generalize w5.drewN n6=w7 at*
       go_wp2_with fail;go_roundg g1
       case measure=>omega
       case rel=>exact⟨_,rfl,HN⟩
 .have L:=HT.o;unfold Pl.gu at L;rw[y hm] at L;subst L;clear HT;go_wp2_with fail;go_ret;exact⟨_,rfl,FN,Lq,⟨_,_,_,rfl⟩,[],⟨[],rfl,ak _ _ _ _,λi b x hu=>(by simp at hu)⟩,λ_=>rfl⟩
theorem Xl(s:ByteArray)(w:G)(b:400<s.size)(a:s.size<=maxLen):
  M 14 #[aD s] w (ai (aG #[u #[aD ⟨#[]⟩,D Z 0 0,I J 0],I J 1,I J 0]) w):=by
 unfold maxLen at a;go_enter func14,ntmps14
 go_wp2
 exact ab (v:=aG #[u #[aD ⟨#[]⟩,D Z 0 0,I J 0],I J 1,I J 0]) (by simp[results,results14,go_sem]) rfl ⟨rfl,aj _ _⟩
theorem PS.fresh{w1:G}{base:Nat}{v:Y}{A:V Pl.Tk}(r:0<A.length)(h:w1.ownsRow base 61 4 v A.length (oF A)):
  ∃c cap,v=D (K ⟨c,0,Z⟩) A.length cap/\c<w1.heap.size/\base<=c/\(∀o,o=Obj.cells #[v,I J 0,aC aQ,I J<|-1] 55 (0,0)->PS w1.heap.size c cap A A aQ (w1.alloc o)):=by
 rcases h.2 with⟨_,q⟩|⟨g,cap,d,f,m,e,n,k,l,htake⟩
 .omega
 .have a:=apJ e;refine⟨g,cap,f,a,m,λo p=>⟨U,⟨d,(ad _ _ _ a).trans e,λj u b=>?_⟩,[],rfl,?_⟩⟩
  .rw[<-htake,jb] at b;split at b
   .simpa using b
   .cases b
  .rw[aa,p,f];rfl
theorem PS.LK{A l:V Pl.Tk}{bad:Bool}{w':G}(h:PS pb tb cap A l bad w)(n:tb<pb)(e:∀k,k<=pb->w'.heap[k]?=w.heap[k]?):PS pb tb cap A l bad w':=by
 obtain⟨d,⟨b,a,m⟩,c,g,f⟩:=h;exact⟨d,⟨b,(e tb U).trans a,m⟩,c,g,(e pb<|aX _).trans f⟩
theorem FM{s:V UInt8}(a:s.length<=400)(h:¬((Pl.bO<|Pl.all s).1=aP/\Pl.hk (Pl.bO<|Pl.all s).2.1=101)):Pl.err s=(2,Pl.hpl (Pl.bO<|Pl.all s).2.1):=by
 unfold Pl.err;rw[X U,X h]
theorem LM{s:V UInt8}(b:s.length<=400)(h:(Pl.bO<|Pl.all s).1=aP/\Pl.hk (Pl.bO<|Pl.all s).2.1=101):
  (0<=fK (Pl.took s)->((Pl.err s).1=3/\((Pl.err s).2:Int)=fK (Pl.took s)))/\(fK (Pl.took s)<0->Pl.err s=(0,0)):=by
 unfold Pl.err fK;rw[X U,y h];cases(Pl.took s).find? outT with
 |some a=>exact⟨λ_=>⟨rfl,rfl⟩,λh=>by simp at h;omega⟩
 |none=>exact⟨λh=>by simp at h,λ_=>rfl⟩
theorem PS.took{s:V UInt8}{bad:Bool}(h:PS pb tb cap (Pl.all s) (Pl.bO<|Pl.all s).2.1 bad w):
  w.heap[pb]?=K (.cells #[D (K ⟨tb,0,Z⟩) (Pl.all s).length cap,I J (Pl.took s).length,aC bad,I J<|fK<|Pl.took s] 55 (0,0)):=by
 obtain⟨c,b,a⟩:=h.box;have:=Aj<|b.trans (Pl.uI s).symm;rw[<-this];exact a
theorem Xm(s:ByteArray)(w:G)(hs:s.size<=400)(hw:(Pl.wd Pl.ew<|Pl.all s.data.toList).1=aP):
  M 14 #[aD s] w λe w'=>Below w.heap.size w w'/\∃W B pn pc,e=aJ (aG #[u #[aD W,D B pn pc,I J 0],I J (Pl.err s.data.toList).1,I J (Pl.err s.data.toList).2])/\
   ((Pl.err s.data.toList).1=0->W=⟨Pl.ew.toArray⟩/\kD w' (D B pn pc) (Pl.bO<|Pl.all s.data.toList).2.2):=by
 have hsz:s.data.toList.length=s.size:=E;have hAl:(Pl.all s.data.toList).length<=402:=by have:=Pl.sU s.data.toList;omega
 have Be:0<(Pl.all s.data.toList).length:=by
  obtain⟨r,hr⟩:=xm s.data.toList;rw[hr];simp
 have S:=Pl.sP s.data.toList;have hg1:=Pl.uH (q:=Pl.ew) S;have nH:=Pl.qV hw;have hpw:Pl.bO (Pl.all s.data.toList)=((Pl.cZ (Pl.wd Pl.ew<|Pl.all s.data.toList).2).1,(Pl.cZ (Pl.wd Pl.ew<|Pl.all s.data.toList).2).2.1,[(Pl.cZ (Pl.wd Pl.ew<|Pl.all s.data.toList).2).2.2]):=by
  unfold Pl.bO;rw[y hw]
 have T:=hid hpw;have Xp:=hid hw;go_enter func14,ntmps14;go_wp2_with fail;refine(Fq s _ hs).mono ?_;rintro e w1 ⟨v,rfl,hown,X⟩;obtain⟨z,cap,rfl,Bf,agn,uO⟩:=PS.fresh Be hown;have hs1:=X.size;simp at hs1 agn;go_wp2_with fail;have FN:=(uO _ rfl).alloc<|.cells #[aD ⟨#[]⟩,D Z 0 0,I J 0] 29;refine(tg w1.heap.size z cap s.data.toList _ _ _ Pl.ew S FN hAl).mono ?_;rintro e w2 ⟨rfl,xC,hf2⟩;rw[Xp.o];go_wp2_with fail;refine(LJ w1.heap.size z cap s.data.toList _ _ _ hg1.2 xC hAl U).mono ?_;rintro e d ⟨v3,rfl,nL,hf3,⟨B,j,Q,rfl⟩,x3,hx3,pT⟩;have hf:=hf2.trans hf3;have hs3:=hf.size;simp at hs3;have f:d.heap[w1.heap.size+1]?=K (.cells #[aD ⟨#[]⟩,D Z 0 0,I J 0] 29 (0,0)):=by
  rw[hf.block (w1.heap.size+1) E U];have:=aa (w1.alloc<|.cells #[D (K ⟨z,0,Z⟩) (Pl.all s.data.toList).length cap,I J 0,aC aQ,I J<|-1] 55)<|.cells #[aD ⟨#[]⟩,D Z 0 0,I J 0] 29;simpa using this
 have hb0:d.heap[w.heap.size]?=K (.cells #[aD ⟨#[]⟩,D Z 0 0,I J 0] 29 (0,0)):=by
  rw[hf.block w.heap.size aq U,ad _ _ _ aq,ad _ _ _ U,X.block w.heap.size E];exact aa w _
 have h0:=bz f;have h1:=bw f;have h2:=bQ f;have k0:=bE f 0;have k1:=bE f 1;have k2:=bE f 2;have hlb:w1.heap.size+1<d.heap.size:=U;have Bg:=hid pT;go_wp2_with fail;have FP:PS w1.heap.size z cap (Pl.all s.data.toList) (Pl.cZ (Pl.wd Pl.ew<|Pl.all s.data.toList).2).2.1 (!(Pl.cZ (Pl.wd Pl.ew<|Pl.all s.data.toList).2).1) ((((d.setCell ⟨w1.heap.size+1,0,Z⟩<|aD ⟨#[80,79,76,89,71,79,78]⟩).setCell ⟨w1.heap.size+1,1,Z⟩<|D (K ⟨d.heap.size,0,Z⟩) 1 1).setCell ⟨w1.heap.size+1,2,Z⟩<|I J 0).alloc<|.cells #[D B j Q] 57):=
  nL.LK Bf (λk hk=>(ad _ _ _ aq).trans<|(bY U _).trans<|(bY U _).trans<|bY U _)
 have l:=(ad _ (.cells #[D B j Q] 57) w.heap.size aq).trans<|(bY (b:=w1.heap.size+1) (o:=2) U<|I J 0).trans<|(bY (b:=w1.heap.size+1) (o:=1) U<|D (K ⟨d.heap.size,0,Z⟩) 1 1).trans<|(bY (b:=w1.heap.size+1) (o:=0) U<|aD ⟨#[80,79,76,89,71,79,78]⟩).trans hb0;have Y:=(ad _ (.cells #[D B j Q] 57) (w1.heap.size+1) aq).trans<|apM (o:=2) (apM (o:=1) (apM (o:=0) f<|aD ⟨#[80,79,76,89,71,79,78]⟩)<|D (K ⟨d.heap.size,0,Z⟩) 1 1)<|I J 0;have n:Below w.heap.size w ((((d.setCell ⟨w1.heap.size+1,0,Z⟩<|aD ⟨#[80,79,76,89,71,79,78]⟩).setCell ⟨w1.heap.size+1,1,Z⟩<|D (K ⟨d.heap.size,0,Z⟩) 1 1).setCell ⟨w1.heap.size+1,2,Z⟩<|I J 0).alloc<|.cells #[D B j Q] 57):=by
  have q1:=((Below.refl _ w).alloc (aX _) _).trans<|X.mono E;have q2:=((q1.alloc U<|.cells #[D (K ⟨z,0,Z⟩) (Pl.all s.data.toList).length cap,I J 0,aC aQ,I J<|-1] 55).alloc aq<|.cells #[aD ⟨#[]⟩,D Z 0 0,I J 0] 29).trans<|hf.below w.heap.size U aq;exact(((q2.setCell (by show w.heap.size<=w1.heap.size+1;omega) _).setCell (by show w.heap.size<=w1.heap.size+1;omega) _).setCell (by show w.heap.size<=w1.heap.size+1;omega) _).alloc aq _
 have ago:H (kD ((((d.setCell ⟨w1.heap.size+1,0,Z⟩<|aD ⟨#[80,79,76,89,71,79,78]⟩).setCell ⟨w1.heap.size+1,1,Z⟩<|D (K ⟨d.heap.size,0,Z⟩) 1 1).setCell ⟨w1.heap.size+1,2,Z⟩<|I J 0).alloc<|.cells #[D B j Q] 57) (D (K ⟨d.heap.size,0,Z⟩) 1 1) [x3]):=by
  refine⟨[D B j Q],rfl,⟨rfl,F ⟨d.heap.size,1, #[D B j Q],rfl,iq _,?_,aX _,ar,rfl,rfl⟩⟩,λi a x hu hx=>?_⟩
  .have:=aa (((d.setCell ⟨w1.heap.size+1,0,Z⟩<|aD ⟨#[80,79,76,89,71,79,78]⟩).setCell ⟨w1.heap.size+1,1,Z⟩<|D (K ⟨d.heap.size,0,Z⟩) 1 1).setCell ⟨w1.heap.size+1,2,Z⟩<|I J 0)<|.cells #[D B j Q] 57;simpa using this
  .have hi0:i=0:=by
    have:=(bX.1 hu).1;simp at this;omega
   subst hi0;have e1:a=D B j Q:=by simpa using hu.symm
   have e2:x=x3:=by simpa using hx.symm
   subst e1 e2;refine FH _ _ _ _ hx3 λk cur e N he=>?_;have m:k≠w1.heap.size+1:=λek=>by
    rw[ek,f] at N;injection N with N;injection N with _ N _;rw[<-N] at he;simp at he
   exact(ad _ _ _ (by have:=apJ N;simp;omega)).trans<|(bY m _).trans<|(bY m _).trans<|bY m _
 have R:=FP;rw[show(Pl.cZ (Pl.wd Pl.ew<|Pl.all s.data.toList).2).2.1=(Pl.bO<|Pl.all s.data.toList).2.1 from by rw[T.o],show(Pl.cZ (Pl.wd Pl.ew<|Pl.all s.data.toList).2).1=(Pl.bO<|Pl.all s.data.toList).1 from by rw[T.o]] at R;have hxv:H ((Pl.bO<|Pl.all s.data.toList).1=aP->[x3]=(Pl.bO<|Pl.all s.data.toList).2.2):=λh=>by
  have h':=h;rw[T.o] at h'⊢;rw[Bg.o h']
 generalize(((d.setCell ⟨w1.heap.size+1,0,Z⟩<|aD ⟨#[80,79,76,89,71,79,78]⟩).setCell ⟨w1.heap.size+1,1,Z⟩<|D (K ⟨d.heap.size,0,Z⟩) 1 1).setCell ⟨w1.heap.size+1,2,Z⟩<|I J 0).alloc (.cells #[D B j Q] 57)=W at*;obtain⟨t,r,hlr⟩:∃t r,(Pl.bO<|Pl.all s.data.toList).2.1=t::r:=by
  have hg:=(Pl.AW _ S).2;cases hq:(Pl.bO<|Pl.all s.data.toList).2.1 with
  |nil=>rw[hq] at hg;exact hg.elim
  |cons t r=>exact⟨t,r,rfl⟩
 have L:=R.took;have hPc:=R;rw[hlr] at hPc;obtain⟨c,N,_,e0,e1,e2,e3,hcl,htl⟩:=hPc.cells;have hcc:c=Pl.took s.data.toList:=Aj<|N.trans (by rw[<-hlr];exact(Pl.uI s.data.toList).symm);subst hcc;obtain⟨c0,c1,c2,Q⟩:=ajG L;have b0:=bz l;have b1:=bw l;have b2:=bQ l;have LN:=bE l 0;have LO:=bE l 1;have LQ:=bE l 2;have x0:=bz Y;have x1:=bw Y;have x2:=bQ Y;have hib:((Pl.took s.data.toList).length:Int)<((Pl.all s.data.toList).length:Int):=U;have hin:=hcl;have LS:w.heap.size≠w1.heap.size:=U;have LT:w.heap.size≠z:=U;have P:H (¬((Pl.bO<|Pl.all s.data.toList).1=aP/\Pl.hk (Pl.bO<|Pl.all s.data.toList).2.1=101)->Pl.err s.data.toList=(2,Pl.hpl (Pl.bO<|Pl.all s.data.toList).2.1)):=FM U;have O:H ((Pl.bO<|Pl.all s.data.toList).1=aP/\Pl.hk (Pl.bO<|Pl.all s.data.toList).2.1=101->(0<=fK (Pl.took s.data.toList)->((Pl.err s.data.toList).1=3/\((Pl.err s.data.toList).2:Int)=fK (Pl.took s.data.toList)))/\(fK (Pl.took s.data.toList)<0->Pl.err s.data.toList=(0,0))):=λh=>LM U h;rw[hlr] at P O;generalize fK (Pl.took s.data.toList)=oc at*;generalize(Pl.took s.data.toList).length=tl at*;generalize(Pl.all s.data.toList).length=al at*;cases hb:(Pl.bO<|Pl.all s.data.toList).1
 .rw[hb] at c2 P;have g:=hid (P.o<|λh=>by cases h.1);go_wp2_with fail
  go_quiet (fail)
  go_wp2_with fail;go_region_held3 (λw'=>apR w' w1.heap.size (D (K ⟨z,0,Z⟩) al cap) (I J tl)/\w'.cell? ⟨z,tl*4+3,Z⟩=K (I J t.pl)) (go_keep) (fail);go_wp2_with fail;refine ab (v:=aG #[u #[aD ⟨#[]⟩,D Z 0 0,I J 0],I J 2,I J t.pl]) (by simp[results,results14,go_sem,b0,b1,b2]) rfl ⟨?_,_,_,_,_,by rw[g.o];rfl,λh=>by rw[g.o] at h;cases h⟩;exact(((mb n<|nq+1).setCell (aX _) _).setCell (aX _) _).setCell (aX _) _
 .rw[hb] at c2 P O;by_cases ht:t.k=101
  .obtain⟨pW,Fs⟩:=O.o ⟨rfl,ht⟩;have pY:=hid pW;have uP:=hid Fs;rw[ht] at e0;by_cases Bh:0<=oc
   .obtain⟨h3,h4⟩:=pY.o Bh;have H3:=hid h3;have H4:=hid h4;go_wp2_with fail
    go_quiet (fail)
    go_wp2_with fail;go_region_held3 (λw'=>w'.cell? ⟨w1.heap.size,3,Z⟩=K (I J oc)) (go_keep) (fail);go_wp2_with fail;refine ab (v:=aG #[u #[aD ⟨#[]⟩,D Z 0 0,I J 0],I J 3,I J oc]) (by simp[results,results14,go_sem,b0,b1,b2]) rfl ⟨?_,_,_,_,_,by rw[H3.o,H4.o];rfl,λh=>by rw[H3.o] at h;cases h⟩;exact(((mb n<|nq+1).setCell (aX _) _).setCell (aX _) _).setCell (aX _) _
   .have g:=hid<|uP.o U;go_wp2_with fail
    go_quiet (fail)
    go_wp2_with fail;refine ab (v:=aG #[u #[aD ⟨#[80,79,76,89,71,79,78]⟩,D (K ⟨d.heap.size,0,Z⟩) 1 1,I J 0],I J 0,I J 0]) (by simp[results,results14,go_sem,b0,b1,b2]) rfl ⟨?_,_,_,_,_,by rw[g.o];rfl,λ_=>⟨rfl,?_⟩⟩
    .exact(((mb n nq).setCell (aX _) _).setCell (aX _) _).setCell (aX _) _
    .rw[<-hxv.o hb];refine AY _ _ _ _ ago.o λk cur e p he=>?_;have m:k≠w.heap.size:=λek=>by
      rw[ek,l] at p;injection p with p;injection p with _ p _;rw[<-p] at he;simp at he
     exact(bY m _).trans<|(bY m _).trans<|bY m _
  .have g:=hid<|P.o<|λh=>ht h.2;have htk:((t.k:Int) != 101)=aP:=by rw[qL];omega
   go_wp2_with fail
   go_quiet (fail)
   go_wp2_with fail;go_region_held3 (λw'=>apR w' w1.heap.size (D (K ⟨z,0,Z⟩) al cap) (I J tl)/\w'.cell? ⟨z,tl*4+3,Z⟩=K (I J t.pl)) (go_keep) (fail);go_wp2_with fail;refine ab (v:=aG #[u #[aD ⟨#[]⟩,D Z 0 0,I J 0],I J 2,I J t.pl]) (by simp[results,results14,go_sem,b0,b1,b2]) rfl ⟨?_,_,_,_,_,by rw[g.o];rfl,λh=>by rw[g.o] at h;cases h⟩;exact(((mb n<|nq+1).setCell (aX _) _).setCell (aX _) _).setCell (aX _) _
theorem Xn(s:ByteArray)(w:G)(hs:s.size<=400)(S:(Pl.wd Pl.ew<|Pl.all s.data.toList).1=aQ)(hw:(Pl.wd Pl.fA<|Pl.all s.data.toList).1=aQ):
  M 14 #[aD s] w λe w'=>Below w.heap.size w w'/\(Pl.err s.data.toList).1≠0/\∃W so pn pc,e=aJ (aG #[u #[aD W,D so pn pc,I J 0],I J (Pl.err s.data.toList).1,I J (Pl.err s.data.toList).2]):=by
 have hsz:s.data.toList.length=s.size:=E;have A:(Pl.all s.data.toList).length<=402:=by have:=Pl.sU s.data.toList;omega
 have Y:0<(Pl.all s.data.toList).length:=by
  obtain⟨r,i⟩:=xm s.data.toList;rw[i];simp
 have m:=Pl.sP s.data.toList;have f:Pl.bO (Pl.all s.data.toList)=(aQ,Pl.all s.data.toList,[]):=by
  unfold Pl.bO;rw[X (by rw[S];simp),X (by rw[hw];simp)]
 have Bi:=hid f;have z:=hid S;have y:=hid hw;obtain⟨r,i⟩:=xm s.data.toList;generalize Pl.tk s.data.toList 0=t at i;have j:H (Pl.err s.data.toList=(2,t.pl)):=by
  show _=_;rw[FM U (by rw[f];simp),f];simp only;rw[i];rfl
 have T:=hid i;clear f hw S i;go_enter func14,ntmps14;go_wp2_with fail;refine(Fq s _ hs).mono ?_;rintro e w1 ⟨v,rfl,L,x⟩;obtain⟨n,cap,rfl,Bf,N,uO⟩:=PS.fresh Y L;have hs1:=x.size;simp at hs1 N;go_wp2_with fail;have FN:=(uO _ rfl).alloc<|.cells #[aD ⟨#[]⟩,D Z 0 0,I J 0] 29;refine(tg w1.heap.size n cap s.data.toList _ _ _ Pl.ew m FN A).mono ?_;rintro e w2' ⟨rfl,g,F⟩;rw[z.o];rw[pP z.o] at g;go_wp2_with fail;refine(tg w1.heap.size n cap s.data.toList _ _ _ Pl.fA m g A).mono ?_;rintro e O ⟨rfl,d,R⟩;have hf:=F.trans R;rw[y.o];rw[pP y.o] at d;have hs3:=hf.size;simp at hs3;have hb0:O.heap[w.heap.size]?=K (.cells #[aD ⟨#[]⟩,D Z 0 0,I J 0] 29 (0,0)):=by
  rw[hf.block w.heap.size aq U,ad _ _ _ aq,ad _ _ _ U,x.block w.heap.size E];exact aa w _
 have l:=d;rw[T.o] at l;rw[<-T.o] at l;obtain⟨c,hc,P⟩:=d.box;have Q:c=[]:=by
  have:=bd List.length hc;simp at this;exact this
 subst Q;have C:Below w.heap.size w O:=by
  have q1:=((Below.refl _ w).alloc (aX _) _).trans<|x.mono E;exact((q1.alloc U<|.cells #[D (K ⟨n,0,Z⟩) (Pl.all s.data.toList).length cap,I J 0,aC aQ,I J<|-1] 55).alloc aq<|.cells #[aD ⟨#[]⟩,D Z 0 0,I J 0] 29).trans<|hf.below w.heap.size U aq
 have ajK:=bQ P;have ajL:=bE P 2;have hPx:PS w1.heap.size n cap (Pl.all s.data.toList) (t::r) aP (O.setCell ⟨w1.heap.size,2,Z⟩<|aC aP):=by
  have q:=d.put (bad':=aP) [] (l':=t::r) (by rw[T.o];rfl) (λk hk hne=>bY hne<|aC aP) (apM (o:=2) P<|aC aP);exact q
 obtain⟨c,hc,b,e0,e1,e2,e3,hcl,htl⟩:=hPx.cells;have Q:c=[]:=by
  have:=bd List.length hc;rw[T.o] at this;simp at this;exact this
 subst Q;have a:(O.setCell ⟨w1.heap.size,2,Z⟩<|aC aP).heap[w.heap.size]?=K (.cells #[aD ⟨#[]⟩,D Z 0 0,I J 0] 29 (0,0)):=(bY U _).trans hb0;have B:=C.setCell (p:=⟨w1.heap.size,2,Z⟩) (by show w.heap.size<=w1.heap.size;omega)<|aC aP;go_wp2_with fail;generalize O.setCell ⟨w1.heap.size,2,Z⟩ (aC aP)=W at*;have c0:=bz b;have c1:=bw b;have c2:=bQ b;have b0:=bz a;have b1:=bw a;have b2:=bQ a;have LN:=bE a 0;have LO:=bE a 1;have LQ:=bE a 2;have e3':W.cell? ⟨n,3,Z⟩=K (I J t.pl):=by simpa using e3
 have LS:w.heap.size≠w1.heap.size:=U;have LT:w.heap.size≠n:=U;generalize(Pl.all s.data.toList).length=al at*
 go_quiet (fail)
 go_wp2_with fail;go_region_held3 (λw'=>apR w' w1.heap.size (D (K ⟨n,0,Z⟩) al cap) (I J 0)/\w'.cell? ⟨n,3,Z⟩=K (I J t.pl)) (go_keep) (fail);go_wp2_with fail;refine ab (v:=aG #[u #[aD ⟨#[]⟩,D Z 0 0,I J 0],I J 2,I J t.pl]) (by simp[results,results14,go_sem,b0,b1,b2]) rfl ⟨?_,by rw[j.o];simp,_,_,_,_,by rw[j.o];rfl⟩;exact(((mb B<|nq+1).setCell (aX _) _).setCell (aX _) _).setCell (aX _) _
theorem Xo(s:ByteArray)(w:G)(hs:s.size<=400)(hw0:(Pl.wd Pl.ew<|Pl.all s.data.toList).1=aQ)(hw:(Pl.wd Pl.fA<|Pl.all s.data.toList).1=aP):
  M 14 #[aD s] w λe w'=>Below w.heap.size w w'/\∃W P pn pc,e=aJ (aG #[u #[aD W,D P pn pc,I J 0],I J (Pl.err s.data.toList).1,I J (Pl.err s.data.toList).2])/\
   ((Pl.err s.data.toList).1=0->W=⟨Pl.fA.toArray⟩/\kD w' (D P pn pc) (Pl.bO<|Pl.all s.data.toList).2.2):=by
 have hsz:s.data.toList.length=s.size:=E;have L:(Pl.all s.data.toList).length<=402:=by have:=Pl.sU s.data.toList;omega
 have Be:0<(Pl.all s.data.toList).length:=by
  obtain⟨r,hr⟩:=xm s.data.toList;rw[hr];simp
 have n:=Pl.sP s.data.toList;have hg1:=Pl.uH (q:=Pl.fA) n;have nH:=Pl.qV hw;have hpw:Pl.bO (Pl.all s.data.toList)=Pl.gu (Pl.wd Pl.fA<|Pl.all s.data.toList).2:=by
  unfold Pl.bO;rw[X (by rw[hw0];simp),y hw]
 have F:=hid hpw;have HW0:=hid hw0;have Xp:=hid hw;go_enter func14,ntmps14;go_wp2_with fail;refine(Fq s _ hs).mono ?_;rintro e w1 ⟨v,rfl,hown,N⟩;obtain⟨Q,cap,rfl,Bf,agn,uO⟩:=PS.fresh Be hown;have hs1:=N.size;simp at hs1 agn;go_wp2_with fail;have FN:=(uO _ rfl).alloc<|.cells #[aD ⟨#[]⟩,D Z 0 0,I J 0] 29;refine(tg w1.heap.size Q cap s.data.toList _ _ _ Pl.ew n FN L).mono ?_;rintro e w2' ⟨rfl,S,aks⟩;rw[HW0.o];rw[pP HW0.o] at S;go_wp2_with fail;refine(tg w1.heap.size Q cap s.data.toList _ _ _ Pl.fA n S L).mono ?_;rintro e w2 ⟨rfl,xC,O⟩;have hf2:=aks.trans O;rw[Xp.o];go_wp2_with fail;refine(Xk w1.heap.size Q cap s.data.toList _ _ _ hg1.2 xC L U).mono ?_;rintro e w3 ⟨v3,rfl,nL,hf3,⟨P,j,a,rfl⟩,x3,hx3,pT⟩;have hf:=hf2.trans hf3;have hs3:=hf.size;simp at hs3;have d:w3.heap[w1.heap.size+1]?=K (.cells #[aD ⟨#[]⟩,D Z 0 0,I J 0] 29 (0,0)):=by
  rw[hf.block (w1.heap.size+1) E U];have:=aa (w1.alloc<|.cells #[D (K ⟨Q,0,Z⟩) (Pl.all s.data.toList).length cap,I J 0,aC aQ,I J<|-1] 55)<|.cells #[aD ⟨#[]⟩,D Z 0 0,I J 0] 29;simpa using this
 have hb0:w3.heap[w.heap.size]?=K (.cells #[aD ⟨#[]⟩,D Z 0 0,I J 0] 29 (0,0)):=by
  rw[hf.block w.heap.size aq U,ad _ _ _ aq,ad _ _ _ U,N.block w.heap.size E];exact aa w _
 have h0:=bz d;have h1:=bw d;have h2:=bQ d;have k0:=bE d 0;have k1:=bE d 1;have k2:=bE d 2;have hlb:w1.heap.size+1<w3.heap.size:=U;have Bg:=hid pT;go_wp2_with fail;have FP:PS w1.heap.size Q cap (Pl.all s.data.toList) (Pl.gu (Pl.wd Pl.fA<|Pl.all s.data.toList).2).2.1 (!(Pl.gu (Pl.wd Pl.fA<|Pl.all s.data.toList).2).1) (((w3.setCell ⟨w1.heap.size+1,0,Z⟩<|aD ⟨#[77,85,76,84,73,80,79,76,89,71,79,78]⟩).setCell ⟨w1.heap.size+1,1,Z⟩<|D P j a).setCell ⟨w1.heap.size+1,2,Z⟩<|I J 0):=
  nL.LK Bf (λk hk=>(bY U _).trans<|(bY U _).trans<|bY U _)
 have g:=((bY (b:=w1.heap.size+1) (o:=2) U<|I J 0).trans<|(bY (b:=w1.heap.size+1) (o:=1) U<|D P j a).trans<|(bY (b:=w1.heap.size+1) (o:=0) U<|aD ⟨#[77,85,76,84,73,80,79,76,89,71,79,78]⟩).trans hb0);have T:=(apM (o:=2) (apM (o:=1) (apM (o:=0) d<|aD ⟨#[77,85,76,84,73,80,79,76,89,71,79,78]⟩)<|D P j a)<|I J 0);have m:Below w.heap.size w (((w3.setCell ⟨w1.heap.size+1,0,Z⟩<|aD ⟨#[77,85,76,84,73,80,79,76,89,71,79,78]⟩).setCell ⟨w1.heap.size+1,1,Z⟩<|D P j a).setCell ⟨w1.heap.size+1,2,Z⟩<|I J 0):=by
  have q1:=((Below.refl _ w).alloc (aX _) _).trans<|N.mono E;have q2:=((q1.alloc U<|.cells #[D (K ⟨Q,0,Z⟩) (Pl.all s.data.toList).length cap,I J 0,aC aQ,I J<|-1] 55).alloc aq<|.cells #[aD ⟨#[]⟩,D Z 0 0,I J 0] 29).trans<|hf.below w.heap.size U aq;exact((q2.setCell (by show w.heap.size<=w1.heap.size+1;omega) _).setCell (by show w.heap.size<=w1.heap.size+1;omega) _).setCell (by show w.heap.size<=w1.heap.size+1;omega) _
 have ago:H (kD (((w3.setCell ⟨w1.heap.size+1,0,Z⟩<|aD ⟨#[77,85,76,84,73,80,79,76,89,71,79,78]⟩).setCell ⟨w1.heap.size+1,1,Z⟩<|D P j a).setCell ⟨w1.heap.size+1,2,Z⟩<|I J 0) (D P j a) x3):=by
  refine AY _ _ _ _ hx3 λk cur e i he=>?_;have l:k≠w1.heap.size+1:=λek=>by
   rw[ek,d] at i;injection i with i;injection i with _ i _;rw[<-i] at he;simp at he
  exact(bY l _).trans<|(bY l _).trans<|bY l _
 have B:=FP;rw[show(Pl.gu (Pl.wd Pl.fA<|Pl.all s.data.toList).2).2.1=(Pl.bO<|Pl.all s.data.toList).2.1 from by rw[F.o],show(Pl.gu (Pl.wd Pl.fA<|Pl.all s.data.toList).2).1=(Pl.bO<|Pl.all s.data.toList).1 from by rw[F.o]] at B;have hxv:H ((Pl.bO<|Pl.all s.data.toList).1=aP->x3=(Pl.bO<|Pl.all s.data.toList).2.2):=λh=>by
  have h':=h;rw[F.o] at h'⊢;exact Bg.o h'
 generalize((w3.setCell ⟨w1.heap.size+1,0,Z⟩<|aD ⟨#[77,85,76,84,73,80,79,76,89,71,79,78]⟩).setCell ⟨w1.heap.size+1,1,Z⟩<|D P j a).setCell ⟨w1.heap.size+1,2,Z⟩ (I J 0)=W at*;obtain⟨t,r,Y⟩:∃t r,(Pl.bO<|Pl.all s.data.toList).2.1=t::r:=by
  have hg:=(Pl.AW _ n).2;cases hq:(Pl.bO<|Pl.all s.data.toList).2.1 with
  |nil=>rw[hq] at hg;exact hg.elim
  |cons t r=>exact⟨t,r,rfl⟩
 have R:=B.took;have hPc:=B;rw[Y] at hPc;obtain⟨c,i,_,e0,e1,e2,e3,hcl,htl⟩:=hPc.cells;have hcc:c=Pl.took s.data.toList:=Aj<|i.trans (by rw[<-Y];exact(Pl.uI s.data.toList).symm);subst hcc;obtain⟨c0,c1,c2,c3⟩:=ajG R;have b0:=bz g;have b1:=bw g;have b2:=bQ g;have LN:=bE g 0;have LO:=bE g 1;have LQ:=bE g 2;have x0:=bz T;have x1:=bw T;have x2:=bQ T;have hib:((Pl.took s.data.toList).length:Int)<((Pl.all s.data.toList).length:Int):=U;have hin:=hcl;have LS:w.heap.size≠w1.heap.size:=U;have LT:w.heap.size≠Q:=U;have x:H (¬((Pl.bO<|Pl.all s.data.toList).1=aP/\Pl.hk (Pl.bO<|Pl.all s.data.toList).2.1=101)->Pl.err s.data.toList=(2,Pl.hpl (Pl.bO<|Pl.all s.data.toList).2.1)):=FM U;have z:H ((Pl.bO<|Pl.all s.data.toList).1=aP/\Pl.hk (Pl.bO<|Pl.all s.data.toList).2.1=101->(0<=fK (Pl.took s.data.toList)->((Pl.err s.data.toList).1=3/\((Pl.err s.data.toList).2:Int)=fK (Pl.took s.data.toList)))/\(fK (Pl.took s.data.toList)<0->Pl.err s.data.toList=(0,0))):=λh=>LM U h;rw[Y] at x z;generalize fK (Pl.took s.data.toList)=oc at*;generalize(Pl.took s.data.toList).length=tl at*;generalize(Pl.all s.data.toList).length=al at*;cases hb:(Pl.bO<|Pl.all s.data.toList).1
 .rw[hb] at c2 x;have f:=hid (x.o<|λh=>by cases h.1);go_wp2_with fail
  go_quiet (fail)
  go_wp2_with fail;go_region_held3 (λw'=>apR w' w1.heap.size (D (K ⟨Q,0,Z⟩) al cap) (I J tl)/\w'.cell? ⟨Q,tl*4+3,Z⟩=K (I J t.pl)) (go_keep) (fail);go_wp2_with fail;refine ab (v:=aG #[u #[aD ⟨#[]⟩,D Z 0 0,I J 0],I J 2,I J t.pl]) (by simp[results,results14,go_sem,b0,b1,b2]) rfl ⟨?_,_,_,_,_,by rw[f.o];rfl,λh=>by rw[f.o] at h;cases h⟩;exact(((mb m<|nq+1).setCell (aX _) _).setCell (aX _) _).setCell (aX _) _
 .rw[hb] at c2 x z;by_cases ht:t.k=101
  .obtain⟨pW,Fs⟩:=z.o ⟨rfl,ht⟩;have pY:=hid pW;have uP:=hid Fs;rw[ht] at e0;by_cases Bh:0<=oc
   .obtain⟨h3,h4⟩:=pY.o Bh;have H3:=hid h3;have H4:=hid h4;go_wp2_with fail
    go_quiet (fail)
    go_wp2_with fail;go_region_held3 (λw'=>w'.cell? ⟨w1.heap.size,3,Z⟩=K (I J oc)) (go_keep) (fail);go_wp2_with fail;refine ab (v:=aG #[u #[aD ⟨#[]⟩,D Z 0 0,I J 0],I J 3,I J oc]) (by simp[results,results14,go_sem,b0,b1,b2]) rfl ⟨?_,_,_,_,_,by rw[H3.o,H4.o];rfl,λh=>by rw[H3.o] at h;cases h⟩;exact(((mb m<|nq+1).setCell (aX _) _).setCell (aX _) _).setCell (aX _) _
   .have f:=hid<|uP.o U;go_wp2_with fail
    go_quiet (fail)
    go_wp2_with fail;refine ab (v:=aG #[u #[aD ⟨#[77,85,76,84,73,80,79,76,89,71,79,78]⟩,D P j a,I J 0],I J 0,I J 0]) (by simp[results,results14,go_sem,b0,b1,b2]) rfl ⟨?_,_,_,_,_,by rw[f.o];rfl,λ_=>⟨rfl,?_⟩⟩
    .exact(((mb m nq).setCell (aX _) _).setCell (aX _) _).setCell (aX _) _
    .rw[<-hxv.o hb];refine AY _ _ _ _ ago.o λk cur e p he=>?_;have l:k≠w.heap.size:=λek=>by
      rw[ek,g] at p;injection p with p;injection p with _ p _;rw[<-p] at he;simp at he
     exact(bY l _).trans<|(bY l _).trans<|bY l _
  .have f:=hid<|x.o<|λh=>ht h.2;have htk:((t.k:Int) != 101)=aP:=by rw[qL];omega
   go_wp2_with fail
   go_quiet (fail)
   go_wp2_with fail;go_region_held3 (λw'=>apR w' w1.heap.size (D (K ⟨Q,0,Z⟩) al cap) (I J tl)/\w'.cell? ⟨Q,tl*4+3,Z⟩=K (I J t.pl)) (go_keep) (fail);go_wp2_with fail;refine ab (v:=aG #[u #[aD ⟨#[]⟩,D Z 0 0,I J 0],I J 2,I J t.pl]) (by simp[results,results14,go_sem,b0,b1,b2]) rfl ⟨?_,_,_,_,_,by rw[f.o];rfl,λh=>by rw[f.o] at h;cases h⟩;exact(((mb m<|nq+1).setCell (aX _) _).setCell (aX _) _).setCell (aX _) _
theorem FT(s:ByteArray)(w:G)(v:s.size<=maxLen):
  M 14 #[aD s] w λe w'=>ag w w'/\∃W c b pc,e=aJ (aG #[u #[aD W,D c b pc,I J 0],I J (Pl.err s.data.toList).1,I J (Pl.err s.data.toList).2])/\
   ((Pl.err s.data.toList).1=0->((∃g,(Pl.bO<|Pl.all s.data.toList).2.2=[g]/\W=⟨Pl.ew.toArray⟩/\kD w' (D c b pc) [g]/\uM g/\Pl.xx s.data.toList=Pl.ew++([32]++Pl.jR g))\/
    (W=⟨Pl.fA.toArray⟩/\kD w' (D c b pc) (Pl.bO (Pl.all s.data.toList)).2.2/\mg (Pl.bO (Pl.all s.data.toList)).2.2/\Pl.xx s.data.toList=Pl.xt (Pl.bO (Pl.all s.data.toList)).2.2))):=by
 have:s.data.toList.length=s.size:=E;have k:(Pl.err s.data.toList).1=0->Pl.xx s.data.toList=Pl.wt (Pl.took s.data.toList):=λh=>y h;by_cases x:400<s.size
 .have r:Pl.err s.data.toList=(1,0):=by unfold Pl.err;rw[y U]
  refine(Xl s w x v).mono ?_;rintro e w' ⟨rfl,d⟩;exact⟨d,_,_,_,_,by rw[r];rfl,λh=>by rw[r] at h;cases h⟩
 .have f:s.size<=400:=U;cases a:(Pl.wd Pl.ew<|Pl.all s.data.toList).1
  .cases t:(Pl.wd Pl.fA<|Pl.all s.data.toList).1
   .refine(Xn s w f a t).mono ?_;rintro e w' ⟨d,p,W,c,b,pc,rfl⟩;exact⟨d,W,c,b,pc,rfl,λh=>absurd h p⟩
   .refine(Xo s w f a t).mono ?_;rintro e w' ⟨d,W,c,b,pc,rfl,l⟩;refine⟨d,W,c,b,pc,rfl,λh=>F ?_⟩;obtain⟨_,m,n⟩:=Pl.LH h a;exact⟨(l h).1,(l h).2,m,(k h).trans n⟩
  .refine(Xm s w f a).mono ?_;rintro e w' ⟨d,W,c,b,pc,rfl,l⟩;refine⟨d,W,c,b,pc,rfl,λh=>j ?_⟩;obtain⟨g,q,m,n⟩:=Pl.LG h a;exact⟨g,q,(l h).1,q▸(l h).2,m,(k h).trans n⟩
theorem Xq(n:Int)(w:G)(a: -9223372036854775808<=n)(b:n<=9223372036854775807):
  M 19 #[I J n] w λe w'=>e=aJ (I J n)/\w'=w:=by
 have:J.wrap n=n:=by rw[ah];omega
 go_enter func19,ntmps19;go_wp2_with fail;go_ret;exact⟨rfl,rfl⟩
theorem Xr(s:V UInt8):(Pl.err s).1<=3:=by
 unfold Pl.err;split
 .decide
 .split
  .split
   .exact aX 3
   .exact iq 3
  .show 2<=3;decide
def jf(w:G)(sh:Array Y)(b:Y)(a:V Ed)(wr:G):Prop:=
 wr.ownsRow w.heap.size 151 4 b a.length (lH a)/\ag w wr/\w.heap.size<wr.heap.size/\wr.heap[w.heap.size]?=K (.cells sh 29 (0,0))
theorem XF(l:V Ed)(e:Ed):lH (l++[e])=lH l++(jq e).toList:=by simp[lH]
theorem jf.alloc{sh:Array Y}{acc:V Ed}(h:jf w sh lv acc wr)(o:Obj):jf w sh lv acc (wr.alloc o):=by
 obtain⟨a,b,c,d⟩:=h;refine⟨bH a λk e=>ad _ _ _ (bn a k e).2,b.alloc b.size _,aq,?_⟩;rw[ad _ _ _ c];exact d
theorem jf.drew{sh:Array Y}{acc:V Ed}(h:jf w sh lv acc wr):jf w sh lv acc wr.drew:=
 ⟨bH h.1 λ_ _=>rfl,h.2.1.drew,h.2.2.1,h.2.2.2⟩
theorem jf.grown{W5 w6:G}{sh:Array Y}{nP:Y}{acc acc':V Ed}{o:Obj}(h:jf w sh lv acc W5)(b:(W5.alloc o).drew.grownBy w6 lv.ownBlock)
  (m:w6.ownsRow w.heap.size 151 4 nP acc'.length (lH acc')):jf w sh nP acc' w6:=by
 obtain⟨d,a,l,f⟩:=h;have:=b.size;have:W5.heap.size+1<=w6.heap.size:=by
  have:(W5.alloc o).drew.heap.size=W5.heap.size+1:=by show(W5.alloc o).heap.size=_;simp
  omega
 have c:=lE d f ae;refine⟨m,⟨b.os.trans a.os,b.tape.trans a.tape,b.output.trans a.output,?_,λk g=>?_⟩,U,?_⟩
 .have:=a.size;omega
 .have:=a.size;exact(lD b k U<|jo d k g).trans<|a.block k g
 .exact(lD b _ l c).trans f
theorem gw(w:G)(o:Obj){b:Nat}(h:b<w.heap.size):(w.alloc o).cell? ⟨b,k,Z⟩=w.cell? ⟨b,k,Z⟩:=by
 simp only[World.cell?];rw[ad _ _ _ h]
theorem XG:(Tryz.prog.info? 151).map (λi=>(i.zero,i.size,i.bytes))=K (K<|u #[I J 0,I J 0,I J 0,I J 0],4,32):=z
theorem F6{so:Option Addr}{n:Nat}{g:V (Int×Int)}(h:me w (D so n cap) g){p:Int×Int}(m:g[k]?=K p):
  ∃b,so=K ⟨b,0,Z⟩/\b<w.heap.size/\w.cell? ⟨b,k*2,Z⟩=K (I J p.1)/\w.cell? ⟨b,k*2+1,Z⟩=K (I J p.2):=by
 obtain⟨d,f⟩:=Lv g k p m;obtain⟨b,c,a,l,e⟩:=rf h d;injection a with a;exact⟨b,a,l,e _ _ d,e _ _ f⟩
theorem XH(ps:V (V<|V (Int×Int)))(W:ByteArray)(pv:Y)(w:G)(hR:kD w pv ps)(hok:mg ps):
    M 79 #[u #[aD W,pv,I J 0]] w λe w'=>∃v,e=aJ v/\je w' v (N.o ps.flatten)/\Below w.heap.size w w':=by
  obtain⟨so,cap,rfl⟩:=oH hR;obtain⟨i0,hi,hz0,hz1,hz2⟩:=aH XG;have HR:H (kD w (D so ps.length cap) ps):=hR;have R:H (mg ps):=hok;have hl:ps.length<=402:=hok.1;clear hR hok;have gh:H (jf w #[aD W,D so ps.length cap,I J 0] (D Z 0 0) [] (w.alloc<|.cells #[aD W,D so ps.length cap,I J 0] 29)):=
    ⟨ak _ _ _ _,(Below.refl _ _).alloc (aX _) _,E,aa _ _⟩
  have HLEN:H (∀i,(N.o (ps.take i).flatten).length<=65000000):=λi=>by
    have h:=N.ti 402 402 (ps.take i)<|λp hp=>⟨(R.o.2 p<|kP hp).1,λg hg=>((R.o.2 p<|kP hp).2 g hg).2⟩;have h2:(ps.take i).length<=402:=aq;omega
  go_enter func79,ntmps79;go_wp2_with fail
  go_loopg [3,4] ps.length (λm lv iv wr=>∃i:Nat,i+m=ps.length/\iv=I J i/\H (jf w #[aD W,D so ps.length cap,I J 0] lv (N.o (ps.take i).flatten) wr))
  case atStart=>exact⟨0,U,rfl,gh⟩
  case round=>
    obtain⟨i,him,rfl,HE⟩:=hrel;obtain⟨hown,F7,hwz,F8⟩:=HE.o;have c1:=bw F8;clear gh;by_cases hlt:i<ps.length
    · obtain⟨p,hp⟩:∃p,ps[i]?=K p:=⟨_,be hlt⟩;obtain⟨b,c,rfl,hb,e0,u9⟩:=lF HR.o hp;obtain⟨us,uc,rfl⟩:=oH u9;have S:H (uM p):=R.o.2 p<|bB hp;have xJ:H (nK w (D us p.length uc) p):=u9;have XI:H (w.cell? ⟨b,i,Z⟩=K (D us p.length uc)):=e0;have hpl:p.length<=402:=S.o.1;have HT:H (N.o (ps.take<|i+1).flatten=N.o (ps.take i).flatten++N.o p):=N.Xv hp;have XJ:=HLEN.o i;have F9:H (∀k,(N.o<|p.take k).length<=162000):=λk=>by
        have h:=N.Br 402 (p.take k)<|λg hg=>(S.o.2 g<|kP hg).2;have h2:(p.take k).length<=402:=aq;omega
      generalize N.o (ps.take i).flatten=A1 at*;have iH:(i:Int)<(ps.length:Int):=U;obtain⟨m1,jG⟩:=am gk;clear hp e0 u9 R HR hown F8;go_wp2_with fail
      go_loopg [3,5] p.length (λm lv kv wr=>∃k:Nat,k+m=p.length/\kv=I J k/\H (jf w #[aD W,D (K ⟨b,0,Z⟩) ps.length cap,I J 0] lv (A1++N.o (p.take k)) wr))
      case atStart=>exact⟨0,U,rfl,by simpa[N.o] using HE⟩
      case round=>
        obtain⟨k,tq,rfl,x⟩:=hrel;obtain⟨hown2,O,ajU,T⟩:=x.o;have d1:=bw T;have d2:=aR O XI.o hb;clear HE;by_cases XK:k<p.length
        · obtain⟨g,hg⟩:∃g,p[k]?=K g:=⟨_,be XK⟩;obtain⟨b2,u2,rfl,hb2,e2,agp⟩:=lF xJ.o hg;obtain⟨gs,gc,rfl⟩:=Xc agp;have hgl:g.length<=402:=(S.o.2 g<|bB hg).2;have s:H (me w (D gs g.length gc) g):=agp;have d3:=aR O e2 hb2;have Mg:H (N.o (p.take<|k+1)=N.o (p.take k)++N.gF g):=N.L3 hg;have hl2:=F9.o k;have ajV:(k:Int)<(p.length:Int):=U
          obtain⟨m2,hm2⟩:=am gk;generalize N.o (p.take k)=A2 at*;clear hg e2 agp hown2 T;go_wp2_with fail
          go_loopg [3,7] g.length (λm lv nv wr=>∃n:Nat,n+m=g.length/\nv=I J n/\H (jf w #[aD W,D (K ⟨b,0,Z⟩) ps.length cap,I J 0] lv (A1++A2++N.gZ g n) wr))
          case atStart=>exact⟨0,U,rfl,by simpa[N.L0] using x⟩
          case round=>
            obtain⟨n,vb,rfl,B⟩:=hrel;obtain⟨ahD,d,XL,ahE⟩:=B.o;clear x d1 d2 d3;by_cases By:n<g.length
            · obtain⟨P,hP⟩:∃P,g[n]?=K P:=⟨_,be By⟩;obtain⟨a,hF⟩:∃a,g[0]?=K a:=⟨_,be (show 0<g.length by omega)⟩
              obtain⟨r,rfl,q,p0,p1⟩:=F6 s.o hP;obtain⟨b4,l,_,f0,f1⟩:=F6 s.o hF;injection l with l;injection l with l;subst l;rw[py] at f0 f1;rw[ir] at f1;obtain⟨r0,r1,r2,r3⟩:=ajE d q p0 p1 f0 f1;have alj:r<wr.heap.size:=bg q d.size;have Mh:(n:Int)<(g.length:Int):=U;have h0g:(0:Int)<(g.length:Int):=U;have HP:H (g[n]?=K P):=hP;have HF:H (g[0]?=K a):=hF;clear p0 p1 f0 f1 hP hF;have hcs:∃Q,H (N.oJ g n=K Q)/\(((n:Int)+1<(g.length:Int)/\wr.cell? ⟨r,(n+1)*2,Z⟩=K (I J Q.1)/\wr.cell? ⟨r,(n+1)*2+1,Z⟩=K (I J Q.2))\/(¬((n:Int)+1<(g.length:Int))/\Q=a)):=by
                by_cases kT:n+1<g.length
                · obtain⟨Q,hQ⟩:∃Q,g[n+1]?=K Q:=⟨_,be kT⟩;obtain⟨b4,l,_,f0,f1⟩:=F6 s.o hQ;injection l with l;injection l with l;subst l;exact⟨Q,by unfold N.oJ H;rw[y kT];exact hQ,j ⟨U,aR d f0 q,aR d f1 q⟩⟩
                · exact⟨a,by unfold N.oJ H;rw[X kT];exact HF.o,F ⟨U,rfl⟩⟩
              obtain⟨Q,HQ,⟨XM,r4,r5⟩|⟨XM,XO⟩⟩:=hcs
              all_goals
                first
                  | subst XO
                  | skip
                go_wp2_with fail;have L:jf w #[aD W,D (K ⟨b,0,Z⟩) ps.length cap,I J 0] u3 (A1++A2++N.gZ g n) (wr.alloc<|.cells #[I J Q.1,I J Q.2] 65):=B.o.alloc _;have s0:(wr.alloc<|.cells #[I J Q.1,I J Q.2] 65).cell? ⟨r,n*2,Z⟩=K (I J P.1):=by rw[<-r0];exact gw _ _ alj
                have s1:(wr.alloc<|.cells #[I J Q.1,I J Q.2] 65).cell? ⟨r,n*2+1,Z⟩=K (I J P.2):=by rw[<-r1];exact gw _ _ alj
                have s2:(wr.alloc<|.cells #[I J Q.1,I J Q.2] 65).cell? ⟨wr.heap.size,0,Z⟩=K (I J Q.1):=Bm (aa _ _) 0;have s3:(wr.alloc<|.cells #[I J Q.1,I J Q.2] 65).cell? ⟨wr.heap.size,1,Z⟩=K (I J Q.2):=Bm (aa _ _) 1;have Gc:=aa wr<|.cells #[I J Q.1,I J Q.2] 65;have Mi:wr.heap.size<(wr.alloc<|.cells #[I J Q.1,I J Q.2] 65).heap.size:=E;generalize wr.alloc (.cells #[I J Q.1,I J Q.2] 65)=W4 at*;have ahF:r<W4.heap.size:=U;clear r0 r1 r2 r3 B ahD ahE d XL
                try clear r4 r5
                generalize wr.heap.size=BQ at*;obtain⟨z,P2⟩:=P;obtain⟨Q1,Q2⟩:=Q;simp only at s0 s1 s2 s3;by_cases Dj:(z,P2)=(Q1,Q2)
                · injection Dj with XP XQ;subst XP XQ;have HN:H (jf w #[aD W,D (K ⟨b,0,Z⟩) ps.length cap,I J 0] u3 (A1++A2++N.gZ g (n+1)) W4.drew):=by
                    rw[N.L1 HP.o HQ.o rfl];exact L.drew
                  clear L HF s;go_region_held3 (λw'=>apT w' r (n*2) (I J z) (I J P2)/\apR w' BQ (I J z) (I J P2)) (go_keep) (fail);go_wp2_with fail;go_roundg (gk-1)
                  case measure=>omega
                  case rel=>exact⟨n+1,U,af,HN⟩
                · have Gd:H (N.gZ g (n+1)=N.gZ g n++[((z,P2),(Q1,Q2))]):=N.L2 HP.o HQ.o Dj;have hal:(A1++A2++N.gZ g n).length<=66000000:=by
                    have:=N.Bq g n;simp only[bG];omega
                  have Mj:H (∃A3,A3=A1++A2++N.gZ g n):=⟨_,rfl⟩;obtain⟨A3,qd⟩:=Mj.o;rw[<-qd] at L hal;have HA:H (A3=A1++A2++N.gZ g n):=qd;clear qd Mj;rcases(show(z == Q1)=aQ\/((z == Q1)=aP/\(P2 == Q2)=aQ) by
                    by_cases h1:z=Q1
                    · by_cases h2:P2=Q2
                      · exact absurd (by rw[h1,h2]) Dj
                      · exact F ⟨J6.2 h1,ou.2 h2⟩
                    · exact j (ou.2 h1)) with hq1|⟨hq1,hq2⟩
                  all_goals
                    clear Dj HP HQ HF s;go_region_held3 (λw'=>apT w' r (n*2) (I J z) (I J P2)/\apR w' BQ (I J Q1) (I J Q2)) (go_keep) (fail);go_wp2_with fail;have yx:jf w #[aD W,D (K ⟨b,0,Z⟩) ps.length cap,I J 0] u3 A3 W4.drew:=L.drew;clear L s0 s1 s2 s3;have Gc:W4.drew.heap[BQ]?=K (.cells #[I J Q1,I J Q2] 65 (0,0)):=Gc;have Mi:BQ<W4.drew.heap.size:=Mi;have ahF:r<W4.drew.heap.size:=ahF;generalize W4.drew=W5 at*;obtain⟨aU,jS,xK,Mk⟩:=yx;have Ml:u3.ownBlock≠K r:=jo aU r q;have Mm:u3.ownBlock≠K BQ:=lE aU Gc ae;have yx:jf w #[aD W,D (K ⟨b,0,Z⟩) ps.length cap,I J 0] u3 A3 W5:=⟨aU,jS,xK,Mk⟩;go_region_held3 (λw'=>w'.cell? ⟨r,n*2,Z⟩=K (I J z)/\w'.cell? ⟨r,n*2+1,Z⟩=K (I J P2)/\w'.cell? ⟨BQ,0,Z⟩=K (I J Q1)/\w'.cell? ⟨BQ,1,Z⟩=K (I J Q2))
                      (first
                        | go_keep
                        | (go_split_ands
                           refine⟨?_,?_,?_,?_⟩
                           · (rw[f.cell_far _ aq<|lu Ml];assumption)
                           · (rw[f.cell_far _ aq<|lu Ml];assumption)
                           · (rw[f.cell_far _ aq<|lu Mm];assumption)
                           · (rw[f.cell_far _ aq (lu Mm)];assumption)))
                      ((refine aba _ (by rfl) _ _ _ (by rfl) w.heap.size 151 i0 _ 4 32 underlying148 hi hz0 hz1 hz2 rfl ae u3 A3.length (lH A3) (by rfl) (ed aU) ⟨W5.heap.size,0,Z⟩ 1 1 [I J z,I J P2,I J Q1,I J Q2] (by rfl) (by rfl) (aai (cs:= #[I J z,I J P2,I J Q1,I J Q2]) (t:=151) (fr:=(0,0))<|aa W5 _) au ae ar U aq (W5.heap.size+1) E ?_;intro g' cap' w6 mj f ajY Mn))
                    have HN:H (jf w #[aD W,D (K ⟨b,0,Z⟩) ps.length cap,I J 0] (D (K ⟨g',0,Z⟩) (A3.length+1) cap') (A1++A2++N.gZ g (n+1)) w6):=by
                      rw[Gd.o,<-ep,<-HA.o];exact yx.grown f (by rw[XF,bG];exact mj)
                    clear mj f yx aU jS Mk xK;go_wp2_with fail;go_roundg (gk-1)
                    case measure=>omega
                    case rel=>exact⟨n+1,U,af,HN⟩
            · have hn:n=g.length:=U
              subst hn;have HN:H (jf w #[aD W,D (K ⟨b,0,Z⟩) ps.length cap,I J 0] u3 (A1++N.o (p.take<|k+1)) wr):=by
                rw[Mg.o,<-ep,<-N.Bp];exact B.o
              clear B ahD d ahE s Mg F9;go_wp2_with fail;go_roundg (m2-1)
              case measure=>omega
              case rel=>exact⟨k+1,U,af,HN⟩
        · have hk:k=p.length:=U
          subst hk;have HN:H (jf w #[aD W,D (K ⟨b,0,Z⟩) ps.length cap,I J 0] u3 (N.o (ps.take<|i+1).flatten) wr):=by
            rw[HT.o];have:=x.o;rw[dV] at this;exact this
          clear x hown2 T xJ HT F9;go_wp2_with fail;go_roundg (m1-1)
          case measure=>omega
          case rel=>exact⟨i+1,U,af,HN⟩
    · have hk:i=ps.length:=U
      subst hk;have HF:H (jf w #[aD W,D so ps.length cap,I J 0] u3 (N.o ps.flatten) wr):=by
        rw[dV] at HE;exact HE
      clear HE HR R HLEN hown F7 F8;go_wp2_with fail;go_ret;exact⟨_,rfl,iF HF.o.1,HF.o.2.1⟩
end
end Go.Proofs.YtkjhhooecopolaaGreatDoor

import Derived.Test.YtkjhhooecopolaaGreatDoorRz16
import Derived.Test.YtkjhhooecopolaaGreatDoorRows
import Derived.Test.YtkjhhooecopolaaGreatDoorCards
import Derived.Test.YtkjhhooecopolaaGreatDoorTie
set_option maxRecDepth 100000
set_option maxHeartbeats 4000000
namespace Go.Proofs.YtkjhhooecopolaaGreatDoor
open Go.Proofs.Tryz
open Value renaming int->az,complex->aA,float->aB,agg->aC,bool->aD,string->aF,slice->aG,pointer->aH,tuple->aI
open IntKind renaming i64->aJ
open FloatKind renaming f64->aK
open Ending renaming returned->aL
open Go renaming World->aM,Value->aN,floatOfInt->aO
section
open Go.RowKit
theorem arS{F:List Gb.NP}(hF:Vp F)(hne:F≠[])(hl:(Gb.qm F).length<=20000000000):(∀p∈F.map oq,p≠[]/\p.length<=20000000402/\∀g∈p,g.length<=20000000402/\∀q∈g,gb q)/\(F.map oq).length<=20000000402:=by
 have e1:=Vn hne;have hJ:(Pl.bI Pl.pX (F.map pq)).length<=20000000000:=by
  rw[e1] at hl;simp at hl;omega
 constructor
 .intro p' hp';obtain⟨p,hp,rfl⟩:=bQ.1 hp';have h1:=Jy (f:=Pl.pX) (bQ.2 ⟨p,hp,rfl⟩:pq p∈F.map pq);have h2:(Pl.pX (pq p)).length=(Pl.bI Pl.rX (pq p)).length+2:=by simp[Pl.pX]
  have h3:=CM (f:=Pl.rX) (λx=>by simp[Pl.rX]) (pq p)
  have h4:(oq p).length=(pq p).length:=by simp[oq,pq]
  refine⟨by simp[oq],aa,λg hg=>?_⟩
  obtain⟨c,hc,rfl⟩:=bQ.1 hg;have h5:(Pl.rX (cq c)).length<=(Pl.bI Pl.rX (pq p)).length:=Jy (bQ.2 ⟨c,hc,rfl⟩);have h6:(Pl.rX (cq c)).length=(Pl.bI Pl.dH (cq c)).length+2:=by simp[Pl.rX]
  have h7:=CM (f:=Pl.dH) (λx=>by simp[Pl.dH];omega) (cq c)
  have h8:c.length<=(cq c).length:=by unfold cq;simp
  refine⟨by rw[ia];omega,λq hq=>?_⟩
  obtain⟨n,hn,rfl⟩:=bQ.1 hq;exact afH ((hF.q p hp c hc).2 n hn)
 .have:=CM (f:=Pl.pX) (λx=>by simp[Pl.pX]) (F.map pq)
  rw[ia] at this⊢;omega
theorem arT{rg:List (List Ge.Pt)}{r:Int}{T:List UInt8}(hs:∀e∈Ge.aR rg,gz e)(h:Cv rg r T):∃F,T=Gb.qm F/\Vp F/\∀n:Ge.Nd,0<n.2.2->par (Ge.aX n) ((F.map oq).flatMap λp=>p.flatMap eN)=Ge.takes r (Gb.UU (Ge.aR rg) n):=by
 obtain⟨Ps,l,h1,h2,h3,h4,hT⟩:=h;have hX:=ML (r:=r) h1 h2 h3;have hB:=Nr (r:=r) h1 hs h3 h4;generalize od r (Ge.aR rg) Ps=Xs at*;have h0:Ge.takes r 0=false:=by
  unfold Ge.takes
  repeat' split
  all_goals simp
 refine⟨Gb.fin Xs,by rw[hT];exact Gb.NA Xs,⟨λp hp c hc=>?_⟩,λn hn=>Gb.SX.par hX hB h0 hn⟩
 have cn:=Gb.SX.canon hX hB;have hW:=Gb.SX.wd hX hB;have okn:∀n∈l,Pl.CL (Ge.aX n):=λn hn=>arw (h2 n hn) (aar hs (h2 n hn) (((Ge.D5 _).2.2 _).1 (by rw[<-h1];exact bQ.2 ⟨n,hn,rfl⟩)))
 have l3:∀{c:List Ge.Nd}{R:List Gb.Sg},Gb.LR (Gb.sS (Gb.aP l) Xs) (Gb.jZ (Gb.aP l) Xs) R->c.map (Gb.PM (Gb.aP l))=Gb.dE R->3<=c.length:=λ{c R} k e=>by
  have:=k.ars hW;rw[<-e,ia] at this;exact this
 obtain⟨R,r1,_,r3,r4⟩:=cn.c1 p hp;rcases bU.1 hc with q|q
 .subst q;exact⟨l3 r1 r3,λn hn=>okn n ((cn.nd p hp).1 n hn)⟩
 .obtain⟨H,k1,_,k3,_⟩:=r4 c q;exact⟨l3 k1 k3,λn hn=>okn n ((cn.nd p hp).2 c q n hn)⟩
theorem arU(s:List UInt8)(x y d:Int):(Pl.iG s x y d).2.2.1<=5:=by
 have h:=Vc s;unfold Pl.iG;split
 .split
  .exact aY 5
  .split
   .exact iA 5
   .exact iA 5
 .show(Pl.err s).1<=5;omega
structure RgK(x y d r v1:Int)(o:Bool)(E1:Nat)(TT:ByteArray)(E:Nat):Prop where
 le:E<=4
 ok:E1=0->Ge.rule r=true->E=0/\∃ps,(∀w1,Gl w1->ak 24 #[aF TT] w1 λe w'=>∃v,e=aL (aI #[v,aD true])/\nH w' v ps/\aj w1 w')/\(o=false->∀v w1,nH w1 v ps->ak 25 #[v,az aJ x,az aJ y,az aJ d] w1 λe w'=>e=aL (aD (Ge.takes r v1))/\aj w1 w')
theorem rg_of{s:List UInt8}{r:Int}{T:List UInt8}{E P:Nat}(x y d:Int)(h:Ab s r T E P):RgK x y d r (Pl.iG s x y d).1 (Pl.iG s x y d).2.1 (Pl.iG s x y d).2.2.1 (ba T) E:=by
 refine⟨h.small,λh1 hr=>?_⟩
 have he:(Pl.err s).1=0:=by
  apply mj;intro q;unfold Pl.iG at h1;rw[aQ q] at h1;exact q h1
 have Gy:Pl.xa x y d=false:=by
  cases q:Pl.xa x y d
  .rfl
  .unfold Pl.iG at h1;rw[aV he,aV q] at h1;cases h1
 rcases h with⟨a1,_⟩|⟨_,a2,_⟩|⟨a1,_,a3,a4,_⟩
 .exact absurd he a1
 .rw[hr] at a2;cases a2
 .refine⟨a4,?_⟩;have hs:=(Q5 a1).2.2.1;have hl:=Gb.arq hs a3;obtain⟨F,rfl,hok,hio⟩:=arT hs a3;have hd:(1<=d/\d<=60)/\(-100000<=x/\x<=100000)/\ -100000<=y/\y<=100000:=by
   unfold Pl.xa at Gy;simp only[Bool.or_eq_false_iff,JS] at Gy;omega
  have hP:gb (Ge.aX (x,y,d)):=by
   have i1:=YI (n:=x) (d:=d) aa aa aa
   have i2:=YI (n:=y) (d:=d) aa aa aa
   exact⟨i1.1,i1.2,i2.1,i2.2⟩
  have hv:(Pl.iG s x y d).2.1=false->(Pl.iG s x y d).1=Gb.UU (Ge.aR (Pl.rings s)) (x,y,d):=λho=>by
   unfold Pl.iG at ho⊢;rw[aV he,aQ (by rw[Gy];simp)] at ho⊢
   split at ho
   .cases ho
   .rename_i q
    rw[aQ q];rfl
  have ins:∀ps,(∀p∈ps,p.length<=20000000402/\∀g∈p,g.length<=20000000402/\∀q∈g,gb q)->ps.length<=20000000402->(par (Ge.aX (x,y,d)) (ps.flatMap λp=>p.flatMap eN)=Ge.takes r (Gb.UU (Ge.aR (Pl.rings s)) (x,y,d)))->(Pl.iG s x y d).2.1=false->∀v w1,nH w1 v ps->ak 25 #[v,az aJ x,az aJ y,az aJ d] w1 λe w'=>e=aL (aD (Ge.takes r (Pl.iG s x y d).1))/\aj w1 w':=λps k1 k2 k3 ho v w1 hR=>by
   rw[hv ho,<-k3];exact arH ps x y d v w1 hR k1 k2 (Ge.aX (x,y,d)) hP (λw2=>QD x d w2 aa aa aa) (λw2=>QD y d w2 aa aa aa)
  by_cases hF:F=[]
  .subst hF;exact⟨[],λw1 _=>arQ w1,ins [] (λp hp=>by simp at hp) af (hio (x,y,d) (by show 0<d;omega))⟩
  .obtain⟨k1,k2⟩:=arS hok hF hl;exact⟨F.map oq,λw1 g=>arx hok hF hl w1 g,ins _ (λp hp=>(k1 p hp).2) k2 (hio (x,y,d) (by show 0<d;omega))⟩
theorem arV(so:Option Addr)(n cap:Nat)(w:aM)(hG:Gl w)(hS:Vg w so n)(_hn:n<=maxLen):
  ak 9 #[aG so n cap] w λe w'=>e=aL (aD true)/\Below w.heap.size w w':=by
 have HS:Hid (Vg w so n):=hS;clear hS
 go_enter func9,ntmps9
 go_wp2_with fail
 go_loopg [3] n (λg iv wr=>∃k:Nat,k+g=n/\iv=az aJ k/\Hid (Below w.heap.size w wr/\Gl wr))
 case atStart=>exact⟨0,aa,rfl,Below.refl _ _,hG⟩
 case round=>
  obtain⟨k,hkn,rfl,HB⟩:=hrel;obtain⟨aW,uU⟩:=HB.out;by_cases hlt:k<n/\k<1152921504606846976
  .obtain⟨hlt,hmx⟩:=hlt;obtain⟨b,o,K,x,y,d,r,s,rfl,hb,hs,c0,c1,c2,c3,c4,c5⟩:=HS.out k hlt;have gH:(k:Int)<(n:Int):=aa
   have Hw:(k:Int)<1152921504606846976:=aa
   have e0:wr.cell? ⟨b,o+k*6,none⟩=some (az aJ K):=aS aW c0 hb;have e1:wr.cell? ⟨b,o+k*6+1,none⟩=some (az aJ x):=aS aW c1 hb;have e2:wr.cell? ⟨b,o+k*6+2,none⟩=some (az aJ y):=aS aW c2 hb;have e3:wr.cell? ⟨b,o+k*6+3,none⟩=some (az aJ d):=aS aW c3 hb;have e4:wr.cell? ⟨b,o+k*6+4,none⟩=some (az .u8 r):=aS aW c4 hb;have e5:wr.cell? ⟨b,o+k*6+5,none⟩=some (aF s):=aS aW c5 hb;have hbr:b<wr.heap.size:=by have:=aW.size;omega
   have HO:Hid (Old w wr []):=⟨aW,uU,λp hp=>by simp at hp⟩
   have HWI:Hid (∀w1,Gl w1->ak 17 #[aF s,az aJ x,az aJ y,az aJ d] w1 λe w'=>e=aL (aI #[az aJ (Pl.iG s.data.toList x y d).1,aD (Pl.iG s.data.toList x y d).2.1,az aJ (Pl.iG s.data.toList x y d).2.2.1,az aJ (Pl.iG s.data.toList x y d).2.2.2])/\Below w1.heap.size w1 w'):=λw1 g1=>akj s x y d w1 hs g1
   have HFX:Hid (∀w1,Gl w1->ak 18 #[aF s,az .u8 r] w1 λe w'=>(∃T E P,e=aL (aC #[aF T,az aJ ((E:Nat):Int),az aJ ((P:Nat):Int)])/\Hid (RgK x y d r (Pl.iG s.data.toList x y d).1 (Pl.iG s.data.toList x y d).2.1 (Pl.iG s.data.toList x y d).2.2.1 T E))/\Below w1.heap.size w1 w'):=λw1 g=>(ae6 s r w1 hs g).mono λe w' hh=>by
    obtain⟨⟨T,E,P,e1,hF⟩,hb⟩:=hh;exact⟨⟨ba T,E,P,e1,rg_of x y d hF⟩,hb⟩
   have hv3:=arU s.data.toList x y d;generalize(Pl.iG s.data.toList x y d).1=v1 at*;generalize(Pl.iG s.data.toList x y d).2.1=v2 at*;generalize(Pl.iG s.data.toList x y d).2.2.1=v3 at*;generalize(Pl.iG s.data.toList x y d).2.2.2=v4 at*;have HNU:Hid (∀w1,ak 19 #[az aJ (v3:Int)] w1 λe w'=>e=aL (az aJ (v3:Int))/\w'=w1):=λw1=>Vb v3 w1 aa aa
   have cK:Hid (∀w1,ak 23 #[az .u8 r,az aJ v1] w1 λe w'=>e=aL (aI #[aD (Ge.rule r&&Ge.takes r v1),aD (Ge.rule r)])/\w'=w1):=λw1=>arD r v1 w1
   have Vx:Hid (Old w (wr.alloc (.cells #[az aJ K,az aJ x,az aJ y,az aJ d,az .u8 r,aF s] 26)) [(wr.heap.size,.cells #[az aJ K,az aJ x,az aJ y,az aJ d,az .u8 r,aF s] 26 (0,0))]):=HO.out.alloc _;clear c0 c1 c2 c3 c4 c5 HB HS aW uU HO hs
   go_wp2_with fail
   generalize wr.alloc (.cells #[az aJ K,az aJ x,az aJ y,az aJ d,az .u8 r,aF s] 26)=W0 at*;clear e0 e1 e2 e3 e4 e5 hbr;generalize wr.heap.size=X0 at*;refine(HWI.out _ Vx.out.gl).mono ?_;rintro e w1 ⟨rfl,hb1⟩;have qR:=Vx.out.next hb1
   replace qR:Hid _:=qR
   have r4:=sW qR.out.h1;have r5:=wF qR.out.h1;clear hb1 Vx HWI
   go_wp2_with fail
   clear r4 r5;refine(HFX.out _ qR.out.gl).mono ?_;rintro e w2 ⟨⟨T,E,Pp,rfl,HT⟩,hb2⟩;have xf:=qR.out.next hb2
   have yr:Hid _:=xf.alloc (.cells #[aF T,az aJ (E:Int),az aJ (Pp:Int)] 38);have r4:=sW xf.h1;have r4b:=sW yr.out.tl.h1;clear hb2 qR HFX xf
   go_wp2_with fail
   clear r4 r4b;refine(cK.out _).mono ?_;rintro e w3 ⟨rfl,rfl⟩
   go_wp2_with fail
   refine(HNU.out _).mono ?_;rintro e w3 ⟨rfl,rfl⟩;have cV:Hid (Below w.heap.size w (w2.alloc (.cells #[aF T,az aJ (E:Int),az aJ (Pp:Int)] 38))/\Gl (w2.alloc (.cells #[aF T,az aJ (E:Int),az aJ (Pp:Int)] 38))):=⟨yr.out.jg,yr.out.gl⟩;have HM:Hid (k+gk=n/\k<n):=⟨aa,hlt⟩
   generalize w2.alloc (.cells #[aF T,az aJ (E:Int),az aJ (Pp:Int)] 38)=W3 at*;generalize w2.heap.size=X3 at*;clear HNU cK hkn hlt;by_cases hE:v3=0
   .subst hE;cases hr:Ge.rule r
    .clear HT yr
     go_wp2_with fail
     go_roundg (gk-1)
     case measure=>have:=HM.out;omega
     case rel=>exact⟨k+1,by have:=HM.out;omega,ai,cV⟩
    .obtain⟨nW,ps,Oy,HIS⟩:=HT.out.ok rfl hr;subst nW
     replace Oy:Hid _:=Oy
     replace HIS:Hid _:=HIS
     have f0:=cH yr.out.h1;clear HT cV
     go_wp2_with fail
     clear f0;refine(Oy.out _ yr.out.gl).mono ?_;rintro e w4 ⟨v,rfl,hR,hb4⟩;have CP:Hid _:=yr.out.next hb4
     have HR:Hid (nH w4 v ps):=hR;have cV:Hid (Below w.heap.size w w4/\Gl w4):=⟨CP.out.jg,CP.out.gl⟩;have f1:w4.cell? ⟨X3,1,none⟩=some (az aJ 0):=cD CP.out.h1;have q1:=cD CP.out.tl.h1;have q2:=dU CP.out.tl.h1;have q3:=jG CP.out.tl.h1;clear hb4 hR Oy yr CP;cases v2
     .replace HIS:Hid _:=HIS.out rfl
      go_wp2_with fail
      clear f1 q1 q2 q3;refine(HIS.out v w4 HR.out).mono ?_;rintro e w5 ⟨rfl,bg⟩
      replace cV:Hid (Below w.heap.size w w5/\Gl w5):=⟨cV.out.1.trans (bg.mono cV.out.1.size),CH cV.out.2 bg⟩
      clear bg HR HIS;cases Ge.takes r v1
      all_goals
       go_wp2_with fail
       go_roundg (gk-1)
       case measure=>have:=HM.out;omega
       case rel=>exact⟨k+1,by have:=HM.out;omega,ai,cV⟩
     .clear HIS HR
      go_wp2_with fail
      go_roundg (gk-1)
      case measure=>have:=HM.out;omega
      case rel=>exact⟨k+1,by have:=HM.out;omega,ai,cV⟩
   .have hEz:¬((v3:Int)=0):=aa
    have hEb:((v3:Int) == 0)=false:=sM.2 hEz;clear HT yr
    go_wp2_with fail
    go_roundg (gk-1)
    case measure=>have:=HM.out;omega
    case rel=>exact⟨k+1,by have:=HM.out;omega,ai,cV⟩
  .clear HS;by_cases h1:k<n
   .have h2:1152921504606846976<=k:=aa
    have gH:(k:Int)<(n:Int):=aa
    have Hw:decide ((k:Int)<1152921504606846976)=false:=by simp;omega
    clear hlt
    go_wp2_with fail
    refine(afh _ uU).mono ?_;rintro e w1 ⟨rfl,hb1⟩
    go_wp2_with fail
    go_ret
    exact⟨rfl,aW.trans (hb1.mono aW.size)⟩
   .have gH:decide ((k:Int)<(n:Int))=false:=by simp;omega
    clear hlt
    go_wp2_with fail
    refine(afh _ uU).mono ?_;rintro e w1 ⟨rfl,hb1⟩
    go_wp2_with fail
    go_ret
    exact⟨rfl,aW.trans (hb1.mono aW.size)⟩
end
section
open Go.RowKit Go.Deep
theorem Tryz.opCells:Tryz.prog.cellsOf 26=6:=ag
theorem Tryz.intCells:Tryz.prog.cellsOf 3=1:=ag
theorem Tryz.byteCells:Tryz.prog.cellsOf 5=1:=ag
theorem Tryz.strCells:Tryz.prog.cellsOf 9=1:=ag
section
variable{H:Type}{enc:TypeId×aN->H}{W:aM}{spare:Nat->Bool}{held:Bool}
theorem six{α:Type}:∀{l:List α},l.length=6->∃a b c d e f,l=[a,b,c,d,e,f]
 |[a,b,c,d,e,f],_=>⟨a,b,c,d,e,f,rfl⟩
theorem arY{so:Option Addr}{n cap:Nat}{d:DataW H}{p:List MemPlace}(h:DataW.Trod enc prog W 0 spare held 22 (aG so n cap) d p):n<=maxLen/\Vg W so n:=by
 obtain⟨fuel,hf⟩:=h;rcases open_slice underlying22 hf with⟨hcs,hx⟩|⟨a,len,cap',m,fl,D,Pl,hcs,hb,hl,hm,hmm,hx,hel⟩
 .simp[Value.cells] at hcs;obtain⟨rfl,rfl,rfl⟩:=hcs;exact⟨iA _,λk hk=>absurd hk (Nat.not_lt_zero _)⟩
 .simp[Value.cells] at hcs;obtain⟨rfl,rfl,rfl⟩:=hcs;refine⟨fN hl hm,λk hk=>?_⟩
  have hspot:a.spot=none:=by
   obtain⟨cs0,z1,_⟩:=hel 0 (by rw[hmm];split<;>omega)
   rw[Tryz.opCells] at z1;obtain⟨_,zl,zc⟩:=World.cells?_some z1;obtain⟨q0,q1,q2,q3,q4,q5,rfl⟩:=six zl;simpa[Addr.add] using World.cell?_spot (v:=q0) (zc 0 aa)
  obtain⟨cs',h1,h2⟩:=hel k (by rw[hmm];split<;>omega)
  rw[Tryz.opCells] at h1;obtain⟨_,hlen,hcell⟩:=World.cells?_some h1;obtain⟨xs,k',hk',hxy,_,hxl,hfl⟩:=DataW.trod_struct underlying26 h2;obtain⟨b,o,spot⟩:=a;obtain rfl:spot=none:=hspot;obtain⟨y0,y1,y2,y3,y4,y5,rfl⟩:=six (hxl.trans (by rfl))
  obtain⟨v0,v1,v2,v3,v4,v5,rfl⟩:=six hlen
  .clear hxl hlen;have g0:=hfl 0 _ rfl;have g1:=hfl 1 _ rfl;have g2:=hfl 2 _ rfl;have g3:=hfl 3 _ rfl;have g4:=hfl 4 _ rfl;have g5:=hfl 5 _ rfl;simp[Tryz.intCells,Tryz.byteCells,Tryz.strCells] at g0 g1 g2 g3 g4 g5;obtain⟨n0,i0,_,_⟩:=DataW.trod_int underlying3 g0;obtain⟨n1,i1,_,_⟩:=DataW.trod_int underlying3 g1;obtain⟨n2,i2,_,_⟩:=DataW.trod_int underlying3 g2;obtain⟨n3,i3,_,_⟩:=DataW.trod_int underlying3 g3;obtain⟨n4,i4,_,_⟩:=DataW.trod_int underlying5 g4;obtain⟨s,i5,_,hs⟩:=DataW.trod_string underlying9 g5;simp only[List.cons.injEq,wj] at i0 i1 i2 i3 i4 i5;subst i0 i1 i2 i3 i4 i5;have e0:=hcell 0 aa
   have e1:=hcell 1 aa
   have e2:=hcell 2 aa
   have e3:=hcell 3 aa
   have e4:=hcell 4 aa
   have e5:=hcell 5 aa
   simp[Go.WideShapes.add_plain] at e0 e1 e2 e3 e4 e5;exact⟨b,o,n0,n1,n2,n3,n4,s,rfl,by simpa using World.block_lt_of_cell? _ _ e0,hs,e0,e1,e2,e3,e4,e5⟩
end
end
section
open Go.ChangeShapes Go.WideShapes Go.ChangeAt Go.RowKit
theorem own:ownKnob Tryz.prog.godebug=none:=ag
theorem laidOut:laidOutB prog=true:=ag
theorem arZ:mapsRowed prog=true:=ag
theorem ar0:Tryz.prog.stopsHeard=true:=ag
theorem ar1:Tryz.prog.mayEnter=true:=ag
theorem ar2:true=Tryz.prog.looks []:=ag
end
section
open Go.ChangeShapes Go.WideShapes Go.ChangeAt Go.RowKit Go.Deep
theorem af7:Tryz.prog.globalNamed "strconv.ErrSyntax" =some 0:=by kernel_rfl
theorem af8:Tryz.prog.globalNamed "strconv.ErrRange" =some 1:=by kernel_rfl
theorem af9:Tryz.prog.globalNamed "internal/strconv.uint64pow10" =some 3:=by kernel_rfl
theorem ar3:Tryz.prog.globalNamed "math/bits.deBruijn32tab" =some 4:=by kernel_rfl
theorem ar4:Tryz.prog.globalNamed "math/bits.deBruijn64tab" =some 5:=by kernel_rfl
theorem ar5:(Tryz.prog.globals[0]?).map (·.type)=some 199:=ag
theorem ar6:(Tryz.prog.globals[1]?).map (·.type)=some 199:=ag
theorem ar7:(Tryz.prog.globals[3]?).map (·.type)=some 356:=ag
theorem aga: "*" ++ "errors.errorString" = "*errors.errorString" :=by decide
theorem agb(u:TypeId)(h:Tryz.prog.typeName? 3 u=some "*errors.errorString"):u=359:=
 typeName_ptr_named (nm:= "errors.errorString") (by rw[aga];kernel_rfl) (by kernel_rfl) (by decide) u (by rw[aga];exact h)
theorem cellsE:Tryz.prog.cellsOf 361=1:=ag
theorem ar8:Tryz.prog.cellsOf 282=1:=ag
theorem ar9:Tryz.prog.cellsOf 356=20:=ag
theorem JB{W:aM}{n:String}{g:Nat}{cs:Array aN}(hg:Tryz.prog.globalNamed n=some g)(hv:W.var? prog n=some cs):g<W.heap.size:=by
 simp only[World.var?,hg,Option.bind_some] at hv;split at hv
 .rename_i h;exact lt_of_heap h
 .cases hv
theorem asa{W:aM}(h:laidMetH prog Rows.printsRow.laid W):Gl W:=by
 rw[MakeChecks.laidMetH_plain _ _ _ ag] at h
 have h1:=h.tail;have h2:=h1.tail;have h3:=h2.tail;have h4:=h3.tail;obtain⟨a0,sa,rH,_,_,_⟩:=laid_sentinel h3 af8 ar6 underlying199 agb underlying359 underlying361 rfl rfl underlying9 cellsE Tryz.strCells;obtain⟨b0,sb,hvb,_,_,_⟩:=laid_sentinel h4 af7 ar5 underlying199 agb underlying359 underlying361 rfl rfl underlying9 cellsE Tryz.strCells;refine⟨?_,⟨_,_,hvb⟩,⟨_,_,rH⟩,?_⟩
 .obtain⟨ps,⟨g0,t0,cs0,f0,p0,q0,hg0,ht0,hv0,hd0,_⟩,_,_⟩:=h1;obtain⟨ps',⟨g1,t1,cs1,f1,p1,q1,hg1,ht1,hv1,hd1,_⟩,_,_⟩:=h;obtain⟨aul,⟨g2,t2,cs2,f2,p2,q2,hg2,ht2,hv2,hd2,_⟩,_,_⟩:=h2;have i0:=JB ar4 hv0;have i1:=JB ar3 hv1;have i2:=JB af9 hv2;have i3:=JB af8 rH;have i4:=JB af7 hvb;omega
 .exact Lib.tabIs_of_head (k:=.u64) (zs:=Lib.pow10Tab) af9 ar7 underlying356 underlying282 ar8 ar9 h2
theorem asb(os:Os)(args:Array aN):laidMetH prog Rows.printsRow.laid ((World.doorLaid prog 400 os).forCall (λ_ _=>0) ⟨#[],args,[]⟩).memory:=
 laidMetH_of_parts3 (fuel:=8) (laidMet_of_run' 8 ag ag) ag ag
end
section
open Go.ChangeShapes Go.WideShapes Go.ChangeAt Go.RowKit
theorem ase:(Rows.regionRow.inPlace == Tryz.prog.inPlace 9)=true:=ag
theorem asf:(Rows.regionRow.unfollowed == Tryz.prog.unfollowed 9)=true:=ag
theorem asg:(Rows.regionRow.recurses == Tryz.prog.recurses 9)=true:=ag
theorem ash:(Rows.regionRow.named == Tryz.prog.varsNamed 9)=true:=ag
theorem asi:(Rows.regionRow.lifted == Tryz.prog.liftsFinal)=true:=ag
theorem asj:(Rows.regionRow.plainKeys == Tryz.prog.plainKeys)=true:=ag
theorem asl:false=Rows.regionRow.goesBy prog:=ag
theorem asm:joinedFacts prog 9 Tryz.f9 Rows.regionSpec Rows.regionRow=true:=by
 unfold joinedFacts;simp only[laidOut,arZ,ar0,ar1,ase,asf,asg,ash,asi,asj,Bool.and_true]
 kernel_rfl
end
section
open Go.ChangeShapes Go.WideShapes Go.ChangeAt Go.RowKit Go.Deep
theorem asn(os:Os)(started:os.Started)(H:Type)(enc:TypeId×aN->H):
  ReturnsInHanded {} Tryz.checked os 9 .any (λw args=>(Rows.regionSpec.pre enc prog Tryz.f9 [] false w args/\laidMetH prog Rows.regionRow.laid w)/\sizedMet enc prog Tryz.f9 (OpenSpec.ofChange Rows.regionSpec) false w args)
   (Rows.regionSpec.post enc prog Tryz.f9 false true false false):=by
 refine returnsInHanded_of_change_and (C:=Tryz.checked) (X:=λw _=>laidMetH prog Rows.regionRow.laid w) (λ_ _ _ hh h=>h.of_heap hh) own started ag func9
  (ChangeSpec.witness_shaped (enc:=enc) (C:=Tryz.checked) (os:=os) (X:=λw _=>laidMetH prog Rows.regionRow.laid w) false (World.doorLaid prog 400 os) #[aG none 0 0] 8 rfl (World.shaped_of_RefB ag ag) ag ag ag (asb os _)) ?_
 intro W base args ds gs before agc hW _ _ hL _;have hval:∀(j:Nat) t v,Tryz.f9.params[j]?=some t->args[j]?=some v->Value.okWide prog W .any base t v:=agc;have hW':=hW;obtain⟨p,q,Iy,hV,rfl,hfz,hnd⟩:=hW;have hA:DataW.TrodAll enc prog W 0 (λ_=>true) true Tryz.f9.params.toList args.toList ds p:=Iy
 rw[Tryz.params9] at hA hval;obtain⟨v0,d0,rfl,rfl,h0⟩:=trodAll_one hA;obtain⟨rfl,rfl⟩:=trodVars_none hV;obtain⟨so,n,cap,rfl⟩:=okWide_slice underlying22 (hval 0 22 v0 rfl rfl);clear Iy agc;simp only[qu] at hW';have hlt:∀x∈p,x.block<W.heap.size:=λx hx=>by simpa using hW'.lt x hx
 obtain⟨hn,hS⟩:=arY h0;refine(arV so n cap W (asa hL) hS hn).mono λe W'⟨he,hb⟩=>?_
 subst he;refine⟨_,rfl,_,_,_,[],p,[],hW',trodAll_mk1 (shut_bool underlying4 _),trodAll_mk1 (Below.trod laidOut ag (fV ag) h0 hb hlt),rfl,hb.frame _,λh=>by cases h⟩
theorem aso:Rows.RegionSaid:=
 OpenClaim.holds_of_wide 9 Tryz.f9 rfl rfl rfl rfl rfl rfl rfl ⟨rfl,rfl,rfl,rfl,rfl⟩ rfl rfl rfl rfl rfl ag func9 asm
  (fV ag) (by unfold Func.isWrapper;first |(rw[aV (by decide+kernel)];kernel_rfl)|(rw[aQ (by decide+kernel)];exact⟨rfl,rfl⟩))
  (λos started H enc _=>asn os started H enc)
end
section
theorem region_card:Rows.RegionCardSaid:=
 Claim7.holds_tied_plain_at .later [] [.data,.data,.data,.sentinel,.sentinel] true Rows.regionCard.stood.harness true
  aso (λ_ h=>by cases h) ag (λ_ h=>by cases h) region_row_tie rfl ⟨rfl,rfl⟩ ag rfl
  (λf fn hf hfn=>by
   obtain rfl:f=9:=mO ((show Tryz.prog.funcNamed "mend/mendlaw.Region" =some 9 by kernel_rfl).symm.trans hf) |>.symm
   obtain rfl:fn=Tryz.f9:=(mO (func9.symm.trans hfn)).symm;exact⟨ar2,λj t ht=>by
    rw[Tryz.params9] at ht;have h3:t=22:=by
     rcases j with _|j
     .simpa using ht.symm
     .simp at ht
    subst h3;exact(show Tryz.prog.wantsStandIn 22=false by kernel_rfl)⟩)
  asl
end
end Go.Proofs.YtkjhhooecopolaaGreatDoor

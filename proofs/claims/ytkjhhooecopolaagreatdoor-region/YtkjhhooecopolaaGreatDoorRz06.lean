import Derived.Test.YtkjhhooecopolaaGreatDoorRz05
set_option maxRecDepth 100000
set_option maxHeartbeats 4000000
namespace Go.Proofs.YtkjhhooecopolaaGreatDoor
open Tryz
open Value renaming int->az,complex->aA,float->aB,agg->aC,bool->aD,string->aF,slice->aG,pointer->aH,tuple->aI
open IntKind renaming i64->aJ
open FloatKind renaming f64->aK
open Ending renaming returned->aL
open Go renaming World->aM,Value->aN,floatOfInt->aO
section
open Go.RowKit
theorem Zy(n:Int)(h1: -9223372036854775808<=n)(h2:n<=9223372036854775807)(w1:aM)(g1:Gl w1):
  ak 146 #[az aJ n] w1 λe w'=>e=aL (aF ⟨(Lib.itoa n).toArray⟩)/\aj w1 w':=by
 refine(Tryz.strconv_Itoa n h1 h2 w1 g1.tab).mono ?_;rintro e w' ⟨rfl,k,os,rfl⟩;exact⟨rfl,Lib.below_grow _ _ (aY _) _ _⟩
theorem Zz(x d:Int)(w:aM)(hG:Gl w)(hx: -16000000<=x/\x<=16000000)(hd:0<d/\d<=300000):
  ak 178 #[az aJ x,az aJ d] w λe w'=>e=aL (aF ⟨(Pl.fD (Ge.bC x d)).toArray⟩)/\aj w w':=by
 obtain⟨G,hg⟩:∃G,Int.gcd x d=G:=⟨_,rfl⟩;have iD:Ge.bC x d=(x.tdiv G,d.tdiv G):=by
  unfold Ge.bC;rw[aQ aa];unfold yV uP;rw[hg]
 have wS:0<G:=by rw[<-hg];exact agu _ aa
 have LO:(G:Int)∣d:=by rw[<-hg];exact yA ..
 have ZA:=agC hd.1 LO;have ed:=Ge.LG LO;have bx:=vh x G;have bd:=vh d G;rw[iD];have HD:Hid (∀w1,ak 65 #[az aJ x,az aJ d] w1 λe w'=>e=aL (az aJ (G:Int))/\aj w1 w'):=λw1=>by rw[<-hg];exact Gu x d w1 aa aa
 have hw1:IntKind.i64.wrap (x.tdiv (G:Int))=x.tdiv G:=by rw[IntKind.wrap_i64];omega
 have hw2:IntKind.i64.wrap (d.tdiv (G:Int))=d.tdiv G:=by rw[IntKind.wrap_i64];omega
 have hw3:IntKind.i64.wrap (d/(G:Int))=d.tdiv G:=by rw[<-hw2,OM aa]
 have HX:Hid (∀w1,Gl w1->ak 146 #[az aJ (x.tdiv G)] w1 λe w'=>e=aL (aF ⟨(Lib.itoa (x.tdiv G)).toArray⟩)/\aj w1 w'):=λw1 g1=>Zy _ aa aa w1 g1
 have HY:Hid (∀w1,Gl w1->ak 146 #[az aJ (d.tdiv G)] w1 λe w'=>e=aL (aF ⟨(Lib.itoa (d.tdiv G)).toArray⟩)/\aj w1 w'):=λw1 g1=>Zy _ aa aa w1 g1
 have h1:=Lib.itoa_length_le (x.tdiv G) aa aa
 have h2:=Lib.itoa_length_le (d.tdiv G) aa aa
 have XX:¬G=0:=aa
 have XY:(0:Int)<G:=aa
 by_cases Ra:d=G
 .have hq:d.tdiv G=1:=by
   rw[<-Ra];exact Int.tdiv_self aa
  have HV:Hid (Pl.fD (x.tdiv G,d.tdiv G)=Lib.itoa (x.tdiv G)):=aV hq;rw[HV.out];generalize Lib.itoa (x.tdiv G)=X1 at*;clear HV h1 h2 hw2 hw3 HY hq ed bx bd ZA LO iD hg;subst Ra
  go_enter func178,ntmps178
  go_wp2_with fail
  refine(HD.out _).mono ?_;rintro e w1 ⟨rfl,hb1⟩
  go_wp2_with fail
  refine(HX.out _ (hG.below hb1 hG.sz)).mono ?_;rintro e w2 ⟨rfl,hb2⟩
  go_wp2_with fail
  go_ret
  exact⟨rfl,hb1.trans (hb2.mono hb1.size)⟩
 .have hq:¬d.tdiv G=1:=by
   intro h;rw[h,Int.mul_one] at ed;exact Ra ed
  have HV:Hid (Pl.fD (x.tdiv G,d.tdiv G)=Lib.itoa (x.tdiv G)++([47]++Lib.itoa (d.tdiv G))):=aQ hq;rw[HV.out];have hwd:(d/(G:Int))=d.tdiv G:=(OM aa).symm
  have HYt:Hid (∀w1,Gl w1->ak 146 #[az aJ (d/(G:Int))] w1 λe w'=>e=aL (aF ⟨(Lib.itoa (d.tdiv G)).toArray⟩)/\aj w1 w'):=by rw[hwd];exact HY
  generalize Lib.itoa (x.tdiv G)=X1 at*;generalize Lib.itoa (d.tdiv G)=X2 at*;have hs1:¬9223372036854775807<X1.length+1:=aa
  have hs2:¬9223372036854775807<X1.length+1+X2.length:=aa
  clear HV hq ed bx bd ZA LO iD hg hwd h1 h2
  go_enter func178,ntmps178
  go_wp2_with fail
  refine(HD.out _).mono ?_;rintro e w1 ⟨rfl,hb1⟩;have df:Gl w1:=hG.below hb1 hG.sz
  go_wp2_with fail
  go_region_held3 (λ_=>True) (trivial) (first
   |(go_at_call_of 146 (Value.int IntKind.i64 (x.tdiv G));refine(HX.out _ df.drew).mono ?_;rintro e w5 ⟨rfl,bg⟩;have zi:=df.drew.below bg df.sz)
   |(go_at_call_of 146 (Value.int IntKind.i64 (d.tdiv G));refine(HY.out _ zi).mono ?_;rintro e w6 ⟨rfl,bp⟩)
   |(go_at_call_of 146 (Value.int IntKind.i64 (d/(G:Int)));refine(HYt.out _ zi).mono ?_;rintro e w6 ⟨rfl,bp⟩))
  go_wp2_with fail
  go_ret
  refine⟨by simp[ByteArray.mk_append_mk],?_⟩
  exact(hb1.drew.trans (bg.mono hb1.size)).trans (bp.mono (fN hb1.size bg.size))
theorem LP{x d:Int}(hx: -16000000<=x/\x<=16000000)(hd:0<d/\d<=300000):(Pl.fD (Ge.bC x d)).length<=50:=by
 have iD:Ge.bC x d=(x.tdiv (Int.gcd x d),d.tdiv (Int.gcd x d)):=by
  unfold Ge.bC;rw[aQ aa];rfl
 have bx:=vh x (Int.gcd x d);have bd:=vh d (Int.gcd x d);rw[iD];have h1:=Lib.itoa_length_le (x.tdiv (Int.gcd x d)) aa aa
 have h2:=Lib.itoa_length_le (d.tdiv (Int.gcd x d)) aa aa
 unfold Pl.fD;split
 .show(Lib.itoa (x.tdiv (Int.gcd x d))).length<=50;omega
 .show(Lib.itoa (x.tdiv (Int.gcd x d))++([47]++Lib.itoa (d.tdiv (Int.gcd x d)))).length<=50;simp;omega
theorem ajY(N1 N2:Nat)(X Y P:Int)(X1 X2:List UInt8)(w:aM)(hG:Gl w)(h1:X1.length<=50)(h2:X2.length<=50)
  (hc1:∀w,(convert 120 3 (aB aK N1)).run prog w=.ok (az aJ X) w)
  (hc2:∀w,(convert 120 3 (aB aK N2)).run prog w=.ok (az aJ Y) w)
  (HN:Hid (∀w1,Gl w1->ak 178 #[az aJ X,az aJ P] w1 λe w'=>e=aL (aF ⟨X1.toArray⟩)/\Below w1.heap.size w1 w'))
  (HD:Hid (∀w1,Gl w1->ak 178 #[az aJ Y,az aJ P] w1 λe w'=>e=aL (aF ⟨X2.toArray⟩)/\Below w1.heap.size w1 w')):
  ak 122 #[aC #[aA aK N1 N2,az aJ P]] w λe w'=>e=aL (aF ⟨(X1++([32]++X2)).toArray⟩)/\Below w.heap.size w w':=by
 have hs1:¬9223372036854775807<X1.length+1:=aa
 have hs2:¬9223372036854775807<X1.length+1+X2.length:=aa
 have hb0:Below w.heap.size w (w.alloc (.cells #[aA aK N1 N2,az aJ P] 83)):=(Below.refl _ _).alloc (aY _) _;have hE:=heap_alloc_new w (.cells #[aA aK N1 N2,az aJ P] 83);have hz:w.heap.size<(w.alloc (.cells #[aA aK N1 N2,az aJ P] 83)).heap.size:=af
 have mH:Gl (w.alloc (.cells #[aA aK N1 N2,az aJ P] 83)):=hG.alloc _
 go_enter func122,ntmps122
 go_wp2_with fail
 generalize w.alloc (.cells #[aA aK N1 N2,az aJ P] 83)=W at*;generalize hB:w.heap.size=B at*;have r0:=cH hE;have r1:=cD hE
 go_region_held3 (λw'=>w'.cell? ⟨B,0,none⟩=some (aA aK N1 N2)/\w'.cell? ⟨B,1,none⟩=some (az aJ P)) (go_keep) (first
   |(go_at_call_of 178 (Value.int IntKind.i64 X);refine(HN.out _ mH.drew).mono ?_;rintro e w5 ⟨rfl,bg⟩;have zi:=mH.drew.below bg mH.sz;have q0:=aS bg r0 hz;have q1:=(aS bg r1 hz))
   |(go_at_call_of 178 (Value.int IntKind.i64 Y);refine(HD.out _ zi).mono ?_;rintro e w6 ⟨rfl,bp⟩;have s0:=aS bp q0 (bW hz bg.size);have s1:=(aS bp q1 (bW hz bg.size)))
   |(simp only)
   |(simp only[hc2]))
 all_goals
  go_wp2_with fail
  go_ret
  refine⟨by simp[ByteArray.mk_append_mk],?_⟩
  rw[hB];exact(hb0.drew.trans (bg.mono (fh hz))).trans (bp.mono (fN (fh hz) bg.size))
theorem ajZ(n:Ge.Nd)(hn:eI n.1 n.2.1 n.2.2)(w:aM)(hG:Gl w):
  ak 122 #[ja n] w λe w'=>e=aL (aF ⟨(Pl.dH (Ge.aX n)).toArray⟩)/\aj w w':=by
 obtain⟨a1,a2⟩:=tT hn;have hx:=hn.x;have hy:=hn.y;have c1:=a1.int aa aa
 have c2:=a2.int aa aa
 exact ajY _ _ n.1 n.2.1 n.2.2 (Pl.fD (Ge.bC n.1 n.2.2)) (Pl.fD (Ge.bC n.2.1 n.2.2)) w hG (LP aa hn.d) (LP aa hn.d)
  (λw=>run_convert_float_int w 120 3 aK aJ _ _ (by rw[underlying120];rfl) underlying3 c1)
  (λw=>run_convert_float_int w 120 3 aK aJ _ _ (by rw[underlying120];rfl) underlying3 c2)
  (λw1 g1=>Zz _ _ w1 g1 aa hn.d) (λw1 g1=>Zz _ _ w1 g1 aa hn.d)
end
end Go.Proofs.YtkjhhooecopolaaGreatDoor

namespace Go.Proofs.YtkjhhooecopolaaGreatDoor
open Tryz
open Value renaming int->az,complex->aA,float->aB,agg->aC,bool->aD,string->aF,slice->aG,pointer->aH,tuple->aI
open IntKind renaming i64->aJ
open FloatKind renaming f64->aK
open Ending renaming returned->aL
open Go renaming World->aM,Value->aN,floatOfInt->aO
section
open Go.RowKit
def jc(n:Ge.Nd):List aN:=[aA aK (aO aK n.1) (aO aK n.2.1),az aJ n.2.2]
def eF(l:List Ge.Nd):List aN:=l.flatMap jc
def jk(w:aM)(v:aN)(l:List Ge.Nd):Prop:=w.ownsRow 0 83 2 v l.length (eF l)
theorem GZ:∀(l:List Ge.Nd)(k:Nat)(e:Ge.Nd),l[k]?=some e->∀j,j<2->(eF l)[k*2+j]?=(jc e)[j]?
 |[],_,_,h,_,_=>by simp at h
 |q::r,0,e,h,j,hj=>by
  simp at h;subst h;have e1:eF (q::r)=jc q++eF r:=by simp[eF]
  rw[e1,fI (by simp[jc];omega)]
  simp
 |q::r,k+1,e,h,j,hj=>by
  have ih:=GZ r k e (by simpa using h) j hj
  have e1:eF (q::r)=jc q++eF r:=by simp[eF]
  rw[e1,nJ (by simp[jc];omega)]
  have e2:(k+1)*2+j-(jc q).length=k*2+j:=by simp[jc];omega
  rw[e2,ih]
theorem Rb(l:List Ge.Nd)(e:Ge.Nd):eF (l++[e])=eF l++jc e:=by simp[eF]
theorem LQ{w:aM}{v:aN}{l:List Ge.Nd}(h:jk w v l):∃so cap,v=aG so l.length cap:=by
 rcases h.2 with⟨hv,h0⟩|⟨b,cap,cur,hv,_⟩
 .exact⟨none,0,by rw[hv,h0]⟩
 .exact⟨_,cap,hv⟩
theorem LS{w:aM}{so:Option Addr}{n cap:Nat}{l:List Ge.Nd}(h:jk w (aG so n cap) l){k:Nat}{e:Ge.Nd}(he:l[k]?=some e):
  ∃b,so=some ⟨b,0,none⟩/\b<w.heap.size/\w.cell? ⟨b,k*2,none⟩=some (aA aK (aO aK e.1) (aO aK e.2.1))/\w.cell? ⟨b,k*2+1,none⟩=some (az aJ e.2.2):=by
 have g:=GZ l k e he;obtain⟨b,c,hv,hb,hc⟩:=Gn h (g 0 aa)
 injection hv with hv;exact⟨b,hv,hb,hc _ _ (g 0 aa),hc _ _ (g 1 aa)⟩
theorem ZB(f:Ge.Qt->List UInt8):∀l:List Ge.Qt,Lib.join (l.map f) [44,32]=Pl.bI f l
 |[]=>rfl
 |[x]=>by simp[Lib.join_one,Pl.bI]
 |x::y::r=>by
  have ih:=ZB f (y::r);simp only[Pl.bI,<-ih];simp[Lib.join,List.intercalate]
theorem Rc:(Tryz.prog.info? 9).map (λi=>(i.zero,i.size,i.bytes))=some (some (aF ⟨#[]⟩),1,16):=ag
def pT(l:List Ge.Nd):List ByteArray:=l.map λn=>⟨(Pl.dH (Ge.aX n)).toArray⟩
theorem aj0(l:List Ge.Nd):(pT l).map (·.data.toList)=(l.map Ge.aX).map Pl.dH:=by simp[pT]
def SI(w:aM)(lv:aN)(xs:List ByteArray)(wr:aM):Prop:=wr.ownsRow w.heap.size 9 1 lv xs.length (xs.map Value.string)/\aj w wr
theorem Re{n:Ge.Nd}(h:eI n.1 n.2.1 n.2.2):(Pl.dH (Ge.aX n)).length<=101:=by
 have hx:=h.x;have hy:=h.y;have h1:=LP (x:=n.1) (d:=n.2.2) aa h.d
 have h2:=LP (x:=n.2.1) (d:=n.2.2) aa h.d
 show(Pl.fD (Ge.bC n.1 n.2.2)++([32]++Pl.fD (Ge.bC n.2.1 n.2.2))).length<=101;simp;omega
end
namespace Ge
def met(e f:Pt×Pt)(q:Qt):Prop:=dG e f≠0/\q=gA e f/\hq (gA e f) e=true/\hq (gA e f) f=true
theorem aj1{e f:Pt×Pt}{q:Qt}(h:met e f q):met f e q:=by
 obtain⟨a,b,c,d⟩:=h;have a':dG f e≠0:=by rw[Zg];omega
 have m:=ajE a;exact⟨a',by rw[m];exact b,by rw[m];exact d,by rw[m];exact c⟩
theorem aj2(e:Pt×Pt):dG e e=0:=by unfold dG;grind
theorem aj3(l:List (Pt×Pt))(e:Pt×Pt)(q:Qt):isNode (l++[e]) q↔isNode l q\/q=pt e.1\/q=pt e.2\/∃f∈l,met e f q:=by
 unfold isNode;constructor
 .rintro(⟨g,hg,h⟩|⟨g,hg,f,hf,h⟩)
  .rcases dv.1 hg with hg|hg
   .exact aU (aU ⟨g,hg,h⟩)
   .rw[dh] at hg;subst hg;rcases h with h|h
    .exact aT (aU h)
    .exact aT (aT (aU h))
  .rcases dv.1 hg with hg|hg
   .rcases dv.1 hf with hf|hf
    .exact aU (aT ⟨g,hg,f,hf,h⟩)
    .rw[dh] at hf;rw[hf] at h;exact aT (aT (aT ⟨g,hg,aj1 h⟩))
   .rw[dh] at hg;rw[hg] at h;rcases dv.1 hf with hf|hf
    .exact aT (aT (aT ⟨f,hf,h⟩))
    .rw[dh] at hf;rw[hf] at h;exact absurd (aj2 e) h.1
 .have m1:∀{x},x∈l->x∈l++[e]:=λh=>vX _ h
  have m2:e∈l++[e]:=af
  rintro((⟨g,hg,h⟩|⟨g,hg,f,hf,h⟩)|h|h|⟨f,hf,h⟩)
  .exact aU ⟨g,m1 hg,h⟩
  .exact aT ⟨g,m1 hg,f,m1 hf,h⟩
  .exact aU ⟨e,m2,aU h⟩
  .exact aU ⟨e,m2,aT h⟩
  .exact aT ⟨e,m2,f,m1 hf,h⟩
def dL:List Nd->List Nd
 |[]=>[]
 |[a]=>[a]
 |a::b::r=>if a=b then dL (b::r) else a::dL (b::r)
theorem Bq:∀(l:List Nd)(x:Nd),x∈dL l↔x∈l
 |[],x=>by simp[dL]
 |[a],x=>by simp[dL]
 |a::b::r,x=>by
  have ih:=Bq (b::r) x;unfold dL;split
  .rename_i h
   subst h;rw[ih];simp
  .rw[bU,ih];simp
def le(a b:Nd):Prop:=¬lt (aX b) (aX a)
theorem Ea{a b:Nd}(ha:Can a)(hb:Can b)(h:le a b)(hne:a≠b):lt (aX a) (aX b):=by
 unfold le lt at h;unfold lt;rw[KU] at h;rcases fX (pc (aX a) (aX b)) 0 with h1|h1|h1
 .exact h1
 .exact absurd (xe ha hb h1) hne
 .omega
theorem lt_le_trans{a b c:Nd}(ha:Can a)(hb:Can b)(hc:Can c)(h1:lt (aX a) (aX b))(h2:le b c):lt (aX a) (aX c):=by
 by_cases h:b=c
 .subst h;exact h1
 .exact lt_trans (dW ha) (dW hb) (dW hc) h1 (Ea hb hc h2 h)
theorem ZC:∀(l:List Nd),(∀n∈l,Can n)->l.Pairwise le->(dL l).Pairwise (λa b=>lt (aX a) (aX b))
 |[],_,_=>List.Pairwise.nil
 |[a],_,_=>by simp[dL]
 |a::b::r,hc,hp=>by
  have hp2:=(ik.1 hp).2;have hp1:=(ik.1 hp).1;have ih:=ZC (b::r) (λn h=>hc n (by simp[List.mem_cons] at h⊢;exact aT h)) hp2
  unfold dL;split
  .exact ih
  .rename_i hne
   refine ik.2 ⟨λx hx=>?_,ih⟩
   have hx':=(Bq (b::r) x).1 hx;have ca:=hc a af
   have cb:=hc b af
   have hab:=Ea ca cb (hp1 b af) hne
   rcases bU.1 hx' with h|h
   .subst h;exact hab
   .exact lt_le_trans ca cb (hc x (by simp[h])) hab ((ik.1 hp2).1 x h)
theorem aj4(es:List (Pt×Pt))(S:List Nd)(hc:∀n∈S,Can n)(hp:S.Pairwise le)(hm:∀q,(∃n∈S,aX n=q)↔isNode es q):(dL S).map aX=iZ es:=by
 obtain⟨h1,h2,h3⟩:=D5 es;refine X9 (λq hq=>?_) h1 ?_ h2 (λq=>?_)
 .obtain⟨n,hn,rfl⟩:=bQ.1 hq;exact dW (hc n ((Bq S n).1 hn))
 .exact oL.2 (ZC S hc hp)
 .rw[h3,<-hm,bQ];constructor
  .rintro⟨n,hn,h⟩;exact⟨n,(Bq S n).1 hn,h⟩
  .rintro⟨n,hn,h⟩;exact⟨n,(Bq S n).2 hn,h⟩
end Ge
section
open Go.RowKit
variable{B i j g cap n b:Nat}{w wr w':aM}{lv v:aN}
theorem ZE:(Tryz.prog.info? 83).map (λi=>(i.zero,i.size,i.bytes))=some (some (aC #[aA aK 0 0,az aJ 0]),2,24):=ag
theorem ZF:∀l:List Ge.Nd,(Ge.dL l).length<=l.length
 |[]=>by simp[Ge.dL]
 |[a]=>by simp[Ge.dL]
 |a::b::r=>by
  have ih:=ZF (b::r);unfold Ge.dL;split
  .simp only[dw] at ih⊢;omega
  .simp only[dw] at ih⊢;omega
structure NL(w:aM)(lv:aN)(L:List Ge.Nd)(wr:aM):Prop where
 own:wr.ownsRow w.heap.size 83 2 lv L.length (eF L)
 below:aj w wr
 can:∀n∈L,Ge.Can n
 bu:∀n∈L,eI n.1 n.2.1 n.2.2
def NS(w:aM)(lv:aN)(l:List Ed)(k:Nat)(wr:aM):Prop:=
 ∃L,NL w lv L wr/\(∀q,(∃n∈L,Ge.aX n=q)↔Ge.isNode l q)/\L.length<=k
structure vo(w:aM)(B:Nat)(x:EB)(e:Ed)(es:List Ed)(i j:Nat)(lv:aN)(L:List Ge.Nd)(wr:aM):Prop where
 nl:NL w lv L wr
 lt:B<wr.heap.size
 ne:lv.ownBlock≠some B
 c0:wr.cell? ⟨B,0,none⟩=some (aA aK x.wa x.wb)
 c1:wr.cell? ⟨B,1,none⟩=some (aB aK x.sh)
 c2:wr.cell? ⟨B,2,none⟩=some (aA aK x.fa x.fb)
 c3:wr.cell? ⟨B,3,none⟩=some (aA aK x.ta x.tb)
 iff:∀q,(∃n∈L,Ge.aX n=q)↔Ge.isNode (es.take i) q\/q=Ge.pt e.1\/q=Ge.pt e.2\/∃f∈es.take j,Ge.met e f q
 len:L.length<=i*404+2+j
theorem vo.keep{x:EB}{e:Ed}{es:List Ed}{L:List Ge.Nd}(h:vo w B x e es i j lv L wr)(hb:aj wr w'):vo w B x e es i j lv L w':=
 ⟨⟨bB h.nl.own λk hk=>hb.block k (bn h.nl.own k hk).2,h.nl.below.trans (hb.mono h.nl.below.size),h.nl.can,h.nl.bu⟩,bW h.lt hb.size,h.ne,(aS hb h.c0 h.lt),(aS hb h.c1 h.lt),(aS hb h.c2 h.lt),(aS hb h.c3 h.lt),h.iff,h.len⟩
theorem ZG{es:List Ed}{f e:Ed}(hf:es[j]?=some f)(q:Ge.Qt):(∃f'∈es.take (j+1),Ge.met e f' q)↔(∃f'∈es.take j,Ge.met e f' q)\/Ge.met e f q:=by
 have h:es.take (j+1)=es.take j++[f]:=by rw[jF,hf];rfl
 rw[h];constructor
 .rintro⟨g,hg,h⟩;rcases dv.1 hg with hg|hg
  .exact aU ⟨g,hg,h⟩
  .rw[dh] at hg;rw[hg] at h;exact aT h
 .rintro(⟨g,hg,h⟩|h)
  .exact⟨g,by simp[hg],h⟩
  .exact⟨f,af,h⟩
theorem vo.skip{x:EB}{e:Ed}{es:List Ed}{L:List Ge.Nd}{f:Ed}(h:vo w B x e es i j lv L wr)(hf:es[j]?=some f)(hn:¬(Ge.dG e f≠0/\Ge.hq (Ge.gA e f) e=true/\Ge.hq (Ge.gA e f) f=true)):vo w B x e es i (j+1) lv L wr:=
 ⟨h.nl,h.lt,h.ne,h.c0,h.c1,h.c2,h.c3,λq=>by
  have hm:¬Ge.met e f q:=λm=>hn ⟨m.1,m.2.2⟩
  rw[h.iff q,ZG hf q];simp[hm],by have:=h.len;omega⟩
theorem aj5(es:List Ed)(v:aN)(w:aM)(hR:iL w v es)(hl:es.length<=402)(hs:∀e∈es,gz e)
  (HS:Hid (∀lv L wr,NL w lv L wr->L.length<=200000->ak 124 #[lv,.func (.func 125) #[] #[]] wr λr w'=>r=aL (aI #[])/\∃S,NL w lv S w'/\(∀n,n∈S↔n∈L)/\S.length=L.length/\S.Pairwise Ge.le))
  (HK:Hid (∀lv S wr,NL w lv S wr->S.length<=200000->ak 126 #[lv] wr λr w'=>∃v',r=aL v'/\jk w' v' (Ge.dL S)/\Below w.heap.size w w')):
  ak 72 #[v] w λe w'=>∃v' l,e=aL v'/\jk w' v' l/\Below w.heap.size w w'/\l.map Ge.aX=Ge.iZ es/\(∀n∈l,eI n.1 n.2.1 n.2.2)/\l.length<=200000/\(∀n∈l,Ge.Can n):=by
 obtain⟨so,cap,rfl⟩:=Gq hR;obtain⟨i0,hi,hz0,hz1,hz2⟩:=info_parts ZE;have HR:Hid (iL w (aG so es.length cap) es):=hR;clear hR
 go_enter func72,ntmps72
 go_wp2_with fail
 have cK:Hid (NS w (aG none 0 0) [] 0 w):=⟨[],⟨World.ownsRow_nil _ _ _ _,Below.refl _ _,λn h=>by simp at h,λn h=>by simp at h⟩,λq=>by simp[Ge.isNode],af⟩
 go_loopg [3,12] es.length (λm lv iv wr=>∃i:Nat,i+m=es.length/\iv=az aJ i/\Hid (NS w lv (es.take i) (i*404) wr))
 case atStart=>exact⟨0,aa,rfl,cK⟩
 case round=>
  obtain⟨i,him,rfl,HE⟩:=hrel;clear cK;by_cases hlt:i<es.length
  .obtain⟨e,he⟩:∃e,es[i]?=some e:=⟨_,bo hlt⟩;obtain⟨b,x,rfl,hb,hx,c0,c1,c2,c3⟩:=Gs HR.out he;obtain⟨L,Eb,G5,kZ⟩:=HE.out;have aW:=Eb.below;have r0:=aS aW c0 hb;have r1:=aS aW c1 hb;have r2:=aS aW c2 hb;have r3:=aS aW c3 hb;have kA:=hs e (bT he);obtain⟨n1,n1c,Rf,ZH,Rh⟩:=LH 1 hx.fa hx.fb (by have:=kA.a;unfold small at this;omega) (by have:=kA.b;unfold small at this;omega) aa
   obtain⟨n2,ZI,Ri,ZJ,zm⟩:=LH 1 hx.ta hx.tb (by have:=kA.c;unfold small at this;omega) (by have:=kA.d;unfold small at this;omega) aa
   rw[Ge.KV,Ge.KV] at Rf Ri;have HX:Hid (jU x e):=hx;have HEM:Hid (e∈es):=bT he;have HEI:Hid (es[i]?=some e):=he;have Ec:Hid (NL w u3 L wr):=Eb;have vp:Hid (∀q,(∃n∈L,Ge.aX n=q)↔Ge.isNode (es.take i) q):=G5;have qR:Hid (Ge.aX n1=Ge.pt e.1/\Ge.Can n1/\eI n1.1 n1.2.1 n1.2.2):=⟨Rf,n1c,ZH⟩;have xf:Hid (Ge.aX n2=Ge.pt e.2/\Ge.Can n2/\eI n2.1 n2.2.1 n2.2.2):=⟨Ri,ZI,ZJ⟩;have gH:(i:Int)<(es.length:Int):=aa
   have hbr:b<wr.heap.size:=bW hb aW.size;obtain⟨wa,wb,sh,fa,fb,ta,tb⟩:=x;simp only at r0 r1 r2 r3 Rh zm;have Bp:Hid (∀w1,ak 37 #[aA aK fa fb,az aJ 1] w1 λe w'=>e=aL (ja n1)/\Below w1.heap.size w1 w'):=Rh
   have qQ:Hid (∀w1,ak 37 #[aA aK ta tb,az aJ 1] w1 λe w'=>e=aL (ja n2)/\Below w1.heap.size w1 w'):=zm
   clear c0 c1 c2 c3 Eb G5 hx Rh zm n1c Rf ZH ZI Ri ZJ he HE kA
   go_wp2_with (first |(simp only[gN];go_simp)|(simp only[oV];go_simp)|(simp only[gN,oV];go_simp))
   have hE:=heap_alloc_new wr (.cells #[aA aK wa wb,aB aK sh,aA aK fa fb,aA aK ta tb] 124);have hbW:=aW.alloc aW.size (.cells #[aA aK wa wb,aB aK sh,aA aK fa fb,aA aK ta tb] 124);have ZK:(wr.alloc (.cells #[aA aK wa wb,aB aK sh,aA aK fa fb,aA aK ta tb] 124)).ownsRow w.heap.size 83 2 u3 L.length (eF L):=bB Ec.out.own λk hk=>Below.heap_alloc _ _ _ (bn Ec.out.own k hk).2
   have uV:wr.heap.size<(wr.alloc (.cells #[aA aK wa wb,aB aK sh,aA aK fa fb,aA aK ta tb] 124)).heap.size:=af
   have G6:∀k,u3.ownBlock=some k->k<wr.heap.size:=λk hk=>(bn Ec.out.own k hk).2
   have ZL:w.heap.size<=wr.heap.size:=aW.size;generalize wr.alloc (.cells #[aA aK wa wb,aB aK sh,aA aK fa fb,aA aK ta tb] 124)=W at*;generalize Gz:wr.heap.size=B at*;have a0:=cH hE;have a1:=cD hE;have a2:=dU hE;have a3:=jG hE;have zn:Hid (jc n1=[aA aK (aO aK n1.1) (aO aK n1.2.1),az aJ n1.2.2]):=rfl;have zo:Hid (jc n2=[aA aK (aO aK n2.1) (aO aK n2.2.1),az aJ n2.2.2]):=rfl;unfold ja at Bp qQ;generalize aO aK n1.1=A1 at*;generalize aO aK n1.2.1=A2 at*;generalize aO aK n2.1=A4 at*;generalize aO aK n2.2.1=A5 at*;have G7:some B≠u3.ownBlock:=λh=>agE _ (G6 B h.symm)
   clear r0 r1 r2 r3 hE;refine wp_region_held_drew (S:=(λw'=>w'.cell? ⟨B,0,none⟩=some (aA aK wa wb)/\w'.cell? ⟨B,1,none⟩=some (aB aK sh)/\w'.cell? ⟨B,2,none⟩=some (aA aK fa fb)/\w'.cell? ⟨B,3,none⟩=some (aA aK ta tb))) ag ⟨a0,a1,a2,a3⟩ (λhHeld=>?_)
   refine wpAnyH_take (i:=0) (oi:={dst:=some 17,op:=_,type:=_,pos:=_,after:=_,guard:=_}) (v:=?_) rfl ag ag ag (λ_ _ _ h=>h) (aU ⟨by rfl,?_⟩) hHeld ?_
   rotate_left
   .intro w' bZ;obtain⟨s0,s1,s2,s3⟩:=bZ
    go_simp
    try with_reducible rfl
   simp only[Act.put,dR,dS,dD];refine wpAnyH_take (i:=1) (oi:={dst:=some 18,op:=_,type:=_,pos:=_,after:=_,guard:=_}) (v:=?_) rfl ag ag ag (λ_ _ _ h=>h) (aU ⟨by rfl,?_⟩) hHeld ?_
   rotate_left
   .intro w' bZ;obtain⟨s0,s1,s2,s3⟩:=bZ
    go_simp
    try with_reducible rfl
   simp only[Act.put,dR,dS,dD];refine wpAnyH_take (i:=2) (oi:={dst:=some 19,op:=_,type:=_,pos:=_,after:=_,guard:=_}) (v:=?_) rfl ag ag ag (λ_ _ _ h=>h) (aU ⟨by rfl,?_⟩) hHeld ?_
   rotate_left
   .intro w' bZ;obtain⟨s0,s1,s2,s3⟩:=bZ
    go_simp
    try with_reducible rfl
   simp only[Act.put,dR,dS,dD];refine wpAnyH_take (i:=4) (oi:={dst:=some 21,op:=_,type:=_,pos:=_,after:=_,guard:=_}) (v:=?_) rfl ag ag ag (λ_ _ _ h=>h) (aU ⟨by rfl,?_⟩) hHeld ?_
   rotate_left
   .intro w' bZ;obtain⟨s0,s1,s2,s3⟩:=bZ
    go_simp
    try with_reducible rfl
   simp only[Act.put,dR,dS,dD];refine wpAnyH_take (i:=5) (oi:={dst:=some 22,op:=_,type:=_,pos:=_,after:=_,guard:=_}) (v:=?_) rfl ag ag ag (λ_ _ _ h=>h) (aU ⟨by rfl,?_⟩) hHeld ?_
   rotate_left
   .intro w' bZ;obtain⟨s0,s1,s2,s3⟩:=bZ
    go_simp
    try with_reducible rfl
   simp only[Act.put,dR,dS,dD];refine wpAnyH_ready (rs:=[3]) ag af ?_
   refine AllReadyH.cons rfl (λK hK=>?_) AllReadyH.nil
   go_simp
   refine(Bp.out _).mono ?_;rintro e w6 ⟨rfl,bp⟩;have b0:=aS bp a0 uV;have b1:=aS bp a1 uV;have b2:=aS bp a2 uV;have b3:=aS bp a3 uV;have zq:=bW uV bp.size;have iw:=bB ZK.drew λk hk=>bp.block k (agD (G6 k hk) uV)
   go_wp2_with fail
   refine hK.out _ _ ⟨b0,b1,b2,b3⟩ (λhHeld=>?_)
   clear hK K
   try simp only[Act.put,dR,dS,dD]
   refine wpAnyH_ready (rs:=[6]) ag af ?_
   refine AllReadyH.cons rfl (λK hK=>?_) AllReadyH.nil
   go_simp
   refine(qQ.out _).mono ?_;rintro e w7 ⟨rfl,bw⟩;have c0:=aS bw b0 zq;have c1:=aS bw b1 zq;have c2:=aS bw b2 zq;have c3:=aS bw b3 zq;have xg:=bW zq bw.size;have lN:=bB iw λk hk=>bw.block k (agD (G6 k hk) zq)
   go_wp2_with fail
   refine hK.out _ _ ⟨c0,c1,c2,c3⟩ (λhHeld=>?_)
   clear hK K
   try simp only[Act.put,dR,dS,dD]
   refine wpAnyH_ready (rs:=[7]) ag af ?_
   refine AllReadyH.cons rfl (λK hK=>?_) AllReadyH.nil
   go_simp
   refine hK.out _ _ ⟨(ko _ _ xg).trans c0,(ko _ _ xg).trans c1,(ko _ _ xg).trans c2,(ko _ _ xg).trans c3⟩ (λhHeld=>?_)
   clear hK K
   try simp only[Act.put,dR,dS,dD]
   refine wpAnyH_ready (rs:=[8]) ag af ?_
   refine AllReadyH.cons rfl (λK hK=>?_) AllReadyH.nil
   refine step_append_lies _ rfl (.tmp 17) (.tmp 24) 138 rfl w.heap.size 83 i0 _ 2 24 underlying138 hi hz0 hz1 hz2 rfl ah u3 L.length (eF L) rfl (bB lN (λk hk=>Below.heap_alloc _ _ _ (bn lN k hk).2)) ⟨w7.heap.size,0,none⟩ 2 2 [aA aK A1 A2,az aJ n1.2.2,aA aK A4 A5,az aJ n2.2.2] rfl rfl (World.news_of_block (cs:= #[aA aK A1 A2,az aJ n1.2.2,aA aK A4 A5,az aJ n2.2.2]) (t:=83) (fr:=(0,0)) (heap_alloc_new w7 _)) (by simp[Value.oneCell']) ah (by unfold maxLen;omega) aa (by simp;omega) (w7.heap.size+1) af ?_
   intro g' cap' w8 dM cI iN rN;have d0:=(cI.cell_far ⟨B,0,none⟩ (by simp;omega) G7).trans ((ko _ _ xg).trans c0)
   have d1:=(cI.cell_far ⟨B,1,none⟩ (by simp;omega) G7).trans ((ko _ _ xg).trans c1)
   have d2:=(cI.cell_far ⟨B,2,none⟩ (by simp;omega) G7).trans ((ko _ _ xg).trans c2)
   have d3:=(cI.cell_far ⟨B,3,none⟩ (by simp;omega) G7).trans ((ko _ _ xg).trans c3)
   go_simp
   refine hK.out _ _ ⟨d0,d1,d2,d3⟩ (λhHeld=>?_)
   clear hK K
   try simp only[Act.put,dR,dS,dD]
   refine wpAnyH_take (i:=9) (oi:={dst:=some 3,op:=_,type:=_,pos:=_,after:=_,guard:=_}) (v:=?_) rfl ag ag ag (λ_ _ _ h=>h) (aU ⟨by rfl,?_⟩) hHeld ?_
   rotate_left
   .intro w' bZ;obtain⟨s0,s1,s2,s3⟩:=bZ
    go_simp
    try with_reducible rfl
   simp only[Act.put,dR,dS,dD];refine wpAnyH_done ag ?_ _
   have ZM:Below w.heap.size w w8:=by
    have q6:=hbW.drew.trans (bp.mono (fN ZL (fh uV)));have q7:=q6.trans (bw.mono (fN ZL (fh zq)));exact(q7.alloc q7.size _).grown cI (by simp;omega) (λk hk=>(bn lN k hk).1)
   have LU:Hid (NL w (aG (some ⟨g',0,none⟩) (L.length+2) cap') (L++[n1,n2]) w8):=by
    have hrow:eF (L++[n1,n2])=eF L++[aA aK A1 A2,az aJ n1.2.2,aA aK A4 A5,az aJ n2.2.2]:=by
     have e1:eF (L++[n1,n2])=eF L++(jc n1++jc n2):=by simp[eF]
     rw[e1,zn.out,zo.out];rfl
    refine⟨?_,ZM,λn hn=>?_,λn hn=>?_⟩
    .rw[hrow,bY];exact dM
    .rcases dv.1 hn with h|h
     .exact Ec.out.can n h
     .rcases bU.1 h with h|h
      .rw[h];exact qR.out.2.1
      .rw[dh.1 h];exact xf.out.2.1
    .rcases dv.1 hn with h|h
     .exact Ec.out.bu n h
     .rcases bU.1 h with h|h
      .rw[h];exact qR.out.2.2
      .rw[dh.1 h];exact xf.out.2.2
   have zr:Hid (vo w B ⟨wa,wb,sh,fa,fb,ta,tb⟩ e es i 0 (aG (some ⟨g',0,none⟩) (L.length+2) cap') (L++[n1,n2]) w8):=by
    refine⟨LU.out,?_,?_,d0,d1,d2,d3,λq=>?_,by simp;omega⟩
    .have h1:=cI.size;simp at h1;omega
    .show some g'≠some B;intro h;injection h with h;rcases iN with h8|h8
     .have:=G6 g' h8;omega
     .omega
    .have h1:=vp.out q;simp only[agF,List.not_mem_nil,wh,exists_false,Ai];rw[<-h1];constructor
     .rintro⟨n,hn,h⟩;rcases dv.1 hn with hn|hn
      .exact aU ⟨n,hn,h⟩
      .rcases bU.1 hn with hn|hn
       .exact aT (aU (by rw[<-h,hn,qR.out.1]))
       .exact aT (aT (by rw[<-h,dh.1 hn,xf.out.1]))
     .rintro(⟨n,hn,h⟩|h|h)
      .exact⟨n,by simp[hn],h⟩
      .exact⟨n1,af,by rw[h,qR.out.1]⟩
      .exact⟨n2,af,by rw[h,xf.out.1]⟩
   have hcap:¬cap<i:=by
    obtain⟨_,_,ho,_⟩:=HR.out;rcases ho.2 with⟨hv,_⟩|⟨_,_,_,hv,_,_,hc,_⟩
    .cases hv
    .injection hv with _ _ hv;omega
   have atc:i<=cap:=aa
   clear Bp qQ zn zo a0 a1 a2 a3 b0 b1 b2 b3 c0 c1 c2 c3 iw lN dM bp bw ZK G6 G7 zq xg cI iN rN hHeld
   go_wp2_with fail
   obtain⟨m1,lM⟩:∃m1,m1=gk:=⟨_,rfl⟩
   go_loopg [3,30] i (λm lv nv wr=>∃j:Nat,j+m=i/\nv=az aJ j/\Hid (∃L',vo w B ⟨wa,wb,sh,fa,fb,ta,tb⟩ e es i j lv L' wr))
   case atStart=>exact⟨0,aa,rfl,⟨_,zr.out⟩⟩
   case round=>
    obtain⟨j,hjm,rfl,kX⟩:=hrel;clear zr LU d0 d1 d2 d3 vp Ec qR xf ZM;obtain⟨L',hI⟩:=kX.out;by_cases rM:j<i
    .obtain⟨f,hf⟩:∃f,es[j]?=some f:=⟨_,bo aa⟩
     obtain⟨b4,y,hb4,_,hy,f0,f1,f2,f3⟩:=Gs HR.out hf;injection hb4 with hb4;injection hb4 with hb4;subst hb4;have iM:=hI.nl.below;have s0:=aS iM f0 hb;have s1:=aS iM f1 hb;have s2:=aS iM f2 hb;have s3:=aS iM f3 hb;have a0:=hI.c0;have a1:=hI.c1;have a2:=hI.c2;have a3:=hI.c3;obtain⟨vn,bt,nv,hM,⟨M1,M2,MP,Br⟩,LV,LW⟩:=ajR ⟨wa,wb,sh,fa,fb,ta,tb⟩ y e f HX.out hy (hs e (HEM.out)) (hs f (bT hf));subst Br;have HM:Hid (∀w,ak 123 #[aC (EB.cells ⟨wa,wb,sh,fa,fb,ta,tb⟩),aC y.cells] w λr w'=>r=aL (aI #[aC #[aA aK M1 M2,az aJ MP],aD bt])/\Below w.heap.size w w'):=hM
     have LX:Hid (bt=true↔Ge.dG e f≠0/\Ge.hq (Ge.gA e f) e=true/\Ge.hq (Ge.gA e f) f=true):=LV;have Rj:Hid (bt=true->aC #[aA aK M1 M2,az aJ MP]=ja vn/\Ge.Can vn/\Ge.aX vn=Ge.gA e f/\eI vn.1 vn.2.1 vn.2.2):=LW;have HF:Hid (es[j]?=some f):=hf;obtain⟨ya,yb,ys,yc,yd,ye,yf⟩:=y;simp only[EB.cells] at HM s0 s1 s2 s3 a0 a1 a2 a3;have GK:(j:Int)<(i:Int):=aa
     have ZN:=hI.lt;clear hM LV LW f0 f1 f2 f3 hy hf kX
     go_wp2_with (first |(simp only[gN];go_simp)|(simp only[oV];go_simp))
     have Ee:Below wr.heap.size wr (wr.alloc (.cells #[aA aK ya yb,aB aK ys,aA aK yc yd,aA aK ye yf] 124)):=(Below.refl _ _).alloc (aY _) _;refine(HM.out _).mono ?_;rintro e5 w5 ⟨rfl,bg⟩;have LY:=hI.keep (Ee.trans (bg.mono Ee.size));clear a0 a1 a2 a3 s0 s1 s2 s3 Ee bg HM hI iM ZN;cases bt
     .have ZO:=LY.skip HF.out (λh=>by have:=LX.out.2 h;cases this)
      have l9:=LY.nl.below;have Ef:Hid (∀o,vo w B ⟨wa,wb,sh,fa,fb,ta,tb⟩ e es i (j+1) u3 L' (w5.alloc o)):=λo=>ZO.keep ((Below.refl w5.heap.size w5).alloc (aY _) o)
      clear Rj LX ZO
      go_wp2_with (simp only[gN];go_simp)
      go_roundg (gk-1)
      case measure=>omega
      case rel=>exact⟨j+1,aa,ai,⟨_,Ef.out _⟩⟩
     .obtain⟨Br,ZQ,ZR,Eg⟩:=Rj.out rfl;have ZT:=LX.out.1 rfl;have hnc:jc vn=[aA aK M1 M2,az aJ MP]:=by
       unfold ja at Br;injection Br with Br;have:=aZ Array.toList Br;exact this.symm
      have G8:Hid (jc vn=[aA aK M1 M2,az aJ MP]/\Ge.Can vn/\Ge.aX vn=Ge.gA e f/\eI vn.1 vn.2.1 vn.2.2):=⟨hnc,ZQ,ZR,Eg⟩;have ZU:Hid (Ge.dG e f≠0/\Ge.hq (Ge.gA e f) e=true/\Ge.hq (Ge.gA e f) f=true):=ZT;have Eh:=LY.keep ((Below.refl w5.heap.size w5).alloc (aY _) (.cells #[aA aK M1 M2,az aJ MP] 83));have iw:=Eh.nl.own;have atd:=Eh.len;have LA:=Eh.nl.below.size;have yR:=heap_alloc_new w5 (.cells #[aA aK M1 M2,az aJ MP] 83);clear Rj LX Br ZQ ZR Eg ZT hnc LY
      go_wp2_with (first
       |(at_builtin;refine wpList_append_lies _ rfl (.tmp 41) (.tmp 43) 138 rfl w.heap.size 83 i0 _ 2 24 underlying138 hi hz0 hz1 hz2 rfl ah u3 L'.length (eF L') rfl (bB iw (λk hk=>Below.heap_alloc _ _ _ (bn iw k hk).2)) ⟨w5.heap.size+1,0,none⟩ 1 1 [aA aK M1 M2,az aJ MP] rfl rfl (World.news_of_block (cs:= #[aA aK M1 M2,az aJ MP]) (t:=83) (fr:=(0,0)) (by have:=heap_alloc_new (w5.alloc (.cells #[aA aK M1 M2,az aJ MP] 83)) (.cells #[aA aK M1 M2,az aJ MP] 83);simpa using this)) (by simp[Value.oneCell']) ah (by unfold maxLen;omega) aa (by simp at LA⊢;omega) (w5.heap.size+2) af ?_;intro g2 cap2 w9 Bt Bu ZV rP)
       |(simp only[gN];go_simp))
      have HN9:Hid (vo w B ⟨wa,wb,sh,fa,fb,ta,tb⟩ e es i (j+1) (aG (some ⟨g2,0,none⟩) (L'.length+1) cap2) (L'++[vn]) w9):=by
       have qT:=Eh.keep ((Below.refl (w5.alloc (.cells #[aA aK M1 M2,az aJ MP] 83)).heap.size _).alloc (aY _) (.cells #[aA aK M1 M2,az aJ MP] 83));have hne:some B≠u3.ownBlock:=λh=>qT.ne h.symm
       have G9:=qT.lt;refine⟨⟨?_,qT.nl.below.grown Bu qT.nl.below.size (λk hk=>(bn qT.nl.own k hk).1),λn hn=>?_,λn hn=>?_⟩,?_,?_,(Bu.cell_far ⟨B,0,none⟩ G9 hne).trans qT.c0,(Bu.cell_far ⟨B,1,none⟩ G9 hne).trans qT.c1,(Bu.cell_far ⟨B,2,none⟩ G9 hne).trans qT.c2,(Bu.cell_far ⟨B,3,none⟩ G9 hne).trans qT.c3,λq=>?_,by rw[bY];show L'.length+1<=_;omega⟩
       .rw[Rb,G8.out.1,bY];exact Bt
       .rcases dv.1 hn with h|h
        .exact qT.nl.can n h
        .rw[dh.1 h];exact G8.out.2.1
       .rcases dv.1 hn with h|h
        .exact qT.nl.bu n h
        .rw[dh.1 h];exact G8.out.2.2.2
       .exact bW G9 Bu.size
       .show some g2≠some B;intro h;injection h with h;rcases ZV with h9|h9
        .exact qT.ne (by rw[h9,h])
        .have:=Eh.lt;simp at this;omega
       .have h1:=qT.iff q;rw[ZG HF.out q];constructor
        .rintro⟨n,hn,h⟩;rcases dv.1 hn with hn|hn
         .rcases h1.1 ⟨n,hn,h⟩ with h|h|h|h
          .exact aU h
          .exact aT (aU h)
          .exact aT (aT (aU h))
          .exact aT (aT (aT (aU h)))
         .rw[dh.1 hn,G8.out.2.2.1] at h;exact aT (aT (aT (aT ⟨ZU.out.1,h.symm,ZU.out.2⟩)))
        .rintro(h|h|h|h|h)
         .obtain⟨n,hn,h⟩:=h1.2 (aU h);exact⟨n,by simp[hn],h⟩
         .obtain⟨n,hn,h⟩:=h1.2 (aT (aU h));exact⟨n,by simp[hn],h⟩
         .obtain⟨n,hn,h⟩:=h1.2 (aT (aT (aU h)));exact⟨n,by simp[hn],h⟩
         .obtain⟨n,hn,h⟩:=h1.2 (aT (aT (aT h)));exact⟨n,by simp[hn],h⟩
         .exact⟨vn,af,by rw[G8.out.2.2.1,h.2.1]⟩
      clear Bt Bu iw Eh ZV rP yR
      go_roundg (gk-1)
      case measure=>omega
      case rel=>exact⟨j+1,aa,ai,⟨_,HN9.out⟩⟩
    .have hj:j=i:=aa
     subst hj;have cV:Hid (NS w u3 (es.take (j+1)) ((j+1)*404) wr):=by
      have htk:es.take (j+1)=es.take j++[e]:=by rw[jF,HEI.out];rfl
      refine⟨L',hI.nl,λq=>?_,by have:=hI.len;omega⟩
      rw[htk,Ge.aj3,hI.iff q]
     clear kX hI
     go_wp2_with fail
     go_roundg (m1-1)
     case measure=>omega
     case rel=>exact⟨j+1,aa,ai,cV⟩
  .have hk:i=es.length:=aa
   subst hk;have HF:Hid (NS w u3 es (es.length*404) wr):=by
    have:=HE.out;rw[fO] at this;exact this
   clear HE HR;obtain⟨L,Eb,G5,kZ⟩:=HF.out;have hL2:L.length<=200000:=aa
   go_wp2_with fail
   refine(HS.out _ L _ Eb hL2).mono ?_;rintro e w5 ⟨rfl,S,hS,hmem,hlen,hpw⟩
   go_wp2_with fail
   refine(HK.out _ S _ hS aa).mono ?_
   rintro e w6 ⟨v',rfl,ZW,bp⟩;have Ei:Hid (jk w6 v' (Ge.dL S)):=ZW;have ZX:Hid (S.length<=200000/\∀q,(∃n∈S,Ge.aX n=q)↔Ge.isNode es q):=⟨aa,λq=>by
    rw[<-G5 q];constructor
    .rintro⟨n,hn,h⟩;exact⟨n,(hmem n).1 hn,h⟩
    .rintro⟨n,hn,h⟩;exact⟨n,(hmem n).2 hn,h⟩⟩
   have HPW:Hid (S.Pairwise Ge.le):=hpw;have Rk:Hid (NL w u3 S w5):=hS;clear ZW G5 hmem hpw hS Eb HF HS HK
   go_wp2_with fail
   go_ret
   exact⟨v',Ge.dL S,rfl,Ei.out,bp,Ge.aj4 es S Rk.out.can HPW.out ZX.out.2,λn hn=>Rk.out.bu n ((Ge.Bq S n).1 hn),fN (ZF S) ZX.out.1,λn hn=>Rk.out.can n ((Ge.Bq S n).1 hn)⟩
namespace Ge
theorem ZY:∀(l:List Nd)(y x:Nd),l.getLast?=some y->dL (l++[x])=if x=y then dL l else dL l++[x]
 |[],_,_,h=>by simp at h
 |[a],y,x,h=>by
  have e:a=y:=by simpa using h
  subst e;have e1:dL [a,x]=if a=x then dL [x] else a::dL [x]:=by simp[dL]
  have e2:∀z:Nd,dL [z]=[z]:=λz=>by rw[dL]
  show dL [a,x]=_;rw[e1,e2,e2];by_cases hx:x=a
  .subst hx;rw[aV rfl,aV rfl]
  .rw[aQ (λh=>hx h.symm),aQ hx]
   rfl
 |a::b::r,y,x,h=>by
  have ih:=ZY (b::r) y x (by simpa using h)
  show dL (a::b::(r++[x]))=_;have e1:dL (a::b::(r++[x]))=if a=b then dL (b::(r++[x])) else a::dL (b::(r++[x])):=by rw[dL]
  have e2:dL (a::b::r)=if a=b then dL (b::r) else a::dL (b::r):=by rw[dL]
  have e3:dL (b::(r++[x]))=if x=y then dL (b::r) else dL (b::r)++[x]:=ih
  rw[e1,e2,e3];by_cases hx:x=y
  .simp only[hx,kP]
  .by_cases hab:a=b<;>simp[hx,hab]
theorem ZZ(zs:List Nd):∀m,m<=zs.length->Lib.compactUpTo zs.toArray m=dL (zs.take m)
 |0,_=>by simp[Lib.compactUpTo,dL]
 |m+1,h=>by
  have hlt:m<zs.length:=h;rw[Lib.compactUpTo_succ,ZZ zs m aa,pH hlt]
  have hg:zs.toArray[m]! =zs[m]:=by rw[jh zs.toArray m (by simpa using hlt)];simp
  rcases Nat.eq_zero_or_pos m with h0|h0
  .subst h0;rw[Lib.keeps_lt_one _ 0 aa,hg]
   simp[dL]
  .have hp:m-1<zs.length:=aa
   have hl:(zs.take m).getLast?=some zs[m-1]:=by
    rw[pG,iB,show min m zs.length-1=m-1 by omega,kQ,aV aa,bo hp]
   have hg2:zs.toArray[m-1]! =zs[m-1]:=by rw[jh zs.toArray (m-1) (by simpa using hp)];simp
   rw[ZY _ _ _ hl];by_cases hx:zs[m]=zs[m-1]
   .rw[Lib.keeps_neg h0 (by rw[hg,hg2];exact hx),aV hx]
    simp
   .rw[Lib.keeps_pos (by rw[hg,hg2];exact hx),aQ hx,hg]
    simp
theorem Z0(d:Array Nd):Lib.compactUpTo d d.size=dL d.toList:=by
 have h:=ZZ d.toList d.toList.length (aY _);rw[fO] at h;simpa using h
end Ge
theorem Hc(L:List Ge.Nd):(eF L).length=L.length*2:=by
 induction L with
 |nil=>rfl
 |cons n L ih=>
  have e:eF (n::L)=jc n++eF L:=by simp[eF]
  rw[e,bY,ih,dw];show 2+_=_;omega
structure RW(w:aM)(g cap n:Nat)(d:Array Ge.Nd)(wr:aM):Prop where
 size:d.size=n
 own:wr.ownsRow w.heap.size 83 2 (aG (some ⟨g,0,none⟩) n cap) n (eF d.toList)
 below:aj w wr
theorem Z3:∀(l:List Ge.Nd)(k:Nat),(eF l).take (k*2)=eF (l.take k)
 |[],k=>by simp[eF]
 |a::l,0=>by simp[eF]
 |a::l,k+1=>by
  have ih:=Z3 l k;have e:∀(b:Ge.Nd)(r:List Ge.Nd),eF (b::r)=aA aK (aO aK b.1) (aO aK b.2.1):: az aJ b.2.2::eF r:=λb r=>by simp[eF,jc]
  rw[Fk,e,e,<-ih];have e1:(k+1)*2=k*2+1+1:=aa
  rw[e1,Fk,Fk]
theorem RW.blk{d:Array Ge.Nd}(h:RW w g cap n d wr):∃cur,w.heap.size<=g/\wr.heap[g]?=some (.cells cur 83 (0,0))/\n<=cap/\cap<=maxLen/\cur.size=cap*2/\cur.toList.take (n*2)=eF d.toList:=by
 rcases h.own.2 with⟨hv,_⟩|⟨g',cap',cur,hv,h1,h2,h3,h4,h5,h6⟩
 .simp at hv
 .simp only[Value.slice.injEq,Option.some.injEq,Addr.mk.injEq] at hv;obtain⟨⟨rfl,_⟩,_,rfl⟩:=hv;exact⟨cur,h1,h2,h3,h4,h5,h6⟩
theorem RW.cells{d:Array Ge.Nd}(h:RW w g cap n d wr)(i:Nat)(hi:i<n):
  wr.cell? ⟨g,i*2,none⟩=some (aA aK (aO aK (d[i]!).1) (aO aK (d[i]!).2.1))/\wr.cell? ⟨g,i*2+1,none⟩=some (az aJ (d[i]!).2.2)/\wr.frozen? ⟨g,i*2,none⟩=false/\wr.frozen? ⟨g,i*2+1,none⟩=false:=by
 obtain⟨cur,_,hb,_,_,hs,htk⟩:=h.blk;have hd:i<d.size:=by rw[h.size];exact hi
 have hx:d.toList[i]?=some d[i]! :=by rw[jP,pJ hd,jh d i hd]
 have k0:=GZ _ _ _ hx 0 aa
 have k1:=GZ _ _ _ hx 1 aa
 rw[<-htk,kQ,aV aa,jP] at k0 k1
 refine⟨?_,?_,bK hb _,bK hb _⟩
 .unfold World.cell?;rw[hb];exact k0
 .unfold World.cell?;rw[hb];exact k1
theorem Z4:∀(l:List Ge.Nd)(k:Nat)(x:Ge.Nd),k<l.length->eF (l.set k x)=((eF l).set (k*2) (aA aK (aO aK x.1) (aO aK x.2.1))).set (k*2+1) (az aJ x.2.2)
 |[],_,_,h=>by simp at h
 |a::l,0,x,_=>by simp[eF,jc]
 |a::l,k+1,x,h=>by
  have ih:=Z4 l k x (by simpa using h)
  have e:∀(b:Ge.Nd)(r:List Ge.Nd),eF (b::r)=aA aK (aO aK b.1) (aO aK b.2.1):: az aJ b.2.2::eF r:=λb r=>by simp[eF,jc]
  rw[dD,e,e,ih];have e1:(k+1)*2=k*2+1+1:=aa
  rw[e1,dD,dD,dD,dD]
theorem RW.set{d:Array Ge.Nd}(h:RW w g cap n d wr)(k:Nat)(hk:k<n)(x:Ge.Nd):
  RW w g cap n (d.setIfInBounds k x) ((wr.setCell ⟨g,k*2,none⟩ (aA aK (aO aK x.1) (aO aK x.2.1))).setCell ⟨g,k*2+1,none⟩ (az aJ x.2.2)):=by
 obtain⟨cur,hg,hb,hnc,hcm,hs,htk⟩:=h.blk;have hb1:(wr.setCell ⟨g,k*2,none⟩ (aA aK (aO aK x.1) (aO aK x.2.1))).heap[g]?=some (.cells (cur.setIfInBounds (k*2) (aA aK (aO aK x.1) (aO aK x.2.1))) 83 (0,0)):=by
  rw[setCell_eq_setRow wr g (k*2) cur 83 (0,0) _ hb];exact setRow_heap _ _ _ _ _ _ hb
 have hb2:((wr.setCell ⟨g,k*2,none⟩ (aA aK (aO aK x.1) (aO aK x.2.1))).setCell ⟨g,k*2+1,none⟩ (az aJ x.2.2)).heap[g]?=some (.cells ((cur.setIfInBounds (k*2) (aA aK (aO aK x.1) (aO aK x.2.1))).setIfInBounds (k*2+1) (az aJ x.2.2)) 83 (0,0)):=by
  rw[setCell_eq_setRow _ g (k*2+1) _ 83 (0,0) _ hb1];exact setRow_heap _ _ _ _ _ _ hb1
 have hd:k<d.toList.length:=by rw[jr,h.size];exact hk
 refine⟨by rw[Au];exact h.size,⟨?_,aT ⟨g,cap,_,rfl,hg,hb2,hnc,hcm,?_,?_⟩⟩,(h.below.setCell hg _).setCell hg _⟩
 .rw[Hc,jr,Au,h.size]
 .rw[Au,Au];exact hs
 .rw[OQ,OQ,OQ,Z4 _ _ _ hd,<-htk,agm,agm]
theorem RW.clear{d:Array Ge.Nd}(h:RW w g cap n d wr)(k:Nat)(hk:k<n)(c:Nat):
  ∃w',(∀ty,(Builtin.clear_ #[138] ty #[aG (some ⟨g,k*2,none⟩) (n-k) c]).run prog wr=.ok (aI #[]) w')/\aj w w'/\jk w' (aG (some ⟨g,0,none⟩) k cap) (d.toList.take k):=by
 obtain⟨cur,hg,hb,hnc,hcm,hs,htk⟩:=h.blk;have hzl:(Builtin.zeroCells (Value.agg #[aA aK 0 0,az aJ 0]).cells (n-k)).toList.length=(n-k)*2:=by
  rw[jr];unfold Builtin.zeroCells;rw[Array.size_map,Array.size_range];rfl
 have hone:∀v∈(Builtin.zeroCells (Value.agg #[aA aK 0 0,az aJ 0]).cells (n-k)).toList,v.oneCell'=true:=by
  intro v hv;unfold Builtin.zeroCells at hv;simp only[Array.toList_map,bQ] at hv;obtain⟨i,_,rfl⟩:=hv;have e:(Value.agg #[aA aK 0 0,az aJ 0]).cells= #[aA aK 0 0,az aJ 0]:=rfl;rw[e];show(#[Value.complex aK 0 0,az aJ 0][i%2]!).oneCell'=true;have h2:i%2=0\/i%2=1:=aa
  rcases h2 with h2|h2<;>rw[h2]<;>rfl
 have hst:=run_storeCells_at prog g (k*2) 83 _ 0 cur wr hb (by rw[hzl,hs];omega) hone
 simp only[rA] at hst;rw[hzl] at hst;generalize mZ:(Builtin.zeroCells (Value.agg #[aA aK 0 0,az aJ 0]).cells (n-k)).toList=Z at*;have DU:=setRow_heap wr g cur (cur.toList.take (k*2)++Z++cur.toList.drop (k*2+(n-k)*2)).toArray _ _ hb;refine⟨wr.setRow g (cur.toList.take (k*2)++Z++cur.toList.drop (k*2+(n-k)*2)).toArray,λty=>?_,?_,?_,aT ⟨g,cap,_,?_,iA _,DU,?_,hcm,?_,?_⟩⟩
 .obtain⟨m,hm⟩:∃m,n-k=m+1:=⟨n-k-1,aa⟩
  rw[hm] at hst mZ⊢;simp[Builtin.clear_,run_underlying underlying138,mZ,hst]
 .refine h.below.trans ⟨rfl,rfl,rfl,af,λj hj=>setRow_other _ _ _ _ aa⟩
 .rw[Hc]
 .have e:(d.toList.take k).length=k:=by rw[iB,jr,h.size];omega
  rw[e]
 .rw[iB,jr,h.size];omega
 .simp only[agG,bY,iB,uB,jr,hzl,hs];omega
 .have e:(d.toList.take k).length=k:=by rw[iB,jr,h.size];omega
  rw[e];show((cur.toList.take (k*2)++_++_).take (k*2))=_;rw[fH,agH (by rw[iB,jr,hs];omega),Av,Nat.min_self]
  have e2:cur.toList.take (k*2)=(cur.toList.take (n*2)).take (k*2):=by rw[Av,CW aa]
  rw[e2,htk];exact Z3 _ _
theorem Z5{d:Array Ge.Nd}(h:∀j,j<d.size->Lib.keeps d j=true):Ge.dL d.toList=d.toList:=by
 rw[<-Ge.Z0,Lib.compactUpTo_all _ _ h,Lib.range_map_get]
theorem RW.rd{d:Array Ge.Nd}(h:RW w g cap n d wr):jk wr (aG (some ⟨g,0,none⟩) n cap) d.toList:=by
 obtain⟨cur,hg,hb,hnc,hcm,hs,htk⟩:=h.blk;have e:d.toList.length=n:=by rw[jr,h.size]
 exact⟨by rw[Hc],aT ⟨g,cap,cur,by rw[e],iA _,hb,by rw[e];exact hnc,hcm,hs,by rw[e];exact htk⟩⟩
theorem Z6(x y:Ge.Nd)(hx:eI x.1 x.2.1 x.2.2)(hy:eI y.1 y.2.1 y.2.2)(w:aM):
  (Op.equalIn 10000 83 (aC #[aA aK (aO aK x.1) (aO aK x.2.1),az aJ x.2.2]) (aC #[aA aK (aO aK y.1) (aO aK y.2.1),az aJ y.2.2])).run prog w=.ok (decide (x=y)) w:=by
 obtain⟨a1,a2⟩:=tT hx;obtain⟨b1,b2⟩:=tT hy;have q1:=uO a1 b1;have q2:=uO a2 b2;obtain⟨x1,x2,x3⟩:=x;obtain⟨y1,y2,y3⟩:=y;simp only at q1 q2⊢;generalize aO aK x1=X1 at*;generalize aO aK x2=X2 at*;generalize aO aK y1=Y1 at*;generalize aO aK y2=Y2 at*;have hdec:decide ((x1,x2,x3)=(y1,y2,y3))=(decide (x1=y1)&&decide (x2=y2)&&decide (x3=y3)):=by
  simp[Prod.mk.injEq,Bool.and_assoc]
 have e1:Op.floatEq aK X1 Y1=decide (x1=y1):=q1;have e2:Op.floatEq aK X2 Y2=decide (x2=y2):=q2;rw[hdec];rw[run_equalIn_agg w 9999 83 _ _ ag ag]
 have hc:∀w,(Op.equalIn 9999 81 (aA aK X1 X2) (aA aK Y1 Y2)).run prog w=.ok (decide (x1=y1)&&decide (x2=y2)) w:=λw=>by
  show(Op.equalIn (9998+1) 81 (aA aK X1 X2) (aA aK Y1 Y2)).run prog w=_;rw[Op.equalIn,Sem.run_bind,run_underlying underlying81,Result.andThen_ok,<-e1,<-e2];rfl
 clear q1 q2 e1 e2 hdec;simp[go_sem,hc]
 by_cases h1:x1=y1<;>by_cases h2:x2=y2<;>by_cases h3:x3=y3<;>simp[h1,h2,h3]
theorem Hd(x y:Ge.Nd)(hx:eI x.1 x.2.1 x.2.2)(hy:eI y.1 y.2.1 y.2.2)(w:aM):
  (binOp .eql 83 (aC #[aA aK (aO aK x.1) (aO aK x.2.1),az aJ x.2.2]) (aC #[aA aK (aO aK y.1) (aO aK y.2.1),az aJ y.2.2])).run prog w=.ok (aD (decide (x=y))) w:=by
 rw[run_eql_struct,Z6 x y hx hy w];rfl
theorem aka(x y:Ge.Nd)(hx:eI x.1 x.2.1 x.2.2)(hy:eI y.1 y.2.1 y.2.2)(w:aM):
  (binOp .neq 83 (aC #[aA aK (aO aK x.1) (aO aK x.2.1),az aJ x.2.2]) (aC #[aA aK (aO aK y.1) (aO aK y.2.1),az aJ y.2.2])).run prog w=.ok (aD (!decide (x=y))) w:=by
 rw[run_neq_struct,Z6 x y hx hy w];rfl
structure mJ(n:Ge.Nd):Prop where
 x:n.1.natAbs<=3000000
 y:n.2.1.natAbs<=3000000
 d:0<n.2.2/\n.2.2<=20000
theorem mJ.bu{n:Ge.Nd}(h:mJ n):eI n.1 n.2.1 n.2.2:=⟨by have:=h.x;omega,by have:=h.y;omega,by have:=h.d;omega⟩
theorem akb{a s c d t:Nat}{l m:Ge.Ln}(hl:qP a b s l)(hm:qP c d t m)(b1:sm l.1)(b2:sm l.2.1)(b3:sm m.1)(b4:sm m.2.1)(w:aM):
  ak 161 #[aC #[aA aK a b,aB aK s],aC #[aA aK c d,aB aK t]] w λe w'=>e=aL (az aJ (l.1*m.1+l.2.1*m.2.1).sign)/\aj w w':=by
 obtain⟨re,im,f1,_,ht⟩:=Qp hl.a hl.b hm.a hm.b b1 b2 b3 b4;have hc:=λw=>Bo f1 mF w
 have e1:(l.1*m.1+l.2.1*m.2.1-0).sign=(l.1*m.1+l.2.1*m.2.1).sign:=by rw[CR]
 rw[e1] at hc;have HT:Hid (∀w,ak 98 #[aA aK a b,aA aK c d] w λe w'=>e=aL (aA aK re im)/\w'=w):=ht
 have HC:Hid (∀w,ak 183 #[aB aK re,aB aK 0] w λr w'=>r=aL (az aJ (l.1*m.1+l.2.1*m.2.1).sign)/\w'=w):=hc
 generalize(l.1*m.1+l.2.1*m.2.1).sign=R at*;clear ht hc f1 e1;have hb0:aj w ((w.alloc (.cells #[aA aK a b,aB aK s] 122)).alloc (.cells #[aA aK c d,aB aK t] 122)):=(aw _ _).alloc af _
 go_enter func161,ntmps161
 go_wp2_with fail
 refine(HT.out _).mono ?_;rintro e w1 ⟨rfl,rfl⟩
 go_wp2_with fail
 refine(HC.out _).mono ?_;rintro e w2 ⟨rfl,rfl⟩
 go_wp2_with fail
 go_ret
 exact⟨rfl,hb0⟩
structure PB where
 wa:Nat
 wb:Nat
 sh:Nat
 f:Ge.Nd
 t:Ge.Nd
def PB.cells(x:PB):List aN:=[aA aK x.wa x.wb,aB aK x.sh,aA aK (aO aK x.f.1) (aO aK x.f.2.1),az aJ x.f.2.2,aA aK (aO aK x.t.1) (aO aK x.t.2.1),az aJ x.t.2.2]
theorem akc(x:PB)(hf:mJ x.f)(ht:mJ x.t):
  ∃n:Ge.Nd,Ge.Can n/\Ge.aX n=(Ge.bC (x.f.1+x.t.1) (x.f.2.2+x.t.2.2),Ge.bC (x.f.2.1+x.t.2.1) (x.f.2.2+x.t.2.2))/\eI n.1 n.2.1 n.2.2/\∀w,ak 160 #[aC x.cells.toArray] w λe w'=>e=aL (ja n)/\aj w w':=by
 obtain⟨a1,a2⟩:=tT hf.bu;obtain⟨b1,b2⟩:=tT ht.bu;have hfx:=hf.x;have hfy:=hf.y;have hfd:=hf.d;have htx:=ht.x;have hty:=ht.y;have htd:=ht.d;obtain⟨re,im,e,f1,f2⟩:=ah8 a1 a2 b1 b2 aa aa
 obtain⟨n,hc,hq,hn,hN⟩:=LH (x.f.2.2+x.t.2.2) f1 f2 aa aa aa
 refine⟨n,hc,hq,hn,λw=>?_⟩
 have HN:Hid (∀w,ak 37 #[aA aK re im,az aJ (x.f.2.2+x.t.2.2)] w λe w'=>e=aL (ja n)/\aj w w'):=hN
 have hop:=λt w=>run_complex_sum (P:=prog) w .add (aU rfl) t aK _ _ _ _ re im e
 unfold ja at HN⊢;obtain⟨wa,wb,sh,⟨x1,x2,x3⟩,y1,y2,y3⟩:=x;simp only[PB.cells] at*;generalize aO aK x1=X1 at*;generalize aO aK x2=X2 at*;generalize aO aK y1=Y1 at*;generalize aO aK y2=Y2 at*;clear hN hq e f1 f2 a1 a2 b1 b2 hc hn hf ht;generalize aO aK n.1=N1 at*;generalize aO aK n.2.1=N2 at*;have hw3:IntKind.i64.wrap (x3+y3)=x3+y3:=by rw[IntKind.wrap_i64];omega
 have hb0:aj w ((w.alloc (.cells #[aA aK wa wb,aB aK sh,aA aK X1 X2,az aJ x3,aA aK Y1 Y2,az aJ y3] 171)).alloc (.cells #[aA aK 0 0,az aJ 0] 83)):=(aw _ _).alloc af _
 have hE:=heap_alloc_new (w.alloc (.cells #[aA aK wa wb,aB aK sh,aA aK X1 X2,az aJ x3,aA aK Y1 Y2,az aJ y3] 171)) (.cells #[aA aK 0 0,az aJ 0] 83);have hz:(w.alloc (.cells #[aA aK wa wb,aB aK sh,aA aK X1 X2,az aJ x3,aA aK Y1 Y2,az aJ y3] 171)).heap.size=w.heap.size+1:=af
 have hz2:((w.alloc (.cells #[aA aK wa wb,aB aK sh,aA aK X1 X2,az aJ x3,aA aK Y1 Y2,az aJ y3] 171)).alloc (.cells #[aA aK 0 0,az aJ 0] 83)).heap.size=w.heap.size+2:=af
 rw[hz] at hE
 go_enter func160,ntmps160
 go_wp2_with (simp only[hop])
 generalize(w.alloc (.cells #[aA aK wa wb,aB aK sh,aA aK X1 X2,az aJ x3,aA aK Y1 Y2,az aJ y3] 171)).alloc (.cells #[aA aK 0 0,az aJ 0] 83)=W at*;refine(HN.out _).mono ?_;rintro e w1 ⟨rfl,hb1⟩;have jt:=(hb1.block (w.heap.size+1) aa).trans hE
 have e0:=cH jt;have e1:=cD jt;have z0:=bK jt 0;have z1:=bK jt 1;have aW:=hb0.trans (hb1.mono hb0.size);clear hop hw3
 go_wp2_with (simp only[gN];go_simp)
 refine bodyPost_ret (v:=aC #[aA aK N1 N2,az aJ n.2.2]) (by simp[results,results160,go_sem,e0,e1]) rfl ⟨rfl,?_⟩
 exact(aW.setCell (p:=⟨w.heap.size+1,0,none⟩) (pI _) _).setCell (p:=⟨w.heap.size+1,1,none⟩) (pI _) _
def cE(x y:Ge.Nd):Int:=Ge.pc (Ge.aX x) (Ge.aX y)
def Ej(x y:PB):Int:=if cE x.f y.f=0 then cE x.t y.t else cE x.f y.f
structure dX(x:PB):Prop where
 f:mJ x.f
 t:mJ x.t
 cf:Ge.Can x.f
 ct:Ge.Can x.t
theorem akd(a1 b1 s1 a2 b2 s2 F1 F2 T1 T2 G1 G2 H1 H2:Nat)(F3 T3 G3 H3 p q R:Int)(w:aM)
  (HO:Hid (∀b cap w,w.cell? ⟨b,0,none⟩=some (az aJ p)->w.cell? ⟨b,1,none⟩=some (az aJ q)->ak 182 #[aG (some ⟨b,0,none⟩) 2 cap] w λr w'=>r=aL (az aJ R)/\w'=w))
  (HF:Hid (∀w,ak 125 #[aC #[aA aK F1 F2,az aJ F3],aC #[aA aK G1 G2,az aJ G3]] w λe w'=>e=aL (az aJ p)/\Below w.heap.size w w'/\w.drawn<=w'.drawn))
  (HT:Hid (∀w,ak 125 #[aC #[aA aK T1 T2,az aJ T3],aC #[aA aK H1 H2,az aJ H3]] w λe w'=>e=aL (az aJ q)/\Below w.heap.size w w'/\w.drawn<=w'.drawn)):
  ak 157 #[aC #[aA aK a1 b1,aB aK s1,aA aK F1 F2,az aJ F3,aA aK T1 T2,az aJ T3],aC #[aA aK a2 b2,aB aK s2,aA aK G1 G2,az aJ G3,aA aK H1 H2,az aJ H3]] w λe w'=>e=aL (az aJ R)/\Below w.heap.size w w'/\w.drawn<=w'.drawn:=by
 have hX:((w.alloc (.cells #[aA aK a1 b1,aB aK s1,aA aK F1 F2,az aJ F3,aA aK T1 T2,az aJ T3] 171)).alloc (.cells #[aA aK a2 b2,aB aK s2,aA aK G1 G2,az aJ G3,aA aK H1 H2,az aJ H3] 171)).heap[w.heap.size]?=some (.cells #[aA aK a1 b1,aB aK s1,aA aK F1 F2,az aJ F3,aA aK T1 T2,az aJ T3] 171 (0,0)):=by
  rw[Below.heap_alloc _ _ _ af];exact heap_alloc_new _ _
 have hY:((w.alloc (.cells #[aA aK a1 b1,aB aK s1,aA aK F1 F2,az aJ F3,aA aK T1 T2,az aJ T3] 171)).alloc (.cells #[aA aK a2 b2,aB aK s2,aA aK G1 G2,az aJ G3,aA aK H1 H2,az aJ H3] 171)).heap[w.heap.size+1]?=some (.cells #[aA aK a2 b2,aB aK s2,aA aK G1 G2,az aJ G3,aA aK H1 H2,az aJ H3] 171 (0,0)):=by
  have:=heap_alloc_new (w.alloc (.cells #[aA aK a1 b1,aB aK s1,aA aK F1 F2,az aJ F3,aA aK T1 T2,az aJ T3] 171)) (.cells #[aA aK a2 b2,aB aK s2,aA aK G1 G2,az aJ G3,aA aK H1 H2,az aJ H3] 171);simpa using this
 have hb0:Below w.heap.size w ((w.alloc (.cells #[aA aK a1 b1,aB aK s1,aA aK F1 F2,az aJ F3,aA aK T1 T2,az aJ T3] 171)).alloc (.cells #[aA aK a2 b2,aB aK s2,aA aK G1 G2,az aJ G3,aA aK H1 H2,az aJ H3] 171)):=((Below.refl _ _).alloc (aY _) _).alloc af _
 have eO:w.heap.size+2=((w.alloc (.cells #[aA aK a1 b1,aB aK s1,aA aK F1 F2,az aJ F3,aA aK T1 T2,az aJ T3] 171)).alloc (.cells #[aA aK a2 b2,aB aK s2,aA aK G1 G2,az aJ G3,aA aK H1 H2,az aJ H3] 171)).heap.size:=af
 have hd0:w.drawn<=((w.alloc (.cells #[aA aK a1 b1,aB aK s1,aA aK F1 F2,az aJ F3,aA aK T1 T2,az aJ T3] 171)).alloc (.cells #[aA aK a2 b2,aB aK s2,aA aK G1 G2,az aJ G3,aA aK H1 H2,az aJ H3] 171)).drawn:=aY _
 go_enter func157,ntmps157
 go_wp2_with fail
 generalize(w.alloc (.cells #[aA aK a1 b1,aB aK s1,aA aK F1 F2,az aJ F3,aA aK T1 T2,az aJ T3] 171)).alloc (.cells #[aA aK a2 b2,aB aK s2,aA aK G1 G2,az aJ G3,aA aK H1 H2,az aJ H3] 171)=W at*;generalize hB:w.heap.size=B at*;have dV:B<W.heap.size:=aa
 have hzb:B+1<W.heap.size:=aa
 have a0:=dU hX;have a1:=jG hX;have a2:=sW hX;have a3:=wF hX;have a4:=dU hY;have a5:=jG hY;have a6:=sW hY;have a7:=wF hY;clear hX hY
 go_region_held3 (λw'=>w'.cell? ⟨B,2,none⟩=some (aA aK F1 F2)/\w'.cell? ⟨B,3,none⟩=some (az aJ F3)/\w'.cell? ⟨B,4,none⟩=some (aA aK T1 T2)/\w'.cell? ⟨B,5,none⟩=some (az aJ T3)/\w'.cell? ⟨B+1,2,none⟩=some (aA aK G1 G2)/\w'.cell? ⟨B+1,3,none⟩=some (az aJ G3)/\w'.cell? ⟨B+1,4,none⟩=some (aA aK H1 H2)/\w'.cell? ⟨B+1,5,none⟩=some (az aJ H3)) (go_keep) (first
   |(go_at_call_of 125 (Value.agg #[Value.complex FloatKind.f64 F1 F2,Value.int IntKind.i64 F3]);refine(HF.out _).mono ?_;rintro e w6 ⟨rfl,bp,GW⟩;have jI:B<w6.heap.size:=bW dV bp.size;have mG:B+1<w6.heap.size:=bW hzb bp.size;have b0:=aS bp a0 dV;have b1:=aS bp a1 dV;have b2:=aS bp a2 dV;have b3:=aS bp a3 dV;have b4:=aS bp a4 hzb;have b5:=aS bp a5 hzb;have b6:=aS bp a6 hzb;have b7:=(aS bp a7 hzb))
   |(go_at_call_of 125 (Value.agg #[Value.complex FloatKind.f64 T1 T2,Value.int IntKind.i64 T3]);refine(HT.out _).mono ?_;rintro e w7 ⟨rfl,bw,GX⟩;have rH:B<w7.heap.size:=bW jI bw.size;have hvb:B+1<w7.heap.size:=bW mG bw.size;have c0:=aS bw b0 jI;have c1:=aS bw b1 jI;have c2:=aS bw b2 jI;have c3:=aS bw b3 jI;have c4:=aS bw b4 mG;have c5:=aS bw b5 mG;have c6:=aS bw b6 mG;have c7:=(aS bw b7 mG))
   |(go_at_call 182;refine(HO.out _ _ _ (cell_of (heap_alloc_new _ _) 0) (cell_of (heap_alloc_new _ _) 1)).mono ?_;rintro e w8 ⟨rfl,tJ⟩;have pP:Below w7.heap.size w7 w8:=(by(rw[tJ];exact(Below.refl _ _).alloc (aY _) _));have Z7:w7.drawn<=w8.drawn:=(by(subst tJ;exact aY _));clear tJ;have d0:=aS pP c0 rH;have d1:=aS pP c1 rH;have d2:=aS pP c2 rH;have d3:=aS pP c3 rH;have d4:=aS pP c4 hvb;have d5:=aS pP c5 hvb;have d6:=aS pP c6 hvb;have d7:=(aS pP c7 hvb)))
 all_goals
  have aW:=((hb0.drew.trans (bp.mono (fh dV))).trans (bw.mono (fh jI))).trans (pP.mono (fh rH));have HD:Hid (w.drawn<=w8.drawn):=by
   have h1:W.drawn<=W.drew.drawn:=pI _;exact fN hd0 (fN h1 (fN GW (fN GX Z7)))
  clear bp bw pP hb0 GW GX Z7 hd0
  go_wp2_with fail
  go_ret
  exact⟨rfl,by rw[hB];exact aW,HD.out⟩
theorem ake(x y:PB)(hx:dX x)(hy:dX y)(w:aM):
  ak 157 #[aC x.cells.toArray,aC y.cells.toArray] w λr w'=>r=aL (az aJ (Ej x y))/\aj w w'/\w.drawn<=w'.drawn:=
 akd _ _ _ _ _ _ _ _ _ _ _ _ _ _ _ _ _ _ _ _ _ w (λb cap w h0 h1=>LM _ _ b cap w h0 h1) (λw=>GY x.f y.f hx.f.bu hy.f.bu hx.cf hy.cf w) (λw=>GY x.t y.t hx.t.bu hy.t.bu hx.ct hy.ct w)
theorem akf(a1 b1 s1 a2 b2 s2 F1 F2 T1 T2 G1 G2 H1 H2:Nat)(F3 T3 G3 H3:Int)(p q:Bool)(w:aM)
  (Gk:∀w,(binOp .eql 83 (aC #[aA aK F1 F2,az aJ F3]) (aC #[aA aK G1 G2,az aJ G3])).run prog w=.ok (aD p) w)
  (yU:∀w,(binOp .eql 83 (aC #[aA aK T1 T2,az aJ T3]) (aC #[aA aK H1 H2,az aJ H3])).run prog w=.ok (aD q) w):
  ak 159 #[aC #[aA aK a1 b1,aB aK s1,aA aK F1 F2,az aJ F3,aA aK T1 T2,az aJ T3],aC #[aA aK a2 b2,aB aK s2,aA aK G1 G2,az aJ G3,aA aK H1 H2,az aJ H3]] w λe w'=>e=aL (aD (p&&q))/\aj w w':=by
 have hb0:aj w ((w.alloc (.cells #[aA aK a1 b1,aB aK s1,aA aK F1 F2,az aJ F3,aA aK T1 T2,az aJ T3] 171)).alloc (.cells #[aA aK a2 b2,aB aK s2,aA aK G1 G2,az aJ G3,aA aK H1 H2,az aJ H3] 171)):=(aw _ _).alloc af _
 cases p
 .go_enter func159,ntmps159
  go_wp2_with (simp only[Gk,yU])
  go_ret
  exact⟨rfl,hb0⟩
 .go_enter func159,ntmps159
  go_wp2_with (simp only[Gk,yU])
  go_ret
  exact⟨rfl,hb0⟩
theorem Z8(x y:PB)(hx:dX x)(hy:dX y)(w:aM):
  ak 159 #[aC x.cells.toArray,aC y.cells.toArray] w λr w'=>r=aL (aD (decide (x.f=y.f)&&decide (x.t=y.t)))/\aj w w':=
 akf _ _ _ _ _ _ _ _ _ _ _ _ _ _ _ _ _ _ _ _ w (λw=>Hd x.f y.f hx.f.bu hy.f.bu w) (λw=>Hd x.t y.t hx.t.bu hy.t.bu w)
def PB.rev(x:PB):PB:=⟨Op.negFloat aK x.wa,Op.negFloat aK x.wb,Op.negFloat aK x.sh,x.t,x.f⟩
theorem akg(a b s A B' S F1 F2 T1 T2:Nat)(F3 T3:Int)(w:aM)
  (HR:Hid (∀w,ak 162 #[aC #[aA aK a b,aB aK s]] w λe w'=>e=aL (aC #[aA aK A B',aB aK S])/\Below w.heap.size w w')):
  ak 107 #[aC #[aA aK a b,aB aK s,aA aK F1 F2,az aJ F3,aA aK T1 T2,az aJ T3]] w λe w'=>e=aL (aC #[aA aK A B',aB aK S,aA aK T1 T2,az aJ T3,aA aK F1 F2,az aJ F3])/\Below w.heap.size w w':=by
 have hX:((w.alloc (.cells #[aA aK a b,aB aK s,aA aK F1 F2,az aJ F3,aA aK T1 T2,az aJ T3] 171)).alloc (.cells #[aA aK 0 0,aB aK 0,aA aK 0 0,az aJ 0,aA aK 0 0,az aJ 0] 171)).heap[w.heap.size]?=some (.cells #[aA aK a b,aB aK s,aA aK F1 F2,az aJ F3,aA aK T1 T2,az aJ T3] 171 (0,0)):=by
  rw[Below.heap_alloc _ _ _ af];exact heap_alloc_new _ _
 have hY:((w.alloc (.cells #[aA aK a b,aB aK s,aA aK F1 F2,az aJ F3,aA aK T1 T2,az aJ T3] 171)).alloc (.cells #[aA aK 0 0,aB aK 0,aA aK 0 0,az aJ 0,aA aK 0 0,az aJ 0] 171)).heap[w.heap.size+1]?=some (.cells #[aA aK 0 0,aB aK 0,aA aK 0 0,az aJ 0,aA aK 0 0,az aJ 0] 171 (0,0)):=by
  have:=heap_alloc_new (w.alloc (.cells #[aA aK a b,aB aK s,aA aK F1 F2,az aJ F3,aA aK T1 T2,az aJ T3] 171)) (.cells #[aA aK 0 0,aB aK 0,aA aK 0 0,az aJ 0,aA aK 0 0,az aJ 0] 171);simpa using this
 have hb0:Below w.heap.size w ((w.alloc (.cells #[aA aK a b,aB aK s,aA aK F1 F2,az aJ F3,aA aK T1 T2,az aJ T3] 171)).alloc (.cells #[aA aK 0 0,aB aK 0,aA aK 0 0,az aJ 0,aA aK 0 0,az aJ 0] 171)):=((Below.refl _ _).alloc (aY _) _).alloc af _
 have eO:w.heap.size+2=((w.alloc (.cells #[aA aK a b,aB aK s,aA aK F1 F2,az aJ F3,aA aK T1 T2,az aJ T3] 171)).alloc (.cells #[aA aK 0 0,aB aK 0,aA aK 0 0,az aJ 0,aA aK 0 0,az aJ 0] 171)).heap.size:=af
 go_enter func107,ntmps107
 go_wp2_with fail
 generalize(w.alloc (.cells #[aA aK a b,aB aK s,aA aK F1 F2,az aJ F3,aA aK T1 T2,az aJ T3] 171)).alloc (.cells #[aA aK 0 0,aB aK 0,aA aK 0 0,az aJ 0,aA aK 0 0,az aJ 0] 171)=W at*;generalize hB:w.heap.size=B at*;have dV:B<W.heap.size:=aa
 have hzb:B+1<W.heap.size:=aa
 have a0:=cH hX;have a1:=cD hX;have a2:=dU hX;have a3:=jG hX;have a4:=sW hX;have a5:=wF hX;have z0:=bK hY 0;have z1:=bK hY 1;have z2:=bK hY 2;have z3:=bK hY 3;have z4:=bK hY 4;have z5:=bK hY 5
 go_region_held3 (λw'=>w'.cell? ⟨B,0,none⟩=some (aA aK a b)/\w'.cell? ⟨B,1,none⟩=some (aB aK s)/\w'.cell? ⟨B,2,none⟩=some (aA aK F1 F2)/\w'.cell? ⟨B,3,none⟩=some (az aJ F3)/\w'.cell? ⟨B,4,none⟩=some (aA aK T1 T2)/\w'.cell? ⟨B,5,none⟩=some (az aJ T3)/\w'.frozen? ⟨B+1,0,none⟩=false/\w'.frozen? ⟨B+1,1,none⟩=false/\w'.frozen? ⟨B+1,2,none⟩=false/\w'.frozen? ⟨B+1,3,none⟩=false/\w'.frozen? ⟨B+1,4,none⟩=false/\w'.frozen? ⟨B+1,5,none⟩=false) (go_keep) (first
   |(go_at_call 162;refine(HR.out _).mono ?_;rintro e w5 ⟨rfl,bg⟩;have b0:=aS bg a0 dV;have b1:=aS bg a1 dV;have b2:=aS bg a2 dV;have b3:=aS bg a3 dV;have b4:=aS bg a4 dV;have b5:=aS bg a5 dV;have oY:=(bg.block (B+1) hzb).trans hY;have y0:=bK oY 0;have y1:=bK oY 1;have y2:=bK oY 2;have y3:=bK oY 3;have y4:=bK oY 4;have y5:=bK oY 5;have e0:=cH oY;have e1:=cD oY;have e2:=dU oY;have e3:=jG oY;have e4:=sW oY;have e5:=wF oY)
   |(simp only[gN,oV];go_simp))
 all_goals
  go_wp2_with fail
  refine bodyPost_ret (v:=aC #[aA aK A B',aB aK S,aA aK T1 T2,az aJ T3,aA aK F1 F2,az aJ F3]) (by simp[results,results107,go_sem,e0,e1,e2,e3,e4,e5]) rfl ⟨rfl,?_⟩
  have aW:=hb0.drew.trans (bg.mono (fh dV));rw[hB];exact((((((aW.setCell (p:=⟨B+1,0,none⟩) (pI _) _).setCell (p:=⟨B+1,1,none⟩) (pI _) _).setCell (p:=⟨B+1,2,none⟩) (pI _) _).setCell (p:=⟨B+1,3,none⟩) (pI _) _).setCell (p:=⟨B+1,4,none⟩) (pI _) _).setCell (p:=⟨B+1,5,none⟩) (pI _) _)
theorem akh(x:PB)(w:aM):
  ak 107 #[aC x.cells.toArray] w λe w'=>e=aL (aC x.rev.cells.toArray)/\aj w w':=
 akg _ _ _ _ _ _ _ _ _ _ _ _ w (λw=>Zv _ _ _ w)
theorem Rl{es:List Ed}(h:iL w v es)(hb:aj w w'):iL w' v es:=by
 obtain⟨xs,h1,h2,h3⟩:=h;exact⟨xs,h1,Bf h2 λk cur hc=>hb.block k (lt_of_heap hc),h3⟩
theorem aki(x y d:Int):Pl.xa x y d=(decide (d<1)||decide (60<d)|| !qK 100000 x|| !qK 100000 y):=by
 unfold Pl.xa qK;rw[lF];simp only[VA,yF,OS,JS];omega
theorem akj(s:ByteArray)(x y d:Int)(w:aM)(hm:s.size<=maxLen)(pU:Gl w):
  ak 17 #[aF s,az aJ x,az aJ y,az aJ d] w λe w'=>e=aL (Pl.D4 (Pl.iG s.data.toList x y d))/\aj w w':=by
 by_cases h0:(Pl.err s.data.toList).1=0
 .have hp2:=(zh h0).2.1;obtain⟨hro,hrl,kA,hel⟩:=Q5 h0;have HR:Hid (∀w1,Gl w1->ak 33 #[aF s] w1 λe w'=>aj w1 w'/\∃rb rv,e=aL (aI #[aH (some ⟨rb,0,none⟩),az aJ 0,az aJ 0])/\
    w'.cell? ⟨rb,6,none⟩=some rv/\rb<w'.heap.size/\wZ w' rv (Pl.rings s.data.toList)):=λw1 g1=>by
   refine(DW s w1 hm g1).mono ?_;rintro e w' ⟨hb,pv,rfl,kV⟩;obtain⟨rb,rfl,_,hR⟩:=kV h0;obtain⟨c,t,r,tv,rv,hc,hl',hbk,hown,Rm⟩:=hR;exact⟨hb,rb,rv,by rw[h0,hp2];rfl,cell_of hbk 6,lt_of_heap hbk,YX Rm⟩
  have zw:Hid (∀w1,ak 34 #[az aJ x,az aJ 100000] w1 λe w'=>e=aL (aD (qK 100000 x))/\w'=w1):=λw1=>K2 x 100000 w1 aa aa
  have vq:Hid (∀w1,ak 34 #[az aJ y,az aJ 100000] w1 λe w'=>e=aL (aD (qK 100000 y))/\w'=w1):=λw1=>K2 y 100000 w1 aa aa
  have hbad:=aki x y d;have hwd:Pl.xa x y d=true->Pl.iG s.data.toList x y d=(0,false,5,0):=λh=>by unfold Pl.iG;rw[aV h0,aV h]
  by_cases h1:d<1
  .rw[hwd (by rw[hbad];simp[h1])]
   simp only[Pl.D4];clear hwd hbad zw vq
   go_enter func17,ntmps17
   go_wp2_with fail
   refine(HR.out _ pU).mono ?_;rintro e w1 ⟨hb1,rb,rv,rfl,c6,hlt,zx⟩
   go_wp2_with fail
   refine bodyPost_ret (v:=aI #[az aJ 0,aD false,az aJ 5,az aJ 0]) (by simp[results,results17,go_sem]) rfl ⟨rfl,hb1⟩
  .by_cases h2:60<d
   .rw[hwd (by rw[hbad];simp[h2])]
    simp only[Pl.D4];clear hwd hbad zw vq
    go_enter func17,ntmps17
    go_wp2_with fail
    refine(HR.out _ pU).mono ?_;rintro e w1 ⟨hb1,rb,rv,rfl,c6,hlt,zx⟩
    go_wp2_with fail
    refine bodyPost_ret (v:=aI #[az aJ 0,aD false,az aJ 5,az aJ 0]) (by simp[results,results17,go_sem]) rfl ⟨rfl,hb1⟩
   .cases tU:qK 100000 x
    .rw[hwd (by rw[hbad,tU];simp)]
     rw[tU] at zw;simp only[Pl.D4];clear hwd hbad vq tU
     go_enter func17,ntmps17
     go_wp2_with fail
     refine(HR.out _ pU).mono ?_;rintro e w1 ⟨hb1,rb,rv,rfl,c6,hlt,zx⟩
     go_wp2_with fail
     refine(zw.out _).mono ?_;rintro e w2 ⟨rfl,rfl⟩
     go_wp2_with fail
     refine bodyPost_ret (v:=aI #[az aJ 0,aD false,az aJ 5,az aJ 0]) (by simp[results,results17,go_sem]) rfl ⟨rfl,hb1⟩
    .cases Bv:qK 100000 y
     .rw[hwd (by rw[hbad,Bv];simp)]
      rw[tU] at zw;rw[Bv] at vq;simp only[Pl.D4];clear hwd hbad tU Bv
      go_enter func17,ntmps17
      go_wp2_with fail
      refine(HR.out _ pU).mono ?_;rintro e w1 ⟨hb1,rb,rv,rfl,c6,hlt,zx⟩
      go_wp2_with fail
      refine(zw.out _).mono ?_;rintro e w2 ⟨rfl,rfl⟩
      go_wp2_with fail
      refine(vq.out _).mono ?_;rintro e w2 ⟨rfl,rfl⟩
      go_wp2_with fail
      refine bodyPost_ret (v:=aI #[az aJ 0,aD false,az aJ 5,az aJ 0]) (by simp[results,results17,go_sem]) rfl ⟨rfl,hb1⟩
     .have Z9:Pl.xa x y d=false:=by rw[hbad,tU,Bv];simp[h1,h2]
      have hxr: -100000<=x/\x<=100000:=fV tU;have hyr: -100000<=y/\y<=100000:=fV Bv;obtain⟨G,He⟩:∃G,Int.gcd (Int.gcd x y:Nat) d=G:=⟨_,rfl⟩;have wS:0<G:=by rw[<-He];exact tH aa
      have xh:(G:Int)∣(Int.gcd x y:Nat):=by rw[<-He];exact Am _ _
      have dx:(G:Int)∣x:=Aq xh (Am _ _);have dy:(G:Int)∣y:=Aq xh (yA _ _);have dd:(G:Int)∣d:=by rw[<-He];exact yA _ _
      have ex:=(uD dx).symm;have ey:=(uD dy).symm;have ed:=(uD dd).symm;rw[ajv h0 Z9 (show(0:Int)<G by omega) ex ey ed]
      have lx:=Qs ex wS;have ly:=Qs ey wS;have ld:=Qs ed wS;have fx:Fl (aO aK x) x:=oU aa
      have fy:Fl (aO aK y) y:=oU aa
      have HNA:Hid (∀w1,ak 37 #[aA aK (aO aK x) (aO aK y),az aJ d] w1 λe w'=>e=aL (aC #[aA aK (aO aK (x.tdiv G)) (aO aK (y.tdiv G)),az aJ (d.tdiv G)])/\aj w1 w'):=λw1=>XW d fx fy aa aa aa G He w1
      have HPA:Hid (∀w1,ak 38 #[az aJ x,az aJ y] w1 λe w'=>e=aL (aA aK (aO aK x) (aO aK y))/\w'=w1):=λw1=>Gf x y w1
      have hDp:0<d.tdiv (G:Int):=by
       rcases fX (d.tdiv (G:Int)) 0 with h|h|h
       .have:=yt (show(0:Int)<G by omega) h;omega
       .rw[h] at ed;omega
       .exact h
      have Hf:Hid (∀v w1,iL w1 v (Ge.aR (Pl.rings s.data.toList))->ak 35 #[v,aC #[aA aK (aO aK (x.tdiv G)) (aO aK (y.tdiv G)),az aJ (d.tdiv G)]] w1 λe w'=>e=aL (if(Ge.aR (Pl.rings s.data.toList)).any (Ge.fo (x.tdiv G,y.tdiv G) (d.tdiv G)) then aI #[az aJ 0,aD true] else aI #[az aJ (Ge.total (Ge.fr (x.tdiv G,y.tdiv G) (d.tdiv G)) (Ge.aR (Pl.rings s.data.toList))),aD false])/\aj w1 w'):=λv w1 hv=>
       aip _ v w1 hv hel kA (oU aa) (oU aa) ⟨aa,aa,aa⟩
      have LZ:Hid (∀v w1,wZ w1 v (Pl.rings s.data.toList)->ak 36 #[v] w1 λe w'=>∃v,e=aL v/\iL w' v (Ge.aR (Pl.rings s.data.toList))/\aj w1 w'):=λv w1 hv=>YZ _ v w1 hv hro hrl
      rw[tU] at zw;rw[Bv] at vq;clear hwd hbad Z9 tU Bv xh dx dy dd ex ey ed lx ly ld fx fy hDp He hel kA hro hrl hp2 h0;generalize Pl.rings s.data.toList=RG at*;generalize Ge.aR RG=ES at*;generalize x.tdiv (G:Int)=XQ at*;generalize y.tdiv (G:Int)=YQ at*;generalize d.tdiv (G:Int)=DQ at*
      go_enter func17,ntmps17
      go_wp2_with fail
      refine(HR.out _ pU).mono ?_;rintro e w1 ⟨hb1,rb,rv,rfl,c6,hlt,zx⟩
      go_wp2_with fail
      refine(zw.out _).mono ?_;rintro e w2 ⟨rfl,rfl⟩
      go_wp2_with fail
      refine(vq.out _).mono ?_;rintro e w2 ⟨rfl,rfl⟩
      go_wp2_with fail
      refine(LZ.out _ _ zx).mono ?_;rintro e w3 ⟨ev,rfl,uM,hb3⟩;have iM:=hb1.trans (hb3.mono hb1.size)
      go_wp2_with fail
      refine(HPA.out _).mono ?_;rintro e w4 ⟨rfl,rfl⟩
      go_wp2_with fail
      refine(HNA.out _).mono ?_;rintro e w5 ⟨rfl,bg⟩;have l9:=iM.trans (bg.mono iM.size);have akn:=Rl uM bg
      go_wp2_with fail
      refine(Hf.out _ _ akn).mono ?_;rintro e w6 ⟨rfl,bp⟩;have aaa:=l9.trans (bp.mono l9.size);by_cases ha:ES.any (Ge.fo (XQ,YQ) DQ)=true
      .rw[aV ha]
       go_wp2_with fail
       refine bodyPost_ret (v:=aI #[az aJ 0,aD true,az aJ 0,az aJ 0]) (by simp[results,results17,go_sem]) rfl ⟨?_,aaa⟩
       first
        |rfl
        |(rw[aV ha];rfl)
      .rw[aQ ha]
       go_wp2_with fail
       refine bodyPost_ret (v:=aI #[az aJ (Ge.total (Ge.fr (XQ,YQ) DQ) ES),aD false,az aJ 0,az aJ 0]) (by simp[results,results17,go_sem]) rfl ⟨?_,aaa⟩
       first
        |rfl
        |(rw[aQ ha];rfl)
 .have hw:Pl.iG s.data.toList x y d=(0,false,Pl.err s.data.toList):=aQ h0;rw[hw];have hne:(((Pl.err s.data.toList).1:Int) != 0)=true:=by rw[yx];omega
  have HR:Hid (∀w1,Gl w1->ak 33 #[aF s] w1 λe w'=>aj w1 w'/\∃pv,e=aL (aI #[aH pv,az aJ (Pl.err s.data.toList).1,az aJ (Pl.err s.data.toList).2])):=λw1 g1=>by
   refine(DW s w1 hm g1).mono ?_;rintro e w' ⟨hb,pv,rfl,_⟩;exact⟨hb,pv,rfl⟩
  simp only[Pl.D4];generalize(Pl.err s.data.toList).1=E at*;generalize(Pl.err s.data.toList).2=Pp at*;clear hw h0
  go_enter func17,ntmps17
  go_wp2_with fail
  refine(HR.out _ pU).mono ?_;rintro e w1 ⟨hb1,pv,rfl⟩
  go_wp2_with fail
  refine bodyPost_ret (v:=aI #[az aJ 0,aD false,az aJ E,az aJ Pp]) (by simp[results,results17,go_sem]) rfl ⟨rfl,hb1⟩
namespace Ge
def held(e:Pt×Pt)(l:List Nd):List Nd:=l.filter λn=>fo (n.1,n.2.1) n.2.2 e
def nexts:List Nd->List (Nd×Nd)
 |[]=>[]
 |[_]=>[]
 |a::b::r=>(a,b)::nexts (b::r)
theorem aab:∀(l:List Nd)(y x:Nd),l.getLast?=some y->nexts (l++[x])=nexts l++[(y,x)]
 |[],_,_,h=>by simp at h
 |[a],y,x,h=>by
  have e:a=y:=by simpa using h
  subst e;simp[nexts]
 |a::b::r,y,x,h=>by
  have ih:=aab (b::r) y x (by simpa using h)
  show nexts (a::b::(r++[x]))=nexts (a::b::r)++[(y,x)];simp only[nexts,lU];rw[<-ih];rfl
theorem ako{e:Pt×Pt}{l:List Nd}{k:Nat}{n:Nd}(h:l[k]?=some n):held e (l.take (k+1))=held e (l.take k)++(if fo (n.1,n.2.1) n.2.2 e then[n] else[]):=by
 obtain⟨hlt,he⟩:=cG.1 h;unfold held;rw[pH hlt,he,JQ];congr 1;cases hf:fo (n.1,n.2.1) n.2.2 e<;>simp[hf]
end Ge
def dN(l:List PB):List aN:=l.flatMap PB.cells
theorem akp(l:List PB)(x:PB):dN (l++[x])=dN l++x.cells:=by simp[dN]
theorem aac:(Tryz.prog.info? 171).map (λi=>(i.zero,i.size,i.bytes))=some (some (aC #[aA aK 0 0,aB aK 0,aA aK 0 0,az aJ 0,aA aK 0 0,az aJ 0]),6,72):=ag
def PL(w:aM)(lv:aN)(L:List PB)(wr:aM):Prop:=wr.ownsRow w.heap.size 171 6 lv L.length (dN L)/\aj w wr
def tV(w:aM)(v:aN)(l:List PB):Prop:=w.ownsRow 0 171 6 v l.length (dN l)
def gf(a b s:Nat)(e:Ed)(l:List Ge.Nd):List PB:=(Ge.nexts (Ge.held e l)).map λp=>⟨a,b,s,p.1,p.2⟩
def aad(e:Ed)(l:List Ge.Nd)(k:Nat)(b:Int):Prop:=(b= -1/\Ge.held e (l.take k)=[])\/∃(j:Nat)(n:Ge.Nd),b=(j:Int)/\j<k/\l[j]?=some n/\(Ge.held e (l.take k)).getLast?=some n
structure xj(w:aM)(R:Nat)(ec rc:Array aN)(lv:aN)(L:List PB)(wr:aM):Prop where
 own:wr.ownsRow (R+1) 171 6 lv L.length (dN L)
 below:aj w wr
 e:wr.heap[w.heap.size]?=some (.cells ec 124 (0,0))
 r:wr.heap[R]?=some (.cells rc 122 (0,0))
theorem xj.keep{R:Nat}{ec rc:Array aN}{L:List PB}(h:xj w R ec rc lv L wr)(hb:aj wr w'):xj w R ec rc lv L w':=
 ⟨bB h.own λk hk=>hb.block k (bn h.own k hk).2,h.below.trans (hb.mono h.below.size),(hb.block _ (lt_of_heap h.e)).trans h.e,(hb.block _ (lt_of_heap h.r)).trans h.r⟩
theorem xk{b':Nat}{e:TypeId}{size:Nat}{xs:List aN}(h:w.ownsRow b e size v n xs)(hb:b'<=b):w.ownsRow b' e size v n xs:=by
 obtain⟨h1,h2⟩:=h;refine⟨h1,?_⟩;rcases h2 with h|⟨g,cap,cur,hv,hg,hr⟩
 .exact aU h
 .exact aT ⟨g,cap,cur,hv,fN hb hg,hr⟩
theorem lt_of_cell{o:Nat}(h:w.cell? ⟨b,o,none⟩=some v):b<w.heap.size:=World.block_lt_of_cell? w _ h
theorem aae(a b s:Nat)(e:Ed)(l:List Ge.Nd):(gf a b s e l).length<=l.length:=by
 have h1:∀m:List Ge.Nd,(Ge.nexts m).length<=m.length:=λm=>by
  induction m with
  |nil=>simp[Ge.nexts]
  |cons x r ih=>
   cases r with
   |nil=>simp[Ge.nexts]
   |cons y q=>simp only[Ge.nexts,dw] at ih⊢;omega
 unfold gf;rw[ia];refine fN (h1 _) ?_;exact JR _ _
theorem akq(x:EB)(e:Ed)(l:List Ge.Nd)(v:aN)(w:aM)(hx:jU x e)(hs:gz e)(hR:jk w v l)(hn:∀n∈l,eI n.1 n.2.1 n.2.2)(hl:l.length<=200000)
  {a b s:Nat}(hr:∀w,ak 198 #[aC #[aA aK x.wa x.wb,aB aK x.sh]] w λe w'=>e=aL (aC #[aA aK a b,aB aK s])/\Below w.heap.size w w'):
  ak 155 #[aC x.cells,v] w λr w'=>∃v',r=aL v'/\PL w v' (gf a b s e l) w':=by
 obtain⟨so,cap,rfl⟩:=LQ hR;obtain⟨i0,hi,hz0,hz1,hz2⟩:=info_parts aac;have HR:Hid (jk w (aG so l.length cap) l):=hR;have Hg:Hid (∀w,ak 198 #[aC #[aA aK x.wa x.wb,aB aK x.sh]] w λe w'=>e=aL (aC #[aA aK a b,aB aK s])/\Below w.heap.size w w'):=hr
 have HH:Hid (∀n∈l,∀w1,ak 62 #[aC #[aA aK x.wa x.wb,aB aK x.sh,aA aK x.fa x.fb,aA aK x.ta x.tb],aC #[aA aK (aO aK n.1) (aO aK n.2.1),az aJ n.2.2]] w1 λe' w'=>e'=aL (aD (Ge.fo (n.1,n.2.1) n.2.2 e))/\Below w1.heap.size w1 w'):=λn h w1=>Gp x e hx hs (tT (hn n h)).1 (tT (hn n h)).2 (hn n h) w1
 clear hR hr hx hs hn;obtain⟨wa,wb,sh,fa,fb,ta,tb⟩:=x;simp only[EB.cells] at*;have hb0:Below w.heap.size w (w.alloc (.cells #[aA aK wa wb,aB aK sh,aA aK fa fb,aA aK ta tb] 124)):=(Below.refl _ _).alloc (aY _) _;have nW:=heap_alloc_new w (.cells #[aA aK wa wb,aB aK sh,aA aK fa fb,aA aK ta tb] 124);have hz:w.heap.size<(w.alloc (.cells #[aA aK wa wb,aB aK sh,aA aK fa fb,aA aK ta tb] 124)).heap.size:=af
 go_enter func155,ntmps155
 go_wp2_with fail
 generalize w.alloc (.cells #[aA aK wa wb,aB aK sh,aA aK fa fb,aA aK ta tb] 124)=W at*;refine(Hg.out _).mono ?_;rintro r w1 ⟨rfl,hb1⟩;have jt:=(hb1.block _ hz).trans nW;have Hh:w.heap.size<w1.heap.size:=bW hz hb1.size;have iu:=hb0.trans (hb1.mono hb0.size);clear hb0 hb1 nW Hg
 go_wp2_with (simp only[gN,oV];go_simp)
 have cK:Hid (xj w w1.heap.size #[aA aK wa wb,aB aK sh,aA aK fa fb,aA aK ta tb] #[aA aK a b,aB aK s] (aG none 0 0) (gf a b s e (l.take 0)) (w1.alloc (.cells #[aA aK a b,aB aK s] 122))/\aad e l 0 (-1)):=by
  refine⟨⟨?_,iu.alloc iu.size _,(Below.heap_alloc _ _ _ Hh).trans jt,heap_alloc_new _ _⟩,aU ⟨rfl,by simp[Ge.held]⟩⟩
  have e0:gf a b s e (l.take 0)=[]:=by simp[gf,Ge.held,Ge.nexts]
  rw[e0];exact World.ownsRow_nil _ _ _ _
 have hRz:w.heap.size<w1.heap.size:=Hh;clear jt iu Hh;generalize w1.heap.size=R at*;generalize w1.alloc (.cells #[aA aK a b,aB aK s] 122)=WL at*
 go_loopg [5,7,15] l.length (λm lv bv iv wr=>∃(k:Nat)(bb:Int),k+m=l.length/\iv=az aJ k/\bv=az aJ bb/\Hid (xj w R #[aA aK wa wb,aB aK sh,aA aK fa fb,aA aK ta tb] #[aA aK a b,aB aK s] lv (gf a b s e (l.take k)) wr/\aad e l k bb))
 case atStart=>exact⟨0, -1,aa,rfl,rfl,cK⟩
 case round=>
  obtain⟨k,bb,hkn,rfl,rfl,HC⟩:=hrel;clear cK;have aW:=HC.out.1.below;by_cases hlt:k<l.length
  .obtain⟨n,Bx⟩:∃n,l[k]?=some n:=⟨_,bo hlt⟩;obtain⟨bN,rfl,xm,c0,c1⟩:=LS HR.out Bx;have r0:=aS aW c0 xm;have r1:=aS aW c1 xm;have gH:(k:Int)<(l.length:Int):=aa
   have hbr:bN<wr.heap.size:=bW xm aW.size;have g0:=cH HC.out.1.e;have g1:=cD HC.out.1.e;have g2:=dU HC.out.1.e;have g3:=jG HC.out.1.e;have hez:w.heap.size<wr.heap.size:=lt_of_heap HC.out.1.e;have AK:R<wr.heap.size:=lt_of_heap HC.out.1.r;have tL:=HH.out n (bT Bx);have Hi:Hid (∀w1,ak 62 #[aC #[aA aK wa wb,aB aK sh,aA aK fa fb,aA aK ta tb],aC #[aA aK (aO aK n.1) (aO aK n.2.1),az aJ n.2.2]] w1 λe' w'=>e'=aL (aD (Ge.fo (n.1,n.2.1) n.2.2 e))/\Below w1.heap.size w1 w'):=tL
   have HT:=Ge.ako (e:=e) Bx;have xp:Hid (Ge.held e (l.take (k+1))=Ge.held e (l.take k)++(if Ge.fo (n.1,n.2.1) n.2.2 e then[n] else[])):=HT
   have HNK:Hid (l[k]?=some n):=Bx;have HV:Hid (jc n=[aA aK (aO aK n.1) (aO aK n.2.1),az aJ n.2.2]):=rfl;clear c0 c1 Bx tL HT;generalize aO aK n.1=N1 at*;generalize aO aK n.2.1=N2 at*;cases hfo:Ge.fo (n.1,n.2.1) n.2.2 e
   .rw[hfo] at Hi xp;clear hfo
    go_wp2_with (simp only[gN];go_simp)
    refine(Hi.out _).mono ?_;rintro r w5 ⟨rfl,bg⟩
    go_wp2_with fail
    go_roundg (gk-1)
    case measure=>omega
    case rel=>
     refine⟨k+1,bb,aa,ai,rfl,?_,?_⟩
     .have e1:gf a b s e (l.take (k+1))=gf a b s e (l.take k):=by unfold gf;rw[xp.out];simp
      rw[e1];exact(HC.out.1.keep ((Below.refl _ _).alloc (aY _) _)).keep bg
     .rcases HC.out.2 with⟨h1,h2⟩|⟨j,m,h1,h2,h3,h4⟩
      .exact aU ⟨h1,by rw[xp.out,h2];rfl⟩
      .exact aT ⟨j,m,h1,aa,h3,by rw[xp.out];simpa using h4⟩
   .rw[hfo] at Hi xp;clear hfo;have L3:Hid (xj w R #[aA aK wa wb,aB aK sh,aA aK fa fb,aA aK ta tb] #[aA aK a b,aB aK s] u5 (gf a b s e (l.take k)) (wr.alloc (.cells #[aA aK N1 N2,az aJ n.2.2] 83))):=HC.out.1.keep ((Below.refl _ _).alloc (aY _) _);have HWN:Hid (∀k,u5.ownBlock=some k->k<wr.heap.size):=λk hk=>(bn HC.out.1.own k hk).2
    have Hj:=heap_alloc_new wr (.cells #[aA aK N1 N2,az aJ n.2.2] 83);have Rn:wr.heap.size<(wr.alloc (.cells #[aA aK N1 N2,az aJ n.2.2] 83)).heap.size:=af
    rcases HC.out.2 with⟨h1,h2⟩|⟨j,m,h1,h2,h3,h4⟩
    .subst h1;have HH2:Hid (Ge.held e (l.take k)=[]):=h2;clear h2 HC
     go_wp2_with (simp only[gN];go_simp)
     generalize wr.alloc (.cells #[aA aK N1 N2,az aJ n.2.2] 83)=W2 at*;refine(Hi.out _).mono ?_;rintro r w5 ⟨rfl,bg⟩;have ni:Hid (xj w R #[aA aK wa wb,aB aK sh,aA aK fa fb,aA aK ta tb] #[aA aK a b,aB aK s] u5 (gf a b s e (l.take k)) w5):=L3.out.keep bg;clear L3 bg g0 g1 g2 g3 r0 r1
     go_wp2_with fail
     go_roundg (gk-1)
     case measure=>omega
     case rel=>
      refine⟨k+1,k,aa,ai,rfl,?_,?_⟩
      .have e1:gf a b s e (l.take (k+1))=gf a b s e (l.take k):=by unfold gf;rw[xp.out,HH2.out];simp[Ge.nexts]
       rw[e1];exact ni.out
      .exact aT ⟨k,n,rfl,aa,HNK.out,by rw[xp.out];simp⟩
    .subst h1;have HLS:Hid ((Ge.held e (l.take k)).getLast?=some m):=h4;obtain⟨bM,Hk,_,m0,m1⟩:=LS HR.out h3;injection Hk with Hk;injection Hk with Hk;subst Hk;have hjl:j<l.length:=(cG.1 h3).1;have L4:(j:Int)<(l.length:Int):=aa
     have HVM:Hid (jc m=[aA aK (aO aK m.1) (aO aK m.2.1),az aJ m.2.2]):=rfl;have HLEN:Hid ((gf a b s e (l.take k)).length<=200000):=fN (aae _ _ _ _ _) (by simp;omega)
     have Ek:Hid (gf a b s e (l.take (k+1))=gf a b s e (l.take k)++[⟨a,b,s,m,n⟩]):=by
      unfold gf;rw[xp.out];simp only[kP];rw[Ge.aab _ _ _ HLS.out,jC];rfl
     have Hl:Hid ((⟨a,b,s,m,n⟩:PB).cells=[aA aK a b,aB aK s]++jc m++jc n):=rfl;generalize aO aK m.1=M1 at*;generalize aO aK m.2.1=M2 at*;clear h2 h3 h4 HC
     go_wp2_with (simp only[gN];go_simp)
     generalize wr.alloc (.cells #[aA aK N1 N2,az aJ n.2.2] 83)=W2 at*;refine(Hi.out _).mono ?_;rintro r w5 ⟨rfl,bg⟩;have ni:Hid (xj w R #[aA aK wa wb,aB aK sh,aA aK fa fb,aA aK ta tb] #[aA aK a b,aB aK s] u5 (gf a b s e (l.take k)) w5):=L3.out.keep bg;have El:=(bg.block _ Rn).trans Hj;have q0:=cH El;have q1:=cD El;have q2:=cH ni.out.r;have q3:=cD ni.out.r;have q4:=aS ni.out.below m0 xm;have q5:=aS ni.out.below m1 xm;clear L3 bg g0 g1 g2 g3 r0 r1 m0 m1 Hj El
     go_wp2_with fail
     have L5:wr.heap.size<w5.heap.size:=lt_of_cell q0;have Hm:R<w5.heap.size:=lt_of_cell q2;have Em:bN<w5.heap.size:=lt_of_cell q4;have eT:=ni.out.own;have aah:some wr.heap.size≠u5.ownBlock:=λh=>by have:=HWN.out _ h.symm;omega
     have Ro:some R≠u5.ownBlock:=λh=>by have:=(bn eT _ h.symm).1;omega
     have aai:some bN≠u5.ownBlock:=λh=>by have:=(bn eT _ h.symm).1;omega
     refine wp_region_held_drew (S:=(λw'=>w'.cell? ⟨wr.heap.size,0,none⟩=some (aA aK N1 N2)/\w'.cell? ⟨wr.heap.size,1,none⟩=some (az aJ n.2.2)/\w'.cell? ⟨R,0,none⟩=some (aA aK a b)/\w'.cell? ⟨R,1,none⟩=some (aB aK s)/\w'.cell? ⟨bN,j*2,none⟩=some (aA aK M1 M2)/\w'.cell? ⟨bN,j*2+1,none⟩=some (az aJ m.2.2))) ag ⟨q0,q1,q2,q3,q4,q5⟩ (λhHeld=>?_)
     iterate 8
      (
       refine lV (oi:={dst:=_,op:=_,type:=_,pos:=_,after:=_,guard:=_}) (v:=?_) rfl rfl (by rfl) hHeld ?_ ?_
       rotate_left
       .intro w' bZ;obtain⟨s0,s1,s2,s3,s4,s5⟩:=bZ
        go_simp
        try with_reducible rfl
       simp only[Act.put,dR,dS,dD])
     refine wpAnyH_ready (rs:=[8]) ag af ?_
     refine AllReadyH.cons rfl (λK hK=>?_) AllReadyH.nil
     go_simp
     refine hK.out _ _ ⟨(ko _ _ L5).trans q0,(ko _ _ L5).trans q1,(ko _ _ Hm).trans q2,(ko _ _ Hm).trans q3,(ko _ _ Em).trans q4,(ko _ _ Em).trans q5⟩ (λhHeld=>?_)
     clear hK K
     try simp only[Act.put,dR,dS,dD]
     refine wpAnyH_ready (rs:=[9]) ag af ?_
     refine AllReadyH.cons rfl (λK hK=>?_) AllReadyH.nil
     have hlen:=HLEN.out;refine step_append_lies _ rfl (.tmp 26) (.tmp 34) 168 rfl (R+1) 171 i0 _ 6 72 underlying168 hi hz0 hz1 hz2 rfl ah u5 (gf a b s e (l.take k)).length (dN (gf a b s e (l.take k))) rfl (bB eT.drew (λk hk=>Below.heap_alloc _ _ _ (bn eT k hk).2)) ⟨w5.heap.size,0,none⟩ 1 1 [aA aK a b,aB aK s,aA aK M1 M2,az aJ m.2.2,aA aK N1 N2,az aJ n.2.2] rfl rfl (World.news_of_block (cs:= #[aA aK a b,aB aK s,aA aK M1 M2,az aJ m.2.2,aA aK N1 N2,az aJ n.2.2]) (t:=171) (fr:=(0,0)) (heap_alloc_new w5.drew _)) (by simp[Value.oneCell']) ah (by unfold maxLen;omega) aa (by simp;omega) (w5.heap.size+1) af ?_
     intro g' cap' w8 dM cI iN rN;have d0:=(cI.cell_far ⟨wr.heap.size,0,none⟩ (by simp;omega) aah).trans ((ko _ _ L5).trans q0)
     have d1:=(cI.cell_far ⟨wr.heap.size,1,none⟩ (by simp;omega) aah).trans ((ko _ _ L5).trans q1)
     have d2:=(cI.cell_far ⟨R,0,none⟩ (by simp;omega) Ro).trans ((ko _ _ Hm).trans q2)
     have d3:=(cI.cell_far ⟨R,1,none⟩ (by simp;omega) Ro).trans ((ko _ _ Hm).trans q3)
     have d4:=(cI.cell_far ⟨bN,j*2,none⟩ (by simp;omega) aai).trans ((ko _ _ Em).trans q4)
     have d5:=(cI.cell_far ⟨bN,j*2+1,none⟩ (by simp;omega) aai).trans ((ko _ _ Em).trans q5)
     go_simp
     refine hK.out _ _ ⟨d0,d1,d2,d3,d4,d5⟩ (λhHeld=>?_)
     clear hK K
     try simp only[Act.put,dR,dS,dD]
     refine lV (oi:={dst:=_,op:=_,type:=_,pos:=_,after:=_,guard:=_}) (v:=?_) rfl rfl (by rfl) hHeld ?_ ?_
     rotate_left
     .intro w' bZ;obtain⟨s0,s1,s2,s3,s4,s5⟩:=bZ
      go_simp
      try with_reducible rfl
     simp only[Act.put,dR,dS,dD];refine wpAnyH_done ag ?_ _
     have aku:w.heap.size<w5.heap.size:=lt_of_heap ni.out.e;have akv:some w.heap.size≠u5.ownBlock:=λh=>by have:=(bn eT _ h.symm).1;omega
     have LU:Hid (xj w R #[aA aK wa wb,aB aK sh,aA aK fa fb,aA aK ta tb] #[aA aK a b,aB aK s] (aG (some ⟨g',0,none⟩) ((gf a b s e (l.take k)).length+1) cap') (gf a b s e (l.take (k+1))) w8):=by
      rw[Ek.out];refine⟨?_,(ni.out.below.drew.alloc ni.out.below.size _).grown cI (by have:=ni.out.below.size;simp;omega) (λk hk=>fN aa (bn eT k hk).1),?_,?_⟩
      .rw[akp,bY,Hl.out,HVM.out,HV.out];exact dM
      .exact(cI.block _ (by simp;omega) akv).trans ((Below.heap_alloc _ _ _ aku).trans ni.out.e)
      .exact(cI.block _ (by simp;omega) Ro).trans ((Below.heap_alloc _ _ _ Hm).trans ni.out.r)
     clear d0 d1 d2 d3 d4 d5 q0 q1 q2 q3 q4 q5 cI dM eT ni HLEN Ek Hl HLS
     go_wp2_with fail
     go_roundg (gk-1)
     case measure=>omega
     case rel=>exact⟨k+1,k,aa,ai,rfl,LU.out,aT ⟨k,n,rfl,aa,HNK.out,by rw[xp.out];simp⟩⟩
  .have hk:k=l.length:=aa
   subst hk;have HP:Hid (PL w u5 (gf a b s e l) wr):=by
    have h1:=HC.out.1;rw[fO] at h1;exact⟨xk h1.own aa,h1.below⟩
   clear HC aW HH HR
   go_wp2_with fail
   go_ret
   exact⟨_,rfl,HP.out⟩
namespace Ge
def fa(n:Nd)(l:Ln)(a b:Pt):Int:=if fo (n.1,n.2.1) n.2.2 (a,b) then(l.1*(b.1-a.1)+l.2.1*(b.2-a.2)).sign else 0
theorem aaj(n:Nd)(l:Ln)(a b:Pt): -1<=fa n l a b/\fa n l a b<=1:=by
 unfold fa;split
 .rcases fX (l.1*(b.1-a.1)+l.2.1*(b.2-a.2)) 0 with h|h|h
  .rw[Af h];decide
  .rw[h];decide
  .rw[oJ h];decide
 .decide
def dB(e:Pt×Pt):Ln:=(e.2.1-e.1.1,e.2.2-e.1.2,(e.2.1-e.1.1)*e.1.2-(e.2.2-e.1.2)*e.1.1)
end Ge
theorem akw(p:PB)(l:Ge.Ln)(n:Ge.Nd)(es:List Ed)(v:aN)(w:aM)(hp:qP p.wa p.wb p.sh l)(h1:sm l.1)(h2:sm l.2.1)(hn:eI n.1 n.2.1 n.2.2)(hR:iL w v es)(hl:es.length<=402)(hs:∀e∈es,gz e)
  (hi:∀w,ak 160 #[aC p.cells.toArray] w λe w'=>e=aL (ja n)/\Below w.heap.size w w'):
  ak 105 #[aC p.cells.toArray,v] w λr w'=>r=aL (aI #[az aJ (Ge.total (Ge.fr (n.1,n.2.1) n.2.2) es+Ge.total (Ge.fa n l) es),az aJ (Ge.total (Ge.fr (n.1,n.2.1) n.2.2) es)])/\Below w.heap.size w w':=by
 obtain⟨so,cap,rfl⟩:=Gq hR;obtain⟨g1,g2⟩:=tT hn;have HR:Hid (iL w (aG so es.length cap) es):=hR;have HI:Hid (∀w,ak 160 #[aC p.cells.toArray] w λe w'=>e=aL (ja n)/\Below w.heap.size w w'):=hi
 have HH:Hid (∀(x:EB)(e:Ed),jU x e->e∈es->∀w1,ak 62 #[aC #[aA aK x.wa x.wb,aB aK x.sh,aA aK x.fa x.fb,aA aK x.ta x.tb],aC #[aA aK (aO aK n.1) (aO aK n.2.1),az aJ n.2.2]] w1 λe' w'=>e'=aL (aD (Ge.fo (n.1,n.2.1) n.2.2 e))/\Below w1.heap.size w1 w'):=λx e hx he w1=>Gp x e hx (hs e he) g1 g2 hn w1
 have HP:Hid (∀(x:EB)(e:Ed),jU x e->e∈es->∀w1,ak 63 #[aC #[aA aK x.wa x.wb,aB aK x.sh,aA aK x.fa x.fb,aA aK x.ta x.tb],aC #[aA aK (aO aK n.1) (aO aK n.2.1),az aJ n.2.2]] w1 λe' w'=>e'=aL (az aJ (Ge.fr (n.1,n.2.1) n.2.2 e.1 e.2))/\Below w1.heap.size w1 w'):=λx e hx he w1=>XR x e hx (hs e he) g1 g2 hn w1
 have HA:Hid (∀(x:EB)(e:Ed),jU x e->e∈es->∀w1,ak 161 #[aC #[aA aK p.wa p.wb,aB aK p.sh],aC #[aA aK x.wa x.wb,aB aK x.sh]] w1 λe' w'=>e'=aL (az aJ (l.1*(e.2.1-e.1.1)+l.2.1*(e.2.2-e.1.2)).sign)/\Below w1.heap.size w1 w'):=λx e hx he w1=>by
  have h:=hs e he;have b3:sm (Ge.dB e).1:=by have:=h.a;have:=h.c;unfold small at*;unfold sm Ge.dB;simp only;omega
  have b4:sm (Ge.dB e).2.1:=by have:=h.b;have:=h.d;unfold small at*;unfold sm Ge.dB;simp only;omega
  exact akb hp (m:=Ge.dB e) ⟨hx.wa,hx.wb,hx.sh⟩ h1 h2 b3 b4 w1
 have HT:Hid (∀k:Nat, -(k:Int)<=Ge.total (Ge.fr (n.1,n.2.1) n.2.2) (es.take k)/\Ge.total (Ge.fr (n.1,n.2.1) n.2.2) (es.take k)<=(k:Int)):=λk=>by
  have h:=KO (Ge.fr (n.1,n.2.1) n.2.2) (KP _ _) (es.take k);have h2:(es.take k).length<=k:=by simp;omega
  omega
 have Hf:Hid (∀k:Nat, -(k:Int)<=Ge.total (Ge.fa n l) (es.take k)/\Ge.total (Ge.fa n l) (es.take k)<=(k:Int)):=λk=>by
  have h:=KO (Ge.fa n l) (Ge.aaj _ _) (es.take k);have h2:(es.take k).length<=k:=by simp;omega
  omega
 clear hR hs g1 g2 hn hi hp h1 h2;unfold ja at HI;obtain⟨pa,pb,ps,⟨f1,f2,f3⟩,t1,t2,t3⟩:=p;simp only[PB.cells] at*;generalize aO aK f1=F1 at*;generalize aO aK f2=F2 at*;generalize aO aK t1=T1 at*;generalize aO aK t2=T2 at*;generalize aO aK n.1=N1 at*;generalize aO aK n.2.1=N2 at*;have hb0:Below w.heap.size w (w.alloc (.cells #[aA aK pa pb,aB aK ps,aA aK F1 F2,az aJ f3,aA aK T1 T2,az aJ t3] 171)):=(Below.refl _ _).alloc (aY _) _;have nW:=heap_alloc_new w (.cells #[aA aK pa pb,aB aK ps,aA aK F1 F2,az aJ f3,aA aK T1 T2,az aJ t3] 171);have hz:w.heap.size<(w.alloc (.cells #[aA aK pa pb,aB aK ps,aA aK F1 F2,az aJ f3,aA aK T1 T2,az aJ t3] 171)).heap.size:=af
 go_enter func105,ntmps105
 go_wp2_with fail
 generalize w.alloc (.cells #[aA aK pa pb,aB aK ps,aA aK F1 F2,az aJ f3,aA aK T1 T2,az aJ t3] 171)=W at*;refine(HI.out _).mono ?_;rintro r w1 ⟨rfl,hb1⟩;have jt:=(hb1.block _ hz).trans nW;have Hh:w.heap.size<w1.heap.size:=bW hz hb1.size;have iu:=hb0.trans (hb1.mono hb0.size);clear hb0 hb1 nW HI
 go_wp2_with (simp only[gN];go_simp)
 have cK:Hid (Below w.heap.size w (w1.alloc (.cells #[aA aK N1 N2,az aJ n.2.2] 83))/\(w1.alloc (.cells #[aA aK N1 N2,az aJ n.2.2] 83)).heap[w.heap.size]?=some (.cells #[aA aK pa pb,aB aK ps,aA aK F1 F2,az aJ f3,aA aK T1 T2,az aJ t3] 171 (0,0))/\(w1.alloc (.cells #[aA aK N1 N2,az aJ n.2.2] 83)).heap[w1.heap.size]?=some (.cells #[aA aK N1 N2,az aJ n.2.2] 83 (0,0))):=⟨iu.alloc iu.size _,(Below.heap_alloc _ _ _ Hh).trans jt,heap_alloc_new _ _⟩;clear jt iu;generalize w1.heap.size=N at*;generalize w1.alloc (.cells #[aA aK N1 N2,az aJ n.2.2] 83)=WL at*
 go_loopg [6,7,15] es.length (λm rv av iv wr=>∃k:Nat,k+m=es.length/\iv=az aJ k/\rv=az aJ (Ge.total (Ge.fr (n.1,n.2.1) n.2.2) (es.take k))/\av=az aJ (Ge.total (Ge.fa n l) (es.take k))/\Hid (Below w.heap.size w wr/\wr.heap[w.heap.size]?=some (.cells #[aA aK pa pb,aB aK ps,aA aK F1 F2,az aJ f3,aA aK T1 T2,az aJ t3] 171 (0,0))/\wr.heap[N]?=some (.cells #[aA aK N1 N2,az aJ n.2.2] 83 (0,0))))
 case atStart=>exact⟨0,aa,rfl,rfl,rfl,cK⟩
 case round=>
  obtain⟨k,hkn,rfl,rfl,rfl,HB⟩:=hrel;obtain⟨aW,tK,hNb⟩:=HB.out;clear cK HB;have XV:=HT.out k;have hAk:=Hf.out k;by_cases hlt:k<es.length
  .obtain⟨e,nV⟩:∃e,es[k]?=some e:=⟨_,bo hlt⟩;obtain⟨b,x,rfl,hb,hok,c0,c1,c2,c3⟩:=Gs HR.out nV;have r0:=aS aW c0 hb;have r1:=aS aW c1 hb;have r2:=aS aW c2 hb;have r3:=aS aW c3 hb;have n0:=cH hNb;have n1:=cD hNb;have hbr:b<wr.heap.size:=bW hb aW.size;have Rn:N<wr.heap.size:=lt_of_heap hNb;have hPz:w.heap.size<wr.heap.size:=lt_of_heap tK;have gH:(k:Int)<(es.length:Int):=aa
   have hmem:=bT nV;have mS:Hid (Ge.total (Ge.fr (n.1,n.2.1) n.2.2) (es.take (k+1))=Ge.total (Ge.fr (n.1,n.2.1) n.2.2) (es.take k)+Ge.fr (n.1,n.2.1) n.2.2 e.1 e.2):=Qu _ nV;have HAA:Hid (Ge.total (Ge.fa n l) (es.take (k+1))=Ge.total (Ge.fa n l) (es.take k)+Ge.fa n l e.1 e.2):=Qu _ nV;have tL:Hid (∀w1,ak 62 #[aC #[aA aK x.wa x.wb,aB aK x.sh,aA aK x.fa x.fb,aA aK x.ta x.tb],aC #[aA aK N1 N2,az aJ n.2.2]] w1 λe' w'=>e'=aL (aD (Ge.fo (n.1,n.2.1) n.2.2 e))/\Below w1.heap.size w1 w'):=HH.out x e hok hmem
   have Gt:Hid (∀w1,ak 63 #[aC #[aA aK x.wa x.wb,aB aK x.sh,aA aK x.fa x.fb,aA aK x.ta x.tb],aC #[aA aK N1 N2,az aJ n.2.2]] w1 λe' w'=>e'=aL (az aJ (Ge.fr (n.1,n.2.1) n.2.2 e.1 e.2))/\Below w1.heap.size w1 w'):=HP.out x e hok hmem
   have HA1:Hid (∀w1,ak 161 #[aC #[aA aK pa pb,aB aK ps],aC #[aA aK x.wa x.wb,aB aK x.sh]] w1 λe' w'=>e'=aL (az aJ (l.1*(e.2.1-e.1.1)+l.2.1*(e.2.2-e.1.2)).sign)/\Below w1.heap.size w1 w'):=HA.out x e hok hmem
   have hfin:=KP (n.1,n.2.1) n.2.2 e.1 e.2;have atl:=Ge.aaj n l e.1 e.2;have Hn:Hid (Ge.fa n l e.1 e.2=if Ge.fo (n.1,n.2.1) n.2.2 e then(l.1*(e.2.1-e.1.1)+l.2.1*(e.2.2-e.1.2)).sign else 0):=rfl
   obtain⟨wa,wb,sh,fa,fb,ta,tb⟩:=x;simp only at r0 r1 r2 r3 tL Gt HA1;generalize Ge.total (Ge.fr (n.1,n.2.1) n.2.2) (es.take k)=TR at*;generalize Ge.total (Ge.fa n l) (es.take k)=TA at*;generalize Ge.fr (n.1,n.2.1) n.2.2 e.1 e.2=FR at*;generalize Ge.fa n l e.1 e.2=FA at*;generalize(l.1*(e.2.1-e.1.1)+l.2.1*(e.2.2-e.1.2)).sign=SG at*;clear c0 c1 c2 c3 nV HR HH HP HA hok hmem HT Hf;have AW:Below w.heap.size w (wr.alloc (.cells #[aA aK wa wb,aB aK sh,aA aK fa fb,aA aK ta tb] 124)):=aW.alloc aW.size _;have nW:=heap_alloc_new wr (.cells #[aA aK wa wb,aB aK sh,aA aK fa fb,aA aK ta tb] 124);have yY:=(Below.heap_alloc wr (.cells #[aA aK wa wb,aB aK sh,aA aK fa fb,aA aK ta tb] 124) _ hPz).trans tK;have Hj:=(Below.heap_alloc wr (.cells #[aA aK wa wb,aB aK sh,aA aK fa fb,aA aK ta tb] 124) _ Rn).trans hNb;have hsz:wr.heap.size+1=(wr.alloc (.cells #[aA aK wa wb,aB aK sh,aA aK fa fb,aA aK ta tb] 124)).heap.size:=af
   have hwr:IntKind.i64.wrap (TR+FR)=TR+FR:=by rw[IntKind.wrap_i64];omega
   have Rp:IntKind.i64.wrap (TA+SG)=TA+SG\/Ge.fo (n.1,n.2.1) n.2.2 e=false:=by
    cases hf:Ge.fo (n.1,n.2.1) n.2.2 e
    .exact aT rfl
    .refine aU ?_;have h3:=Hn.out;rw[hf,aV rfl] at h3;rw[IntKind.wrap_i64];omega
   go_wp2_with (simp only[gN,oV];go_simp)
   generalize wr.alloc (.cells #[aA aK wa wb,aB aK sh,aA aK fa fb,aA aK ta tb] 124)=w0 at*;generalize hEe:wr.heap.size=E at*;clear r0 r1 r2 r3 n0 n1;refine(Gt.out _).mono ?_;rintro e' w2 ⟨rfl,hb2⟩;have eJ:=(hb2.block _ (show E<w0.heap.size by omega)).trans nW
   have jJ:=(hb2.block _ (show w.heap.size<w0.heap.size by omega)).trans yY
   have zm:=(hb2.block _ (show N<w0.heap.size by omega)).trans Hj
   have ais:=hb2.size;have hL2:=AW.trans (hb2.mono aa)
   have e0:=cH eJ;have e1:=cD eJ;have e2:=dU eJ;have e3:=jG eJ;have n0:=cH zm;have n1:=cD zm;clear nW yY Hj hb2 AW
   go_wp2_with fail
   refine(tL.out _).mono ?_;rintro e' w3 ⟨rfl,hb3⟩;have Rq:=(hb3.block _ (show E<w2.heap.size by omega)).trans eJ
   have Ho:=(hb3.block _ (show w.heap.size<w2.heap.size by omega)).trans jJ
   have En:=(hb3.block _ (show N<w2.heap.size by omega)).trans zm
   have atm:=hb3.size;have hL3:=hL2.trans (hb3.mono aa)
   clear e0 e1 e2 e3 n0 n1 eJ jJ zm hb3 hL2;cases hf:Ge.fo (n.1,n.2.1) n.2.2 e
   .have xq:Hid (FA=0):=by have:=Hn.out;rw[hf] at this;exact this
    clear hf Rp Hn
    go_wp2_with fail
    go_roundg (gk-1)
    case measure=>omega
    case rel=>exact⟨k+1,aa,ai,by rw[mS.out],by rw[HAA.out,xq.out,Int.add_zero],hL3,Ho,En⟩
   .have xq:Hid (FA=SG):=by have:=Hn.out;rw[hf,aV rfl] at this;exact this
    have atn:IntKind.i64.wrap (TA+SG)=TA+SG:=by
     rcases Rp with h|h
     .exact h
     .rw[hf] at h;cases h
    have e0:=cH Rq;have e1:=cD Rq;have p0:=cH Ho;have p1:=cD Ho;clear hf Rp Hn
    go_wp2_with fail
    refine(HA1.out _).mono ?_;rintro e' w4 ⟨rfl,hb4⟩;have rQ:=(hb4.block _ (show w.heap.size<w3.heap.size by omega)).trans Ho
    have hN4:=(hb4.block _ (show N<w3.heap.size by omega)).trans En
    have hL4:=hL3.trans (hb4.mono aa)
    clear e0 e1 p0 p1 Rq Ho En hb4 hL3
    go_wp2_with fail
    go_roundg (gk-1)
    case measure=>omega
    case rel=>exact⟨k+1,aa,ai,by rw[mS.out],by rw[HAA.out,xq.out],hL4,rQ,hN4⟩
  .have hk:k=es.length:=aa
   subst hk;rw[fO] at*;have hws:IntKind.i64.wrap (Ge.total (Ge.fr (n.1,n.2.1) n.2.2) es+Ge.total (Ge.fa n l) es)=Ge.total (Ge.fr (n.1,n.2.1) n.2.2) es+Ge.total (Ge.fa n l) es:=by rw[IntKind.wrap_i64];omega
   clear HR HH HP HA HT Hf;generalize Hp:Ge.total (Ge.fr (n.1,n.2.1) n.2.2) es=TR at XV hws;generalize qH:Ge.total (Ge.fa n l) es=TA at hAk hws;have HTR:Hid (Ge.total (Ge.fr (n.1,n.2.1) n.2.2) es=TR):=Hp;have akA:Hid (Ge.total (Ge.fa n l) es=TA):=qH;clear Hp qH
   go_wp2_with fail
   refine bodyPost_ret (v:=aI #[az aJ (TR+TA),az aJ TR]) (by simp[results,results105,go_sem]) rfl ⟨?_,aW⟩
   rw[HTR.out,akA.out]
def aam(x:PB)(n:Ge.Nd):Prop:=Ge.Can n/\Ge.aX n=(Ge.bC (x.f.1+x.t.1) (x.f.2.2+x.t.2.2),Ge.bC (x.f.2.1+x.t.2.1) (x.f.2.2+x.t.2.2))/\eI n.1 n.2.1 n.2.2
theorem akB(p:PB)(l:Ge.Ln)(es:List Ed)(hp:qP p.wa p.wb p.sh l)(h1:sm l.1)(h2:sm l.2.1)(hf:mJ p.f)(ht:mJ p.t)(hl:es.length<=402)(hs:∀e∈es,gz e):
  ∃n,aam p n/\∀v w,iL w v es->ak 105 #[aC p.cells.toArray,v] w λr w'=>r=aL (aI #[az aJ (Ge.total (Ge.fr (n.1,n.2.1) n.2.2) es+Ge.total (Ge.fa n l) es),az aJ (Ge.total (Ge.fr (n.1,n.2.1) n.2.2) es)])/\aj w w':=by
 obtain⟨n,hc,hq,hn,hi⟩:=akc p hf ht;exact⟨n,⟨hc,hq,hn⟩,λv w hR=>akw p l n es v w hp h1 h2 hn hR hl hs hi⟩
end
end Go.Proofs.YtkjhhooecopolaaGreatDoor

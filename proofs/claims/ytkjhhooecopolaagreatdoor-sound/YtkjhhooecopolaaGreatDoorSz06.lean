import Derived.Test.YtkjhhooecopolaaGreatDoorSz05
import Derived.Test.YtkjhhooecopolaaGreatDoorProg
set_option maxRecDepth 100000
set_option maxHeartbeats 4000000
namespace Go.Proofs.YtkjhhooecopolaaGreatDoor
open Tryz
open Value renaming int->az,complex->aA,float->aB,agg->aC,bool->aD,string->aF,slice->aG,pointer->aH,tuple->aI
open IntKind renaming i64->aJ
open FloatKind renaming f64->aK
open Ending renaming returned->aL
open Go renaming World->aM,Value->aN,floatOfInt->aO
section
open Go.RowKit
theorem ZR(n:Int)(h1: -9223372036854775808<=n)(h2:n<=9223372036854775807)(w1:aM)(g1:Gl w1):
  ak 146 #[az aJ n] w1 λe w'=>e=aL (aF ⟨(Lib.itoa n).toArray⟩)/\aj w1 w':=by
 refine(Tryz.strconv_Itoa n h1 h2 w1 g1.tab).mono ?_;rintro e w' ⟨rfl,k,os,rfl⟩;exact⟨rfl,Lib.below_grow _ _ (aY _) _ _⟩
theorem ZT(x d:Int)(w:aM)(hG:Gl w)(hx: -16000000<=x/\x<=16000000)(hd:0<d/\d<=300000):
  ak 178 #[az aJ x,az aJ d] w λe w'=>e=aL (aF ⟨(Pl.fO (Ge.bO x d)).toArray⟩)/\aj w w':=by
 obtain⟨G,hg⟩:∃G,Int.gcd x d=G:=⟨_,rfl⟩;have iK:Ge.bO x d=(x.tdiv G,d.tdiv G):=by
  unfold Ge.bO;rw[aP aa];unfold zm vo;rw[hg]
 have GJ:0<G:=by rw[<-hg];exact ag9 _ aa
 have Mb:(G:Int)∣d:=by rw[<-hg];exact Dg ..
 have ZU:=ahh hd.1 Mb;have ed:=Ge.L3 Mb;have bx:=vH x G;have bd:=vH d G;rw[iK];have HD:Hid (∀w1,ak 65 #[az aJ x,az aJ d] w1 λe w'=>e=aL (az aJ (G:Int))/\aj w1 w'):=λw1=>by rw[<-hg];exact GI x d w1 aa aa
 have hw1:IntKind.i64.wrap (x.tdiv (G:Int))=x.tdiv G:=by rw[IntKind.wrap_i64];omega
 have hw2:IntKind.i64.wrap (d.tdiv (G:Int))=d.tdiv G:=by rw[IntKind.wrap_i64];omega
 have hw3:IntKind.i64.wrap (d/(G:Int))=d.tdiv G:=by rw[<-hw2,Pj aa]
 have HX:Hid (∀w1,Gl w1->ak 146 #[az aJ (x.tdiv G)] w1 λe w'=>e=aL (aF ⟨(Lib.itoa (x.tdiv G)).toArray⟩)/\aj w1 w'):=λw1 g1=>ZR _ aa aa w1 g1
 have HY:Hid (∀w1,Gl w1->ak 146 #[az aJ (d.tdiv G)] w1 λe w'=>e=aL (aF ⟨(Lib.itoa (d.tdiv G)).toArray⟩)/\aj w1 w'):=λw1 g1=>ZR _ aa aa w1 g1
 have h1:=Lib.itoa_length_le (x.tdiv G) aa aa
 have h2:=Lib.itoa_length_le (d.tdiv G) aa aa
 have Ym:¬G=0:=aa
 have Yn:(0:Int)<G:=aa
 by_cases RF:d=G
 .have hq:d.tdiv G=1:=by
   rw[<-RF];exact Int.tdiv_self aa
  have HV:Hid (Pl.fO (x.tdiv G,d.tdiv G)=Lib.itoa (x.tdiv G)):=aV hq;rw[HV.out];generalize Lib.itoa (x.tdiv G)=X1 at*;clear HV h1 h2 hw2 hw3 HY hq ed bx bd ZU Mb iK hg;subst RF
  go_enter func178,ntmps178
  go_wp2_with fail
  refine(HD.out _).mono ?_;rintro e w1 ⟨rfl,hb1⟩
  go_wp2_with fail
  refine(HX.out _ (hG.below hb1 hG.sz)).mono ?_;rintro e w2 ⟨rfl,hb2⟩
  go_wp2_with fail
  go_ret
  exact⟨rfl,hb1.trans (hb2.mono hb1.size)⟩
 .have hq:¬d.tdiv G=1:=by
   intro h;rw[h,Int.mul_one] at ed;exact RF ed
  have HV:Hid (Pl.fO (x.tdiv G,d.tdiv G)=Lib.itoa (x.tdiv G)++([47]++Lib.itoa (d.tdiv G))):=aP hq;rw[HV.out];have hwd:(d/(G:Int))=d.tdiv G:=(Pj aa).symm
  have HYt:Hid (∀w1,Gl w1->ak 146 #[az aJ (d/(G:Int))] w1 λe w'=>e=aL (aF ⟨(Lib.itoa (d.tdiv G)).toArray⟩)/\aj w1 w'):=by rw[hwd];exact HY
  generalize Lib.itoa (x.tdiv G)=X1 at*;generalize Lib.itoa (d.tdiv G)=X2 at*;have hs1:¬9223372036854775807<X1.length+1:=aa
  have hs2:¬9223372036854775807<X1.length+1+X2.length:=aa
  clear HV hq ed bx bd ZU Mb iK hg hwd h1 h2
  go_enter func178,ntmps178
  go_wp2_with fail
  refine(HD.out _).mono ?_;rintro e w1 ⟨rfl,hb1⟩;have dv:Gl w1:=hG.below hb1 hG.sz
  go_wp2_with fail
  go_region_held3 (λ_=>True) (trivial) (first
   |(go_at_call_of 146 (Value.int IntKind.i64 (x.tdiv G));refine(HX.out _ dv.drew).mono ?_;rintro e w5 ⟨rfl,bh⟩;have zB:=dv.drew.below bh dv.sz)
   |(go_at_call_of 146 (Value.int IntKind.i64 (d.tdiv G));refine(HY.out _ zB).mono ?_;rintro e w6 ⟨rfl,bp⟩)
   |(go_at_call_of 146 (Value.int IntKind.i64 (d/(G:Int)));refine(HYt.out _ zB).mono ?_;rintro e w6 ⟨rfl,bp⟩))
  go_wp2_with fail
  go_ret
  refine⟨by simp[ByteArray.mk_append_mk],?_⟩
  exact(hb1.drew.trans (bh.mono hb1.size)).trans (bp.mono (fN hb1.size bh.size))
theorem Mc{x d:Int}(hx: -16000000<=x/\x<=16000000)(hd:0<d/\d<=300000):(Pl.fO (Ge.bO x d)).length<=50:=by
 have iK:Ge.bO x d=(x.tdiv (Int.gcd x d),d.tdiv (Int.gcd x d)):=by
  unfold Ge.bO;rw[aP aa];rfl
 have bx:=vH x (Int.gcd x d);have bd:=vH d (Int.gcd x d);rw[iK];have h1:=Lib.itoa_length_le (x.tdiv (Int.gcd x d)) aa aa
 have h2:=Lib.itoa_length_le (d.tdiv (Int.gcd x d)) aa aa
 unfold Pl.fO;split
 .show(Lib.itoa (x.tdiv (Int.gcd x d))).length<=50;omega
 .show(Lib.itoa (x.tdiv (Int.gcd x d))++([47]++Lib.itoa (d.tdiv (Int.gcd x d)))).length<=50;simp;omega
theorem akD(N1 N2:Nat)(X Y P:Int)(X1 X2:List UInt8)(w:aM)(hG:Gl w)(h1:X1.length<=50)(h2:X2.length<=50)
  (hc1:∀w,(convert 120 3 (aB aK N1)).run prog w=.ok (az aJ X) w)
  (hc2:∀w,(convert 120 3 (aB aK N2)).run prog w=.ok (az aJ Y) w)
  (HN:Hid (∀w1,Gl w1->ak 178 #[az aJ X,az aJ P] w1 λe w'=>e=aL (aF ⟨X1.toArray⟩)/\Below w1.heap.size w1 w'))
  (HD:Hid (∀w1,Gl w1->ak 178 #[az aJ Y,az aJ P] w1 λe w'=>e=aL (aF ⟨X2.toArray⟩)/\Below w1.heap.size w1 w')):
  ak 122 #[aC #[aA aK N1 N2,az aJ P]] w λe w'=>e=aL (aF ⟨(X1++([32]++X2)).toArray⟩)/\Below w.heap.size w w':=by
 have hs1:¬9223372036854775807<X1.length+1:=aa
 have hs2:¬9223372036854775807<X1.length+1+X2.length:=aa
 have hb0:Below w.heap.size w (w.alloc (.cells #[aA aK N1 N2,az aJ P] 83)):=(Below.refl _ _).alloc (aY _) _;have hE:=heap_alloc_new w (.cells #[aA aK N1 N2,az aJ P] 83);have hz:w.heap.size<(w.alloc (.cells #[aA aK N1 N2,az aJ P] 83)).heap.size:=af
 have mZ:Gl (w.alloc (.cells #[aA aK N1 N2,az aJ P] 83)):=hG.alloc _
 go_enter func122,ntmps122
 go_wp2_with fail
 generalize w.alloc (.cells #[aA aK N1 N2,az aJ P] 83)=W at*;generalize hB:w.heap.size=B at*;have r0:=cL hE;have r1:=cK hE
 go_region_held3 (λw'=>w'.cell? ⟨B,0,none⟩=some (aA aK N1 N2)/\w'.cell? ⟨B,1,none⟩=some (az aJ P)) (go_keep) (first
   |(go_at_call_of 178 (Value.int IntKind.i64 X);refine(HN.out _ mZ.drew).mono ?_;rintro e w5 ⟨rfl,bh⟩;have zB:=mZ.drew.below bh mZ.sz;have q0:=aQ bh r0 hz;have q1:=(aQ bh r1 hz))
   |(go_at_call_of 178 (Value.int IntKind.i64 Y);refine(HD.out _ zB).mono ?_;rintro e w6 ⟨rfl,bp⟩;have s0:=aQ bp q0 (bW hz bh.size);have s1:=(aQ bp q1 (bW hz bh.size)))
   |(simp only)
   |(simp only[hc2]))
 all_goals
  go_wp2_with fail
  go_ret
  refine⟨by simp[ByteArray.mk_append_mk],?_⟩
  rw[hB];exact(hb0.drew.trans (bh.mono (fF hz))).trans (bp.mono (fN (fF hz) bh.size))
theorem akE(n:Ge.Nd)(hn:fC n.1 n.2.1 n.2.2)(w:aM)(hG:Gl w):
  ak 122 #[jb n] w λe w'=>e=aL (aF ⟨(Pl.dJ (Ge.aU n)).toArray⟩)/\aj w w':=by
 obtain⟨a1,a2⟩:=uj hn;have hx:=hn.x;have hy:=hn.y;have c1:=a1.int aa aa
 have c2:=a2.int aa aa
 exact akD _ _ n.1 n.2.1 n.2.2 (Pl.fO (Ge.bO n.1 n.2.2)) (Pl.fO (Ge.bO n.2.1 n.2.2)) w hG (Mc aa hn.d) (Mc aa hn.d)
  (λw=>run_convert_float_int w 120 3 aK aJ _ _ (by rw[underlying120];rfl) underlying3 c1)
  (λw=>run_convert_float_int w 120 3 aK aJ _ _ (by rw[underlying120];rfl) underlying3 c2)
  (λw1 g1=>ZT _ _ w1 g1 aa hn.d) (λw1 g1=>ZT _ _ w1 g1 aa hn.d)
end
end Go.Proofs.YtkjhhooecopolaaGreatDoor

namespace Go.Proofs.YtkjhhooecopolaaGreatDoor
open Tryz
open Value renaming int->az,complex->aA,float->aB,agg->aC,bool->aD,string->aF,slice->aG,pointer->aH,tuple->aI
open IntKind renaming i64->aJ
open FloatKind renaming f64->aK
open Ending renaming returned->aL
open Go renaming World->aM,Value->aN,floatOfInt->aO
section
open Go.RowKit
def jd(n:Ge.Nd):List aN:=[aA aK (aO aK n.1) (aO aK n.2.1),az aJ n.2.2]
def eW(l:List Ge.Nd):List aN:=l.flatMap jd
def jn(w:aM)(v:aN)(l:List Ge.Nd):Prop:=w.ownsRow 0 83 2 v l.length (eW l)
theorem He:∀(l:List Ge.Nd)(k:Nat)(e:Ge.Nd),l[k]?=some e->∀j,j<2->(eW l)[k*2+j]?=(jd e)[j]?
 |[],_,_,h,_,_=>by simp at h
 |q::r,0,e,h,j,hj=>by
  simp at h;subst h;have e1:eW (q::r)=jd q++eW r:=by simp[eW]
  rw[e1,fM (by simp[jd];omega)]
  simp
 |q::r,k+1,e,h,j,hj=>by
  have ih:=He r k e (by simpa using h) j hj
  have e1:eW (q::r)=jd q++eW r:=by simp[eW]
  rw[e1,nE (by simp[jd];omega)]
  have e2:(k+1)*2+j-(jd q).length=k*2+j:=by simp[jd];omega
  rw[e2,ih]
theorem RH(l:List Ge.Nd)(e:Ge.Nd):eW (l++[e])=eW l++jd e:=by simp[eW]
theorem Md{w:aM}{v:aN}{l:List Ge.Nd}(h:jn w v l):∃so cap,v=aG so l.length cap:=by
 rcases h.2 with⟨hv,h0⟩|⟨b,cap,cur,hv,_⟩
 .exact⟨none,0,by rw[hv,h0]⟩
 .exact⟨_,cap,hv⟩
theorem Me{w:aM}{so:Option Addr}{n cap:Nat}{l:List Ge.Nd}(h:jn w (aG so n cap) l){k:Nat}{e:Ge.Nd}(he:l[k]?=some e):
  ∃b,so=some ⟨b,0,none⟩/\b<w.heap.size/\w.cell? ⟨b,k*2,none⟩=some (aA aK (aO aK e.1) (aO aK e.2.1))/\w.cell? ⟨b,k*2+1,none⟩=some (az aJ e.2.2):=by
 have g:=He l k e he;obtain⟨b,c,hv,hb,hc⟩:=DU h (g 0 aa)
 injection hv with hv;exact⟨b,hv,hb,hc _ _ (g 0 aa),hc _ _ (g 1 aa)⟩
theorem ZV(f:Ge.Qt->List UInt8):∀l:List Ge.Qt,Lib.join (l.map f) [44,32]=Pl.bI f l
 |[]=>rfl
 |[x]=>by simp[Lib.join_one,Pl.bI]
 |x::y::r=>by
  have ih:=ZV f (y::r);simp only[Pl.bI,<-ih];simp[Lib.join,List.intercalate]
theorem RJ:(Tryz.prog.info? 9).map (λi=>(i.zero,i.size,i.bytes))=some (some (aF ⟨#[]⟩),1,16):=ag
def qh(l:List Ge.Nd):List ByteArray:=l.map λn=>⟨(Pl.dJ (Ge.aU n)).toArray⟩
theorem akF(l:List Ge.Nd):(qh l).map (·.data.toList)=(l.map Ge.aU).map Pl.dJ:=by simp[qh]
def SI(w:aM)(lv:aN)(xs:List ByteArray)(wr:aM):Prop:=wr.ownsRow w.heap.size 9 1 lv xs.length (xs.map Value.string)/\aj w wr
theorem RM{n:Ge.Nd}(h:fC n.1 n.2.1 n.2.2):(Pl.dJ (Ge.aU n)).length<=101:=by
 have hx:=h.x;have hy:=h.y;have h1:=Mc (x:=n.1) (d:=n.2.2) aa h.d
 have h2:=Mc (x:=n.2.1) (d:=n.2.2) aa h.d
 show(Pl.fO (Ge.bO n.1 n.2.2)++([32]++Pl.fO (Ge.bO n.2.1 n.2.2))).length<=101;simp;omega
end
namespace Ge
def met(e f:Pt×Pt)(q:Qt):Prop:=dO e f≠0/\q=gK e f/\hq (gK e f) e=true/\hq (gK e f) f=true
theorem akG{e f:Pt×Pt}{q:Qt}(h:met e f q):met f e q:=by
 obtain⟨a,b,c,d⟩:=h;have a':dO f e≠0:=by rw[Zy];omega
 have m:=akj a;exact⟨a',by rw[m];exact b,by rw[m];exact d,by rw[m];exact c⟩
theorem akH(e:Pt×Pt):dO e e=0:=by unfold dO;grind
theorem akI(l:List (Pt×Pt))(e:Pt×Pt)(q:Qt):isNode (l++[e]) q↔isNode l q\/q=pt e.1\/q=pt e.2\/∃f∈l,met e f q:=by
 unfold isNode;constructor
 .rintro(⟨g,hg,h⟩|⟨g,hg,f,hf,h⟩)
  .rcases dF.1 hg with hg|hg
   .exact aS (aS ⟨g,hg,h⟩)
   .rw[dB] at hg;subst hg;rcases h with h|h
    .exact aR (aS h)
    .exact aR (aR (aS h))
  .rcases dF.1 hg with hg|hg
   .rcases dF.1 hf with hf|hf
    .exact aS (aR ⟨g,hg,f,hf,h⟩)
    .rw[dB] at hf;rw[hf] at h;exact aR (aR (aR ⟨g,hg,akG h⟩))
   .rw[dB] at hg;rw[hg] at h;rcases dF.1 hf with hf|hf
    .exact aR (aR (aR ⟨f,hf,h⟩))
    .rw[dB] at hf;rw[hf] at h;exact absurd (akH e) h.1
 .have m1:∀{x},x∈l->x∈l++[e]:=λh=>Ap _ h
  have m2:e∈l++[e]:=af
  rintro((⟨g,hg,h⟩|⟨g,hg,f,hf,h⟩)|h|h|⟨f,hf,h⟩)
  .exact aS ⟨g,m1 hg,h⟩
  .exact aR ⟨g,m1 hg,f,m1 hf,h⟩
  .exact aS ⟨e,m2,aS h⟩
  .exact aS ⟨e,m2,aR h⟩
  .exact aR ⟨e,m2,f,m1 hf,h⟩
def dV:List Nd->List Nd
 |[]=>[]
 |[a]=>[a]
 |a::b::r=>if a=b then dV (b::r) else a::dV (b::r)
theorem BN:∀(l:List Nd)(x:Nd),x∈dV l↔x∈l
 |[],x=>by simp[dV]
 |[a],x=>by simp[dV]
 |a::b::r,x=>by
  have ih:=BN (b::r) x;unfold dV;split
  .rename_i h
   subst h;rw[ih];simp
  .rw[bU,ih];simp
def le(a b:Nd):Prop:=¬lt (aU b) (aU a)
theorem Em{a b:Nd}(ha:Can a)(hb:Can b)(h:le a b)(hne:a≠b):lt (aU a) (aU b):=by
 unfold le lt at h;unfold lt;rw[Lb] at h;rcases gf (pc (aU a) (aU b)) 0 with h1|h1|h1
 .exact h1
 .exact absurd (xD ha hb h1) hne
 .omega
theorem lt_le_trans{a b c:Nd}(ha:Can a)(hb:Can b)(hc:Can c)(h1:lt (aU a) (aU b))(h2:le b c):lt (aU a) (aU c):=by
 by_cases h:b=c
 .subst h;exact h1
 .exact lt_trans (eA ha) (eA hb) (eA hc) h1 (Em hb hc h2 h)
theorem ZW:∀(l:List Nd),(∀n∈l,Can n)->l.Pairwise le->(dV l).Pairwise (λa b=>lt (aU a) (aU b))
 |[],_,_=>List.Pairwise.nil
 |[a],_,_=>by simp[dV]
 |a::b::r,hc,hp=>by
  have hp2:=(gN.1 hp).2;have hp1:=(gN.1 hp).1;have ih:=ZW (b::r) (λn h=>hc n (by simp[List.mem_cons] at h⊢;exact aR h)) hp2
  unfold dV;split
  .exact ih
  .rename_i hne
   refine gN.2 ⟨λx hx=>?_,ih⟩
   have hx':=(BN (b::r) x).1 hx;have ca:=hc a af
   have cb:=hc b af
   have hab:=Em ca cb (hp1 b af) hne
   rcases bU.1 hx' with h|h
   .subst h;exact hab
   .exact lt_le_trans ca cb (hc x (by simp[h])) hab ((gN.1 hp2).1 x h)
theorem akJ(es:List (Pt×Pt))(S:List Nd)(hc:∀n∈S,Can n)(hp:S.Pairwise le)(hm:∀q,(∃n∈S,aU n=q)↔isNode es q):(dV S).map aU=ja es:=by
 obtain⟨h1,h2,h3⟩:=Eh es;refine Yu (λq hq=>?_) h1 ?_ h2 (λq=>?_)
 .obtain⟨n,hn,rfl⟩:=bQ.1 hq;exact eA (hc n ((BN S n).1 hn))
 .exact lF.2 (ZW S hc hp)
 .rw[h3,<-hm,bQ];constructor
  .rintro⟨n,hn,h⟩;exact⟨n,(BN S n).1 hn,h⟩
  .rintro⟨n,hn,h⟩;exact⟨n,(BN S n).2 hn,h⟩
end Ge
section
open Go.RowKit
variable{B i j g cap n b:Nat}{w wr w':aM}{lv v:aN}
theorem ZX:(Tryz.prog.info? 83).map (λi=>(i.zero,i.size,i.bytes))=some (some (aC #[aA aK 0 0,az aJ 0]),2,24):=ag
theorem ZY:∀l:List Ge.Nd,(Ge.dV l).length<=l.length
 |[]=>by simp[Ge.dV]
 |[a]=>by simp[Ge.dV]
 |a::b::r=>by
  have ih:=ZY (b::r);unfold Ge.dV;split
  .simp only[dG] at ih⊢;omega
  .simp only[dG] at ih⊢;omega
structure NL(w:aM)(lv:aN)(L:List Ge.Nd)(wr:aM):Prop where
 own:wr.ownsRow w.heap.size 83 2 lv L.length (eW L)
 below:aj w wr
 can:∀n∈L,Ge.Can n
 bw:∀n∈L,fC n.1 n.2.1 n.2.2
def NS(w:aM)(lv:aN)(l:List Ed)(k:Nat)(wr:aM):Prop:=
 ∃L,NL w lv L wr/\(∀q,(∃n∈L,Ge.aU n=q)↔Ge.isNode l q)/\L.length<=k
structure vJ(w:aM)(B:Nat)(x:EB)(e:Ed)(es:List Ed)(i j:Nat)(lv:aN)(L:List Ge.Nd)(wr:aM):Prop where
 nl:NL w lv L wr
 lt:B<wr.heap.size
 ne:lv.ownBlock≠some B
 c0:wr.cell? ⟨B,0,none⟩=some (aA aK x.wa x.wb)
 c1:wr.cell? ⟨B,1,none⟩=some (aB aK x.sh)
 c2:wr.cell? ⟨B,2,none⟩=some (aA aK x.fa x.fb)
 c3:wr.cell? ⟨B,3,none⟩=some (aA aK x.ta x.tb)
 iff:∀q,(∃n∈L,Ge.aU n=q)↔Ge.isNode (es.take i) q\/q=Ge.pt e.1\/q=Ge.pt e.2\/∃f∈es.take j,Ge.met e f q
 len:L.length<=i*404+2+j
theorem vJ.keep{x:EB}{e:Ed}{es:List Ed}{L:List Ge.Nd}(h:vJ w B x e es i j lv L wr)(hb:aj wr w'):vJ w B x e es i j lv L w':=
 ⟨⟨bG h.nl.own λk hk=>hb.block k (bn h.nl.own k hk).2,h.nl.below.trans (hb.mono h.nl.below.size),h.nl.can,h.nl.bw⟩,bW h.lt hb.size,h.ne,(aQ hb h.c0 h.lt),(aQ hb h.c1 h.lt),(aQ hb h.c2 h.lt),(aQ hb h.c3 h.lt),h.iff,h.len⟩
theorem ZZ{es:List Ed}{f e:Ed}(hf:es[j]?=some f)(q:Ge.Qt):(∃f'∈es.take (j+1),Ge.met e f' q)↔(∃f'∈es.take j,Ge.met e f' q)\/Ge.met e f q:=by
 have h:es.take (j+1)=es.take j++[f]:=by rw[ju,hf];rfl
 rw[h];constructor
 .rintro⟨g,hg,h⟩;rcases dF.1 hg with hg|hg
  .exact aS ⟨g,hg,h⟩
  .rw[dB] at hg;rw[hg] at h;exact aR h
 .rintro(⟨g,hg,h⟩|h)
  .exact⟨g,by simp[hg],h⟩
  .exact⟨f,af,h⟩
theorem vJ.skip{x:EB}{e:Ed}{es:List Ed}{L:List Ge.Nd}{f:Ed}(h:vJ w B x e es i j lv L wr)(hf:es[j]?=some f)(hn:¬(Ge.dO e f≠0/\Ge.hq (Ge.gK e f) e=true/\Ge.hq (Ge.gK e f) f=true)):vJ w B x e es i (j+1) lv L wr:=
 ⟨h.nl,h.lt,h.ne,h.c0,h.c1,h.c2,h.c3,λq=>by
  have hm:¬Ge.met e f q:=λm=>hn ⟨m.1,m.2.2⟩
  rw[h.iff q,ZZ hf q];simp[hm],by have:=h.len;omega⟩
theorem akK(es:List Ed)(v:aN)(w:aM)(hR:jL w v es)(hl:es.length<=402)(hs:∀e∈es,gS e)
  (HS:Hid (∀lv L wr,NL w lv L wr->L.length<=200000->ak 124 #[lv,.func (.func 125) #[] #[]] wr λr w'=>r=aL (aI #[])/\∃S,NL w lv S w'/\(∀n,n∈S↔n∈L)/\S.length=L.length/\S.Pairwise Ge.le))
  (HK:Hid (∀lv S wr,NL w lv S wr->S.length<=200000->ak 126 #[lv] wr λr w'=>∃v',r=aL v'/\jn w' v' (Ge.dV S)/\Below w.heap.size w w')):
  ak 72 #[v] w λe w'=>∃v' l,e=aL v'/\jn w' v' l/\Below w.heap.size w w'/\l.map Ge.aU=Ge.ja es/\(∀n∈l,fC n.1 n.2.1 n.2.2)/\l.length<=200000/\(∀n∈l,Ge.Can n):=by
 obtain⟨so,cap,rfl⟩:=K9 hR;obtain⟨i0,hi,hz0,hz1,hz2⟩:=info_parts ZX;have HR:Hid (jL w (aG so es.length cap) es):=hR;clear hR
 go_enter func72,ntmps72
 go_wp2_with fail
 have cQ:Hid (NS w (aG none 0 0) [] 0 w):=⟨[],⟨World.ownsRow_nil _ _ _ _,Below.refl _ _,λn h=>by simp at h,λn h=>by simp at h⟩,λq=>by simp[Ge.isNode],af⟩
 go_loopg [3,12] es.length (λm lv iv wr=>∃i:Nat,i+m=es.length/\iv=az aJ i/\Hid (NS w lv (es.take i) (i*404) wr))
 case atStart=>exact⟨0,aa,rfl,cQ⟩
 case round=>
  obtain⟨i,him,rfl,HE⟩:=hrel;clear cQ;by_cases hlt:i<es.length
  .obtain⟨e,he⟩:∃e,es[i]?=some e:=⟨_,bo hlt⟩;obtain⟨b,x,rfl,hb,hx,c0,c1,c2,c3⟩:=La HR.out he;obtain⟨L,En,Hf,lO⟩:=HE.out;have aX:=En.below;have r0:=aQ aX c0 hb;have r1:=aQ aX c1 hb;have r2:=aQ aX c2 hb;have r3:=aQ aX c3 hb;have mK:=hs e (bA he);obtain⟨n1,n1c,RO,Z0,RQ⟩:=L4 1 hx.fa hx.fb (by have:=mK.a;unfold small at this;omega) (by have:=mK.b;unfold small at this;omega) aa
   obtain⟨n2,Z3,RS,Z4,zE⟩:=L4 1 hx.ta hx.tb (by have:=mK.c;unfold small at this;omega) (by have:=mK.d;unfold small at this;omega) aa
   rw[Ge.Lc,Ge.Lc] at RO RS;have HX:Hid (lK x e):=hx;have HEM:Hid (e∈es):=bA he;have Eo:Hid (es[i]?=some e):=he;have Ep:Hid (NL w u3 L wr):=En;have vK:Hid (∀q,(∃n∈L,Ge.aU n=q)↔Ge.isNode (es.take i) q):=Hf;have Hg:Hid (Ge.aU n1=Ge.pt e.1/\Ge.Can n1/\fC n1.1 n1.2.1 n1.2.2):=⟨RO,n1c,Z0⟩;have Hh:Hid (Ge.aU n2=Ge.pt e.2/\Ge.Can n2/\fC n2.1 n2.2.1 n2.2.2):=⟨RS,Z3,Z4⟩;have ij:(i:Int)<(es.length:Int):=aa
   have hbr:b<wr.heap.size:=bW hb aX.size;obtain⟨wa,wb,sh,fa,fb,ta,tb⟩:=x;simp only at r0 r1 r2 r3 RQ zE;have BM:Hid (∀w1,ak 37 #[aA aK fa fb,az aJ 1] w1 λe w'=>e=aL (jb n1)/\Below w1.heap.size w1 w'):=RQ
   have q8:Hid (∀w1,ak 37 #[aA aK ta tb,az aJ 1] w1 λe w'=>e=aL (jb n2)/\Below w1.heap.size w1 w'):=zE
   clear c0 c1 c2 c3 En Hf hx RQ zE n1c RO Z0 Z3 RS Z4 he HE mK
   go_wp2_with (first |(simp only[iH];go_simp)|(simp only[qO];go_simp)|(simp only[iH,qO];go_simp))
   have hE:=heap_alloc_new wr (.cells #[aA aK wa wb,aB aK sh,aA aK fa fb,aA aK ta tb] 124);have hbW:=aX.alloc aX.size (.cells #[aA aK wa wb,aB aK sh,aA aK fa fb,aA aK ta tb] 124);have Z5:(wr.alloc (.cells #[aA aK wa wb,aB aK sh,aA aK fa fb,aA aK ta tb] 124)).ownsRow w.heap.size 83 2 u3 L.length (eW L):=bG Ep.out.own λk hk=>Below.heap_alloc _ _ _ (bn Ep.out.own k hk).2
   have vz:wr.heap.size<(wr.alloc (.cells #[aA aK wa wb,aB aK sh,aA aK fa fb,aA aK ta tb] 124)).heap.size:=af
   have Hi:∀k,u3.ownBlock=some k->k<wr.heap.size:=λk hk=>(bn Ep.out.own k hk).2
   have Z6:w.heap.size<=wr.heap.size:=aX.size;generalize wr.alloc (.cells #[aA aK wa wb,aB aK sh,aA aK fa fb,aA aK ta tb] 124)=W at*;generalize GN:wr.heap.size=B at*;have a0:=cL hE;have a1:=cK hE;have a2:=eN hE;have a3:=kA hE;have zF:Hid (jd n1=[aA aK (aO aK n1.1) (aO aK n1.2.1),az aJ n1.2.2]):=rfl;have zG:Hid (jd n2=[aA aK (aO aK n2.1) (aO aK n2.2.1),az aJ n2.2.2]):=rfl;unfold jb at BM q8;generalize aO aK n1.1=A1 at*;generalize aO aK n1.2.1=A2 at*;generalize aO aK n2.1=A4 at*;generalize aO aK n2.2.1=A5 at*;have Hj:some B≠u3.ownBlock:=λh=>ahj _ (Hi B h.symm)
   clear r0 r1 r2 r3 hE;refine wp_region_held_drew (S:=(λw'=>w'.cell? ⟨B,0,none⟩=some (aA aK wa wb)/\w'.cell? ⟨B,1,none⟩=some (aB aK sh)/\w'.cell? ⟨B,2,none⟩=some (aA aK fa fb)/\w'.cell? ⟨B,3,none⟩=some (aA aK ta tb))) ag ⟨a0,a1,a2,a3⟩ (λhHeld=>?_)
   refine wpAnyH_take (i:=0) (oi:={dst:=some 17,op:=_,type:=_,pos:=_,after:=_,guard:=_}) (v:=?_) rfl ag ag ag (λ_ _ _ h=>h) (aS ⟨by rfl,?_⟩) hHeld ?_
   rotate_left
   .intro w' bY;obtain⟨s0,s1,s2,s3⟩:=bY
    go_simp
    try with_reducible rfl
   simp only[Act.put,dY,dZ,dL];refine wpAnyH_take (i:=1) (oi:={dst:=some 18,op:=_,type:=_,pos:=_,after:=_,guard:=_}) (v:=?_) rfl ag ag ag (λ_ _ _ h=>h) (aS ⟨by rfl,?_⟩) hHeld ?_
   rotate_left
   .intro w' bY;obtain⟨s0,s1,s2,s3⟩:=bY
    go_simp
    try with_reducible rfl
   simp only[Act.put,dY,dZ,dL];refine wpAnyH_take (i:=2) (oi:={dst:=some 19,op:=_,type:=_,pos:=_,after:=_,guard:=_}) (v:=?_) rfl ag ag ag (λ_ _ _ h=>h) (aS ⟨by rfl,?_⟩) hHeld ?_
   rotate_left
   .intro w' bY;obtain⟨s0,s1,s2,s3⟩:=bY
    go_simp
    try with_reducible rfl
   simp only[Act.put,dY,dZ,dL];refine wpAnyH_take (i:=4) (oi:={dst:=some 21,op:=_,type:=_,pos:=_,after:=_,guard:=_}) (v:=?_) rfl ag ag ag (λ_ _ _ h=>h) (aS ⟨by rfl,?_⟩) hHeld ?_
   rotate_left
   .intro w' bY;obtain⟨s0,s1,s2,s3⟩:=bY
    go_simp
    try with_reducible rfl
   simp only[Act.put,dY,dZ,dL];refine wpAnyH_take (i:=5) (oi:={dst:=some 22,op:=_,type:=_,pos:=_,after:=_,guard:=_}) (v:=?_) rfl ag ag ag (λ_ _ _ h=>h) (aS ⟨by rfl,?_⟩) hHeld ?_
   rotate_left
   .intro w' bY;obtain⟨s0,s1,s2,s3⟩:=bY
    go_simp
    try with_reducible rfl
   simp only[Act.put,dY,dZ,dL];refine wpAnyH_ready (rs:=[3]) ag af ?_
   refine AllReadyH.cons rfl (λK hK=>?_) AllReadyH.nil
   go_simp
   refine(BM.out _).mono ?_;rintro e w6 ⟨rfl,bp⟩;have b0:=aQ bp a0 vz;have b1:=aQ bp a1 vz;have b2:=aQ bp a2 vz;have b3:=aQ bp a3 vz;have xE:=bW vz bp.size;have gU:=bG Z5.drew λk hk=>bp.block k (ahi (Hi k hk) vz)
   go_wp2_with fail
   refine hK.out _ _ ⟨b0,b1,b2,b3⟩ (λhHeld=>?_)
   clear hK K
   try simp only[Act.put,dY,dZ,dL]
   refine wpAnyH_ready (rs:=[6]) ag af ?_
   refine AllReadyH.cons rfl (λK hK=>?_) AllReadyH.nil
   go_simp
   refine(q8.out _).mono ?_;rintro e w7 ⟨rfl,bu⟩;have c0:=aQ bu b0 xE;have c1:=aQ bu b1 xE;have c2:=aQ bu b2 xE;have c3:=aQ bu b3 xE;have vL:=bW xE bu.size;have mg:=bG gU λk hk=>bu.block k (ahi (Hi k hk) xE)
   go_wp2_with fail
   refine hK.out _ _ ⟨c0,c1,c2,c3⟩ (λhHeld=>?_)
   clear hK K
   try simp only[Act.put,dY,dZ,dL]
   refine wpAnyH_ready (rs:=[7]) ag af ?_
   refine AllReadyH.cons rfl (λK hK=>?_) AllReadyH.nil
   go_simp
   refine hK.out _ _ ⟨(kP _ _ vL).trans c0,(kP _ _ vL).trans c1,(kP _ _ vL).trans c2,(kP _ _ vL).trans c3⟩ (λhHeld=>?_)
   clear hK K
   try simp only[Act.put,dY,dZ,dL]
   refine wpAnyH_ready (rs:=[8]) ag af ?_
   refine AllReadyH.cons rfl (λK hK=>?_) AllReadyH.nil
   refine step_append_lies _ rfl (.tmp 17) (.tmp 24) 138 rfl w.heap.size 83 i0 _ 2 24 underlying138 hi hz0 hz1 hz2 rfl ah u3 L.length (eW L) rfl (bG mg (λk hk=>Below.heap_alloc _ _ _ (bn mg k hk).2)) ⟨w7.heap.size,0,none⟩ 2 2 [aA aK A1 A2,az aJ n1.2.2,aA aK A4 A5,az aJ n2.2.2] rfl rfl (World.news_of_block (cs:= #[aA aK A1 A2,az aJ n1.2.2,aA aK A4 A5,az aJ n2.2.2]) (t:=83) (fr:=(0,0)) (heap_alloc_new w7 _)) (by simp[Value.oneCell']) ah (by unfold maxLen;omega) aa (by simp;omega) (w7.heap.size+1) af ?_
   intro g' cap' w8 dW cI iN sH;have d0:=(cI.cell_far ⟨B,0,none⟩ (by simp;omega) Hj).trans ((kP _ _ vL).trans c0)
   have d1:=(cI.cell_far ⟨B,1,none⟩ (by simp;omega) Hj).trans ((kP _ _ vL).trans c1)
   have d2:=(cI.cell_far ⟨B,2,none⟩ (by simp;omega) Hj).trans ((kP _ _ vL).trans c2)
   have d3:=(cI.cell_far ⟨B,3,none⟩ (by simp;omega) Hj).trans ((kP _ _ vL).trans c3)
   go_simp
   refine hK.out _ _ ⟨d0,d1,d2,d3⟩ (λhHeld=>?_)
   clear hK K
   try simp only[Act.put,dY,dZ,dL]
   refine wpAnyH_take (i:=9) (oi:={dst:=some 3,op:=_,type:=_,pos:=_,after:=_,guard:=_}) (v:=?_) rfl ag ag ag (λ_ _ _ h=>h) (aS ⟨by rfl,?_⟩) hHeld ?_
   rotate_left
   .intro w' bY;obtain⟨s0,s1,s2,s3⟩:=bY
    go_simp
    try with_reducible rfl
   simp only[Act.put,dY,dZ,dL];refine wpAnyH_done ag ?_ _
   have Z7:Below w.heap.size w w8:=by
    have q6:=hbW.drew.trans (bp.mono (fN Z6 (fF vz)));have q7:=q6.trans (bu.mono (fN Z6 (fF xE)));exact(q7.alloc q7.size _).grown cI (by simp;omega) (λk hk=>(bn mg k hk).1)
   have Mf:Hid (NL w (aG (some ⟨g',0,none⟩) (L.length+2) cap') (L++[n1,n2]) w8):=by
    have hrow:eW (L++[n1,n2])=eW L++[aA aK A1 A2,az aJ n1.2.2,aA aK A4 A5,az aJ n2.2.2]:=by
     have e1:eW (L++[n1,n2])=eW L++(jd n1++jd n2):=by simp[eW]
     rw[e1,zF.out,zG.out];rfl
    refine⟨?_,Z7,λn hn=>?_,λn hn=>?_⟩
    .rw[hrow,bX];exact dW
    .rcases dF.1 hn with h|h
     .exact Ep.out.can n h
     .rcases bU.1 h with h|h
      .rw[h];exact Hg.out.2.1
      .rw[dB.1 h];exact Hh.out.2.1
    .rcases dF.1 hn with h|h
     .exact Ep.out.bw n h
     .rcases bU.1 h with h|h
      .rw[h];exact Hg.out.2.2
      .rw[dB.1 h];exact Hh.out.2.2
   have Hk:Hid (vJ w B ⟨wa,wb,sh,fa,fb,ta,tb⟩ e es i 0 (aG (some ⟨g',0,none⟩) (L.length+2) cap') (L++[n1,n2]) w8):=by
    refine⟨Mf.out,?_,?_,d0,d1,d2,d3,λq=>?_,by simp;omega⟩
    .have h1:=cI.size;simp at h1;omega
    .show some g'≠some B;intro h;injection h with h;rcases iN with h8|h8
     .have:=Hi g' h8;omega
     .omega
    .have h1:=vK.out q;simp only[ahk,List.not_mem_nil,wM,exists_false,Av];rw[<-h1];constructor
     .rintro⟨n,hn,h⟩;rcases dF.1 hn with hn|hn
      .exact aS ⟨n,hn,h⟩
      .rcases bU.1 hn with hn|hn
       .exact aR (aS (by rw[<-h,hn,Hg.out.1]))
       .exact aR (aR (by rw[<-h,dB.1 hn,Hh.out.1]))
     .rintro(⟨n,hn,h⟩|h|h)
      .exact⟨n,by simp[hn],h⟩
      .exact⟨n1,af,by rw[h,Hg.out.1]⟩
      .exact⟨n2,af,by rw[h,Hh.out.1]⟩
   have hcap:¬cap<i:=by
    obtain⟨_,_,ho,_⟩:=HR.out;rcases ho.2 with⟨hv,_⟩|⟨_,_,_,hv,_,_,hc,_⟩
    .cases hv
    .injection hv with _ _ hv;omega
   have aue:i<=cap:=aa
   clear BM q8 zF zG a0 a1 a2 a3 b0 b1 b2 b3 c0 c1 c2 c3 gU mg dW bp bu Z5 Hi Hj xE vL cI iN sH hHeld
   go_wp2_with fail
   obtain⟨m1,mf⟩:∃m1,m1=gk:=⟨_,rfl⟩
   go_loopg [3,30] i (λm lv nv wr=>∃j:Nat,j+m=i/\nv=az aJ j/\Hid (∃L',vJ w B ⟨wa,wb,sh,fa,fb,ta,tb⟩ e es i j lv L' wr))
   case atStart=>exact⟨0,aa,rfl,⟨_,Hk.out⟩⟩
   case round=>
    obtain⟨j,hjm,rfl,ir⟩:=hrel;clear Hk Mf d0 d1 d2 d3 vK Ep Hg Hh Z7;obtain⟨L',hI⟩:=ir.out;by_cases sG:j<i
    .obtain⟨f,hf⟩:∃f,es[j]?=some f:=⟨_,bo aa⟩
     obtain⟨b4,y,hb4,_,hy,f0,f1,f2,f3⟩:=La HR.out hf;injection hb4 with hb4;injection hb4 with hb4;subst hb4;have jy:=hI.nl.below;have s0:=aQ jy f0 hb;have s1:=aQ jy f1 hb;have s2:=aQ jy f2 hb;have s3:=aQ jy f3 hb;have a0:=hI.c0;have a1:=hI.c1;have a2:=hI.c2;have a3:=hI.c3;obtain⟨vn,bt,nv,hM,⟨M1,M2,MP,BO⟩,Mg,Mh⟩:=akw ⟨wa,wb,sh,fa,fb,ta,tb⟩ y e f HX.out hy (hs e (HEM.out)) (hs f (bA hf));subst BO;have HM:Hid (∀w,ak 123 #[aC (EB.cells ⟨wa,wb,sh,fa,fb,ta,tb⟩),aC y.cells] w λr w'=>r=aL (aI #[aC #[aA aK M1 M2,az aJ MP],aD bt])/\Below w.heap.size w w'):=hM
     have Mi:Hid (bt=true↔Ge.dO e f≠0/\Ge.hq (Ge.gK e f) e=true/\Ge.hq (Ge.gK e f) f=true):=Mg;have RU:Hid (bt=true->aC #[aA aK M1 M2,az aJ MP]=jb vn/\Ge.Can vn/\Ge.aU vn=Ge.gK e f/\fC vn.1 vn.2.1 vn.2.2):=Mh;have HF:Hid (es[j]?=some f):=hf;obtain⟨ya,yb,ys,yc,yd,ye,yf⟩:=y;simp only[EB.cells] at HM s0 s1 s2 s3 a0 a1 a2 a3;have GW:(j:Int)<(i:Int):=aa
     have Z8:=hI.lt;clear hM Mg Mh f0 f1 f2 f3 hy hf ir
     go_wp2_with (first |(simp only[iH];go_simp)|(simp only[qO];go_simp))
     have Er:Below wr.heap.size wr (wr.alloc (.cells #[aA aK ya yb,aB aK ys,aA aK yc yd,aA aK ye yf] 124)):=(Below.refl _ _).alloc (aY _) _;refine(HM.out _).mono ?_;rintro e5 w5 ⟨rfl,bh⟩;have Mj:=hI.keep (Er.trans (bh.mono Er.size));clear a0 a1 a2 a3 s0 s1 s2 s3 Er bh HM hI jy Z8;cases bt
     .have Z9:=Mj.skip HF.out (λh=>by have:=Mi.out.2 h;cases this)
      have oh:=Mj.nl.below;have Es:Hid (∀o,vJ w B ⟨wa,wb,sh,fa,fb,ta,tb⟩ e es i (j+1) u3 L' (w5.alloc o)):=λo=>Z9.keep ((Below.refl w5.heap.size w5).alloc (aY _) o)
      clear RU Mi Z9
      go_wp2_with (simp only[iH];go_simp)
      go_roundg (gk-1)
      case measure=>omega
      case rel=>exact⟨j+1,aa,ai,⟨_,Es.out _⟩⟩
     .obtain⟨BO,hvc,hvq,Et⟩:=RU.out rfl;have hmt:=Mi.out.1 rfl;have hnc:jd vn=[aA aK M1 M2,az aJ MP]:=by
       unfold jb at BO;injection BO with BO;have:=aZ Array.toList BO;exact this.symm
      have Hl:Hid (jd vn=[aA aK M1 M2,az aJ MP]/\Ge.Can vn/\Ge.aU vn=Ge.gK e f/\fC vn.1 vn.2.1 vn.2.2):=⟨hnc,hvc,hvq,Et⟩;have HMT:Hid (Ge.dO e f≠0/\Ge.hq (Ge.gK e f) e=true/\Ge.hq (Ge.gK e f) f=true):=hmt;have Eu:=Mj.keep ((Below.refl w5.heap.size w5).alloc (aY _) (.cells #[aA aK M1 M2,az aJ MP] 83));have gU:=Eu.nl.own;have auf:=Eu.len;have LW:=Eu.nl.below.size;have zi:=heap_alloc_new w5 (.cells #[aA aK M1 M2,az aJ MP] 83);clear RU Mi BO hvc hvq Et hmt hnc Mj
      go_wp2_with (first
       |(at_builtin;refine wpList_append_lies _ rfl (.tmp 41) (.tmp 43) 138 rfl w.heap.size 83 i0 _ 2 24 underlying138 hi hz0 hz1 hz2 rfl ah u3 L'.length (eW L') rfl (bG gU (λk hk=>Below.heap_alloc _ _ _ (bn gU k hk).2)) ⟨w5.heap.size+1,0,none⟩ 1 1 [aA aK M1 M2,az aJ MP] rfl rfl (World.news_of_block (cs:= #[aA aK M1 M2,az aJ MP]) (t:=83) (fr:=(0,0)) (by have:=heap_alloc_new (w5.alloc (.cells #[aA aK M1 M2,az aJ MP] 83)) (.cells #[aA aK M1 M2,az aJ MP] 83);simpa using this)) (by simp[Value.oneCell']) ah (by unfold maxLen;omega) aa (by simp at LW⊢;omega) (w5.heap.size+2) af ?_;intro g2 cap2 w9 BP BR aae sI)
       |(simp only[iH];go_simp))
      have HN9:Hid (vJ w B ⟨wa,wb,sh,fa,fb,ta,tb⟩ e es i (j+1) (aG (some ⟨g2,0,none⟩) (L'.length+1) cap2) (L'++[vn]) w9):=by
       have q9:=Eu.keep ((Below.refl (w5.alloc (.cells #[aA aK M1 M2,az aJ MP] 83)).heap.size _).alloc (aY _) (.cells #[aA aK M1 M2,az aJ MP] 83));have hne:some B≠u3.ownBlock:=λh=>q9.ne h.symm
       have Hm:=q9.lt;refine⟨⟨?_,q9.nl.below.grown BR q9.nl.below.size (λk hk=>(bn q9.nl.own k hk).1),λn hn=>?_,λn hn=>?_⟩,?_,?_,(BR.cell_far ⟨B,0,none⟩ Hm hne).trans q9.c0,(BR.cell_far ⟨B,1,none⟩ Hm hne).trans q9.c1,(BR.cell_far ⟨B,2,none⟩ Hm hne).trans q9.c2,(BR.cell_far ⟨B,3,none⟩ Hm hne).trans q9.c3,λq=>?_,by rw[bX];show L'.length+1<=_;omega⟩
       .rw[RH,Hl.out.1,bX];exact BP
       .rcases dF.1 hn with h|h
        .exact q9.nl.can n h
        .rw[dB.1 h];exact Hl.out.2.1
       .rcases dF.1 hn with h|h
        .exact q9.nl.bw n h
        .rw[dB.1 h];exact Hl.out.2.2.2
       .exact bW Hm BR.size
       .show some g2≠some B;intro h;injection h with h;rcases aae with h9|h9
        .exact q9.ne (by rw[h9,h])
        .have:=Eu.lt;simp at this;omega
       .have h1:=q9.iff q;rw[ZZ HF.out q];constructor
        .rintro⟨n,hn,h⟩;rcases dF.1 hn with hn|hn
         .rcases h1.1 ⟨n,hn,h⟩ with h|h|h|h
          .exact aS h
          .exact aR (aS h)
          .exact aR (aR (aS h))
          .exact aR (aR (aR (aS h)))
         .rw[dB.1 hn,Hl.out.2.2.1] at h;exact aR (aR (aR (aR ⟨HMT.out.1,h.symm,HMT.out.2⟩)))
        .rintro(h|h|h|h|h)
         .obtain⟨n,hn,h⟩:=h1.2 (aS h);exact⟨n,by simp[hn],h⟩
         .obtain⟨n,hn,h⟩:=h1.2 (aR (aS h));exact⟨n,by simp[hn],h⟩
         .obtain⟨n,hn,h⟩:=h1.2 (aR (aR (aS h)));exact⟨n,by simp[hn],h⟩
         .obtain⟨n,hn,h⟩:=h1.2 (aR (aR (aR h)));exact⟨n,by simp[hn],h⟩
         .exact⟨vn,af,by rw[Hl.out.2.2.1,h.2.1]⟩
      clear BP BR gU Eu aae sI zi
      go_roundg (gk-1)
      case measure=>omega
      case rel=>exact⟨j+1,aa,ai,⟨_,HN9.out⟩⟩
    .have hj:j=i:=aa
     subst hj;have dw:Hid (NS w u3 (es.take (j+1)) ((j+1)*404) wr):=by
      have htk:es.take (j+1)=es.take j++[e]:=by rw[ju,Eo.out];rfl
      refine⟨L',hI.nl,λq=>?_,by have:=hI.len;omega⟩
      rw[htk,Ge.akI,hI.iff q]
     clear ir hI
     go_wp2_with fail
     go_roundg (m1-1)
     case measure=>omega
     case rel=>exact⟨j+1,aa,ai,dw⟩
  .have hk:i=es.length:=aa
   subst hk;have HF:Hid (NS w u3 es (es.length*404) wr):=by
    have:=HE.out;rw[gv] at this;exact this
   clear HE HR;obtain⟨L,En,Hf,lO⟩:=HF.out;have hL2:L.length<=200000:=aa
   go_wp2_with fail
   refine(HS.out _ L _ En hL2).mono ?_;rintro e w5 ⟨rfl,S,hS,hmem,hlen,hpw⟩
   go_wp2_with fail
   refine(HK.out _ S _ hS aa).mono ?_
   rintro e w6 ⟨v',rfl,hR6,bp⟩;have Ev:Hid (jn w6 v' (Ge.dV S)):=hR6;have HSM:Hid (S.length<=200000/\∀q,(∃n∈S,Ge.aU n=q)↔Ge.isNode es q):=⟨aa,λq=>by
    rw[<-Hf q];constructor
    .rintro⟨n,hn,h⟩;exact⟨n,(hmem n).1 hn,h⟩
    .rintro⟨n,hn,h⟩;exact⟨n,(hmem n).2 hn,h⟩⟩
   have HPW:Hid (S.Pairwise Ge.le):=hpw;have RX:Hid (NL w u3 S w5):=hS;clear hR6 Hf hmem hpw hS En HF HS HK
   go_wp2_with fail
   go_ret
   exact⟨v',Ge.dV S,rfl,Ev.out,bp,Ge.akJ es S RX.out.can HPW.out HSM.out.2,λn hn=>RX.out.bw n ((Ge.BN S n).1 hn),fN (ZY S) HSM.out.1,λn hn=>RX.out.can n ((Ge.BN S n).1 hn)⟩
namespace Ge
theorem aah:∀(l:List Nd)(y x:Nd),l.getLast?=some y->dV (l++[x])=if x=y then dV l else dV l++[x]
 |[],_,_,h=>by simp at h
 |[a],y,x,h=>by
  have e:a=y:=by simpa using h
  subst e;have e1:dV [a,x]=if a=x then dV [x] else a::dV [x]:=by simp[dV]
  have e2:∀z:Nd,dV [z]=[z]:=λz=>by rw[dV]
  show dV [a,x]=_;rw[e1,e2,e2];by_cases hx:x=a
  .subst hx;rw[aV rfl,aV rfl]
  .rw[aP (λh=>hx h.symm),aP hx]
   rfl
 |a::b::r,y,x,h=>by
  have ih:=aah (b::r) y x (by simpa using h)
  show dV (a::b::(r++[x]))=_;have e1:dV (a::b::(r++[x]))=if a=b then dV (b::(r++[x])) else a::dV (b::(r++[x])):=by rw[dV]
  have e2:dV (a::b::r)=if a=b then dV (b::r) else a::dV (b::r):=by rw[dV]
  have e3:dV (b::(r++[x]))=if x=y then dV (b::r) else dV (b::r)++[x]:=ih
  rw[e1,e2,e3];by_cases hx:x=y
  .simp only[hx,lG]
  .by_cases hab:a=b<;>simp[hx,hab]
theorem aai(zs:List Nd):∀m,m<=zs.length->Lib.compactUpTo zs.toArray m=dV (zs.take m)
 |0,_=>by simp[Lib.compactUpTo,dV]
 |m+1,h=>by
  have hlt:m<zs.length:=h;rw[Lib.compactUpTo_succ,aai zs m aa,qD hlt]
  have hg:zs.toArray[m]! =zs[m]:=by rw[jl zs.toArray m (by simpa using hlt)];simp
  rcases Nat.eq_zero_or_pos m with h0|h0
  .subst h0;rw[Lib.keeps_lt_one _ 0 aa,hg]
   simp[dV]
  .have hp:m-1<zs.length:=aa
   have hl:(zs.take m).getLast?=some zs[m-1]:=by
    rw[nX,iE,show min m zs.length-1=m-1 by omega,lH,aV aa,bo hp]
   have hg2:zs.toArray[m-1]! =zs[m-1]:=by rw[jl zs.toArray (m-1) (by simpa using hp)];simp
   rw[aah _ _ _ hl];by_cases hx:zs[m]=zs[m-1]
   .rw[Lib.keeps_neg h0 (by rw[hg,hg2];exact hx),aV hx]
    simp
   .rw[Lib.keeps_pos (by rw[hg,hg2];exact hx),aP hx,hg]
    simp
theorem aaj(d:Array Nd):Lib.compactUpTo d d.size=dV d.toList:=by
 have h:=aai d.toList d.toList.length (aY _);rw[gv] at h;simpa using h
end Ge
theorem Hn(L:List Ge.Nd):(eW L).length=L.length*2:=by
 induction L with
 |nil=>rfl
 |cons n L ih=>
  have e:eW (n::L)=jd n++eW L:=by simp[eW]
  rw[e,bX,ih,dG];show 2+_=_;omega
structure RW(w:aM)(g cap n:Nat)(d:Array Ge.Nd)(wr:aM):Prop where
 size:d.size=n
 own:wr.ownsRow w.heap.size 83 2 (aG (some ⟨g,0,none⟩) n cap) n (eW d.toList)
 below:aj w wr
theorem aak:∀(l:List Ge.Nd)(k:Nat),(eW l).take (k*2)=eW (l.take k)
 |[],k=>by simp[eW]
 |a::l,0=>by simp[eW]
 |a::l,k+1=>by
  have ih:=aak l k;have e:∀(b:Ge.Nd)(r:List Ge.Nd),eW (b::r)=aA aK (aO aK b.1) (aO aK b.2.1):: az aJ b.2.2::eW r:=λb r=>by simp[eW,jd]
  rw[FL,e,e,<-ih];have e1:(k+1)*2=k*2+1+1:=aa
  rw[e1,FL,FL]
theorem RW.blk{d:Array Ge.Nd}(h:RW w g cap n d wr):∃cur,w.heap.size<=g/\wr.heap[g]?=some (.cells cur 83 (0,0))/\n<=cap/\cap<=maxLen/\cur.size=cap*2/\cur.toList.take (n*2)=eW d.toList:=by
 rcases h.own.2 with⟨hv,_⟩|⟨g',cap',cur,hv,h1,h2,h3,h4,h5,h6⟩
 .simp at hv
 .simp only[Value.slice.injEq,Option.some.injEq,Addr.mk.injEq] at hv;obtain⟨⟨rfl,_⟩,_,rfl⟩:=hv;exact⟨cur,h1,h2,h3,h4,h5,h6⟩
theorem RW.cells{d:Array Ge.Nd}(h:RW w g cap n d wr)(i:Nat)(hi:i<n):
  wr.cell? ⟨g,i*2,none⟩=some (aA aK (aO aK (d[i]!).1) (aO aK (d[i]!).2.1))/\wr.cell? ⟨g,i*2+1,none⟩=some (az aJ (d[i]!).2.2)/\wr.frozen? ⟨g,i*2,none⟩=false/\wr.frozen? ⟨g,i*2+1,none⟩=false:=by
 obtain⟨cur,_,hb,_,_,hs,htk⟩:=h.blk;have hd:i<d.size:=by rw[h.size];exact hi
 have hx:d.toList[i]?=some d[i]! :=by rw[jW,pU hd,jl d i hd]
 have k0:=He _ _ _ hx 0 aa
 have k1:=He _ _ _ hx 1 aa
 rw[<-htk,lH,aV aa,jW] at k0 k1
 refine⟨?_,?_,bK hb _,bK hb _⟩
 .unfold World.cell?;rw[hb];exact k0
 .unfold World.cell?;rw[hb];exact k1
theorem aal:∀(l:List Ge.Nd)(k:Nat)(x:Ge.Nd),k<l.length->eW (l.set k x)=((eW l).set (k*2) (aA aK (aO aK x.1) (aO aK x.2.1))).set (k*2+1) (az aJ x.2.2)
 |[],_,_,h=>by simp at h
 |a::l,0,x,_=>by simp[eW,jd]
 |a::l,k+1,x,h=>by
  have ih:=aal l k x (by simpa using h)
  have e:∀(b:Ge.Nd)(r:List Ge.Nd),eW (b::r)=aA aK (aO aK b.1) (aO aK b.2.1):: az aJ b.2.2::eW r:=λb r=>by simp[eW,jd]
  rw[dL,e,e,ih];have e1:(k+1)*2=k*2+1+1:=aa
  rw[e1,dL,dL,dL,dL]
theorem RW.set{d:Array Ge.Nd}(h:RW w g cap n d wr)(k:Nat)(hk:k<n)(x:Ge.Nd):
  RW w g cap n (d.setIfInBounds k x) ((wr.setCell ⟨g,k*2,none⟩ (aA aK (aO aK x.1) (aO aK x.2.1))).setCell ⟨g,k*2+1,none⟩ (az aJ x.2.2)):=by
 obtain⟨cur,hg,hb,hnc,hcm,hs,htk⟩:=h.blk;have hb1:(wr.setCell ⟨g,k*2,none⟩ (aA aK (aO aK x.1) (aO aK x.2.1))).heap[g]?=some (.cells (cur.setIfInBounds (k*2) (aA aK (aO aK x.1) (aO aK x.2.1))) 83 (0,0)):=by
  rw[setCell_eq_setRow wr g (k*2) cur 83 (0,0) _ hb];exact setRow_heap _ _ _ _ _ _ hb
 have hb2:((wr.setCell ⟨g,k*2,none⟩ (aA aK (aO aK x.1) (aO aK x.2.1))).setCell ⟨g,k*2+1,none⟩ (az aJ x.2.2)).heap[g]?=some (.cells ((cur.setIfInBounds (k*2) (aA aK (aO aK x.1) (aO aK x.2.1))).setIfInBounds (k*2+1) (az aJ x.2.2)) 83 (0,0)):=by
  rw[setCell_eq_setRow _ g (k*2+1) _ 83 (0,0) _ hb1];exact setRow_heap _ _ _ _ _ _ hb1
 have hd:k<d.toList.length:=by rw[jw,h.size];exact hk
 refine⟨by rw[AJ];exact h.size,⟨?_,aR ⟨g,cap,_,rfl,hg,hb2,hnc,hcm,?_,?_⟩⟩,(h.below.setCell hg _).setCell hg _⟩
 .rw[Hn,jw,AJ,h.size]
 .rw[AJ,AJ];exact hs
 .rw[Pn,Pn,Pn,aal _ _ _ hd,<-htk,ag1,ag1]
theorem RW.clear{d:Array Ge.Nd}(h:RW w g cap n d wr)(k:Nat)(hk:k<n)(c:Nat):
  ∃w',(∀ty,(Builtin.clear_ #[138] ty #[aG (some ⟨g,k*2,none⟩) (n-k) c]).run prog wr=.ok (aI #[]) w')/\aj w w'/\jn w' (aG (some ⟨g,0,none⟩) k cap) (d.toList.take k):=by
 obtain⟨cur,hg,hb,hnc,hcm,hs,htk⟩:=h.blk;have hzl:(Builtin.zeroCells (Value.agg #[aA aK 0 0,az aJ 0]).cells (n-k)).toList.length=(n-k)*2:=by
  rw[jw];unfold Builtin.zeroCells;rw[Array.size_map,Array.size_range];rfl
 have hone:∀v∈(Builtin.zeroCells (Value.agg #[aA aK 0 0,az aJ 0]).cells (n-k)).toList,v.oneCell'=true:=by
  intro v hv;unfold Builtin.zeroCells at hv;simp only[Array.toList_map,bQ] at hv;obtain⟨i,_,rfl⟩:=hv;have e:(Value.agg #[aA aK 0 0,az aJ 0]).cells= #[aA aK 0 0,az aJ 0]:=rfl;rw[e];show(#[Value.complex aK 0 0,az aJ 0][i%2]!).oneCell'=true;have h2:i%2=0\/i%2=1:=aa
  rcases h2 with h2|h2<;>rw[h2]<;>rfl
 have hst:=run_storeCells_at prog g (k*2) 83 _ 0 cur wr hb (by rw[hzl,hs];omega) hone
 simp only[rM] at hst;rw[hzl] at hst;generalize nL:(Builtin.zeroCells (Value.agg #[aA aK 0 0,az aJ 0]).cells (n-k)).toList=Z at*;have Eb:=setRow_heap wr g cur (cur.toList.take (k*2)++Z++cur.toList.drop (k*2+(n-k)*2)).toArray _ _ hb;refine⟨wr.setRow g (cur.toList.take (k*2)++Z++cur.toList.drop (k*2+(n-k)*2)).toArray,λty=>?_,?_,?_,aR ⟨g,cap,_,?_,iW _,Eb,?_,hcm,?_,?_⟩⟩
 .obtain⟨m,hm⟩:∃m,n-k=m+1:=⟨n-k-1,aa⟩
  rw[hm] at hst nL⊢;simp[Builtin.clear_,run_underlying underlying138,nL,hst]
 .refine h.below.trans ⟨rfl,rfl,rfl,af,λj hj=>setRow_other _ _ _ _ aa⟩
 .rw[Hn]
 .have e:(d.toList.take k).length=k:=by rw[iE,jw,h.size];omega
  rw[e]
 .rw[iE,jw,h.size];omega
 .simp only[ahl,bX,iE,rJ,jw,hzl,hs];omega
 .have e:(d.toList.take k).length=k:=by rw[iE,jw,h.size];omega
  rw[e];show((cur.toList.take (k*2)++_++_).take (k*2))=_;rw[fL,ahm (by rw[iE,jw,hs];omega),AK,Nat.min_self]
  have e2:cur.toList.take (k*2)=(cur.toList.take (n*2)).take (k*2):=by rw[AK,Dc aa]
  rw[e2,htk];exact aak _ _
theorem aam{d:Array Ge.Nd}(h:∀j,j<d.size->Lib.keeps d j=true):Ge.dV d.toList=d.toList:=by
 rw[<-Ge.aaj,Lib.compactUpTo_all _ _ h,Lib.range_map_get]
theorem RW.rd{d:Array Ge.Nd}(h:RW w g cap n d wr):jn wr (aG (some ⟨g,0,none⟩) n cap) d.toList:=by
 obtain⟨cur,hg,hb,hnc,hcm,hs,htk⟩:=h.blk;have e:d.toList.length=n:=by rw[jw,h.size]
 exact⟨by rw[Hn],aR ⟨g,cap,cur,by rw[e],iW _,hb,by rw[e];exact hnc,hcm,hs,by rw[e];exact htk⟩⟩
theorem aan(x y:Ge.Nd)(hx:fC x.1 x.2.1 x.2.2)(hy:fC y.1 y.2.1 y.2.2)(w:aM):
  (Op.equalIn 10000 83 (aC #[aA aK (aO aK x.1) (aO aK x.2.1),az aJ x.2.2]) (aC #[aA aK (aO aK y.1) (aO aK y.2.1),az aJ y.2.2])).run prog w=.ok (decide (x=y)) w:=by
 obtain⟨a1,a2⟩:=uj hx;obtain⟨b1,b2⟩:=uj hy;have q1:=vk a1 b1;have q2:=vk a2 b2;obtain⟨x1,x2,x3⟩:=x;obtain⟨y1,y2,y3⟩:=y;simp only at q1 q2⊢;generalize aO aK x1=X1 at*;generalize aO aK x2=X2 at*;generalize aO aK y1=Y1 at*;generalize aO aK y2=Y2 at*;have hdec:decide ((x1,x2,x3)=(y1,y2,y3))=(decide (x1=y1)&&decide (x2=y2)&&decide (x3=y3)):=by
  simp[Prod.mk.injEq,Bool.and_assoc]
 have e1:Op.floatEq aK X1 Y1=decide (x1=y1):=q1;have e2:Op.floatEq aK X2 Y2=decide (x2=y2):=q2;rw[hdec];rw[run_equalIn_agg w 9999 83 _ _ ag ag]
 have hc:∀w,(Op.equalIn 9999 81 (aA aK X1 X2) (aA aK Y1 Y2)).run prog w=.ok (decide (x1=y1)&&decide (x2=y2)) w:=λw=>by
  show(Op.equalIn (9998+1) 81 (aA aK X1 X2) (aA aK Y1 Y2)).run prog w=_;rw[Op.equalIn,Sem.run_bind,run_underlying underlying81,Result.andThen_ok,<-e1,<-e2];rfl
 clear q1 q2 e1 e2 hdec;simp[go_sem,hc]
 by_cases h1:x1=y1<;>by_cases h2:x2=y2<;>by_cases h3:x3=y3<;>simp[h1,h2,h3]
theorem Ho(x y:Ge.Nd)(hx:fC x.1 x.2.1 x.2.2)(hy:fC y.1 y.2.1 y.2.2)(w:aM):
  (binOp .eql 83 (aC #[aA aK (aO aK x.1) (aO aK x.2.1),az aJ x.2.2]) (aC #[aA aK (aO aK y.1) (aO aK y.2.1),az aJ y.2.2])).run prog w=.ok (aD (decide (x=y))) w:=by
 rw[run_eql_struct,aan x y hx hy w];rfl
theorem akO(x y:Ge.Nd)(hx:fC x.1 x.2.1 x.2.2)(hy:fC y.1 y.2.1 y.2.2)(w:aM):
  (binOp .neq 83 (aC #[aA aK (aO aK x.1) (aO aK x.2.1),az aJ x.2.2]) (aC #[aA aK (aO aK y.1) (aO aK y.2.1),az aJ y.2.2])).run prog w=.ok (aD (!decide (x=y))) w:=by
 rw[run_neq_struct,aan x y hx hy w];rfl
structure nj(n:Ge.Nd):Prop where
 x:n.1.natAbs<=3000000
 y:n.2.1.natAbs<=3000000
 d:0<n.2.2/\n.2.2<=20000
theorem nj.bw{n:Ge.Nd}(h:nj n):fC n.1 n.2.1 n.2.2:=⟨by have:=h.x;omega,by have:=h.y;omega,by have:=h.d;omega⟩
theorem akP{a s c d t:Nat}{l m:Ge.Ln}(hl:qZ a b s l)(hm:qZ c d t m)(b1:sm l.1)(b2:sm l.2.1)(b3:sm m.1)(b4:sm m.2.1)(w:aM):
  ak 161 #[aC #[aA aK a b,aB aK s],aC #[aA aK c d,aB aK t]] w λe w'=>e=aL (az aJ (l.1*m.1+l.2.1*m.2.1).sign)/\aj w w':=by
 obtain⟨re,im,f1,_,ht⟩:=QO hl.a hl.b hm.a hm.b b1 b2 b3 b4;have hc:=λw=>BK f1 mV w
 have e1:(l.1*m.1+l.2.1*m.2.1-0).sign=(l.1*m.1+l.2.1*m.2.1).sign:=by rw[C9]
 rw[e1] at hc;have HT:Hid (∀w,ak 98 #[aA aK a b,aA aK c d] w λe w'=>e=aL (aA aK re im)/\w'=w):=ht
 have HC:Hid (∀w,ak 183 #[aB aK re,aB aK 0] w λr w'=>r=aL (az aJ (l.1*m.1+l.2.1*m.2.1).sign)/\w'=w):=hc
 generalize(l.1*m.1+l.2.1*m.2.1).sign=R at*;clear ht hc f1 e1;have hb0:aj w ((w.alloc (.cells #[aA aK a b,aB aK s] 122)).alloc (.cells #[aA aK c d,aB aK t] 122)):=(aw _ _).alloc af _
 go_enter func161,ntmps161
 go_wp2_with fail
 refine(HT.out _).mono ?_;rintro e w1 ⟨rfl,rfl⟩
 go_wp2_with fail
 refine(HC.out _).mono ?_;rintro e w2 ⟨rfl,rfl⟩
 go_wp2_with fail
 go_ret
 exact⟨rfl,hb0⟩
structure PB where
 wa:Nat
 wb:Nat
 sh:Nat
 f:Ge.Nd
 t:Ge.Nd
def PB.cells(x:PB):List aN:=[aA aK x.wa x.wb,aB aK x.sh,aA aK (aO aK x.f.1) (aO aK x.f.2.1),az aJ x.f.2.2,aA aK (aO aK x.t.1) (aO aK x.t.2.1),az aJ x.t.2.2]
theorem akQ(x:PB)(hf:nj x.f)(ht:nj x.t):
  ∃n:Ge.Nd,Ge.Can n/\Ge.aU n=(Ge.bO (x.f.1+x.t.1) (x.f.2.2+x.t.2.2),Ge.bO (x.f.2.1+x.t.2.1) (x.f.2.2+x.t.2.2))/\fC n.1 n.2.1 n.2.2/\∀w,ak 160 #[aC x.cells.toArray] w λe w'=>e=aL (jb n)/\aj w w':=by
 obtain⟨a1,a2⟩:=uj hf.bw;obtain⟨b1,b2⟩:=uj ht.bw;have hfx:=hf.x;have hfy:=hf.y;have hfd:=hf.d;have htx:=ht.x;have hty:=ht.y;have htd:=ht.d;obtain⟨re,im,e,f1,f2⟩:=aiN a1 a2 b1 b2 aa aa
 obtain⟨n,hc,hq,hn,hN⟩:=L4 (x.f.2.2+x.t.2.2) f1 f2 aa aa aa
 refine⟨n,hc,hq,hn,λw=>?_⟩
 have HN:Hid (∀w,ak 37 #[aA aK re im,az aJ (x.f.2.2+x.t.2.2)] w λe w'=>e=aL (jb n)/\aj w w'):=hN
 have hop:=λt w=>run_complex_sum (P:=prog) w .add (aS rfl) t aK _ _ _ _ re im e
 unfold jb at HN⊢;obtain⟨wa,wb,sh,⟨x1,x2,x3⟩,y1,y2,y3⟩:=x;simp only[PB.cells] at*;generalize aO aK x1=X1 at*;generalize aO aK x2=X2 at*;generalize aO aK y1=Y1 at*;generalize aO aK y2=Y2 at*;clear hN hq e f1 f2 a1 a2 b1 b2 hc hn hf ht;generalize aO aK n.1=N1 at*;generalize aO aK n.2.1=N2 at*;have hw3:IntKind.i64.wrap (x3+y3)=x3+y3:=by rw[IntKind.wrap_i64];omega
 have hb0:aj w ((w.alloc (.cells #[aA aK wa wb,aB aK sh,aA aK X1 X2,az aJ x3,aA aK Y1 Y2,az aJ y3] 171)).alloc (.cells #[aA aK 0 0,az aJ 0] 83)):=(aw _ _).alloc af _
 have hE:=heap_alloc_new (w.alloc (.cells #[aA aK wa wb,aB aK sh,aA aK X1 X2,az aJ x3,aA aK Y1 Y2,az aJ y3] 171)) (.cells #[aA aK 0 0,az aJ 0] 83);have hz:(w.alloc (.cells #[aA aK wa wb,aB aK sh,aA aK X1 X2,az aJ x3,aA aK Y1 Y2,az aJ y3] 171)).heap.size=w.heap.size+1:=af
 have hz2:((w.alloc (.cells #[aA aK wa wb,aB aK sh,aA aK X1 X2,az aJ x3,aA aK Y1 Y2,az aJ y3] 171)).alloc (.cells #[aA aK 0 0,az aJ 0] 83)).heap.size=w.heap.size+2:=af
 rw[hz] at hE
 go_enter func160,ntmps160
 go_wp2_with (simp only[hop])
 generalize(w.alloc (.cells #[aA aK wa wb,aB aK sh,aA aK X1 X2,az aJ x3,aA aK Y1 Y2,az aJ y3] 171)).alloc (.cells #[aA aK 0 0,az aJ 0] 83)=W at*;refine(HN.out _).mono ?_;rintro e w1 ⟨rfl,hb1⟩;have mI:=(hb1.block (w.heap.size+1) aa).trans hE
 have e0:=cL mI;have e1:=cK mI;have z0:=bK mI 0;have z1:=bK mI 1;have aX:=hb0.trans (hb1.mono hb0.size);clear hop hw3
 go_wp2_with (simp only[iH];go_simp)
 refine bodyPost_ret (v:=aC #[aA aK N1 N2,az aJ n.2.2]) (by simp[results,results160,go_sem,e0,e1]) rfl ⟨rfl,?_⟩
 exact(aX.setCell (p:=⟨w.heap.size+1,0,none⟩) (pT _) _).setCell (p:=⟨w.heap.size+1,1,none⟩) (pT _) _
def cE(x y:Ge.Nd):Int:=Ge.pc (Ge.aU x) (Ge.aU y)
def Ew(x y:PB):Int:=if cE x.f y.f=0 then cE x.t y.t else cE x.f y.f
structure eB(x:PB):Prop where
 f:nj x.f
 t:nj x.t
 cf:Ge.Can x.f
 ct:Ge.Can x.t
theorem akR(a1 b1 s1 a2 b2 s2 F1 F2 T1 T2 G1 G2 H1 H2:Nat)(F3 T3 G3 H3 p q R:Int)(w:aM)
  (HO:Hid (∀b cap w,w.cell? ⟨b,0,none⟩=some (az aJ p)->w.cell? ⟨b,1,none⟩=some (az aJ q)->ak 182 #[aG (some ⟨b,0,none⟩) 2 cap] w λr w'=>r=aL (az aJ R)/\w'=w))
  (HF:Hid (∀w,ak 125 #[aC #[aA aK F1 F2,az aJ F3],aC #[aA aK G1 G2,az aJ G3]] w λe w'=>e=aL (az aJ p)/\Below w.heap.size w w'/\w.drawn<=w'.drawn))
  (HT:Hid (∀w,ak 125 #[aC #[aA aK T1 T2,az aJ T3],aC #[aA aK H1 H2,az aJ H3]] w λe w'=>e=aL (az aJ q)/\Below w.heap.size w w'/\w.drawn<=w'.drawn)):
  ak 157 #[aC #[aA aK a1 b1,aB aK s1,aA aK F1 F2,az aJ F3,aA aK T1 T2,az aJ T3],aC #[aA aK a2 b2,aB aK s2,aA aK G1 G2,az aJ G3,aA aK H1 H2,az aJ H3]] w λe w'=>e=aL (az aJ R)/\Below w.heap.size w w'/\w.drawn<=w'.drawn:=by
 have hX:((w.alloc (.cells #[aA aK a1 b1,aB aK s1,aA aK F1 F2,az aJ F3,aA aK T1 T2,az aJ T3] 171)).alloc (.cells #[aA aK a2 b2,aB aK s2,aA aK G1 G2,az aJ G3,aA aK H1 H2,az aJ H3] 171)).heap[w.heap.size]?=some (.cells #[aA aK a1 b1,aB aK s1,aA aK F1 F2,az aJ F3,aA aK T1 T2,az aJ T3] 171 (0,0)):=by
  rw[Below.heap_alloc _ _ _ af];exact heap_alloc_new _ _
 have hY:((w.alloc (.cells #[aA aK a1 b1,aB aK s1,aA aK F1 F2,az aJ F3,aA aK T1 T2,az aJ T3] 171)).alloc (.cells #[aA aK a2 b2,aB aK s2,aA aK G1 G2,az aJ G3,aA aK H1 H2,az aJ H3] 171)).heap[w.heap.size+1]?=some (.cells #[aA aK a2 b2,aB aK s2,aA aK G1 G2,az aJ G3,aA aK H1 H2,az aJ H3] 171 (0,0)):=by
  have:=heap_alloc_new (w.alloc (.cells #[aA aK a1 b1,aB aK s1,aA aK F1 F2,az aJ F3,aA aK T1 T2,az aJ T3] 171)) (.cells #[aA aK a2 b2,aB aK s2,aA aK G1 G2,az aJ G3,aA aK H1 H2,az aJ H3] 171);simpa using this
 have hb0:Below w.heap.size w ((w.alloc (.cells #[aA aK a1 b1,aB aK s1,aA aK F1 F2,az aJ F3,aA aK T1 T2,az aJ T3] 171)).alloc (.cells #[aA aK a2 b2,aB aK s2,aA aK G1 G2,az aJ G3,aA aK H1 H2,az aJ H3] 171)):=((Below.refl _ _).alloc (aY _) _).alloc af _
 have fB:w.heap.size+2=((w.alloc (.cells #[aA aK a1 b1,aB aK s1,aA aK F1 F2,az aJ F3,aA aK T1 T2,az aJ T3] 171)).alloc (.cells #[aA aK a2 b2,aB aK s2,aA aK G1 G2,az aJ G3,aA aK H1 H2,az aJ H3] 171)).heap.size:=af
 have hd0:w.drawn<=((w.alloc (.cells #[aA aK a1 b1,aB aK s1,aA aK F1 F2,az aJ F3,aA aK T1 T2,az aJ T3] 171)).alloc (.cells #[aA aK a2 b2,aB aK s2,aA aK G1 G2,az aJ G3,aA aK H1 H2,az aJ H3] 171)).drawn:=aY _
 go_enter func157,ntmps157
 go_wp2_with fail
 generalize(w.alloc (.cells #[aA aK a1 b1,aB aK s1,aA aK F1 F2,az aJ F3,aA aK T1 T2,az aJ T3] 171)).alloc (.cells #[aA aK a2 b2,aB aK s2,aA aK G1 G2,az aJ G3,aA aK H1 H2,az aJ H3] 171)=W at*;generalize hB:w.heap.size=B at*;have ez:B<W.heap.size:=aa
 have hzb:B+1<W.heap.size:=aa
 have a0:=eN hX;have a1:=kA hX;have a2:=yP hX;have a3:=yQ hX;have a4:=eN hY;have a5:=kA hY;have a6:=yP hY;have a7:=yQ hY;clear hX hY
 go_region_held3 (λw'=>w'.cell? ⟨B,2,none⟩=some (aA aK F1 F2)/\w'.cell? ⟨B,3,none⟩=some (az aJ F3)/\w'.cell? ⟨B,4,none⟩=some (aA aK T1 T2)/\w'.cell? ⟨B,5,none⟩=some (az aJ T3)/\w'.cell? ⟨B+1,2,none⟩=some (aA aK G1 G2)/\w'.cell? ⟨B+1,3,none⟩=some (az aJ G3)/\w'.cell? ⟨B+1,4,none⟩=some (aA aK H1 H2)/\w'.cell? ⟨B+1,5,none⟩=some (az aJ H3)) (go_keep) (first
   |(go_at_call_of 125 (Value.agg #[Value.complex FloatKind.f64 F1 F2,Value.int IntKind.i64 F3]);refine(HF.out _).mono ?_;rintro e w6 ⟨rfl,bp,G9⟩;have jK:B<w6.heap.size:=bW ez bp.size;have mW:B+1<w6.heap.size:=bW hzb bp.size;have b0:=aQ bp a0 ez;have b1:=aQ bp a1 ez;have b2:=aQ bp a2 ez;have b3:=aQ bp a3 ez;have b4:=aQ bp a4 hzb;have b5:=aQ bp a5 hzb;have b6:=aQ bp a6 hzb;have b7:=(aQ bp a7 hzb))
   |(go_at_call_of 125 (Value.agg #[Value.complex FloatKind.f64 T1 T2,Value.int IntKind.i64 T3]);refine(HT.out _).mono ?_;rintro e w7 ⟨rfl,bu,Hc⟩;have rZ:B<w7.heap.size:=bW jK bu.size;have hvb:B+1<w7.heap.size:=bW mW bu.size;have c0:=aQ bu b0 jK;have c1:=aQ bu b1 jK;have c2:=aQ bu b2 jK;have c3:=aQ bu b3 jK;have c4:=aQ bu b4 mW;have c5:=aQ bu b5 mW;have c6:=aQ bu b6 mW;have c7:=(aQ bu b7 mW))
   |(go_at_call 182;refine(HO.out _ _ _ (cell_of (heap_alloc_new _ _) 0) (cell_of (heap_alloc_new _ _) 1)).mono ?_;rintro e w8 ⟨rfl,ua⟩;have kN:Below w7.heap.size w7 w8:=(by(rw[ua];exact(Below.refl _ _).alloc (aY _) _));have hd8:w7.drawn<=w8.drawn:=(by(subst ua;exact aY _));clear ua;have d0:=aQ kN c0 rZ;have d1:=aQ kN c1 rZ;have d2:=aQ kN c2 rZ;have d3:=aQ kN c3 rZ;have d4:=aQ kN c4 hvb;have d5:=aQ kN c5 hvb;have d6:=aQ kN c6 hvb;have d7:=(aQ kN c7 hvb)))
 all_goals
  have aX:=((hb0.drew.trans (bp.mono (fF ez))).trans (bu.mono (fF jK))).trans (kN.mono (fF rZ));have HD:Hid (w.drawn<=w8.drawn):=by
   have h1:W.drawn<=W.drew.drawn:=pT _;exact fN hd0 (fN h1 (fN G9 (fN Hc hd8)))
  clear bp bu kN hb0 G9 Hc hd8 hd0
  go_wp2_with fail
  go_ret
  exact⟨rfl,by rw[hB];exact aX,HD.out⟩
theorem akS(x y:PB)(hx:eB x)(hy:eB y)(w:aM):
  ak 157 #[aC x.cells.toArray,aC y.cells.toArray] w λr w'=>r=aL (az aJ (Ew x y))/\aj w w'/\w.drawn<=w'.drawn:=
 akR _ _ _ _ _ _ _ _ _ _ _ _ _ _ _ _ _ _ _ _ _ w (λb cap w h0 h1=>L9 _ _ b cap w h0 h1) (λw=>Hd x.f y.f hx.f.bw hy.f.bw hx.cf hy.cf w) (λw=>Hd x.t y.t hx.t.bw hy.t.bw hx.ct hy.ct w)
theorem akT(a1 b1 s1 a2 b2 s2 F1 F2 T1 T2 G1 G2 H1 H2:Nat)(F3 T3 G3 H3:Int)(p q:Bool)(w:aM)
  (GG:∀w,(binOp .eql 83 (aC #[aA aK F1 F2,az aJ F3]) (aC #[aA aK G1 G2,az aJ G3])).run prog w=.ok (aD p) w)
  (zk:∀w,(binOp .eql 83 (aC #[aA aK T1 T2,az aJ T3]) (aC #[aA aK H1 H2,az aJ H3])).run prog w=.ok (aD q) w):
  ak 159 #[aC #[aA aK a1 b1,aB aK s1,aA aK F1 F2,az aJ F3,aA aK T1 T2,az aJ T3],aC #[aA aK a2 b2,aB aK s2,aA aK G1 G2,az aJ G3,aA aK H1 H2,az aJ H3]] w λe w'=>e=aL (aD (p&&q))/\aj w w':=by
 have hb0:aj w ((w.alloc (.cells #[aA aK a1 b1,aB aK s1,aA aK F1 F2,az aJ F3,aA aK T1 T2,az aJ T3] 171)).alloc (.cells #[aA aK a2 b2,aB aK s2,aA aK G1 G2,az aJ G3,aA aK H1 H2,az aJ H3] 171)):=(aw _ _).alloc af _
 cases p
 .go_enter func159,ntmps159
  go_wp2_with (simp only[GG,zk])
  go_ret
  exact⟨rfl,hb0⟩
 .go_enter func159,ntmps159
  go_wp2_with (simp only[GG,zk])
  go_ret
  exact⟨rfl,hb0⟩
theorem aap(x y:PB)(hx:eB x)(hy:eB y)(w:aM):
  ak 159 #[aC x.cells.toArray,aC y.cells.toArray] w λr w'=>r=aL (aD (decide (x.f=y.f)&&decide (x.t=y.t)))/\aj w w':=
 akT _ _ _ _ _ _ _ _ _ _ _ _ _ _ _ _ _ _ _ _ w (λw=>Ho x.f y.f hx.f.bw hy.f.bw w) (λw=>Ho x.t y.t hx.t.bw hy.t.bw w)
def PB.rev(x:PB):PB:=⟨Op.negFloat aK x.wa,Op.negFloat aK x.wb,Op.negFloat aK x.sh,x.t,x.f⟩
theorem akU(a b s A B' S F1 F2 T1 T2:Nat)(F3 T3:Int)(w:aM)
  (HR:Hid (∀w,ak 162 #[aC #[aA aK a b,aB aK s]] w λe w'=>e=aL (aC #[aA aK A B',aB aK S])/\Below w.heap.size w w')):
  ak 107 #[aC #[aA aK a b,aB aK s,aA aK F1 F2,az aJ F3,aA aK T1 T2,az aJ T3]] w λe w'=>e=aL (aC #[aA aK A B',aB aK S,aA aK T1 T2,az aJ T3,aA aK F1 F2,az aJ F3])/\Below w.heap.size w w':=by
 have hX:((w.alloc (.cells #[aA aK a b,aB aK s,aA aK F1 F2,az aJ F3,aA aK T1 T2,az aJ T3] 171)).alloc (.cells #[aA aK 0 0,aB aK 0,aA aK 0 0,az aJ 0,aA aK 0 0,az aJ 0] 171)).heap[w.heap.size]?=some (.cells #[aA aK a b,aB aK s,aA aK F1 F2,az aJ F3,aA aK T1 T2,az aJ T3] 171 (0,0)):=by
  rw[Below.heap_alloc _ _ _ af];exact heap_alloc_new _ _
 have hY:((w.alloc (.cells #[aA aK a b,aB aK s,aA aK F1 F2,az aJ F3,aA aK T1 T2,az aJ T3] 171)).alloc (.cells #[aA aK 0 0,aB aK 0,aA aK 0 0,az aJ 0,aA aK 0 0,az aJ 0] 171)).heap[w.heap.size+1]?=some (.cells #[aA aK 0 0,aB aK 0,aA aK 0 0,az aJ 0,aA aK 0 0,az aJ 0] 171 (0,0)):=by
  have:=heap_alloc_new (w.alloc (.cells #[aA aK a b,aB aK s,aA aK F1 F2,az aJ F3,aA aK T1 T2,az aJ T3] 171)) (.cells #[aA aK 0 0,aB aK 0,aA aK 0 0,az aJ 0,aA aK 0 0,az aJ 0] 171);simpa using this
 have hb0:Below w.heap.size w ((w.alloc (.cells #[aA aK a b,aB aK s,aA aK F1 F2,az aJ F3,aA aK T1 T2,az aJ T3] 171)).alloc (.cells #[aA aK 0 0,aB aK 0,aA aK 0 0,az aJ 0,aA aK 0 0,az aJ 0] 171)):=((Below.refl _ _).alloc (aY _) _).alloc af _
 have fB:w.heap.size+2=((w.alloc (.cells #[aA aK a b,aB aK s,aA aK F1 F2,az aJ F3,aA aK T1 T2,az aJ T3] 171)).alloc (.cells #[aA aK 0 0,aB aK 0,aA aK 0 0,az aJ 0,aA aK 0 0,az aJ 0] 171)).heap.size:=af
 go_enter func107,ntmps107
 go_wp2_with fail
 generalize(w.alloc (.cells #[aA aK a b,aB aK s,aA aK F1 F2,az aJ F3,aA aK T1 T2,az aJ T3] 171)).alloc (.cells #[aA aK 0 0,aB aK 0,aA aK 0 0,az aJ 0,aA aK 0 0,az aJ 0] 171)=W at*;generalize hB:w.heap.size=B at*;have ez:B<W.heap.size:=aa
 have hzb:B+1<W.heap.size:=aa
 have a0:=cL hX;have a1:=cK hX;have a2:=eN hX;have a3:=kA hX;have a4:=yP hX;have a5:=yQ hX;have z0:=bK hY 0;have z1:=bK hY 1;have z2:=bK hY 2;have z3:=bK hY 3;have z4:=bK hY 4;have z5:=bK hY 5
 go_region_held3 (λw'=>w'.cell? ⟨B,0,none⟩=some (aA aK a b)/\w'.cell? ⟨B,1,none⟩=some (aB aK s)/\w'.cell? ⟨B,2,none⟩=some (aA aK F1 F2)/\w'.cell? ⟨B,3,none⟩=some (az aJ F3)/\w'.cell? ⟨B,4,none⟩=some (aA aK T1 T2)/\w'.cell? ⟨B,5,none⟩=some (az aJ T3)/\w'.frozen? ⟨B+1,0,none⟩=false/\w'.frozen? ⟨B+1,1,none⟩=false/\w'.frozen? ⟨B+1,2,none⟩=false/\w'.frozen? ⟨B+1,3,none⟩=false/\w'.frozen? ⟨B+1,4,none⟩=false/\w'.frozen? ⟨B+1,5,none⟩=false) (go_keep) (first
   |(go_at_call 162;refine(HR.out _).mono ?_;rintro e w5 ⟨rfl,bh⟩;have b0:=aQ bh a0 ez;have b1:=aQ bh a1 ez;have b2:=aQ bh a2 ez;have b3:=aQ bh a3 ez;have b4:=aQ bh a4 ez;have b5:=aQ bh a5 ez;have po:=(bh.block (B+1) hzb).trans hY;have y0:=bK po 0;have y1:=bK po 1;have y2:=bK po 2;have y3:=bK po 3;have y4:=bK po 4;have y5:=bK po 5;have e0:=cL po;have e1:=cK po;have e2:=eN po;have e3:=kA po;have e4:=yP po;have e5:=yQ po)
   |(simp only[iH,qO];go_simp))
 all_goals
  go_wp2_with fail
  refine bodyPost_ret (v:=aC #[aA aK A B',aB aK S,aA aK T1 T2,az aJ T3,aA aK F1 F2,az aJ F3]) (by simp[results,results107,go_sem,e0,e1,e2,e3,e4,e5]) rfl ⟨rfl,?_⟩
  have aX:=hb0.drew.trans (bh.mono (fF ez));rw[hB];exact((((((aX.setCell (p:=⟨B+1,0,none⟩) (pT _) _).setCell (p:=⟨B+1,1,none⟩) (pT _) _).setCell (p:=⟨B+1,2,none⟩) (pT _) _).setCell (p:=⟨B+1,3,none⟩) (pT _) _).setCell (p:=⟨B+1,4,none⟩) (pT _) _).setCell (p:=⟨B+1,5,none⟩) (pT _) _)
theorem akV(x:PB)(w:aM):
  ak 107 #[aC x.cells.toArray] w λe w'=>e=aL (aC x.rev.cells.toArray)/\aj w w':=
 akU _ _ _ _ _ _ _ _ _ _ _ _ w (λw=>ZN _ _ _ w)
theorem aaq{es:List Ed}(h:jL w v es)(hb:aj w w'):jL w' v es:=by
 obtain⟨xs,h1,h2,h3⟩:=h;exact⟨xs,h1,Bu h2 λk cur hc=>hb.block k (lt_of_heap hc),h3⟩
namespace Ge
def held(e:Pt×Pt)(l:List Nd):List Nd:=l.filter λn=>fo (n.1,n.2.1) n.2.2 e
def nexts:List Nd->List (Nd×Nd)
 |[]=>[]
 |[_]=>[]
 |a::b::r=>(a,b)::nexts (b::r)
theorem aar:∀(l:List Nd)(y x:Nd),l.getLast?=some y->nexts (l++[x])=nexts l++[(y,x)]
 |[],_,_,h=>by simp at h
 |[a],y,x,h=>by
  have e:a=y:=by simpa using h
  subst e;simp[nexts]
 |a::b::r,y,x,h=>by
  have ih:=aar (b::r) y x (by simpa using h)
  show nexts (a::b::(r++[x]))=nexts (a::b::r)++[(y,x)];simp only[nexts,mr];rw[<-ih];rfl
theorem akW{e:Pt×Pt}{l:List Nd}{k:Nat}{n:Nd}(h:l[k]?=some n):held e (l.take (k+1))=held e (l.take k)++(if fo (n.1,n.2.1) n.2.2 e then[n] else[]):=by
 obtain⟨hlt,he⟩:=cG.1 h;unfold held;rw[qD hlt,he,J8];congr 1;cases hf:fo (n.1,n.2.1) n.2.2 e<;>simp[hf]
end Ge
def dX(l:List PB):List aN:=l.flatMap PB.cells
theorem akX(l:List PB)(x:PB):dX (l++[x])=dX l++x.cells:=by simp[dX]
theorem aas:(Tryz.prog.info? 171).map (λi=>(i.zero,i.size,i.bytes))=some (some (aC #[aA aK 0 0,aB aK 0,aA aK 0 0,az aJ 0,aA aK 0 0,az aJ 0]),6,72):=ag
def PL(w:aM)(lv:aN)(L:List PB)(wr:aM):Prop:=wr.ownsRow w.heap.size 171 6 lv L.length (dX L)/\aj w wr
def uk(w:aM)(v:aN)(l:List PB):Prop:=w.ownsRow 0 171 6 v l.length (dX l)
def gz(a b s:Nat)(e:Ed)(l:List Ge.Nd):List PB:=(Ge.nexts (Ge.held e l)).map λp=>⟨a,b,s,p.1,p.2⟩
def aat(e:Ed)(l:List Ge.Nd)(k:Nat)(b:Int):Prop:=(b= -1/\Ge.held e (l.take k)=[])\/∃(j:Nat)(n:Ge.Nd),b=(j:Int)/\j<k/\l[j]?=some n/\(Ge.held e (l.take k)).getLast?=some n
structure xG(w:aM)(R:Nat)(ec rc:Array aN)(lv:aN)(L:List PB)(wr:aM):Prop where
 own:wr.ownsRow (R+1) 171 6 lv L.length (dX L)
 below:aj w wr
 e:wr.heap[w.heap.size]?=some (.cells ec 124 (0,0))
 r:wr.heap[R]?=some (.cells rc 122 (0,0))
theorem xG.keep{R:Nat}{ec rc:Array aN}{L:List PB}(h:xG w R ec rc lv L wr)(hb:aj wr w'):xG w R ec rc lv L w':=
 ⟨bG h.own λk hk=>hb.block k (bn h.own k hk).2,h.below.trans (hb.mono h.below.size),(hb.block _ (lt_of_heap h.e)).trans h.e,(hb.block _ (lt_of_heap h.r)).trans h.r⟩
theorem xH{b':Nat}{e:TypeId}{size:Nat}{xs:List aN}(h:w.ownsRow b e size v n xs)(hb:b'<=b):w.ownsRow b' e size v n xs:=by
 obtain⟨h1,h2⟩:=h;refine⟨h1,?_⟩;rcases h2 with h|⟨g,cap,cur,hv,hg,hr⟩
 .exact aS h
 .exact aR ⟨g,cap,cur,hv,fN hb hg,hr⟩
theorem lt_of_cell{o:Nat}(h:w.cell? ⟨b,o,none⟩=some v):b<w.heap.size:=World.block_lt_of_cell? w _ h
theorem aau(a b s:Nat)(e:Ed)(l:List Ge.Nd):(gz a b s e l).length<=l.length:=by
 have h1:∀m:List Ge.Nd,(Ge.nexts m).length<=m.length:=λm=>by
  induction m with
  |nil=>simp[Ge.nexts]
  |cons x r ih=>
   cases r with
   |nil=>simp[Ge.nexts]
   |cons y q=>simp only[Ge.nexts,dG] at ih⊢;omega
 unfold gz;rw[gG];refine fN (h1 _) ?_;exact J9 _ _
theorem akY(x:EB)(e:Ed)(l:List Ge.Nd)(v:aN)(w:aM)(hx:lK x e)(hs:gS e)(hR:jn w v l)(hn:∀n∈l,fC n.1 n.2.1 n.2.2)(hl:l.length<=200000)
  {a b s:Nat}(hr:∀w,ak 198 #[aC #[aA aK x.wa x.wb,aB aK x.sh]] w λe w'=>e=aL (aC #[aA aK a b,aB aK s])/\Below w.heap.size w w'):
  ak 155 #[aC x.cells,v] w λr w'=>∃v',r=aL v'/\PL w v' (gz a b s e l) w':=by
 obtain⟨so,cap,rfl⟩:=Md hR;obtain⟨i0,hi,hz0,hz1,hz2⟩:=info_parts aas;have HR:Hid (jn w (aG so l.length cap) l):=hR;have Hp:Hid (∀w,ak 198 #[aC #[aA aK x.wa x.wb,aB aK x.sh]] w λe w'=>e=aL (aC #[aA aK a b,aB aK s])/\Below w.heap.size w w'):=hr
 have HH:Hid (∀n∈l,∀w1,ak 62 #[aC #[aA aK x.wa x.wb,aB aK x.sh,aA aK x.fa x.fb,aA aK x.ta x.tb],aC #[aA aK (aO aK n.1) (aO aK n.2.1),az aJ n.2.2]] w1 λe' w'=>e'=aL (aD (Ge.fo (n.1,n.2.1) n.2.2 e))/\Below w1.heap.size w1 w'):=λn h w1=>K7 x e hx hs (uj (hn n h)).1 (uj (hn n h)).2 (hn n h) w1
 clear hR hr hx hs hn;obtain⟨wa,wb,sh,fa,fb,ta,tb⟩:=x;simp only[EB.cells] at*;have hb0:Below w.heap.size w (w.alloc (.cells #[aA aK wa wb,aB aK sh,aA aK fa fb,aA aK ta tb] 124)):=(Below.refl _ _).alloc (aY _) _;have um:=heap_alloc_new w (.cells #[aA aK wa wb,aB aK sh,aA aK fa fb,aA aK ta tb] 124);have hz:w.heap.size<(w.alloc (.cells #[aA aK wa wb,aB aK sh,aA aK fa fb,aA aK ta tb] 124)).heap.size:=af
 go_enter func155,ntmps155
 go_wp2_with fail
 generalize w.alloc (.cells #[aA aK wa wb,aB aK sh,aA aK fa fb,aA aK ta tb] 124)=W at*;refine(Hp.out _).mono ?_;rintro r w1 ⟨rfl,hb1⟩;have mI:=(hb1.block _ hz).trans um;have Hq:w.heap.size<w1.heap.size:=bW hz hb1.size;have iI:=hb0.trans (hb1.mono hb0.size);clear hb0 hb1 um Hp
 go_wp2_with (simp only[iH,qO];go_simp)
 have cQ:Hid (xG w w1.heap.size #[aA aK wa wb,aB aK sh,aA aK fa fb,aA aK ta tb] #[aA aK a b,aB aK s] (aG none 0 0) (gz a b s e (l.take 0)) (w1.alloc (.cells #[aA aK a b,aB aK s] 122))/\aat e l 0 (-1)):=by
  refine⟨⟨?_,iI.alloc iI.size _,(Below.heap_alloc _ _ _ Hq).trans mI,heap_alloc_new _ _⟩,aS ⟨rfl,by simp[Ge.held]⟩⟩
  have e0:gz a b s e (l.take 0)=[]:=by simp[gz,Ge.held,Ge.nexts]
  rw[e0];exact World.ownsRow_nil _ _ _ _
 have hRz:w.heap.size<w1.heap.size:=Hq;clear mI iI Hq;generalize w1.heap.size=R at*;generalize w1.alloc (.cells #[aA aK a b,aB aK s] 122)=WL at*
 go_loopg [5,7,15] l.length (λm lv bv iv wr=>∃(k:Nat)(bb:Int),k+m=l.length/\iv=az aJ k/\bv=az aJ bb/\Hid (xG w R #[aA aK wa wb,aB aK sh,aA aK fa fb,aA aK ta tb] #[aA aK a b,aB aK s] lv (gz a b s e (l.take k)) wr/\aat e l k bb))
 case atStart=>exact⟨0, -1,aa,rfl,rfl,cQ⟩
 case round=>
  obtain⟨k,bb,hkn,rfl,rfl,HC⟩:=hrel;clear cQ;have aX:=HC.out.1.below;by_cases hlt:k<l.length
  .obtain⟨n,BW⟩:∃n,l[k]?=some n:=⟨_,bo hlt⟩;obtain⟨bN,rfl,xI,c0,c1⟩:=Me HR.out BW;have r0:=aQ aX c0 xI;have r1:=aQ aX c1 xI;have ij:(k:Int)<(l.length:Int):=aa
   have hbr:bN<wr.heap.size:=bW xI aX.size;have g0:=cL HC.out.1.e;have g1:=cK HC.out.1.e;have g2:=eN HC.out.1.e;have g3:=kA HC.out.1.e;have hez:w.heap.size<wr.heap.size:=lt_of_heap HC.out.1.e;have Be:R<wr.heap.size:=lt_of_heap HC.out.1.r;have Hr:=HH.out n (bA BW);have Hs:Hid (∀w1,ak 62 #[aC #[aA aK wa wb,aB aK sh,aA aK fa fb,aA aK ta tb],aC #[aA aK (aO aK n.1) (aO aK n.2.1),az aJ n.2.2]] w1 λe' w'=>e'=aL (aD (Ge.fo (n.1,n.2.1) n.2.2 e))/\Below w1.heap.size w1 w'):=Hr
   have HT:=Ge.akW (e:=e) BW;have xJ:Hid (Ge.held e (l.take (k+1))=Ge.held e (l.take k)++(if Ge.fo (n.1,n.2.1) n.2.2 e then[n] else[])):=HT
   have HNK:Hid (l[k]?=some n):=BW;have HV:Hid (jd n=[aA aK (aO aK n.1) (aO aK n.2.1),az aJ n.2.2]):=rfl;clear c0 c1 BW Hr HT;generalize aO aK n.1=N1 at*;generalize aO aK n.2.1=N2 at*;cases hfo:Ge.fo (n.1,n.2.1) n.2.2 e
   .rw[hfo] at Hs xJ;clear hfo
    go_wp2_with (simp only[iH];go_simp)
    refine(Hs.out _).mono ?_;rintro r w5 ⟨rfl,bh⟩
    go_wp2_with fail
    go_roundg (gk-1)
    case measure=>omega
    case rel=>
     refine⟨k+1,bb,aa,ai,rfl,?_,?_⟩
     .have e1:gz a b s e (l.take (k+1))=gz a b s e (l.take k):=by unfold gz;rw[xJ.out];simp
      rw[e1];exact(HC.out.1.keep ((Below.refl _ _).alloc (aY _) _)).keep bh
     .rcases HC.out.2 with⟨h1,h2⟩|⟨j,m,h1,h2,h3,h4⟩
      .exact aS ⟨h1,by rw[xJ.out,h2];rfl⟩
      .exact aR ⟨j,m,h1,aa,h3,by rw[xJ.out];simpa using h4⟩
   .rw[hfo] at Hs xJ;clear hfo;have Ml:Hid (xG w R #[aA aK wa wb,aB aK sh,aA aK fa fb,aA aK ta tb] #[aA aK a b,aB aK s] u5 (gz a b s e (l.take k)) (wr.alloc (.cells #[aA aK N1 N2,az aJ n.2.2] 83))):=HC.out.1.keep ((Below.refl _ _).alloc (aY _) _);have HWN:Hid (∀k,u5.ownBlock=some k->k<wr.heap.size):=λk hk=>(bn HC.out.1.own k hk).2
    have Ht:=heap_alloc_new wr (.cells #[aA aK N1 N2,az aJ n.2.2] 83);have RY:wr.heap.size<(wr.alloc (.cells #[aA aK N1 N2,az aJ n.2.2] 83)).heap.size:=af
    rcases HC.out.2 with⟨h1,h2⟩|⟨j,m,h1,h2,h3,h4⟩
    .subst h1;have HH2:Hid (Ge.held e (l.take k)=[]):=h2;clear h2 HC
     go_wp2_with (simp only[iH];go_simp)
     generalize wr.alloc (.cells #[aA aK N1 N2,az aJ n.2.2] 83)=W2 at*;refine(Hs.out _).mono ?_;rintro r w5 ⟨rfl,bh⟩;have nM:Hid (xG w R #[aA aK wa wb,aB aK sh,aA aK fa fb,aA aK ta tb] #[aA aK a b,aB aK s] u5 (gz a b s e (l.take k)) w5):=Ml.out.keep bh;clear Ml bh g0 g1 g2 g3 r0 r1
     go_wp2_with fail
     go_roundg (gk-1)
     case measure=>omega
     case rel=>
      refine⟨k+1,k,aa,ai,rfl,?_,?_⟩
      .have e1:gz a b s e (l.take (k+1))=gz a b s e (l.take k):=by unfold gz;rw[xJ.out,HH2.out];simp[Ge.nexts]
       rw[e1];exact nM.out
      .exact aR ⟨k,n,rfl,aa,HNK.out,by rw[xJ.out];simp⟩
    .subst h1;have HLS:Hid ((Ge.held e (l.take k)).getLast?=some m):=h4;obtain⟨bM,Hu,_,m0,m1⟩:=Me HR.out h3;injection Hu with Hu;injection Hu with Hu;subst Hu;have hjl:j<l.length:=(cG.1 h3).1;have Mm:(j:Int)<(l.length:Int):=aa
     have HVM:Hid (jd m=[aA aK (aO aK m.1) (aO aK m.2.1),az aJ m.2.2]):=rfl;have HLEN:Hid ((gz a b s e (l.take k)).length<=200000):=fN (aau _ _ _ _ _) (by simp;omega)
     have Ex:Hid (gz a b s e (l.take (k+1))=gz a b s e (l.take k)++[⟨a,b,s,m,n⟩]):=by
      unfold gz;rw[xJ.out];simp only[lG];rw[Ge.aar _ _ _ HLS.out,jV];rfl
     have Hv:Hid ((⟨a,b,s,m,n⟩:PB).cells=[aA aK a b,aB aK s]++jd m++jd n):=rfl;generalize aO aK m.1=M1 at*;generalize aO aK m.2.1=M2 at*;clear h2 h3 h4 HC
     go_wp2_with (simp only[iH];go_simp)
     generalize wr.alloc (.cells #[aA aK N1 N2,az aJ n.2.2] 83)=W2 at*;refine(Hs.out _).mono ?_;rintro r w5 ⟨rfl,bh⟩;have nM:Hid (xG w R #[aA aK wa wb,aB aK sh,aA aK fa fb,aA aK ta tb] #[aA aK a b,aB aK s] u5 (gz a b s e (l.take k)) w5):=Ml.out.keep bh;have Ey:=(bh.block _ RY).trans Ht;have q0:=cL Ey;have q1:=cK Ey;have q2:=cL nM.out.r;have q3:=cK nM.out.r;have q4:=aQ nM.out.below m0 xI;have q5:=aQ nM.out.below m1 xI;clear Ml bh g0 g1 g2 g3 r0 r1 m0 m1 Ht Ey
     go_wp2_with fail
     have Mn:wr.heap.size<w5.heap.size:=lt_of_cell q0;have Hw:R<w5.heap.size:=lt_of_cell q2;have Ez:bN<w5.heap.size:=lt_of_cell q4;have fD:=nM.out.own;have aax:some wr.heap.size≠u5.ownBlock:=λh=>by have:=HWN.out _ h.symm;omega
     have RZ:some R≠u5.ownBlock:=λh=>by have:=(bn fD _ h.symm).1;omega
     have aay:some bN≠u5.ownBlock:=λh=>by have:=(bn fD _ h.symm).1;omega
     refine wp_region_held_drew (S:=(λw'=>w'.cell? ⟨wr.heap.size,0,none⟩=some (aA aK N1 N2)/\w'.cell? ⟨wr.heap.size,1,none⟩=some (az aJ n.2.2)/\w'.cell? ⟨R,0,none⟩=some (aA aK a b)/\w'.cell? ⟨R,1,none⟩=some (aB aK s)/\w'.cell? ⟨bN,j*2,none⟩=some (aA aK M1 M2)/\w'.cell? ⟨bN,j*2+1,none⟩=some (az aJ m.2.2))) ag ⟨q0,q1,q2,q3,q4,q5⟩ (λhHeld=>?_)
     iterate 8
      (
       refine mB (oi:={dst:=_,op:=_,type:=_,pos:=_,after:=_,guard:=_}) (v:=?_) rfl rfl (by rfl) hHeld ?_ ?_
       rotate_left
       .intro w' bY;obtain⟨s0,s1,s2,s3,s4,s5⟩:=bY
        go_simp
        try with_reducible rfl
       simp only[Act.put,dY,dZ,dL])
     refine wpAnyH_ready (rs:=[8]) ag af ?_
     refine AllReadyH.cons rfl (λK hK=>?_) AllReadyH.nil
     go_simp
     refine hK.out _ _ ⟨(kP _ _ Mn).trans q0,(kP _ _ Mn).trans q1,(kP _ _ Hw).trans q2,(kP _ _ Hw).trans q3,(kP _ _ Ez).trans q4,(kP _ _ Ez).trans q5⟩ (λhHeld=>?_)
     clear hK K
     try simp only[Act.put,dY,dZ,dL]
     refine wpAnyH_ready (rs:=[9]) ag af ?_
     refine AllReadyH.cons rfl (λK hK=>?_) AllReadyH.nil
     have hlen:=HLEN.out;refine step_append_lies _ rfl (.tmp 26) (.tmp 34) 168 rfl (R+1) 171 i0 _ 6 72 underlying168 hi hz0 hz1 hz2 rfl ah u5 (gz a b s e (l.take k)).length (dX (gz a b s e (l.take k))) rfl (bG fD.drew (λk hk=>Below.heap_alloc _ _ _ (bn fD k hk).2)) ⟨w5.heap.size,0,none⟩ 1 1 [aA aK a b,aB aK s,aA aK M1 M2,az aJ m.2.2,aA aK N1 N2,az aJ n.2.2] rfl rfl (World.news_of_block (cs:= #[aA aK a b,aB aK s,aA aK M1 M2,az aJ m.2.2,aA aK N1 N2,az aJ n.2.2]) (t:=171) (fr:=(0,0)) (heap_alloc_new w5.drew _)) (by simp[Value.oneCell']) ah (by unfold maxLen;omega) aa (by simp;omega) (w5.heap.size+1) af ?_
     intro g' cap' w8 dW cI iN sH;have d0:=(cI.cell_far ⟨wr.heap.size,0,none⟩ (by simp;omega) aax).trans ((kP _ _ Mn).trans q0)
     have d1:=(cI.cell_far ⟨wr.heap.size,1,none⟩ (by simp;omega) aax).trans ((kP _ _ Mn).trans q1)
     have d2:=(cI.cell_far ⟨R,0,none⟩ (by simp;omega) RZ).trans ((kP _ _ Hw).trans q2)
     have d3:=(cI.cell_far ⟨R,1,none⟩ (by simp;omega) RZ).trans ((kP _ _ Hw).trans q3)
     have d4:=(cI.cell_far ⟨bN,j*2,none⟩ (by simp;omega) aay).trans ((kP _ _ Ez).trans q4)
     have d5:=(cI.cell_far ⟨bN,j*2+1,none⟩ (by simp;omega) aay).trans ((kP _ _ Ez).trans q5)
     go_simp
     refine hK.out _ _ ⟨d0,d1,d2,d3,d4,d5⟩ (λhHeld=>?_)
     clear hK K
     try simp only[Act.put,dY,dZ,dL]
     refine mB (oi:={dst:=_,op:=_,type:=_,pos:=_,after:=_,guard:=_}) (v:=?_) rfl rfl (by rfl) hHeld ?_ ?_
     rotate_left
     .intro w' bY;obtain⟨s0,s1,s2,s3,s4,s5⟩:=bY
      go_simp
      try with_reducible rfl
     simp only[Act.put,dY,dZ,dL];refine wpAnyH_done ag ?_ _
     have ak2:w.heap.size<w5.heap.size:=lt_of_heap nM.out.e;have ak3:some w.heap.size≠u5.ownBlock:=λh=>by have:=(bn fD _ h.symm).1;omega
     have Mf:Hid (xG w R #[aA aK wa wb,aB aK sh,aA aK fa fb,aA aK ta tb] #[aA aK a b,aB aK s] (aG (some ⟨g',0,none⟩) ((gz a b s e (l.take k)).length+1) cap') (gz a b s e (l.take (k+1))) w8):=by
      rw[Ex.out];refine⟨?_,(nM.out.below.drew.alloc nM.out.below.size _).grown cI (by have:=nM.out.below.size;simp;omega) (λk hk=>fN aa (bn fD k hk).1),?_,?_⟩
      .rw[akX,bX,Hv.out,HVM.out,HV.out];exact dW
      .exact(cI.block _ (by simp;omega) ak3).trans ((Below.heap_alloc _ _ _ ak2).trans nM.out.e)
      .exact(cI.block _ (by simp;omega) RZ).trans ((Below.heap_alloc _ _ _ Hw).trans nM.out.r)
     clear d0 d1 d2 d3 d4 d5 q0 q1 q2 q3 q4 q5 cI dW fD nM HLEN Ex Hv HLS
     go_wp2_with fail
     go_roundg (gk-1)
     case measure=>omega
     case rel=>exact⟨k+1,k,aa,ai,rfl,Mf.out,aR ⟨k,n,rfl,aa,HNK.out,by rw[xJ.out];simp⟩⟩
  .have hk:k=l.length:=aa
   subst hk;have HP:Hid (PL w u5 (gz a b s e l) wr):=by
    have h1:=HC.out.1;rw[gv] at h1;exact⟨xH h1.own aa,h1.below⟩
   clear HC aX HH HR
   go_wp2_with fail
   go_ret
   exact⟨_,rfl,HP.out⟩
namespace Ge
def fa(n:Nd)(l:Ln)(a b:Pt):Int:=if fo (n.1,n.2.1) n.2.2 (a,b) then(l.1*(b.1-a.1)+l.2.1*(b.2-a.2)).sign else 0
theorem aaz(n:Nd)(l:Ln)(a b:Pt): -1<=fa n l a b/\fa n l a b<=1:=by
 unfold fa;split
 .rcases gf (l.1*(b.1-a.1)+l.2.1*(b.2-a.2)) 0 with h|h|h
  .rw[yI h];decide
  .rw[h];decide
  .rw[nV h];decide
 .decide
def dK(e:Pt×Pt):Ln:=(e.2.1-e.1.1,e.2.2-e.1.2,(e.2.1-e.1.1)*e.1.2-(e.2.2-e.1.2)*e.1.1)
end Ge
theorem ak4(p:PB)(l:Ge.Ln)(n:Ge.Nd)(es:List Ed)(v:aN)(w:aM)(hp:qZ p.wa p.wb p.sh l)(h1:sm l.1)(h2:sm l.2.1)(hn:fC n.1 n.2.1 n.2.2)(hR:jL w v es)(hl:es.length<=402)(hs:∀e∈es,gS e)
  (hi:∀w,ak 160 #[aC p.cells.toArray] w λe w'=>e=aL (jb n)/\Below w.heap.size w w'):
  ak 105 #[aC p.cells.toArray,v] w λr w'=>r=aL (aI #[az aJ (Ge.total (Ge.fr (n.1,n.2.1) n.2.2) es+Ge.total (Ge.fa n l) es),az aJ (Ge.total (Ge.fr (n.1,n.2.1) n.2.2) es)])/\Below w.heap.size w w':=by
 obtain⟨so,cap,rfl⟩:=K9 hR;obtain⟨g1,g2⟩:=uj hn;have HR:Hid (jL w (aG so es.length cap) es):=hR;have HI:Hid (∀w,ak 160 #[aC p.cells.toArray] w λe w'=>e=aL (jb n)/\Below w.heap.size w w'):=hi
 have HH:Hid (∀(x:EB)(e:Ed),lK x e->e∈es->∀w1,ak 62 #[aC #[aA aK x.wa x.wb,aB aK x.sh,aA aK x.fa x.fb,aA aK x.ta x.tb],aC #[aA aK (aO aK n.1) (aO aK n.2.1),az aJ n.2.2]] w1 λe' w'=>e'=aL (aD (Ge.fo (n.1,n.2.1) n.2.2 e))/\Below w1.heap.size w1 w'):=λx e hx he w1=>K7 x e hx (hs e he) g1 g2 hn w1
 have HP:Hid (∀(x:EB)(e:Ed),lK x e->e∈es->∀w1,ak 63 #[aC #[aA aK x.wa x.wb,aB aK x.sh,aA aK x.fa x.fb,aA aK x.ta x.tb],aC #[aA aK (aO aK n.1) (aO aK n.2.1),az aJ n.2.2]] w1 λe' w'=>e'=aL (az aJ (Ge.fr (n.1,n.2.1) n.2.2 e.1 e.2))/\Below w1.heap.size w1 w'):=λx e hx he w1=>ai3 x e hx (hs e he) g1 g2 hn w1
 have HA:Hid (∀(x:EB)(e:Ed),lK x e->e∈es->∀w1,ak 161 #[aC #[aA aK p.wa p.wb,aB aK p.sh],aC #[aA aK x.wa x.wb,aB aK x.sh]] w1 λe' w'=>e'=aL (az aJ (l.1*(e.2.1-e.1.1)+l.2.1*(e.2.2-e.1.2)).sign)/\Below w1.heap.size w1 w'):=λx e hx he w1=>by
  have h:=hs e he;have b3:sm (Ge.dK e).1:=by have:=h.a;have:=h.c;unfold small at*;unfold sm Ge.dK;simp only;omega
  have b4:sm (Ge.dK e).2.1:=by have:=h.b;have:=h.d;unfold small at*;unfold sm Ge.dK;simp only;omega
  exact akP hp (m:=Ge.dK e) ⟨hx.wa,hx.wb,hx.sh⟩ h1 h2 b3 b4 w1
 have HT:Hid (∀k:Nat, -(k:Int)<=Ge.total (Ge.fr (n.1,n.2.1) n.2.2) (es.take k)/\Ge.total (Ge.fr (n.1,n.2.1) n.2.2) (es.take k)<=(k:Int)):=λk=>by
  have h:=QQ (Ge.fr (n.1,n.2.1) n.2.2) (Yf _ _) (es.take k);have h2:(es.take k).length<=k:=by simp;omega
  omega
 have Sa:Hid (∀k:Nat, -(k:Int)<=Ge.total (Ge.fa n l) (es.take k)/\Ge.total (Ge.fa n l) (es.take k)<=(k:Int)):=λk=>by
  have h:=QQ (Ge.fa n l) (Ge.aaz _ _) (es.take k);have h2:(es.take k).length<=k:=by simp;omega
  omega
 clear hR hs g1 g2 hn hi hp h1 h2;unfold jb at HI;obtain⟨pa,pb,ps,⟨f1,f2,f3⟩,t1,t2,t3⟩:=p;simp only[PB.cells] at*;generalize aO aK f1=F1 at*;generalize aO aK f2=F2 at*;generalize aO aK t1=T1 at*;generalize aO aK t2=T2 at*;generalize aO aK n.1=N1 at*;generalize aO aK n.2.1=N2 at*;have hb0:Below w.heap.size w (w.alloc (.cells #[aA aK pa pb,aB aK ps,aA aK F1 F2,az aJ f3,aA aK T1 T2,az aJ t3] 171)):=(Below.refl _ _).alloc (aY _) _;have um:=heap_alloc_new w (.cells #[aA aK pa pb,aB aK ps,aA aK F1 F2,az aJ f3,aA aK T1 T2,az aJ t3] 171);have hz:w.heap.size<(w.alloc (.cells #[aA aK pa pb,aB aK ps,aA aK F1 F2,az aJ f3,aA aK T1 T2,az aJ t3] 171)).heap.size:=af
 go_enter func105,ntmps105
 go_wp2_with fail
 generalize w.alloc (.cells #[aA aK pa pb,aB aK ps,aA aK F1 F2,az aJ f3,aA aK T1 T2,az aJ t3] 171)=W at*;refine(HI.out _).mono ?_;rintro r w1 ⟨rfl,hb1⟩;have mI:=(hb1.block _ hz).trans um;have Hq:w.heap.size<w1.heap.size:=bW hz hb1.size;have iI:=hb0.trans (hb1.mono hb0.size);clear hb0 hb1 um HI
 go_wp2_with (simp only[iH];go_simp)
 have cQ:Hid (Below w.heap.size w (w1.alloc (.cells #[aA aK N1 N2,az aJ n.2.2] 83))/\(w1.alloc (.cells #[aA aK N1 N2,az aJ n.2.2] 83)).heap[w.heap.size]?=some (.cells #[aA aK pa pb,aB aK ps,aA aK F1 F2,az aJ f3,aA aK T1 T2,az aJ t3] 171 (0,0))/\(w1.alloc (.cells #[aA aK N1 N2,az aJ n.2.2] 83)).heap[w1.heap.size]?=some (.cells #[aA aK N1 N2,az aJ n.2.2] 83 (0,0))):=⟨iI.alloc iI.size _,(Below.heap_alloc _ _ _ Hq).trans mI,heap_alloc_new _ _⟩;clear mI iI;generalize w1.heap.size=N at*;generalize w1.alloc (.cells #[aA aK N1 N2,az aJ n.2.2] 83)=WL at*
 go_loopg [6,7,15] es.length (λm rv av iv wr=>∃k:Nat,k+m=es.length/\iv=az aJ k/\rv=az aJ (Ge.total (Ge.fr (n.1,n.2.1) n.2.2) (es.take k))/\av=az aJ (Ge.total (Ge.fa n l) (es.take k))/\Hid (Below w.heap.size w wr/\wr.heap[w.heap.size]?=some (.cells #[aA aK pa pb,aB aK ps,aA aK F1 F2,az aJ f3,aA aK T1 T2,az aJ t3] 171 (0,0))/\wr.heap[N]?=some (.cells #[aA aK N1 N2,az aJ n.2.2] 83 (0,0))))
 case atStart=>exact⟨0,aa,rfl,rfl,rfl,cQ⟩
 case round=>
  obtain⟨k,hkn,rfl,rfl,rfl,HB⟩:=hrel;obtain⟨aX,EA,hNb⟩:=HB.out;clear cQ HB;have hTk:=HT.out k;have hAk:=Sa.out k;by_cases hlt:k<es.length
  .obtain⟨e,vM⟩:∃e,es[k]?=some e:=⟨_,bo hlt⟩;obtain⟨b,x,rfl,hb,hok,c0,c1,c2,c3⟩:=La HR.out vM;have r0:=aQ aX c0 hb;have r1:=aQ aX c1 hb;have r2:=aQ aX c2 hb;have r3:=aQ aX c3 hb;have n0:=cL hNb;have n1:=cK hNb;have hbr:b<wr.heap.size:=bW hb aX.size;have RY:N<wr.heap.size:=lt_of_heap hNb;have hPz:w.heap.size<wr.heap.size:=lt_of_heap EA;have ij:(k:Int)<(es.length:Int):=aa
   have hmem:=bA vM;have pj:Hid (Ge.total (Ge.fr (n.1,n.2.1) n.2.2) (es.take (k+1))=Ge.total (Ge.fr (n.1,n.2.1) n.2.2) (es.take k)+Ge.fr (n.1,n.2.1) n.2.2 e.1 e.2):=Ye _ vM;have HAA:Hid (Ge.total (Ge.fa n l) (es.take (k+1))=Ge.total (Ge.fa n l) (es.take k)+Ge.fa n l e.1 e.2):=Ye _ vM;have Hr:Hid (∀w1,ak 62 #[aC #[aA aK x.wa x.wb,aB aK x.sh,aA aK x.fa x.fb,aA aK x.ta x.tb],aC #[aA aK N1 N2,az aJ n.2.2]] w1 λe' w'=>e'=aL (aD (Ge.fo (n.1,n.2.1) n.2.2 e))/\Below w1.heap.size w1 w'):=HH.out x e hok hmem
   have HP1:Hid (∀w1,ak 63 #[aC #[aA aK x.wa x.wb,aB aK x.sh,aA aK x.fa x.fb,aA aK x.ta x.tb],aC #[aA aK N1 N2,az aJ n.2.2]] w1 λe' w'=>e'=aL (az aJ (Ge.fr (n.1,n.2.1) n.2.2 e.1 e.2))/\Below w1.heap.size w1 w'):=HP.out x e hok hmem
   have HA1:Hid (∀w1,ak 161 #[aC #[aA aK pa pb,aB aK ps],aC #[aA aK x.wa x.wb,aB aK x.sh]] w1 λe' w'=>e'=aL (az aJ (l.1*(e.2.1-e.1.1)+l.2.1*(e.2.2-e.1.2)).sign)/\Below w1.heap.size w1 w'):=HA.out x e hok hmem
   have hfin:=Yf (n.1,n.2.1) n.2.2 e.1 e.2;have aul:=Ge.aaz n l e.1 e.2;have Hx:Hid (Ge.fa n l e.1 e.2=if Ge.fo (n.1,n.2.1) n.2.2 e then(l.1*(e.2.1-e.1.1)+l.2.1*(e.2.2-e.1.2)).sign else 0):=rfl
   obtain⟨wa,wb,sh,fa,fb,ta,tb⟩:=x;simp only at r0 r1 r2 r3 Hr HP1 HA1;generalize Ge.total (Ge.fr (n.1,n.2.1) n.2.2) (es.take k)=TR at*;generalize Ge.total (Ge.fa n l) (es.take k)=TA at*;generalize Ge.fr (n.1,n.2.1) n.2.2 e.1 e.2=FR at*;generalize Ge.fa n l e.1 e.2=FA at*;generalize(l.1*(e.2.1-e.1.1)+l.2.1*(e.2.2-e.1.2)).sign=SG at*;clear c0 c1 c2 c3 vM HR HH HP HA hok hmem HT Sa;have hL0:Below w.heap.size w (wr.alloc (.cells #[aA aK wa wb,aB aK sh,aA aK fa fb,aA aK ta tb] 124)):=aX.alloc aX.size _;have um:=heap_alloc_new wr (.cells #[aA aK wa wb,aB aK sh,aA aK fa fb,aA aK ta tb] 124);have hP0:=(Below.heap_alloc wr (.cells #[aA aK wa wb,aB aK sh,aA aK fa fb,aA aK ta tb] 124) _ hPz).trans EA;have Ht:=(Below.heap_alloc wr (.cells #[aA aK wa wb,aB aK sh,aA aK fa fb,aA aK ta tb] 124) _ RY).trans hNb;have hsz:wr.heap.size+1=(wr.alloc (.cells #[aA aK wa wb,aB aK sh,aA aK fa fb,aA aK ta tb] 124)).heap.size:=af
   have hwr:IntKind.i64.wrap (TR+FR)=TR+FR:=by rw[IntKind.wrap_i64];omega
   have Sb:IntKind.i64.wrap (TA+SG)=TA+SG\/Ge.fo (n.1,n.2.1) n.2.2 e=false:=by
    cases hf:Ge.fo (n.1,n.2.1) n.2.2 e
    .exact aR rfl
    .refine aS ?_;have h3:=Hx.out;rw[hf,aV rfl] at h3;rw[IntKind.wrap_i64];omega
   go_wp2_with (simp only[iH,qO];go_simp)
   generalize wr.alloc (.cells #[aA aK wa wb,aB aK sh,aA aK fa fb,aA aK ta tb] 124)=w0 at*;generalize hEe:wr.heap.size=E at*;clear r0 r1 r2 r3 n0 n1;refine(HP1.out _).mono ?_;rintro e' w2 ⟨rfl,hb2⟩;have fg:=(hb2.block _ (show E<w0.heap.size by omega)).trans um
   have kT:=(hb2.block _ (show w.heap.size<w0.heap.size by omega)).trans hP0
   have zE:=(hb2.block _ (show N<w0.heap.size by omega)).trans Ht
   have aun:=hb2.size;have hL2:=hL0.trans (hb2.mono aa)
   have e0:=cL fg;have e1:=cK fg;have e2:=eN fg;have e3:=kA fg;have n0:=cL zE;have n1:=cK zE;clear um hP0 Ht hb2 hL0
   go_wp2_with fail
   refine(Hr.out _).mono ?_;rintro e' w3 ⟨rfl,hb3⟩;have Sc:=(hb3.block _ (show E<w2.heap.size by omega)).trans fg
   have Hy:=(hb3.block _ (show w.heap.size<w2.heap.size by omega)).trans kT
   have EC:=(hb3.block _ (show N<w2.heap.size by omega)).trans zE
   have auo:=hb3.size;have hL3:=hL2.trans (hb3.mono aa)
   clear e0 e1 e2 e3 n0 n1 fg kT zE hb3 hL2;cases hf:Ge.fo (n.1,n.2.1) n.2.2 e
   .have xK:Hid (FA=0):=by have:=Hx.out;rw[hf] at this;exact this
    clear hf Sb Hx
    go_wp2_with fail
    go_roundg (gk-1)
    case measure=>omega
    case rel=>exact⟨k+1,aa,ai,by rw[pj.out],by rw[HAA.out,xK.out,Int.add_zero],hL3,Hy,EC⟩
   .have xK:Hid (FA=SG):=by have:=Hx.out;rw[hf,aV rfl] at this;exact this
    have aup:IntKind.i64.wrap (TA+SG)=TA+SG:=by
     rcases Sb with h|h
     .exact h
     .rw[hf] at h;cases h
    have e0:=cL Sc;have e1:=cK Sc;have p0:=cL Hy;have p1:=cK Hy;clear hf Sb Hx
    go_wp2_with fail
    refine(HA1.out _).mono ?_;rintro e' w4 ⟨rfl,hb4⟩;have sJ:=(hb4.block _ (show w.heap.size<w3.heap.size by omega)).trans Hy
    have hN4:=(hb4.block _ (show N<w3.heap.size by omega)).trans EC
    have hL4:=hL3.trans (hb4.mono aa)
    clear e0 e1 p0 p1 Sc Hy EC hb4 hL3
    go_wp2_with fail
    go_roundg (gk-1)
    case measure=>omega
    case rel=>exact⟨k+1,aa,ai,by rw[pj.out],by rw[HAA.out,xK.out],hL4,sJ,hN4⟩
  .have hk:k=es.length:=aa
   subst hk;rw[gv] at*;have hws:IntKind.i64.wrap (Ge.total (Ge.fr (n.1,n.2.1) n.2.2) es+Ge.total (Ge.fa n l) es)=Ge.total (Ge.fr (n.1,n.2.1) n.2.2) es+Ge.total (Ge.fa n l) es:=by rw[IntKind.wrap_i64];omega
   clear HR HH HP HA HT Sa;generalize Hz:Ge.total (Ge.fr (n.1,n.2.1) n.2.2) es=TR at hTk hws;generalize qR:Ge.total (Ge.fa n l) es=TA at hAk hws;have HTR:Hid (Ge.total (Ge.fr (n.1,n.2.1) n.2.2) es=TR):=Hz;have ak9:Hid (Ge.total (Ge.fa n l) es=TA):=qR;clear Hz qR
   go_wp2_with fail
   refine bodyPost_ret (v:=aI #[az aJ (TR+TA),az aJ TR]) (by simp[results,results105,go_sem]) rfl ⟨?_,aX⟩
   rw[HTR.out,ak9.out]
def aaF(x:PB)(n:Ge.Nd):Prop:=Ge.Can n/\Ge.aU n=(Ge.bO (x.f.1+x.t.1) (x.f.2.2+x.t.2.2),Ge.bO (x.f.2.1+x.t.2.1) (x.f.2.2+x.t.2.2))/\fC n.1 n.2.1 n.2.2
theorem ala(p:PB)(l:Ge.Ln)(es:List Ed)(hp:qZ p.wa p.wb p.sh l)(h1:sm l.1)(h2:sm l.2.1)(hf:nj p.f)(ht:nj p.t)(hl:es.length<=402)(hs:∀e∈es,gS e):
  ∃n,aaF p n/\∀v w,jL w v es->ak 105 #[aC p.cells.toArray,v] w λr w'=>r=aL (aI #[az aJ (Ge.total (Ge.fr (n.1,n.2.1) n.2.2) es+Ge.total (Ge.fa n l) es),az aJ (Ge.total (Ge.fr (n.1,n.2.1) n.2.2) es)])/\aj w w':=by
 obtain⟨n,hc,hq,hn,hi⟩:=akQ p hf ht;exact⟨n,⟨hc,hq,hn⟩,λv w hR=>ak4 p l n es v w hp h1 h2 hn hR hl hs hi⟩
theorem alb{d dk:Array Ge.Nd}{k:Nat}(h:Lib.CompInv d d.size k dk):dk.toList.take k=Ge.dV d.toList:=by
 rw[<-Ge.aaj];apply FJ;intro j;rw[lH];by_cases hj:j<k
 .have hs:=h.size;have hl:=h.lt;rw[aV hj,h.low j hj,jW,pU aa,jl dk j aa]
 .rw[aP hj,yK (by rw[h.len];omega)]
theorem RW.dn{d:Array Ge.Nd}(h:RW w g cap n d wr)(q:Nat):RW w g cap n d (wr.drewN q):=⟨h.size,h.own,⟨h.below.os,h.below.tape,h.below.output,h.below.size,h.below.block⟩⟩
theorem alc(w:aM)(g cap n:Nat)(d:Array Ge.Nd)(BX:aM)(h:RW w g cap n d BX)(hd:∀i,i<n->fC (d[i]!).1 (d[i]!).2.1 (d[i]!).2.2)(hn:n<=200000)(hc:n<=cap):
  ak 126 #[aG (some ⟨g,0,none⟩) n cap] BX λr w'=>∃v',r=aL v'/\jn w' v' (Ge.dV d.toList)/\aj w w':=by
 have HR:Hid (RW w g cap n d BX):=h;have HD:Hid (∀i,i<n->fC (d[i]!).1 (d[i]!).2.1 (d[i]!).2.2):=hd;have hds:d.size=n:=h.size;clear h hd;by_cases h2:n<2
 .go_enter func126,ntmps126
  go_wp2_with fail
  go_ret
  refine⟨_,rfl,?_,HR.out.below⟩;rw[aam (λj hj=>Lib.keeps_lt_one d j aa)]
  exact HR.out.rd
 .go_enter func126,ntmps126
  go_wp2_with fail
  go_loopg [3] n (λgk s3 wr=>∃k:Nat,1<=k/\k<=n/\n-k<=gk/\s3=az aJ k/\Hid (RW w g cap n d wr/\∀j,j<k->Lib.keeps d j=true))
  case atStart=>exact⟨1,aY _,aa,aa,rfl,HR.out,Lib.keeps_lt_one d⟩
  case round=>
   obtain⟨k,hk1,hk,hg,rfl,HI⟩:=hrel;by_cases hlt:k<n
   .obtain⟨c1,d1,f1,z1⟩:=HI.out.1.cells k hlt;obtain⟨c0,d0,f0,z0⟩:=HI.out.1.cells (k-1) aa
    have ij:(k:Int)<(n:Int):=aa
    have hop:=Ho d[k]! d[k-1]! (HD.out k hlt) (HD.out (k-1) aa)
    have HX:Hid (d[k]! =d[k-1]! ->Lib.keeps d k=false):=λe=>Lib.keeps_neg aa e
    have HY:Hid (d[k]! ≠d[k-1]! ->Lib.keeps d k=true):=λe=>Lib.keeps_pos e
    have uo:Hid (decide (d[k]! =d[k-1]!)=true↔d[k]! =d[k-1]!):=uV;clear f1 z1 f0 z0;generalize hB:decide (d[k]! =d[k-1]!)=bq at hop uo;generalize aO aK (d[k]!).1=A1 at*;generalize aO aK (d[k]!).2.1=A2 at*;generalize(d[k]!).2.2=A3 at*;generalize aO aK (d[k-1]!).1=B1 at*;generalize aO aK (d[k-1]!).2.1=B2 at*;generalize(d[k-1]!).2.2=B3 at*;clear hB
    go_wp2_with fail
    go_quiet (fail)
    cases bq
    .have HK:=HY.out (λe=>by have:=uo.out.2 e;cases this)
     have HK':Hid (Lib.keeps d k=true):=HK;clear HK HX HY uo c0 c1 d0 d1
     go_wp2_with fail
     go_roundg (n-(k+1))
     case measure=>omega
     case rel=>
      refine⟨k+1,aa,aa,aY _,ai,HI.out.1.dn nq,λj hj=>?_⟩
      by_cases e:j=k
      .subst e;exact HK'.out
      .exact HI.out.2 j aa
    .have HK:Hid (Lib.keeps d k=false):=HX.out (uo.out.1 rfl);clear HX HY uo c0 c1 d0 d1;have hkc:k<=cap:=aa
     go_wp2_with fail
     go_loopg [3,5] n (λgk s3 s5 wr2=>∃(kk k2:Nat)(dk:Array Ge.Nd),s3=az aJ kk/\s5=az aJ k2/\1<=k2/\k+k2<=n/\n-(k+k2)<=gk/\Hid (RW w g cap n dk wr2/\Lib.CompInv d (k+k2) kk dk))
     case atStart=>exact⟨k,1,d,rfl,rfl,aY _,aa,aa,HI.out.1.dn nq,Lib.CompInv.start HI.out.2 HK.out⟩
     case round=>
      obtain⟨kk,k2,dk,rfl,rfl,h1,hle,hg2,HJ⟩:=hrel;have hkk:=HJ.out.2.lt;by_cases ik:k+k2<n
      .obtain⟨c1,d1,_,_⟩:=HJ.out.1.cells (k+k2) ik;obtain⟨c0,d0,_,_⟩:=HJ.out.1.cells (k+k2-1) aa
       obtain⟨ck,dkk,f1,z1⟩:=HJ.out.1.cells kk aa
       rw[HJ.out.2.high (k+k2) aa,show(k+k2)*2=k*2+k2*2 by omega] at c1
       rw[HJ.out.2.high (k+k2) aa,show(k+k2)*2=k*2+k2*2 by omega] at d1
       rw[HJ.out.2.high (k+k2-1) aa,show(k+k2-1)*2=k*2+(k2-1)*2 by omega] at c0
       rw[HJ.out.2.high (k+k2-1) aa,show(k+k2-1)*2=k*2+(k2-1)*2 by omega] at d0
       have zk:=akO d[k+k2]! d[k+k2-1]! (HD.out (k+k2) ik) (HD.out (k+k2-1) aa)
       have HX:Hid (d[k+k2]! =d[k+k2-1]! ->Lib.keeps d (k+k2)=false):=λe=>Lib.keeps_neg aa e
       have HY:Hid (d[k+k2]! ≠d[k+k2-1]! ->Lib.keeps d (k+k2)=true):=λe=>Lib.keeps_pos e
       have uo:Hid (decide (d[k+k2]! =d[k+k2-1]!)=true↔d[k+k2]! =d[k+k2-1]!):=uV;have HS:Hid (∀q,RW w g cap n (dk.setIfInBounds kk d[k+k2]!) (((wr.drewN q).setCell ⟨g,kk*2,none⟩ (aA aK (aO aK (d[k+k2]!).1) (aO aK (d[k+k2]!).2.1))).setCell ⟨g,kk*2+1,none⟩ (az aJ (d[k+k2]!).2.2))):=λq=>(HJ.out.1.dn q).set kk aa _
       have aur:(k2:Int)<(n:Int)-(k:Int):=aa
       have Sh:k2<n-k:=aa
       generalize hB:decide (d[k+k2]! =d[k+k2-1]!)=bq at zk uo;clear hB hop;generalize aO aK (d[k+k2]!).1=A1' at*;generalize aO aK (d[k+k2]!).2.1=A2' at*;generalize(d[k+k2]!).2.2=A3' at*;generalize aO aK (d[k+k2-1]!).1=B1' at*;generalize aO aK (d[k+k2-1]!).2.1=B2' at*;generalize(d[k+k2-1]!).2.2=B3' at*
       go_wp2_with fail
       go_quiet (fail)
       cases bq
       .have BZ:Hid (Lib.keeps d (k+k2)=true):=HY.out (λe=>by have:=uo.out.2 e;cases this)
        clear HX HY uo;simp only[Bool.not_false]
        go_wp2_with (simp only[iH];go_simp)
        go_roundg (n-(k+(k2+1)))
        case measure=>omega
        case rel=>exact⟨kk+1,k2+1,dk.setIfInBounds kk d[k+k2]!,ai,ai,aa,aa,aY _,HS.out _,HJ.out.2.keep aa BZ.out⟩
       .have BZ:Hid (Lib.keeps d (k+k2)=false):=HX.out (uo.out.1 rfl);clear HX HY uo;simp only[Bool.not_true]
        go_wp2_with fail
        go_roundg (n-(k+(k2+1)))
        case measure=>omega
        case rel=>exact⟨kk,k2+1,dk,rfl,ai,aa,aa,aY _,HJ.out.1.dn _,HJ.out.2.skip BZ.out⟩
      .have hend:k+k2=d.size:=aa
       obtain⟨w',hcl,aX,mJ⟩:=HJ.out.1.clear kk aa (cap-kk)
       have H4:Hid (jn w' (aG (some ⟨g,0,none⟩) kk cap) (Ge.dV d.toList)):=by
        have hI:=HJ.out.2;rw[hend] at hI;rw[<-alb hI];exact mJ
       have H6:Hid (aj w w'):=aX;have Sh:¬k2<n-k:=aa
       have aaG:kk<=n:=aa
       have ale:kk<=cap:=aa
       clear mJ aX
       go_wp2_with fail
       go_ret
       exact⟨_,rfl,H4.out,H6.out⟩
   .have:k=n:=aa
    subst this
    go_wp2_with fail
    go_ret
    refine⟨_,rfl,?_,HI.out.1.below⟩;rw[aam (λj hj=>HI.out.2 j aa)]
    exact HI.out.1.rd
theorem alf(w:aM)(lv:aN)(S:List Ge.Nd)(wr:aM)(h:NL w lv S wr)(hl:S.length<=200000):
  ak 126 #[lv] wr λr w'=>∃v',r=aL v'/\jn w' v' (Ge.dV S)/\aj w w':=by
 rcases h.own.2 with⟨rfl,h0⟩|⟨g,cap,cur,rfl,hg,hblk,hnc,hcm,hcs,htk⟩
 .have hS:S=[]:=iX.1 h0;subst hS;have HB:Hid (aj w wr):=h.below;clear h h0 hl
  go_enter func126,ntmps126
  go_wp2_with fail
  go_ret
  exact⟨_,rfl,World.ownsRow_nil _ _ _ _,HB.out⟩
 .have hR:RW w g cap S.length S.toArray wr:=⟨af,h.own,h.below⟩
  have hi:∀i,i<S.length->fC (S.toArray[i]!).1 (S.toArray[i]!).2.1 (S.toArray[i]!).2.2:=λi hi=>by
   have e:S.toArray[i]! =S[i]:=by rw[jl S.toArray i (by simpa using hi)];simp
   rw[e];exact h.bw _ (iw hi)
  exact alc w g cap S.length S.toArray wr hR hi hl hnc
end
end Go.Proofs.YtkjhhooecopolaaGreatDoor
namespace Go.Proofs
open Tryz
open Value renaming int->az,complex->aA,float->aB,agg->aC,bool->aD,string->aF,slice->aG,pointer->aH,tuple->aI
open IntKind renaming i64->aJ
open FloatKind renaming f64->aK
open Ending renaming returned->aL
open Go renaming World->aM,Value->aN,floatOfInt->aO
open Go.Shelf
def Tryz.sortNd_ren:Go.Shelf.Ren:=⟨fun |6=>124|15=>164|14=>181|28=>208|29=>209|20=>219|21=>220|22=>221|23=>222|24=>223|25=>224|26=>225|27=>226|46=>274|47=>249|48=>250|49=>275|50=>276|57=>297|n=>n,fun |22=>138|24=>83|25=>206|3=>3|39=>238|0=>0|53=>280|55=>282|4=>4|46=>274|45=>273|50=>70|5=>5|9=>9|66=>313|70=>317|76=>346|77=>172|n=>n,fun |n=>n⟩
theorem Tryz.sortNd:Go.Proofs.SlLaysF0.n6 prog Tryz.sortNd_ren:={
 mixed:=ag
 f6:=⟨Tryz.f124.name,ah,func124.trans (aZ some ag)⟩
 f14:=⟨Tryz.f181.name,ah,func181.trans (aZ some ag)⟩
 f15:=func164.trans (aZ some ag)
 f20:=⟨Tryz.f219.name,ah,func219.trans (aZ some ag)⟩
 f21:=⟨Tryz.f220.name,ah,func220.trans (aZ some ag)⟩
 f22:=⟨Tryz.f221.name,ah,func221.trans (aZ some ag)⟩
 f23:=⟨Tryz.f222.name,ah,func222.trans (aZ some ag)⟩
 f24:=⟨Tryz.f223.name,ah,func223.trans (aZ some ag)⟩
 f25:=⟨Tryz.f224.name,ah,func224.trans (aZ some ag)⟩
 f26:=⟨Tryz.f225.name,ah,func225.trans (aZ some ag)⟩
 f27:=⟨Tryz.f226.name,ah,func226.trans (aZ some ag)⟩
 f28:=func208.trans (aZ some ag)
 f29:=func209.trans (aZ some ag)
 f46:=⟨Tryz.f274.name,ah,func274.trans (aZ some ag)⟩
 f47:=func249.trans (aZ some ag)
 f48:=func250.trans (aZ some ag)
 f49:=⟨Tryz.f275.name,ah,func275.trans (aZ some ag)⟩
 f50:=⟨Tryz.f276.name,ah,func276.trans (aZ some ag)⟩
 f57:=⟨Tryz.f297.name,ah,func297.trans (aZ some ag)⟩
 t0:=underlying0
 a0:=isAgg0
 z0:=sizeOf0
 v0:=zeroValue0
 t3:=underlying3
 a3:=isAgg3
 z3:=sizeOf3
 v3:=zeroValue3
 t4:=underlying4
 a4:=isAgg4
 z4:=sizeOf4
 v4:=zeroValue4
 t5:=underlying5
 a5:=isAgg5
 z5:=sizeOf5
 v5:=zeroValue5
 t9:=underlying9
 a9:=isAgg9
 z9:=sizeOf9
 v9:=zeroValue9
 t22:=underlying138
 a22:=isAgg138
 z22:=sizeOf138
 v22:=zeroValue138
 t25:=underlying206
 a25:=isAgg206
 z25:=sizeOf206
 v25:=zeroValue206
 t39:=underlying238
 a39:=isAgg238
 z39:=sizeOf238
 v39:=zeroValue238
 t45:=underlying273
 a45:=isAgg273
 z45:=sizeOf273
 v45:=zeroValue273
 t46:=underlying274
 a46:=isAgg274
 z46:=sizeOf274
 v46:=zeroValue274
 t50:=underlying70
 a50:=isAgg70
 z50:=sizeOf70
 v50:=zeroValue70
 t53:=underlying280
 a53:=isAgg280
 z53:=sizeOf280
 v53:=zeroValue280
 t55:=underlying282
 a55:=isAgg282
 z55:=sizeOf282
 v55:=zeroValue282
 t66:=underlying313
 a66:=isAgg313
 z66:=sizeOf313
 v66:=zeroValue313
 t70:=underlying317
 a70:=isAgg317
 z70:=sizeOf317
 v70:=zeroValue317
 t76:=underlying346
 a76:=isAgg346
 z76:=sizeOf346
 v76:=zeroValue346
 t77:=underlying172
 a77:=isAgg172
 z77:=sizeOf172
 v77:=zeroValue172}
end Go.Proofs

import Derived.Test.YtkjhhooecopolaaGreatDoorRz06
import Derived.Test.YtkjhhooecopolaaGreatDoorProg
set_option maxRecDepth 100000
set_option maxHeartbeats 4000000
namespace Go.Proofs.YtkjhhooecopolaaGreatDoor
open Tryz
open Value renaming int->az,complex->aA,float->aB,agg->aC,bool->aD,string->aF,slice->aG,pointer->aH,tuple->aI
open IntKind renaming i64->aJ
open FloatKind renaming f64->aK
open Ending renaming returned->aL
open Go renaming World->aM,Value->aN,floatOfInt->aO
section
open Go.RowKit
theorem akC{d dk:Array Ge.Nd}{k:Nat}(h:Lib.CompInv d d.size k dk):dk.toList.take k=Ge.dL d.toList:=by
 rw[<-Ge.Z0];apply Fj;intro j;rw[kQ];by_cases hj:j<k
 .have hs:=h.size;have hl:=h.lt;rw[aV hj,h.low j hj,jP,pJ aa,jh dk j aa]
 .rw[aQ hj,yw (by rw[h.len];omega)]
theorem RW.dn{w:aM}{g cap n:Nat}{d:Array Ge.Nd}{wr:aM}(h:RW w g cap n d wr)(q:Nat):RW w g cap n d (wr.drewN q):=⟨h.size,h.own,⟨h.below.os,h.below.tape,h.below.output,h.below.size,h.below.block⟩⟩
theorem akD(w:aM)(g cap n:Nat)(d:Array Ge.Nd)(Bz:aM)(h:RW w g cap n d Bz)(hd:∀i,i<n->eI (d[i]!).1 (d[i]!).2.1 (d[i]!).2.2)(hn:n<=200000)(hc:n<=cap):
  ak 126 #[aG (some ⟨g,0,none⟩) n cap] Bz λr w'=>∃v',r=aL v'/\jk w' v' (Ge.dL d.toList)/\aj w w':=by
 have HR:Hid (RW w g cap n d Bz):=h;have HD:Hid (∀i,i<n->eI (d[i]!).1 (d[i]!).2.1 (d[i]!).2.2):=hd;have hds:d.size=n:=h.size;clear h hd;by_cases h2:n<2
 .go_enter func126,ntmps126
  go_wp2_with fail
  go_ret
  refine⟨_,rfl,?_,HR.out.below⟩;rw[Z5 (λj hj=>Lib.keeps_lt_one d j aa)]
  exact HR.out.rd
 .go_enter func126,ntmps126
  go_wp2_with fail
  go_loopg [3] n (λgk s3 wr=>∃k:Nat,1<=k/\k<=n/\n-k<=gk/\s3=az aJ k/\Hid (RW w g cap n d wr/\∀j,j<k->Lib.keeps d j=true))
  case atStart=>exact⟨1,aY _,aa,aa,rfl,HR.out,Lib.keeps_lt_one d⟩
  case round=>
   obtain⟨k,hk1,hk,hg,rfl,HI⟩:=hrel;by_cases hlt:k<n
   .obtain⟨c1,d1,f1,z1⟩:=HI.out.1.cells k hlt;obtain⟨c0,d0,f0,z0⟩:=HI.out.1.cells (k-1) aa
    have gH:(k:Int)<(n:Int):=aa
    have hop:=Hd d[k]! d[k-1]! (HD.out k hlt) (HD.out (k-1) aa)
    have HX:Hid (d[k]! =d[k-1]! ->Lib.keeps d k=false):=λe=>Lib.keeps_neg aa e
    have HY:Hid (d[k]! ≠d[k-1]! ->Lib.keeps d k=true):=λe=>Lib.keeps_pos e
    have tW:Hid (decide (d[k]! =d[k-1]!)=true↔d[k]! =d[k-1]!):=pK;clear f1 z1 f0 z0;generalize hB:decide (d[k]! =d[k-1]!)=bq at hop tW;generalize aO aK (d[k]!).1=A1 at*;generalize aO aK (d[k]!).2.1=A2 at*;generalize(d[k]!).2.2=A3 at*;generalize aO aK (d[k-1]!).1=B1 at*;generalize aO aK (d[k-1]!).2.1=B2 at*;generalize(d[k-1]!).2.2=B3 at*;clear hB
    go_wp2_with fail
    go_quiet (fail)
    cases bq
    .have HK:=HY.out (λe=>by have:=tW.out.2 e;cases this)
     have HK':Hid (Lib.keeps d k=true):=HK;clear HK HX HY tW c0 c1 d0 d1
     go_wp2_with fail
     go_roundg (n-(k+1))
     case measure=>omega
     case rel=>
      refine⟨k+1,aa,aa,aY _,ai,HI.out.1.dn nq,λj hj=>?_⟩
      by_cases e:j=k
      .subst e;exact HK'.out
      .exact HI.out.2 j aa
    .have HK:Hid (Lib.keeps d k=false):=HX.out (tW.out.1 rfl);clear HX HY tW c0 c1 d0 d1;have hkc:k<=cap:=aa
     go_wp2_with fail
     go_loopg [3,5] n (λgk s3 s5 wr2=>∃(kk k2:Nat)(dk:Array Ge.Nd),s3=az aJ kk/\s5=az aJ k2/\1<=k2/\k+k2<=n/\n-(k+k2)<=gk/\Hid (RW w g cap n dk wr2/\Lib.CompInv d (k+k2) kk dk))
     case atStart=>exact⟨k,1,d,rfl,rfl,aY _,aa,aa,HI.out.1.dn nq,Lib.CompInv.start HI.out.2 HK.out⟩
     case round=>
      obtain⟨kk,k2,dk,rfl,rfl,h1,hle,hg2,HJ⟩:=hrel;have hkk:=HJ.out.2.lt;by_cases ki:k+k2<n
      .obtain⟨c1,d1,_,_⟩:=HJ.out.1.cells (k+k2) ki;obtain⟨c0,d0,_,_⟩:=HJ.out.1.cells (k+k2-1) aa
       obtain⟨ck,dkk,f1,z1⟩:=HJ.out.1.cells kk aa
       rw[HJ.out.2.high (k+k2) aa,show(k+k2)*2=k*2+k2*2 by omega] at c1
       rw[HJ.out.2.high (k+k2) aa,show(k+k2)*2=k*2+k2*2 by omega] at d1
       rw[HJ.out.2.high (k+k2-1) aa,show(k+k2-1)*2=k*2+(k2-1)*2 by omega] at c0
       rw[HJ.out.2.high (k+k2-1) aa,show(k+k2-1)*2=k*2+(k2-1)*2 by omega] at d0
       have yU:=aka d[k+k2]! d[k+k2-1]! (HD.out (k+k2) ki) (HD.out (k+k2-1) aa)
       have HX:Hid (d[k+k2]! =d[k+k2-1]! ->Lib.keeps d (k+k2)=false):=λe=>Lib.keeps_neg aa e
       have HY:Hid (d[k+k2]! ≠d[k+k2-1]! ->Lib.keeps d (k+k2)=true):=λe=>Lib.keeps_pos e
       have tW:Hid (decide (d[k+k2]! =d[k+k2-1]!)=true↔d[k+k2]! =d[k+k2-1]!):=pK;have HS:Hid (∀q,RW w g cap n (dk.setIfInBounds kk d[k+k2]!) (((wr.drewN q).setCell ⟨g,kk*2,none⟩ (aA aK (aO aK (d[k+k2]!).1) (aO aK (d[k+k2]!).2.1))).setCell ⟨g,kk*2+1,none⟩ (az aJ (d[k+k2]!).2.2))):=λq=>(HJ.out.1.dn q).set kk aa _
       have atp:(k2:Int)<(n:Int)-(k:Int):=aa
       have Ru:k2<n-k:=aa
       generalize hB:decide (d[k+k2]! =d[k+k2-1]!)=bq at yU tW;clear hB hop;generalize aO aK (d[k+k2]!).1=A1' at*;generalize aO aK (d[k+k2]!).2.1=A2' at*;generalize(d[k+k2]!).2.2=A3' at*;generalize aO aK (d[k+k2-1]!).1=B1' at*;generalize aO aK (d[k+k2-1]!).2.1=B2' at*;generalize(d[k+k2-1]!).2.2=B3' at*
       go_wp2_with fail
       go_quiet (fail)
       cases bq
       .have BA:Hid (Lib.keeps d (k+k2)=true):=HY.out (λe=>by have:=tW.out.2 e;cases this)
        clear HX HY tW;simp only[Bool.not_false]
        go_wp2_with (simp only[gN];go_simp)
        go_roundg (n-(k+(k2+1)))
        case measure=>omega
        case rel=>exact⟨kk+1,k2+1,dk.setIfInBounds kk d[k+k2]!,ai,ai,aa,aa,aY _,HS.out _,HJ.out.2.keep aa BA.out⟩
       .have BA:Hid (Lib.keeps d (k+k2)=false):=HX.out (tW.out.1 rfl);clear HX HY tW;simp only[Bool.not_true]
        go_wp2_with fail
        go_roundg (n-(k+(k2+1)))
        case measure=>omega
        case rel=>exact⟨kk,k2+1,dk,rfl,ai,aa,aa,aY _,HJ.out.1.dn _,HJ.out.2.skip BA.out⟩
      .have hend:k+k2=d.size:=aa
       obtain⟨w',hcl,aW,kV⟩:=HJ.out.1.clear kk aa (cap-kk)
       have Hq:Hid (jk w' (aG (some ⟨g,0,none⟩) kk cap) (Ge.dL d.toList)):=by
        have hI:=HJ.out.2;rw[hend] at hI;rw[<-akC hI];exact kV
       have Hr:Hid (aj w w'):=aW;have Ru:¬k2<n-k:=aa
       have aan:kk<=n:=aa
       have akF:kk<=cap:=aa
       clear kV aW
       go_wp2_with fail
       go_ret
       exact⟨_,rfl,Hq.out,Hr.out⟩
   .have:k=n:=aa
    subst this
    go_wp2_with fail
    go_ret
    refine⟨_,rfl,?_,HI.out.1.below⟩;rw[Z5 (λj hj=>HI.out.2 j aa)]
    exact HI.out.1.rd
theorem akG(w:aM)(lv:aN)(S:List Ge.Nd)(wr:aM)(h:NL w lv S wr)(hl:S.length<=200000):
  ak 126 #[lv] wr λr w'=>∃v',r=aL v'/\jk w' v' (Ge.dL S)/\aj w w':=by
 rcases h.own.2 with⟨rfl,h0⟩|⟨g,cap,cur,rfl,hg,hblk,hnc,hcm,hcs,htk⟩
 .have hS:S=[]:=iU.1 h0;subst hS;have HB:Hid (aj w wr):=h.below;clear h h0 hl
  go_enter func126,ntmps126
  go_wp2_with fail
  go_ret
  exact⟨_,rfl,World.ownsRow_nil _ _ _ _,HB.out⟩
 .have hR:RW w g cap S.length S.toArray wr:=⟨af,h.own,h.below⟩
  have hi:∀i,i<S.length->eI (S.toArray[i]!).1 (S.toArray[i]!).2.1 (S.toArray[i]!).2.2:=λi hi=>by
   have e:S.toArray[i]! =S[i]:=by rw[jh S.toArray i (by simpa using hi)];simp
   rw[e];exact h.bu _ (gZ hi)
  exact akD w g cap S.length S.toArray wr hR hi hl hnc
end
end Go.Proofs.YtkjhhooecopolaaGreatDoor
namespace Go.Proofs
open Tryz
open Value renaming int->az,complex->aA,float->aB,agg->aC,bool->aD,string->aF,slice->aG,pointer->aH,tuple->aI
open IntKind renaming i64->aJ
open FloatKind renaming f64->aK
open Ending renaming returned->aL
open Go renaming World->aM,Value->aN,floatOfInt->aO
open Go.Shelf
def Tryz.sortNd_ren:Go.Shelf.Ren:=⟨fun |6=>124|15=>164|14=>181|28=>208|29=>209|20=>219|21=>220|22=>221|23=>222|24=>223|25=>224|26=>225|27=>226|46=>274|47=>249|48=>250|49=>275|50=>276|57=>297|n=>n,fun |22=>138|24=>83|25=>206|3=>3|39=>238|0=>0|53=>280|55=>282|4=>4|46=>274|45=>273|50=>70|5=>5|9=>9|66=>313|70=>317|76=>346|77=>172|n=>n,fun |n=>n⟩
theorem Tryz.sortNd:Go.Proofs.SlLaysF0.n6 prog Tryz.sortNd_ren:={
 mixed:=ag
 f6:=⟨Tryz.f124.name,ah,func124.trans (aZ some ag)⟩
 f14:=⟨Tryz.f181.name,ah,func181.trans (aZ some ag)⟩
 f15:=func164.trans (aZ some ag)
 f20:=⟨Tryz.f219.name,ah,func219.trans (aZ some ag)⟩
 f21:=⟨Tryz.f220.name,ah,func220.trans (aZ some ag)⟩
 f22:=⟨Tryz.f221.name,ah,func221.trans (aZ some ag)⟩
 f23:=⟨Tryz.f222.name,ah,func222.trans (aZ some ag)⟩
 f24:=⟨Tryz.f223.name,ah,func223.trans (aZ some ag)⟩
 f25:=⟨Tryz.f224.name,ah,func224.trans (aZ some ag)⟩
 f26:=⟨Tryz.f225.name,ah,func225.trans (aZ some ag)⟩
 f27:=⟨Tryz.f226.name,ah,func226.trans (aZ some ag)⟩
 f28:=func208.trans (aZ some ag)
 f29:=func209.trans (aZ some ag)
 f46:=⟨Tryz.f274.name,ah,func274.trans (aZ some ag)⟩
 f47:=func249.trans (aZ some ag)
 f48:=func250.trans (aZ some ag)
 f49:=⟨Tryz.f275.name,ah,func275.trans (aZ some ag)⟩
 f50:=⟨Tryz.f276.name,ah,func276.trans (aZ some ag)⟩
 f57:=⟨Tryz.f297.name,ah,func297.trans (aZ some ag)⟩
 t0:=underlying0
 a0:=isAgg0
 z0:=sizeOf0
 v0:=zeroValue0
 t3:=underlying3
 a3:=isAgg3
 z3:=sizeOf3
 v3:=zeroValue3
 t4:=underlying4
 a4:=isAgg4
 z4:=sizeOf4
 v4:=zeroValue4
 t5:=underlying5
 a5:=isAgg5
 z5:=sizeOf5
 v5:=zeroValue5
 t9:=underlying9
 a9:=isAgg9
 z9:=sizeOf9
 v9:=zeroValue9
 t22:=underlying138
 a22:=isAgg138
 z22:=sizeOf138
 v22:=zeroValue138
 t25:=underlying206
 a25:=isAgg206
 z25:=sizeOf206
 v25:=zeroValue206
 t39:=underlying238
 a39:=isAgg238
 z39:=sizeOf238
 v39:=zeroValue238
 t45:=underlying273
 a45:=isAgg273
 z45:=sizeOf273
 v45:=zeroValue273
 t46:=underlying274
 a46:=isAgg274
 z46:=sizeOf274
 v46:=zeroValue274
 t50:=underlying70
 a50:=isAgg70
 z50:=sizeOf70
 v50:=zeroValue70
 t53:=underlying280
 a53:=isAgg280
 z53:=sizeOf280
 v53:=zeroValue280
 t55:=underlying282
 a55:=isAgg282
 z55:=sizeOf282
 v55:=zeroValue282
 t66:=underlying313
 a66:=isAgg313
 z66:=sizeOf313
 v66:=zeroValue313
 t70:=underlying317
 a70:=isAgg317
 z70:=sizeOf317
 v70:=zeroValue317
 t76:=underlying346
 a76:=isAgg346
 z76:=sizeOf346
 v76:=zeroValue346
 t77:=underlying172
 a77:=isAgg172
 z77:=sizeOf172
 v77:=zeroValue172}
end Go.Proofs
namespace Go.Proofs.YtkjhhooecopolaaGreatDoor
open Tryz
open Value renaming int->az,complex->aA,float->aB,agg->aC,bool->aD,string->aF,slice->aG,pointer->aH,tuple->aI
open IntKind renaming i64->aJ
open FloatKind renaming f64->aK
open Ending renaming returned->aL
open Go renaming World->aM,Value->aN,floatOfInt->aO
section
open Go.RowKit
variable{w w' wr:aM}
abbrev VN:={n:Ge.Nd //Ge.Can n/\eI n.1 n.2.1 n.2.2}
def jV(x:VN):List aN:=jc x.1
def Eo(x y:VN):Int:=Ge.pc (Ge.aX x.1) (Ge.aX y.1)
theorem L6(h:aj w w')(hd:w.drawn<=w'.drawn):∃q os,w'=Sort.grow (w.drewN q) os:=by
 refine⟨w'.drawn-w.drawn,w'.heap.extract w.heap.size w'.heap.size,?_⟩;have hh:w'.heap=w.heap++w'.heap.extract w.heap.size w'.heap.size:=by
  apply Array.ext_getElem?;intro k;rw[Array.getElem?_append];split
  .exact h.block k (by assumption)
  .rename_i hk
   rw[Array.getElem?_extract];by_cases hlt:k<w'.heap.size
   .rw[aV aa]
    congr 1;omega
   .rw[aQ aa,JO aa]
 have e1:w.drawn+(w'.drawn-w.drawn)=w'.drawn:=aa
 have h1:=h.os;have h2:=h.tape;have h3:=h.output;unfold Sort.grow World.drewN;rw[e1];show w'={heap:=w.heap++w'.heap.extract w.heap.size w'.heap.size,tape:=w.tape,drawn:=w'.drawn,os:=w.os,output:=w.output};rw[<-hh,<-h1,<-h2,<-h3]
theorem akH[Inhabited VN](blk off size:Nat)(w:aM):CmpLays prog 125 #[] jV 2 Eo blk off size w:=
 λ_ _ _ _ x y=>(GY x.1 y.1 x.2.2 y.2.2 x.2.1 y.2.1 _).mono λ_ _⟨h1,h2,h3⟩=>⟨h1,L6 h2 h3⟩
theorem L8{x y:VN}:ltOf Eo x y=true↔Ge.lt (Ge.aX x.1) (Ge.aX y.1):=by
 unfold ltOf Eo Ge.lt;exact pK
theorem Hs{x y:VN}:ltOf Eo x y=false↔¬Ge.lt (Ge.aX x.1) (Ge.aX y.1):=by
 rw[<-L8];simp
theorem akI:Sort.SWO (ltOf Eo) where
 irrefl _x:=Hs.2 (Ge.lt_irrefl _)
 trans x y z h1 h2:=L8.2 (Ge.lt_trans (Ge.dW x.2.1) (Ge.dW y.2.1) (Ge.dW z.2.1) (L8.1 h1) (L8.1 h2))
 ntrans x y z h1 h2:=Hs.2 λh=>Hs.1 h1 (Ge.lt_le_trans x.2.1 z.2.1 y.2.1 h (Hs.1 h2))
theorem aao:∀(L:List Ge.Nd),(∀n∈L,Ge.Can n)->(∀n∈L,eI n.1 n.2.1 n.2.2)->∃d:List VN,d.map Subtype.val=L
 |[],_,_=>⟨[],rfl⟩
 |n::L,h1,h2=>by
  obtain⟨d,hd⟩:=aao L (λm hm=>h1 m (by simp[hm])) (λm hm=>h2 m (by simp[hm]))
  exact⟨⟨n,h1 n af,h2 n af⟩::d,by simp[hd]⟩
theorem aap[Inhabited VN](d:Array VN):(Sort.flatK jV 2 d).toList=eF (d.toList.map Subtype.val):=by
 apply Fj;intro t;by_cases ht:t<d.size*2
 .have h1:t/2<d.size:=aa
  have hx:(d.toList.map Subtype.val)[t/2]?=some (d[t/2]!).1:=by
   rw[iI,jP,pJ h1,jh d _ h1];rfl
  have h2:=GZ _ _ _ hx (t%2) (yB _ ah)
  have e1:t/2*2+t%2=t:=aa
  rw[e1] at h2;have h3:=Sort.get_flatK jV 2 d t ht;have hs:t<(Sort.flatK jV 2 d).size:=by rw[Sort.size_flatK];exact ht
  rw[jh (Sort.flatK jV 2 d) t hs] at h3;rw[h2,jP,pJ hs,h3];have hl:t%2<(jV d[t/2]!).length:=yB _ ah
  rw[jh (jV d[t/2]!) (t%2) hl];exact(bo hl).symm
 .rw[yw (by rw[jr,Sort.size_flatK];omega),yw (by rw[Hc];simp;omega)]
theorem aaq(F c:Array aN)(h:F.size<=c.size):(Sort.putCells id 0 F c).toList.take F.size=F.toList:=by
 apply Fj;intro t;rw[kQ];by_cases ht:t<F.size
 .have h1:t<c.size:=aa
  rw[aV ht,jP,jP];unfold Sort.putCells;rw[asB,pJ h1,pJ ht];simp[ht]
 .rw[aQ ht,jP,JO aa]
theorem akJ[Inhabited VN](d':Array VN)(n:Nat)(os:Array Obj){g:Nat}{cur:Array aN}{t:TypeId}{fr:Nat×Nat}(hb:wr.heap[g]?=some (.cells cur t fr)):
  (sortWorldK jV 2 wr g 0 n d' os).heap[g]?=some (.cells (Sort.putCells id 0 (Sort.flatK jV 2 d') cur) t fr):=by
 have hg:=lt_of_heap hb;show((wr.heap.modify g (Sort.onCells (Sort.putCells id 0 (Sort.flatK jV 2 d'))))++os)[g]?=_;rw[JT (by simpa using hg),CV,aV rfl,hb]
 rfl
theorem akK[Inhabited VN](d':Array VN)(n:Nat)(os:Array Obj){g k:Nat}(hk:k<wr.heap.size)(hne:g≠k):
  (sortWorldK jV 2 wr g 0 n d' os).heap[k]?=wr.heap[k]?:=by
 show((wr.heap.modify g (Sort.onCells (Sort.putCells id 0 (Sort.flatK jV 2 d'))))++os)[k]?=_;rw[JT (by simpa using hk),CV,aQ hne]
theorem akL[Inhabited VN](d':Array VN)(n:Nat)(os:Array Obj)(wr:aM)(g:Nat):wr.heap.size<=(sortWorldK jV 2 wr g 0 n d' os).heap.size:=by
 show _<=((wr.heap.modify g (Sort.onCells (Sort.putCells id 0 (Sort.flatK jV 2 d'))))++os).size;rw[agI,agJ];omega
theorem akM[Inhabited VN](w:aM)(lv:aN)(L:List Ge.Nd)(wr:aM)(h:NL w lv L wr)(hl:L.length<=200000):
  ak 124 #[lv,.func (.func 125) #[] #[]] wr λr w'=>r=aL (aI #[])/\∃S,NL w lv S w'/\(∀n,n∈S↔n∈L)/\S.length=L.length/\S.Pairwise Ge.le:=by
 obtain⟨hlen,xt⟩:=h.own;rcases xt with⟨rfl,h0⟩|⟨g,cap,cur,rfl,hg,hblk,hnc,hcm,hcs,htk⟩
 .have hL:L=[]:=iU.1 h0;subst hL;refine(AnyF.slices_SortFunc_none Tryz.sortNd none 0 _ wr).mono ?_;rintro e w' ⟨rfl,rfl⟩;exact⟨rfl,[],h,λn=>JD,rfl,List.Pairwise.nil⟩
 .obtain⟨d,hd⟩:=aao L h.can h.bu;have hgl:g<wr.heap.size:=lt_of_heap hblk;have hsz:L.length=d.toArray.size:=by rw[<-hd];simp
  have hfl:(Sort.flatK jV 2 d.toArray).toList=cur.toList.take (L.length*2):=by rw[aap,htk,<-hd]
  have hH:Sort.HoldsK jV 2 wr g 0 d.toArray:=by
   intro j hj;have hj':=hj;rw[Sort.size_flatK,<-hsz] at hj';have Rv:cur[j]?=some (Sort.flatK jV 2 d.toArray)[j]! :=by
    have e1:(Sort.flatK jV 2 d.toArray).toList[j]?=(cur.toList.take (L.length*2))[j]?:=by rw[hfl]
    rw[kQ,aV hj',jP,jP,pJ hj] at e1;rw[<-e1,jh (Sort.flatK jV 2 d.toArray) j hj]
   refine⟨?_,bK hblk _⟩;rw[jD];unfold World.cell?;rw[hblk];exact Rv
  have eg:∀args w,(callFunc 125 args).run prog w=.ok (.enter 125 args) w:=enters_of func125 ag rfl
  have hone:∀x:VN,∀v∈jV x,v.oneCell'=true:=λx v hv=>by
   simp[jV,jc] at hv;rcases hv with rfl|rfl<;>rfl
  have hcon:=AnyQ.slices_SortFunc Tryz.sortNd 2 isAgg83 sizeOf83 jV (λ_=>rfl) hone Eo akI 125 #[] g 0 cap d.toArray wr eg (akH _ _ _ _) hH hgl (by rw[<-hsz];omega)
  change ak 124 _ _ _ at hcon
  rw[<-hsz] at hcon;refine hcon.mono ?_;rintro e w' ⟨rfl,d',n,os,hp,hs,rfl⟩;obtain⟨hps,_,Ht⟩:=hp;have hs1:d'.size=L.length:=by rw[hps,hsz]
  have hperm:d'.toList.Perm d:=by
   have e1:d'.extract 0 L.length=d':=by rw[<-hs1];exact OT
   have e2:d.toArray.extract 0 L.length=d.toArray:=by rw[hsz];exact OT
   rw[e1,e2] at Ht;exact Ht
  have zy:(d'.toList.map Subtype.val).length=L.length:=by simp[hs1]
  have hmem:∀m,m∈d'.toList.map Subtype.val↔m∈L:=λm=>by
   rw[<-hd];simp only[bQ];constructor
   .rintro⟨x,hx,rfl⟩;exact⟨x,hperm.mem_iff.1 hx,rfl⟩
   .rintro⟨x,hx,rfl⟩;exact⟨x,hperm.mem_iff.2 hx,rfl⟩
  refine⟨rfl,d'.toList.map Subtype.val,⟨⟨by rw[Hc],aT ⟨g,cap,_,by rw[zy],hg,akJ d' n os hblk,by rw[zy];exact hnc,hcm,?_,?_⟩⟩,?_,λm hm=>h.can m ((hmem m).1 hm),λm hm=>h.bu m ((hmem m).1 hm)⟩,hmem,zy,?_⟩
  .unfold Sort.putCells;rw[VU];exact hcs
  .have e1:(d'.toList.map Subtype.val).length*2=(Sort.flatK jV 2 d').size:=by rw[Sort.size_flatK,zy,hs1]
   rw[e1,aaq _ _ (by rw[Sort.size_flatK,hs1,hcs];omega),aap]
  .exact h.below.trans ⟨rfl,rfl,rfl,akL d' n os wr g,λk hk=>akK d' n os (bW hk h.below.size) aa⟩
  .rw[oL,mn];intro i j hi hj hij;have hi':i<d'.size:=by simpa using hi
   have hj':j<d'.size:=by simpa using hj
   have hx:=hs i j (iA _) hij aa
   rw[jh d' i hi',jh d' j hj'] at hx;exact Hs.1 hx
theorem akN(es:List Ed)(v:aN)(w:aM)(hR:iL w v es)(hl:es.length<=402)(hs:∀e∈es,gz e):
  ak 72 #[v] w λe w'=>∃v' l,e=aL v'/\jk w' v' l/\aj w w'/\l.map Ge.aX=Ge.iZ es/\(∀n∈l,eI n.1 n.2.1 n.2.2)/\l.length<=200000/\(∀n∈l,Ge.Can n):=by
 haveI:Inhabited VN:=⟨⟨(0,0,1),⟨ah,ah⟩,⟨ah,ah,ah⟩⟩⟩
 exact aj5 es v w hR hl hs (λlv L wr h1 h2=>akM w lv L wr h1 h2) (λlv S wr h1 h2=>akG w lv S wr h1 h2)
namespace Ge
theorem Rw{k X:Int}(hk:k≠0):X.natAbs<=(k*X).natAbs:=by
 rw[mq];have:1<=k.natAbs:=aa
 calc X.natAbs=1*X.natAbs:=(VB _).symm
  _<=k.natAbs*X.natAbs:=JP _ this
theorem akO(x y:Int){d:Int}(hd:d≠0):∃n:Nd,Can n/\aX n=(bC x d,bC y d)/\n.1.natAbs<=x.natAbs/\n.2.1.natAbs<=y.natAbs/\n.2.2.natAbs<=d.natAbs:=by
 obtain⟨G,hG⟩:∃G,Int.gcd (Int.gcd x y:Nat) d=G:=⟨_,rfl⟩;have wS:0<G:=by rw[<-hG];exact tH aa
 have xh:(G:Int)∣(Int.gcd x y:Nat):=by rw[<-hG];exact Am _ _
 have dx:(G:Int)∣x:=Aq xh (Am _ _);have dy:(G:Int)∣y:=Aq xh (yA _ _);have dd:(G:Int)∣d:=by rw[<-hG];exact yA _ _
 have main:∀k:Int,k≠0->k.natAbs=G->k∣x->k∣y->k∣d->0<d.tdiv k->∃n:Nd,Can n/\aX n=(bC x d,bC y d)/\n.1.natAbs<=x.natAbs/\n.2.1.natAbs<=y.natAbs/\n.2.2.natAbs<=d.natAbs:=by
  intro k k0 hk kx ky kd hp;have ex:=(uD kx).symm;have ey:=(uD ky).symm;have ed:=(uD kd).symm;obtain⟨h1,h2⟩:=LF hd ex ey ed hp (by rw[hk,hG])
  refine⟨_,h1,h2,?_,?_,?_⟩
  .have:=Rw (X:=x.tdiv k) k0;rw[<-ex] at this;exact this
  .have:=Rw (X:=y.tdiv k) k0;rw[<-ey] at this;exact this
  .have:=Rw (X:=d.tdiv k) k0;rw[<-ed] at this;exact this
 obtain⟨q,hq⟩:=dd;have mH:(0:Int)<G:=aa
 rcases fX d 0 with h|h|h
 .have hqn:q<0:=by
   rcases fX q 0 with h1|h1|h1
   .exact h1
   .rw[h1] at hq;omega
   .have:=bJ mH h1;omega
  refine main (-(G:Int)) aa aa (Int.neg_dvd.2 dx) (Int.neg_dvd.2 dy) (Int.neg_dvd.2 ⟨q,hq⟩) ?_
  have e:d= -(G:Int)*(-q):=by rw[Ar];exact hq
  rw[e,asC _ aa]
  omega
 .exact absurd h hd
 .have hqp:0<q:=by
   rcases fX q 0 with h1|h1|h1
   .have:=yt mH h1;omega
   .rw[h1] at hq;omega
   .exact h1
  refine main (G:Int) aa aa dx dy ⟨q,hq⟩ ?_
  rw[hq,asC _ aa]
  exact hqp
end Ge
theorem aar{es:List Ed}(hs:∀e∈es,gz e){n:Ge.Nd}(hc:Ge.Can n)(h:Ge.isNode es (Ge.aX n)):mJ n:=by
 have aas:∀a:Ge.Pt,small a.1->small a.2->Ge.aX n=Ge.pt a->mJ n:=λa h1 h2 hq=>by
  have hc1:Ge.Can (a.1,a.2,1):=⟨by show(0:Int)<1;decide,af⟩
  have e:n=(a.1,a.2,1):=Ge.LC hc hc1 (by rw[hq];unfold Ge.aX Ge.pt;simp only[Ge.KV])
  unfold small at h1 h2;rw[e];exact⟨by simp only;omega,by simp only;omega,af⟩
 rcases h with⟨e,he,h|h⟩|⟨e,he,f,hf,hcr,hq,_,_⟩
 .exact aas e.1 (hs e he).a (hs e he).b h
 .exact aas e.2 (hs e he).c (hs e he).d h
 .obtain⟨m,hm,hmq,m1,m2,m3⟩:=Ge.akO (Ge.mX e f) (Ge.mY e f) hcr;have en:n=m:=Ge.LC hc hm (by rw[hq,hmq];rfl)
  obtain⟨b1,b2,b3⟩:=YJ (hs e he) (hs f hf);have hp:=hc.pos;rw[<-en] at m1 m2 m3;exact⟨aa,aa,aa⟩
structure AP(es:List Ed)(l:List Ge.Nd)(L:List PB):Prop where
 mem:∀p∈L,∃e∈es,qP p.wa p.wb p.sh (Ge.jb (Ge.dB e))/\(p.f,p.t)∈Ge.nexts (Ge.held e l)
 all:∀e∈es,∀q∈Ge.nexts (Ge.held e l),∃p∈L,(p.f,p.t)=q
theorem AP.nil(l:List Ge.Nd):AP [] l []:=⟨λp h=>by simp at h,λe h=>by simp at h⟩
theorem AP.snoc{es:List Ed}{l:List Ge.Nd}{L:List PB}(h:AP es l L)(e:Ed){a b s:Nat}(hw:qP a b s (Ge.jb (Ge.dB e))):AP (es++[e]) l (L++gf a b s e l):=by
 refine⟨λp hp=>?_,λf hf q hq=>?_⟩
 .rcases dv.1 hp with hp|hp
  .obtain⟨f,hf,h1⟩:=h.mem p hp;exact⟨f,by simp[hf],h1⟩
  .unfold gf at hp;obtain⟨q,hq,rfl⟩:=bQ.1 hp;exact⟨e,af,hw,hq⟩
 .rcases dv.1 hf with hf|hf
  .obtain⟨p,hp,h1⟩:=h.all f hf q hq;exact⟨p,by simp[hp],h1⟩
  .rw[dh.1 hf] at hq;exact⟨⟨a,b,s,q.1,q.2⟩,CQ _ (bQ.2 ⟨q,hq,rfl⟩),rfl⟩
theorem akR{P:Program}(base:Nat)(t ty e:TypeId)(i:TypeInfo)(size:Nat)(ht:P.underlying t=some (.slice e))(hi:P.info? e=some i)
  (v:aN)(n:Nat)(xs:List aN)(hown:w.ownsRow base e size v n xs)(xo:Option Addr)(c:Nat):
  (Builtin.append_ #[t,t] ty #[v,aG xo 0 c]).run P w=.ok v w:=by
 rcases hown.2 with⟨rfl,rfl⟩|⟨g,cap,cur,rfl,_,_,hnc,_⟩
 .cases xo<;>simp[Builtin.append_,run_underlying ht,sizeOf,typeInfo,hi,Builtin.lenOf,Builtin.firstCells,loadCells,loadCellsFrom]
 .cases xo<;>simp[Builtin.append_,run_underlying ht,sizeOf,typeInfo,hi,Builtin.lenOf,Builtin.firstCells,hnc,storeCells,loadCells,loadCellsFrom]
theorem aat{P:Program}{ops:Array Oper}{rest:List Oper}{o:Oper}{a:Act}{Q:Exit->Act->aM->Prop}(hgd:o.guard=none)(s x:Operand)(t:TypeId)
  (ho:o.op=.call {callee:=.builtin .append,args:= #[s,x],argTypes:= #[t,t]})(base:Nat)(e:TypeId)(i:TypeInfo)(size:Nat)(ht:P.underlying t=some (.slice e))(hi:P.info? e=some i)
  (v:aN)(n:Nat)(xs:List aN)(hs:a.eval s=v)(hown:w.ownsRow base e size v n xs)(xo:Option Addr)(c:Nat)(hx:a.eval x=aG xo 0 c)
  (h:wpList P ops Q rest (a.put o.dst v) w):wpList P ops Q (o::rest) a w:=
 wpList_plain hgd λ_ hK=>by
  have hr:=akR (P:=P) (w:=w) base t o.type e i size ht hi v n xs hown xo c;unfold Oper.wp execOp;simp only[ho,resolve,invoke,builtin,Sem.run_bind,Sem.run_pure,Result.andThen_ok,List.map_toArray,ij,JK,hs,hx,hr];exact hK _ _ h
theorem akS{v:aN}{l:List Ge.Nd}(h:jk w v l)(hb:aj w w'):jk w' v l:=Bf h λk _cur hc=>hb.block k (lt_of_heap hc)
theorem aau(l:List PB):∀u∈dN l,u.oneCell'=true:=by
 intro u hu;obtain⟨x,_,h⟩:=qq.1 hu;simp[PB.cells] at h;rcases h with rfl|rfl|rfl|rfl|rfl|rfl<;>rfl
theorem PL.fresh{v:aN}{L:List PB}(h:PL w v L wr)(hL:0<L.length):∃g cap,v=aG (some ⟨g,0,none⟩) L.length cap/\w.heap.size<=g/\∀j u,(dN L)[j]?=some u->wr.cell? ((⟨g,0,none⟩:Addr).add j)=some u:=by
 rcases h.1.2 with⟨_,h0⟩|⟨g,cap,cur,hv,hg,hr⟩
 .omega
 .exact⟨g,cap,hv,hg,h.1.cells (by rw[hv];rfl)⟩
theorem akT(a b:List PB):dN (a++b)=dN a++dN b:=by simp[dN]
theorem Ep(l:List PB):(dN l).length=l.length*6:=by
 induction l with
 |nil=>rfl
 |cons x r ih=>
  have e:dN (x::r)=x.cells++dN r:=by simp[dN]
  rw[e,bY,ih,dw];show 6+_=_;omega
theorem akU(es:List Ed)(v:aN)(w:aM)(hR:iL w v es)(hl:es.length<=402)(hs:∀e∈es,gz e)
  (Q:List PB->aN->aM->Prop)
  (HS:Hid (∀l,l.map Ge.aX=Ge.iZ es->(∀n∈l,Ge.Can n)->∀lv L wr,PL w lv L wr->AP es l L->L.length<=85000000->ak 156 #[lv,.func (.func 157) #[] #[]] wr λr w'=>r=aL (aI #[])/\ak 158 #[lv,.func (.func 159) #[] #[]] w' λr w''=>∃v' Ps,r=aL v'/\Q Ps v' w'')):
  ak 104 #[v] w λr w'=>∃v' Ps,r=aL v'/\Q Ps v' w':=by
 obtain⟨so,cap,rfl⟩:=Gq hR;obtain⟨i0,hi,hz0,hz1,hz2⟩:=info_parts aac;have HR:Hid (iL w (aG so es.length cap) es):=hR;have HN:Hid (ak 72 #[aG so es.length cap] w λe w'=>∃v' l,e=aL v'/\jk w' v' l/\aj w w'/\l.map Ge.aX=Ge.iZ es/\(∀n∈l,eI n.1 n.2.1 n.2.2)/\l.length<=200000/\(∀n∈l,Ge.Can n)):=akN es _ w hR hl hs
 have HSE:Hid (∀e∈es,gz e):=hs;clear hR hs
 go_enter func104,ntmps104
 go_wp2_with fail
 refine HN.out.mono ?_;rintro r w1 ⟨nv,l,rfl,tX,hb1,lg,hin,hll,lh⟩;obtain⟨ns,nc,rfl⟩:=LQ tX;have HRN:Hid (jk w1 (aG ns l.length nc) l):=tX;have HNI:Hid (∀n∈l,eI n.1 n.2.1 n.2.2):=hin;have HLI:Hid (l.map Ge.aX=Ge.iZ es/\(∀n∈l,Ge.Can n)):=⟨lg,lh⟩;clear tX hin lg lh HN;have cK:Hid (∃L,PL w (aG none 0 0) L w1/\(∀k,(Value.slice none 0 0).ownBlock=some k->w1.heap.size<=k)/\aj w1 w1/\AP (es.take 0) l L/\L.length<=0):=⟨[],⟨World.ownsRow_nil _ _ _ _,hb1⟩,(λk h=>by cases h),Below.refl _ _,by simpa using AP.nil l,af⟩
 go_wp2_with fail
 go_loopg [4,11] es.length (λm lv iv wr=>∃k:Nat,k+m=es.length/\iv=az aJ k/\Hid (∃L,PL w lv L wr/\(∀k,lv.ownBlock=some k->w1.heap.size<=k)/\aj w1 wr/\AP (es.take k) l L/\L.length<=k*200000))
 case atStart=>exact⟨0,aa,rfl,by simpa using cK⟩
 case round=>
  obtain⟨k,hkn,rfl,HE⟩:=hrel;clear cK;by_cases hlt:k<es.length
  .obtain⟨L,xw,iD,rK,tY,kZ⟩:=HE.out;have Rx:Hid (∀k,u4.ownBlock=some k->w1.heap.size<=k):=iD;have hLk:L.length<=(k+1)*200000:=fN kZ (JP _ (pI k));obtain⟨e,nV⟩:∃e,es[k]?=some e:=⟨_,bo hlt⟩;obtain⟨b,x,rfl,hb,hok,c0,c1,c2,c3⟩:=Gs HR.out nV;have aW:=xw.2;have r0:=aS aW c0 hb;have r1:=aS aW c1 hb;have r2:=aS aW c2 hb;have r3:=aS aW c3 hb;have hbr:b<wr.heap.size:=bW hb aW.size;have gH:(k:Int)<(es.length:Int):=aa
   have hmem:=bT nV;have kA:=HSE.out e hmem;obtain⟨ra,rb,rs,hfl,rR⟩:=ajT (l:=Ge.dB e) (a:=x.wa) (b:=x.wb) (s:=x.sh) ⟨hok.wa,hok.wb,hok.sh⟩;have pV:Hid (AP (es.take (k+1)) l (L++gf ra rb rs e l)):=by
    have htk:es.take (k+1)=es.take k++[e]:=by rw[jF,nV];rfl
    rw[htk];exact tY.snoc e hfl
   have hcl:=aae ra rb rs e l;have Ek:Hid (∀v' w',jk w' v' l->ak 155 #[aC #[aA aK x.wa x.wb,aB aK x.sh,aA aK x.fa x.fb,aA aK x.ta x.tb],v'] w' λr w''=>∃v'',r=aL v''/\PL w' v'' (gf ra rb rs e l) w''):=λv' w' hv=>akq x e l v' w' hok kA hv HNI.out hll rR
   obtain⟨wa,wb,sh,fa,fb,ta,tb⟩:=x;simp only at r0 r1 r2 r3 Ek;have Er:Hid (PL w u4 L wr):=xw;have hRN:jk (wr.alloc (.cells #[aA aK wa wb,aB aK sh,aA aK fa fb,aA aK ta tb] 124)) (aG ns l.length nc) l:=akS HRN.out (rK.alloc rK.size _);have HRW:Hid (jk (wr.alloc (.cells #[aA aK wa wb,aB aK sh,aA aK fa fb,aA aK ta tb] 124)) (aG ns l.length nc) l):=hRN;have hb0:aj wr (wr.alloc (.cells #[aA aK wa wb,aB aK sh,aA aK fa fb,aA aK ta tb] 124)):=aw _ _;clear c0 c1 c2 c3 nV hok kA hmem rR hfl tY xw hRN HE
   go_wp2_with (simp only[gN,oV];go_simp)
   generalize wr.alloc (.cells #[aA aK wa wb,aB aK sh,aA aK fa fb,aA aK ta tb] 124)=W0 at*;refine(Ek.out _ _ HRW.out).mono ?_;rintro r w2 ⟨cv,rfl,hC⟩;have hb2:aj wr w2:=hb0.trans (hC.2.mono hb0.size);have jW:w2.ownsRow w.heap.size 171 6 u4 L.length (dN L):=bB Er.out.1 λk hk=>hb2.block k (bn Er.out.1 k hk).2
   have Bk:aj w w2:=aW.trans (hb2.mono aW.size);have L9:aj w1 w2:=rK.trans (hb2.mono rK.size);clear r0 r1 r2 r3 hb0 Ek HRW;by_cases hc0:0<(gf ra rb rs e l).length
   .obtain⟨g,cp,rfl,hg,hcells⟩:=hC.fresh hc0;have hone:=aau (gf ra rb rs e l);have hrl:=Ep (gf ra rb rs e l);generalize hCL:gf ra rb rs e l=C at*
    go_wp2_with (at_builtin;refine wpList_append_lies _ rfl (.tmp 15) (.tmp 18) 168 rfl w.heap.size 171 i0 _ 6 72 underlying168 hi hz0 hz1 hz2 rfl ah u4 L.length (dN L) rfl jW ⟨g,0,none⟩ C.length cp (dN C) rfl hrl hcells hone hc0 (by unfold maxLen;omega) aa Bk.size w2.heap.size rfl ?_;intro g' cap' w8 dM cI iN rN)
    have cV:Hid (∃L',PL w (aG (some ⟨g',0,none⟩) (L.length+C.length) cap') L' w8/\(∀k,(Value.slice (some ⟨g',0,none⟩) (L.length+C.length) cap').ownBlock=some k->w1.heap.size<=k)/\aj w1 w8/\AP (es.take (k+1)) l L'/\L'.length<=(k+1)*200000):=by
     refine⟨L++C,⟨?_,Bk.grown cI Bk.size (λk hk=>(bn jW k hk).1)⟩,λk hk=>?_,L9.grown cI L9.size (λk hk=>Rx.out k hk),pV.out,?_⟩
     .rw[akT,bY];exact dM
     .injection hk with hk;subst hk;rcases iN with h8|h8
      .exact Rx.out _ h8
      .show w1.heap.size<=g';rw[h8];exact L9.size
     .rw[bY,Fu,VB];omega
    clear cI dM jW hcells hone hrl hC Er pV
    go_wp2_with fail
    go_roundg (gk-1)
    case measure=>omega
    case rel=>exact⟨k+1,aa,ai,cV⟩
   .have hC0:(gf ra rb rs e l).length=0:=aa
    have hCn:gf ra rb rs e l=[]:=iU.1 hC0;obtain⟨xo,xc,rfl⟩:∃xo xc,cv=aG xo 0 xc:=by
     rcases hC.1.2 with⟨hv,_⟩|⟨gg,cc,cur,hv,_⟩
     .exact⟨none,0,hv⟩
     .exact⟨_,cc,by rw[hv,hC0]⟩
    have cV:Hid (∃L',PL w u4 L' w2/\(∀k,u4.ownBlock=some k->w1.heap.size<=k)/\aj w1 w2/\AP (es.take (k+1)) l L'/\L'.length<=(k+1)*200000):=by
     have h:=pV.out;rw[hCn,qu] at h;exact⟨L,⟨jW,Bk⟩,Rx.out,L9,h,hLk⟩
    clear hC Er pV hCn
    go_wp2_with (at_builtin;refine aat rfl (.tmp 15) (.tmp 18) 168 rfl w.heap.size 171 i0 6 underlying168 hi u4 L.length (dN L) rfl jW xo xc rfl ?_)
    go_roundg (gk-1)
    case measure=>omega
    case rel=>exact⟨k+1,aa,ai,cV⟩
  .have hk:k=es.length:=aa
   subst hk;obtain⟨L,xw,_,rK,tY,kZ⟩:=HE.out;rw[fO] at tY;have HC:=HS.out l HLI.out.1 HLI.out.2 _ L _ xw tY aa
   have Hu:Hid (ak 156 #[u4,.func (.func 157) #[] #[]] wr λr w'=>r=aL (aI #[])/\ak 158 #[u4,.func (.func 159) #[] #[]] w' λr w''=>∃v' Ps,r=aL v'/\Q Ps v' w''):=HC
   clear HC HS HE xw tY HR HRN
   go_wp2_with fail
   refine Hu.out.mono ?_;rintro r w5 ⟨rfl,hC5⟩;have HC5:Hid (ak 158 #[u4,.func (.func 159) #[] #[]] w5 λr w''=>∃v' Ps,r=aL v'/\Q Ps v' w''):=hC5
   clear hC5 Hu
   go_wp2_with fail
   refine HC5.out.mono ?_;rintro r w6 ⟨v',Ps,rfl,hQ⟩;have HQ:Hid (Q Ps v' w6):=hQ;clear hQ
   go_wp2_with fail
   go_ret
   exact⟨v',Ps,rfl,HQ.out⟩
end
end Go.Proofs.YtkjhhooecopolaaGreatDoor
namespace Go.Proofs
open Tryz
open Value renaming int->az,complex->aA,float->aB,agg->aC,bool->aD,string->aF,slice->aG,pointer->aH,tuple->aI
open IntKind renaming i64->aJ
open FloatKind renaming f64->aK
open Ending renaming returned->aL
open Go renaming World->aM,Value->aN,floatOfInt->aO
open Go.Shelf
def Tryz.sortPc_ren:Go.Shelf.Ren:=⟨fun |6=>156|15=>164|14=>199|28=>208|29=>209|20=>240|21=>241|22=>242|23=>243|24=>244|25=>245|26=>246|27=>247|46=>286|47=>249|48=>250|49=>287|50=>288|57=>304|n=>n,fun |22=>168|24=>171|25=>228|3=>3|39=>238|0=>0|53=>280|55=>282|4=>4|46=>274|45=>273|50=>70|5=>5|9=>9|66=>313|70=>317|76=>346|77=>172|n=>n,fun |n=>n⟩
theorem Tryz.sortPc:Go.Proofs.SlLaysF0.n6 prog Tryz.sortPc_ren:={
 mixed:=ag
 f6:=⟨Tryz.f156.name,ah,func156.trans (aZ some ag)⟩
 f14:=⟨Tryz.f199.name,ah,func199.trans (aZ some ag)⟩
 f15:=func164.trans (aZ some ag)
 f20:=⟨Tryz.f240.name,ah,func240.trans (aZ some ag)⟩
 f21:=⟨Tryz.f241.name,ah,func241.trans (aZ some ag)⟩
 f22:=⟨Tryz.f242.name,ah,func242.trans (aZ some ag)⟩
 f23:=⟨Tryz.f243.name,ah,func243.trans (aZ some ag)⟩
 f24:=⟨Tryz.f244.name,ah,func244.trans (aZ some ag)⟩
 f25:=⟨Tryz.f245.name,ah,func245.trans (aZ some ag)⟩
 f26:=⟨Tryz.f246.name,ah,func246.trans (aZ some ag)⟩
 f27:=⟨Tryz.f247.name,ah,func247.trans (aZ some ag)⟩
 f28:=func208.trans (aZ some ag)
 f29:=func209.trans (aZ some ag)
 f46:=⟨Tryz.f286.name,ah,func286.trans (aZ some ag)⟩
 f47:=func249.trans (aZ some ag)
 f48:=func250.trans (aZ some ag)
 f49:=⟨Tryz.f287.name,ah,func287.trans (aZ some ag)⟩
 f50:=⟨Tryz.f288.name,ah,func288.trans (aZ some ag)⟩
 f57:=⟨Tryz.f304.name,ah,func304.trans (aZ some ag)⟩
 t0:=underlying0
 a0:=isAgg0
 z0:=sizeOf0
 v0:=zeroValue0
 t3:=underlying3
 a3:=isAgg3
 z3:=sizeOf3
 v3:=zeroValue3
 t4:=underlying4
 a4:=isAgg4
 z4:=sizeOf4
 v4:=zeroValue4
 t5:=underlying5
 a5:=isAgg5
 z5:=sizeOf5
 v5:=zeroValue5
 t9:=underlying9
 a9:=isAgg9
 z9:=sizeOf9
 v9:=zeroValue9
 t22:=underlying168
 a22:=isAgg168
 z22:=sizeOf168
 v22:=zeroValue168
 t25:=underlying228
 a25:=isAgg228
 z25:=sizeOf228
 v25:=zeroValue228
 t39:=underlying238
 a39:=isAgg238
 z39:=sizeOf238
 v39:=zeroValue238
 t45:=underlying273
 a45:=isAgg273
 z45:=sizeOf273
 v45:=zeroValue273
 t46:=underlying274
 a46:=isAgg274
 z46:=sizeOf274
 v46:=zeroValue274
 t50:=underlying70
 a50:=isAgg70
 z50:=sizeOf70
 v50:=zeroValue70
 t53:=underlying280
 a53:=isAgg280
 z53:=sizeOf280
 v53:=zeroValue280
 t55:=underlying282
 a55:=isAgg282
 z55:=sizeOf282
 v55:=zeroValue282
 t66:=underlying313
 a66:=isAgg313
 z66:=sizeOf313
 v66:=zeroValue313
 t70:=underlying317
 a70:=isAgg317
 z70:=sizeOf317
 v70:=zeroValue317
 t76:=underlying346
 a76:=isAgg346
 z76:=sizeOf346
 v76:=zeroValue346
 t77:=underlying172
 a77:=isAgg172
 z77:=sizeOf172
 v77:=zeroValue172}
end Go.Proofs
namespace Go.Proofs.YtkjhhooecopolaaGreatDoor
open Tryz
open Value renaming int->az,complex->aA,float->aB,agg->aC,bool->aD,string->aF,slice->aG,pointer->aH,tuple->aI
open IntKind renaming i64->aJ
open FloatKind renaming f64->aK
open Ending renaming returned->aL
open Go renaming World->aM,Value->aN,floatOfInt->aO
section
open Go.RowKit
variable{S T d:Array PB}{g k m cap n:Nat}{x y:PB}{wr w:aM}
def kD(x y:PB):Prop:=Ej x y<0
theorem Ry{a b:Ge.Nd}(ha:Ge.Can a)(hb:Ge.Can b):Ge.lt (Ge.aX a) (Ge.aX b)\/a=b\/Ge.lt (Ge.aX b) (Ge.aX a):=by
 by_cases h:Ge.lt (Ge.aX b) (Ge.aX a)
 .exact aT (aT h)
 .by_cases e:a=b
  .exact aT (aU e)
  .exact aU (Ge.Ea ha hb h e)
theorem tZ(hx:dX x)(hy:dX y):kD x y↔Ge.lt (Ge.aX x.f) (Ge.aX y.f)\/(x.f=y.f/\Ge.lt (Ge.aX x.t) (Ge.aX y.t)):=by
 unfold kD Ej cE Ge.lt;by_cases h:Ge.pc (Ge.aX x.f) (Ge.aX y.f)=0
 .have e:=Ge.xe hx.cf hy.cf h;rw[aV h];constructor
  .exact λk=>aT ⟨e,k⟩
  .rintro(k|⟨_,k⟩)
   .omega
   .exact k
 .rw[aQ h];constructor
  .exact aU
  .rintro(k|⟨e,_⟩)
   .exact k
   .exact absurd (by rw[e];exact Ge.Bb _) h
theorem aaC{z:PB}(hx:dX x)(hy:dX y)(hz:dX z)(h1:kD x y)(h2:kD y z):kD x z:=by
 rw[tZ hx hy] at h1;rw[tZ hy hz] at h2;rw[tZ hx hz];rcases h1 with h1|⟨e1,h1⟩<;>rcases h2 with h2|⟨e2,h2⟩
 .exact aU (Ge.lt_trans (Ge.dW hx.cf) (Ge.dW hy.cf) (Ge.dW hz.cf) h1 h2)
 .exact aU (by rw[<-e2];exact h1)
 .exact aU (by rw[e1];exact h2)
 .exact aT ⟨e1.trans e2,Ge.lt_trans (Ge.dW hx.ct) (Ge.dW hy.ct) (Ge.dW hz.ct) h1 h2⟩
theorem Rz(hx:dX x)(hy:dX y):kD x y\/(x.f=y.f/\x.t=y.t)\/kD y x:=by
 rw[tZ hx hy,tZ hy hx];rcases Ry hx.cf hy.cf with h|h|h
 .exact aU (aU h)
 .rcases Ry hx.ct hy.ct with k|k|k
  .exact aU (aT ⟨h,k⟩)
  .exact aT (aU ⟨h,k⟩)
  .exact aT (aT (aT ⟨h.symm,k⟩))
 .exact aT (aT (aU h))
theorem aaD(x:PB):¬kD x x:=by
 unfold kD Ej cE;rw[aV (Ge.Bb _),Ge.Bb];decide
abbrev VP:={x:PB //dX x}
def jX(x:VP):List aN:=x.1.cells
def Es(x y:VP):Int:=Ej x.1 y.1
theorem akZ[Inhabited VP](blk off size:Nat)(w:aM):CmpLays prog 157 #[] jX 6 Es blk off size w:=
 λ_ _ _ _ x y=>(ake x.1 y.1 x.2 y.2 _).mono λ_ _⟨h1,h2,h3⟩=>⟨h1,L6 h2 h3⟩
theorem Ma{x y:VP}:ltOf Es x y=true↔kD x.1 y.1:=by
 unfold ltOf Es kD;exact pK
theorem Hv{x y:VP}:ltOf Es x y=false↔¬kD x.1 y.1:=by
 rw[<-Ma];simp
theorem ak0:Sort.SWO (ltOf Es) where
 irrefl x:=Hv.2 (aaD _)
 trans x y z h1 h2:=Ma.2 (aaC x.2 y.2 z.2 (Ma.1 h1) (Ma.1 h2))
 ntrans x y z h1 h2:=Hv.2 λh=>by
  have k1:=Hv.1 h1;have k2:=Hv.1 h2;rcases Rz x.2 y.2 with a|⟨a,b⟩|a
  .exact k1 a
  .refine k2 ?_;rw[tZ y.2 z.2,<-a,<-b,<-tZ x.2 z.2];exact h
  .exact k2 (aaC y.2 x.2 z.2 a h)
theorem aaE:∀(L:List PB),(∀n∈L,dX n)->∃d:List VP,d.map Subtype.val=L
 |[],_=>⟨[],rfl⟩
 |n::L,h1=>by
  obtain⟨d,hd⟩:=aaE L (λm hm=>h1 m (by simp[hm]))
  exact⟨⟨n,h1 n af⟩::d,by simp[hd]⟩
theorem Mb:∀(l:List PB)(k:Nat)(e:PB),l[k]?=some e->∀j,j<6->(dN l)[k*6+j]?=e.cells[j]?
 |[],_,_,h,_,_=>by simp at h
 |q::r,0,e,h,j,hj=>by
  simp at h;subst h;have e1:dN (q::r)=q.cells++dN r:=by simp[dN]
  rw[e1,fI (by show _<6;omega)]
  simp
 |q::r,k+1,e,h,j,hj=>by
  have ih:=Mb r k e (by simpa using h) j hj
  have e1:dN (q::r)=q.cells++dN r:=by simp[dN]
  have e0:q.cells.length=6:=rfl;rw[e1,nJ aa]
  have e2:(k+1)*6+j-q.cells.length=k*6+j:=aa
  rw[e2,ih]
theorem aaF[Inhabited VP](d:Array VP):(Sort.flatK jX 6 d).toList=dN (d.toList.map Subtype.val):=by
 apply Fj;intro t;by_cases ht:t<d.size*6
 .have h1:t/6<d.size:=aa
  have hx:(d.toList.map Subtype.val)[t/6]?=some (d[t/6]!).1:=by
   rw[iI,jP,pJ h1,jh d _ h1];rfl
  have h2:=Mb _ _ _ hx (t%6) (yB _ ah)
  have e1:t/6*6+t%6=t:=aa
  rw[e1] at h2;have h3:=Sort.get_flatK jX 6 d t ht;have hs:t<(Sort.flatK jX 6 d).size:=by rw[Sort.size_flatK];exact ht
  rw[jh (Sort.flatK jX 6 d) t hs] at h3;rw[h2,jP,pJ hs,h3];have hl:t%6<(jX d[t/6]!).length:=yB _ ah
  rw[jh (jX d[t/6]!) (t%6) hl];exact(bo hl).symm
 .rw[yw (by rw[jr,Sort.size_flatK];omega),yw (by rw[Ep];simp;omega)]
theorem ak1[Inhabited VP](d':Array VP)(n:Nat)(os:Array Obj){cur:Array aN}{t:TypeId}{fr:Nat×Nat}(hb:wr.heap[g]?=some (.cells cur t fr)):
  (sortWorldK jX 6 wr g 0 n d' os).heap[g]?=some (.cells (Sort.putCells id 0 (Sort.flatK jX 6 d') cur) t fr):=by
 have hg:=lt_of_heap hb;show((wr.heap.modify g (Sort.onCells (Sort.putCells id 0 (Sort.flatK jX 6 d'))))++os)[g]?=_;rw[JT (by simpa using hg),CV,aV rfl,hb]
 rfl
theorem ak2[Inhabited VP](d':Array VP)(n:Nat)(os:Array Obj)(hk:k<wr.heap.size)(hne:g≠k):
  (sortWorldK jX 6 wr g 0 n d' os).heap[k]?=wr.heap[k]?:=by
 show((wr.heap.modify g (Sort.onCells (Sort.putCells id 0 (Sort.flatK jX 6 d'))))++os)[k]?=_;rw[JT (by simpa using hk),CV,aQ hne]
theorem ak3[Inhabited VP](d':Array VP)(n:Nat)(os:Array Obj)(wr:aM)(g:Nat):wr.heap.size<=(sortWorldK jX 6 wr g 0 n d' os).heap.size:=by
 show _<=((wr.heap.modify g (Sort.onCells (Sort.putCells id 0 (Sort.flatK jX 6 d'))))++os).size;rw[agI,agJ];omega
theorem ak4[Inhabited VP](w:aM)(lv:aN)(L:List PB)(wr:aM)(h:PL w lv L wr)(hv:∀x∈L,dX x)(hl:L.length<=85000000):
  ak 156 #[lv,.func (.func 157) #[] #[]] wr λr w'=>r=aL (aI #[])/\∃S,PL w lv S w'/\S.Perm L/\S.Pairwise (λx y=>¬kD y x):=by
 obtain⟨hlen,xt⟩:=h.1;rcases xt with⟨rfl,h0⟩|⟨g,cap,cur,rfl,hg,hblk,hnc,hcm,hcs,htk⟩
 .have hL:L=[]:=iU.1 h0;subst hL;refine(AnyF.slices_SortFunc_none Tryz.sortPc none 0 _ wr).mono ?_;rintro e w' ⟨rfl,rfl⟩;exact⟨rfl,[],h,JU _,List.Pairwise.nil⟩
 .obtain⟨d,hd⟩:=aaE L hv;have hgl:g<wr.heap.size:=lt_of_heap hblk;have hsz:L.length=d.toArray.size:=by rw[<-hd];simp
  have hfl:(Sort.flatK jX 6 d.toArray).toList=cur.toList.take (L.length*6):=by rw[aaF,htk,<-hd]
  have hH:Sort.HoldsK jX 6 wr g 0 d.toArray:=by
   intro j hj;have hj':=hj;rw[Sort.size_flatK,<-hsz] at hj';have Rv:cur[j]?=some (Sort.flatK jX 6 d.toArray)[j]! :=by
    have e1:(Sort.flatK jX 6 d.toArray).toList[j]?=(cur.toList.take (L.length*6))[j]?:=by rw[hfl]
    rw[kQ,aV hj',jP,jP,pJ hj] at e1;rw[<-e1,jh (Sort.flatK jX 6 d.toArray) j hj]
   refine⟨?_,bK hblk _⟩;rw[jD];unfold World.cell?;rw[hblk];exact Rv
  have eg:∀args w,(callFunc 157 args).run prog w=.ok (.enter 157 args) w:=enters_of func157 ag rfl
  have hone:∀x:VP,∀v∈jX x,v.oneCell'=true:=λx v hv=>by
   simp[jX,PB.cells] at hv;rcases hv with rfl|rfl|rfl|rfl|rfl|rfl<;>rfl
  have hcon:=AnyQ.slices_SortFunc Tryz.sortPc 6 isAgg171 sizeOf171 jX (λ_=>rfl) hone Es ak0 157 #[] g 0 cap d.toArray wr eg (akZ _ _ _ _) hH hgl (by rw[<-hsz];omega)
  change ak 156 _ _ _ at hcon
  rw[<-hsz] at hcon;refine hcon.mono ?_;rintro e w' ⟨rfl,d',n,os,hp,hs,rfl⟩;obtain⟨hps,_,Ht⟩:=hp;have hs1:d'.size=L.length:=by rw[hps,hsz]
  have hperm:d'.toList.Perm d:=by
   have e1:d'.extract 0 L.length=d':=by rw[<-hs1];exact OT
   have e2:d.toArray.extract 0 L.length=d.toArray:=by rw[hsz];exact OT
   rw[e1,e2] at Ht;exact Ht
  have zy:(d'.toList.map Subtype.val).length=L.length:=by simp[hs1]
  have hpm:(d'.toList.map Subtype.val).Perm L:=by rw[<-hd];exact hperm.map _
  refine⟨rfl,d'.toList.map Subtype.val,⟨⟨by rw[Ep],aT ⟨g,cap,_,by rw[zy],hg,ak1 d' n os hblk,by rw[zy];exact hnc,hcm,?_,?_⟩⟩,?_⟩,hpm,?_⟩
  .unfold Sort.putCells;rw[VU];exact hcs
  .have e1:(d'.toList.map Subtype.val).length*6=(Sort.flatK jX 6 d').size:=by rw[Sort.size_flatK,zy,hs1]
   rw[e1,aaq _ _ (by rw[Sort.size_flatK,hs1,hcs];omega),aaF]
  .exact h.2.trans ⟨rfl,rfl,rfl,ak3 d' n os wr g,λk hk=>ak2 d' n os (bW hk h.2.size) aa⟩
  .rw[oL,mn];intro i j hi hj hij;have hi':i<d'.size:=by simpa using hi
   have hj':j<d'.size:=by simpa using hj
   have hx:=hs i j (iA _) hij aa
   rw[jh d' i hi',jh d' j hj'] at hx;exact Hv.1 hx
def same(x y:PB):Bool:=decide (x.f=y.f)&&decide (x.t=y.t)
def kept [Inhabited PB](S:Array PB)(j:Nat):Bool:=decide (j=0)|| !same S[j]! S[j-1]!
def iy [Inhabited PB](S:Array PB):Nat->List PB
 |0=>[]
 |m+1=>iy S m++(if kept S m then[S[m]!] else[])
theorem Mc [Inhabited PB](S:Array PB):∀m,m<=S.size->(∀j,j<m->kept S j=true)->iy S m=S.toList.take m
 |0,_,_=>by simp[iy]
 |m+1,hm,h=>by
  have hlt:m<S.toList.length:=by rw[jr];omega
  have e:S[m]! =S.toList[m]:=by rw[jh S m aa];simp
  rw[iy,Mc S m aa (λj hj=>h j aa),h m aa,aV rfl,pH hlt,e]
structure KI [Inhabited PB](S:Array PB)(m k:Nat)(T:Array PB):Prop where
 size:T.size=S.size
 lt:k<m
 le:m<=S.size
 low:T.toList.take k=iy S m
 high:∀j,k<=j->T[j]! =S[j]!
theorem KI.start[Inhabited PB]{k0:Nat}(hk:k0<S.size)(hall:∀j,j<k0->kept S j=true)(h:kept S k0=false):KI S (k0+1) k0 S:=
 ⟨rfl,Nat.lt_succ_self _,hk,by rw[iy,h,Mc S k0 aa hall];simp,λ_ _=>rfl⟩
theorem KI.skip[Inhabited PB](h:KI S m k T)(hm:m<S.size)(hk:kept S m=false):KI S (m+1) k T:=
 ⟨h.size,by have:=h.lt;omega,hm,by rw[iy,hk,h.low];simp,h.high⟩
theorem KI.keep[Inhabited PB](h:KI S m k T)(hm:m<S.size)(hk:kept S m=true):KI S (m+1) (k+1) (T.setIfInBounds k S[m]!):=by
 have hl:=h.lt;have hs:=h.size;refine⟨by rw[Au];exact hs,aa,hm,?_,λj hj=>?_⟩
 .rw[iy,hk,aV rfl,<-h.low,OQ];have hkl:k<(T.toList.set k S[m]!).length:=by rw[Fx,jr];omega
  rw[pH hkl,List.getElem_set_self,List.take_set_of_le (aY _)]
 .have hne:j≠k:=aa
  rw[<-h.high j aa]
  by_cases Md:j<T.size
  .rw[jh _ j (by rw[Au];exact Md),jh T j Md,Array.getElem_setIfInBounds,aQ (Ne.symm hne)]
  .rw[getElem!_neg _ j (by rw[Au];exact Md),getElem!_neg T j Md]
structure jY(w:aM)(g cap n:Nat)(d:Array PB)(wr:aM):Prop where
 size:d.size=n
 own:wr.ownsRow w.heap.size 171 6 (aG (some ⟨g,0,none⟩) n cap) n (dN d.toList)
 below:aj w wr
theorem jY.blk(h:jY w g cap n d wr):∃cur,w.heap.size<=g/\wr.heap[g]?=some (.cells cur 171 (0,0))/\n<=cap/\cap<=maxLen/\cur.size=cap*6/\cur.toList.take (n*6)=dN d.toList:=by
 rcases h.own.2 with⟨hv,_⟩|⟨g',cap',cur,hv,h1,h2,h3,h4,h5,h6⟩
 .simp at hv
 .simp only[Value.slice.injEq,Option.some.injEq,Addr.mk.injEq] at hv;obtain⟨⟨rfl,_⟩,_,rfl⟩:=hv;exact⟨cur,h1,h2,h3,h4,h5,h6⟩
theorem jY.cells[Inhabited PB](h:jY w g cap n d wr)(i:Nat)(hi:i<n):
  wr.cell? ⟨g,i*6,none⟩=some (aA aK (d[i]!).wa (d[i]!).wb)/\wr.cell? ⟨g,i*6+1,none⟩=some (aB aK (d[i]!).sh)/\wr.cell? ⟨g,i*6+2,none⟩=some (aA aK (aO aK (d[i]!).f.1) (aO aK (d[i]!).f.2.1))/\wr.cell? ⟨g,i*6+3,none⟩=some (az aJ (d[i]!).f.2.2)/\wr.cell? ⟨g,i*6+4,none⟩=some (aA aK (aO aK (d[i]!).t.1) (aO aK (d[i]!).t.2.1))/\wr.cell? ⟨g,i*6+5,none⟩=some (az aJ (d[i]!).t.2.2)/\∀o,wr.frozen? ⟨g,o,none⟩=false:=by
 obtain⟨cur,_,hb,_,_,hs,htk⟩:=h.blk;have hd:i<d.size:=by rw[h.size];exact hi
 have hx:d.toList[i]?=some d[i]! :=by rw[jP,pJ hd,jh d i hd]
 have key:∀j,j<6->wr.cell? ⟨g,i*6+j,none⟩=(d[i]!).cells[j]?:=λj hj=>by
  have k0:=Mb _ _ _ hx j hj;rw[<-htk,kQ,aV aa,jP] at k0
  unfold World.cell?;rw[hb];exact k0
 exact⟨key 0 aa,key 1 aa,key 2 aa,key 3 aa,key 4 aa,key 5 aa,λo=>bK hb _⟩
def RA(w:aM)(g o:Nat)(x:PB):aM:=w.setCells g o x.cells
theorem aaG:∀(l:List PB)(k:Nat)(x:PB),k<l.length->dN (l.set k x)=(dN l).take (k*6)++x.cells++(dN l).drop (k*6+6)
 |[],_,_,h=>by simp at h
 |a::l,0,x,_=>by
  have e:∀(b:PB)(r:List PB),dN (b::r)=b.cells++dN r:=λb r=>by simp[dN]
  rw[dS,e,e];have e0:a.cells.length=6:=rfl;rw[show 0*6=0 from rfl,agF,sI,show 0+6=a.cells.length from rfl,agK]
 |a::l,k+1,x,h=>by
  have ih:=aaG l k x (by simpa using h)
  have e:∀(b:PB)(r:List PB),dN (b::r)=b.cells++dN r:=λb r=>by simp[dN]
  rw[dD,e,e,ih];have e1:(k+1)*6=a.cells.length+k*6:=by show _=6+_;omega
  have e2:a.cells.length+k*6+6=a.cells.length+(k*6+6):=aa
  rw[e1,e2,VV,List.drop_append,qw (agL _ _),Ak (agL _ _)];simp
theorem ak6{o:Nat}{cur:Array aN}{t:TypeId}(hb:w.heap[g]?=some (.cells cur t (0,0)))(ho:o+6<=cur.size):
  (RA w g o x)=w.setRow g (cur.toList.take o++x.cells++cur.toList.drop (o+6)).toArray:=by
 have one:∀v∈x.cells,v.oneCell'=true:=λv hv=>aau [x] v (by simpa[dN] using hv)
 have h6:x.cells.length=6:=rfl;unfold RA;generalize x.cells=C at*;have hst:=run_storeCells_at prog g o t C 0 cur w hb (by rw[h6];omega) one
 have RF:=run_storeCells_cells (P:=prog) g o C 0 w (λj hj=>by
  rw[h6] at hj;unfold World.cell?;rw[hb];simp only[rA];rw[pJ aa]
  rfl) (λj _=>bK hb _) one
 rw[rA] at hst RF;rw[h6] at hst;rw[hst] at RF;injection RF with _ h2;exact h2.symm
theorem jY.set(h:jY w g cap n d wr)(k:Nat)(hk:k<n)(x:PB):jY w g cap n (d.setIfInBounds k x) (RA wr g (k*6) x):=by
 obtain⟨cur,hg,hb,hnc,hcm,hs,htk⟩:=h.blk;have hd:k<d.toList.length:=by rw[jr,h.size];exact hk
 have h6:x.cells.length=6:=rfl;rw[ak6 hb aa]
 have DU:=setRow_heap wr g cur (cur.toList.take (k*6)++x.cells++cur.toList.drop (k*6+6)).toArray _ _ hb;refine⟨by rw[Au];exact h.size,⟨?_,aT ⟨g,cap,_,rfl,hg,DU,hnc,hcm,?_,?_⟩⟩,h.below.trans ⟨rfl,rfl,rfl,af,λj hj=>setRow_other _ _ _ _ aa⟩⟩
 .rw[Ep,jr,Au,h.size]
 .simp only[agG,bY,iB,uB,jr,h6,hs];omega
 .rw[OQ,aaG _ _ _ hd,<-htk];show(cur.toList.take (k*6)++x.cells++cur.toList.drop (k*6+6)).take (n*6)=_;have l1:(cur.toList.take (k*6)).length=k*6:=by rw[iB,jr,hs];omega
  rw[fH,VV,l1,VV,h6,Av,Av,List.take_drop];have m1:min (n*6) (k*6)=k*6:=aa
  have m2:min (k*6) (n*6)=k*6:=aa
  have m3:x.cells.take (n*6-k*6)=x.cells:=qw (by rw[h6];omega)
  have m4:k*6+6+(n*6-k*6-6)=n*6:=aa
  rw[m1,m2,m3,m4,fH]
theorem jY.keep{w':aM}(h:jY w g cap n d wr)(hb:aj wr w'):jY w g cap n d w':=
 ⟨h.size,bB h.own λk hk=>hb.block k (bn h.own k hk).2,h.below.trans (hb.mono h.below.size)⟩
theorem jY.rd(h:jY w g cap n d wr):tV wr (aG (some ⟨g,0,none⟩) n cap) d.toList:=by
 obtain⟨cur,hg,hb,hnc,hcm,hs,htk⟩:=h.blk;have e:d.toList.length=n:=by rw[jr,h.size]
 exact⟨by rw[Ep],aT ⟨g,cap,cur,by rw[e],iA _,hb,by rw[e];exact hnc,hcm,hs,by rw[e];exact htk⟩⟩
theorem aaH:∀(l:List PB)(k:Nat),(dN l).take (k*6)=dN (l.take k)
 |[],k=>by simp[dN]
 |a::l,0=>by simp[dN]
 |a::l,k+1=>by
  have ih:=aaH l k;have e:∀(b:PB)(r:List PB),dN (b::r)=b.cells++dN r:=λb r=>by simp[dN]
  have e1:(k+1)*6=a.cells.length+k*6:=by show _=6+_;omega
  rw[Fk,e,e,<-ih,e1,VV,qw (agL _ _)];simp
theorem jY.clear(h:jY w g cap n d wr)(k:Nat)(hk:k<n)(c:Nat):
  ∃w',(∀ty,(Builtin.clear_ #[168] ty #[aG (some ⟨g,k*6,none⟩) (n-k) c]).run prog wr=.ok (aI #[]) w')/\aj w w'/\tV w' (aG (some ⟨g,0,none⟩) k cap) (d.toList.take k):=by
 obtain⟨cur,hg,hb,hnc,hcm,hs,htk⟩:=h.blk;have hzl:(Builtin.zeroCells (Value.agg #[aA aK 0 0,aB aK 0,aA aK 0 0,az aJ 0,aA aK 0 0,az aJ 0]).cells (n-k)).toList.length=(n-k)*6:=by
  rw[jr];unfold Builtin.zeroCells;rw[Array.size_map,Array.size_range];rfl
 have hone:∀v∈(Builtin.zeroCells (Value.agg #[aA aK 0 0,aB aK 0,aA aK 0 0,az aJ 0,aA aK 0 0,az aJ 0]).cells (n-k)).toList,v.oneCell'=true:=by
  intro v hv;unfold Builtin.zeroCells at hv;simp only[Array.toList_map,bQ] at hv;obtain⟨i,_,rfl⟩:=hv;have e:(Value.agg #[aA aK 0 0,aB aK 0,aA aK 0 0,az aJ 0,aA aK 0 0,az aJ 0]).cells= #[aA aK 0 0,aB aK 0,aA aK 0 0,az aJ 0,aA aK 0 0,az aJ 0]:=rfl;rw[e];show(#[Value.complex aK 0 0,aB aK 0,aA aK 0 0,az aJ 0,aA aK 0 0,az aJ 0][i%6]!).oneCell'=true;have h2:i%6=0\/i%6=1\/i%6=2\/i%6=3\/i%6=4\/i%6=5:=aa
  rcases h2 with h2|h2|h2|h2|h2|h2<;>rw[h2]<;>rfl
 have hst:=run_storeCells_at prog g (k*6) 171 _ 0 cur wr hb (by rw[hzl,hs];omega) hone
 simp only[rA] at hst;rw[hzl] at hst;generalize mZ:(Builtin.zeroCells (Value.agg #[aA aK 0 0,aB aK 0,aA aK 0 0,az aJ 0,aA aK 0 0,az aJ 0]).cells (n-k)).toList=Z at*;have DU:=setRow_heap wr g cur (cur.toList.take (k*6)++Z++cur.toList.drop (k*6+(n-k)*6)).toArray _ _ hb;refine⟨wr.setRow g (cur.toList.take (k*6)++Z++cur.toList.drop (k*6+(n-k)*6)).toArray,λty=>?_,?_,?_,aT ⟨g,cap,_,?_,iA _,DU,?_,hcm,?_,?_⟩⟩
 .obtain⟨m,hm⟩:∃m,n-k=m+1:=⟨n-k-1,aa⟩
  rw[hm] at hst mZ⊢;simp[Builtin.clear_,run_underlying underlying168,mZ,hst]
 .refine h.below.trans ⟨rfl,rfl,rfl,af,λj hj=>setRow_other _ _ _ _ aa⟩
 .rw[Ep]
 .have e:(d.toList.take k).length=k:=by rw[iB,jr,h.size];omega
  rw[e]
 .rw[iB,jr,h.size];omega
 .simp only[agG,bY,iB,uB,jr,hzl,hs];omega
 .have e:(d.toList.take k).length=k:=by rw[iB,jr,h.size];omega
  rw[e];show((cur.toList.take (k*6)++_++_).take (k*6))=_;rw[fH,agH (by rw[iB,jr,hs];omega),Av,Nat.min_self]
  have e2:cur.toList.take (k*6)=(cur.toList.take (n*6)).take (k*6):=by rw[Av,CW aa]
  rw[e2,htk];exact aaH _ _
theorem aaI[Inhabited PB](d:Array PB)(j:Nat)(hj:j<1):kept d j=true:=by
 have e:j=0:=aa
 unfold kept;rw[e];rfl
theorem ak7[Inhabited PB](w:aM)(g cap n:Nat)(d:Array PB)(Bz:aM)(h:jY w g cap n d Bz)(hd:∀i,i<n->dX (d[i]!))(hn:n<=85000000)(hc:n<=cap):
  ak 158 #[aG (some ⟨g,0,none⟩) n cap,.func (.func 159) #[] #[]] Bz λr w'=>∃v',r=aL v'/\tV w' v' (iy d n)/\aj w w':=by
 have HR:Hid (jY w g cap n d Bz):=h;have HD:Hid (∀i,i<n->dX (d[i]!)):=hd;have hds:d.size=n:=h.size;clear h hd;by_cases h2:n<2
 .go_enter func158,ntmps158
  go_wp2_with fail
  go_ret
  refine⟨_,rfl,?_,HR.out.below⟩;have e:iy d n=d.toList:=by
   rw[Mc d n aa (λj hj=>aaI d j aa),<-hds,<-jr,fO]
  rw[e];exact HR.out.rd
 .go_enter func158,ntmps158
  go_wp2_with fail
  go_loopg [5] n (λgk s5 wr=>∃k:Nat,1<=k/\k<=n/\n-k<=gk/\s5=az aJ k/\Hid (jY w g cap n d wr/\∀j,j<k->kept d j=true))
  case atStart=>exact⟨1,aY _,aa,aa,rfl,HR.out,aaI d⟩
  case round=>
   obtain⟨k,hk1,hk,hg,rfl,HI⟩:=hrel;obtain⟨m,hm⟩:∃m,k=m+1:=⟨k-1,aa⟩
   by_cases hlt:k<n
   .obtain⟨a0,a1,a2,a3,a4,a5,_⟩:=HI.out.1.cells k hlt;obtain⟨b0,b1,b2,b3,b4,b5,_⟩:=HI.out.1.cells m aa
    have gH:(k:Int)<(n:Int):=aa
    have Hw:(m:Int)<(n:Int):=aa
    have hwk:IntKind.i64.wrap ((k:Int)-1)=(m:Int):=by rw[IntKind.wrap_i64];omega
    have hm0:(0:Int)<=(m:Int):=aa
    have atz:m<n:=aa
    have HMK:Hid (k=m+1):=hm;have eK:g<wr.heap.size:=by obtain⟨_,_,hb,_⟩:=HI.out.1.blk;exact lt_of_heap hb
    have hcall:=λw=>Z8 d[k]! d[m]! (HD.out k hlt) (HD.out m aa) w
    have Et:Hid (kept d k= !same d[k]! d[m]!):=by
     have e0:decide (k=0)=false:=fY aa
     have e1:k-1=m:=aa
     show kept d k=_;unfold kept;rw[e0,e1,VT]
    have RH:Hid (kept d k= !(decide (d[k]!.f=d[m]!.f)&&decide (d[k]!.t=d[m]!.t))):=Et;generalize RJ:(decide (d[k]!.f=d[m]!.f)&&decide (d[k]!.t=d[m]!.t))=bq at hcall RH;clear RJ Et;simp only[PB.cells] at hcall;generalize d[k]!.wa=A1 at*;generalize d[k]!.wb=A2 at*;generalize d[k]!.sh=A3 at*;generalize aO aK d[k]!.f.1=A4 at*;generalize aO aK d[k]!.f.2.1=A5 at*;generalize d[k]!.f.2.2=A6 at*;generalize aO aK d[k]!.t.1=A7 at*;generalize aO aK d[k]!.t.2.1=A8 at*;generalize d[k]!.t.2.2=A9 at*;generalize d[m]!.wa=B1 at*;generalize d[m]!.wb=B2 at*;generalize d[m]!.sh=B3 at*;generalize aO aK d[m]!.f.1=B4 at*;generalize aO aK d[m]!.f.2.1=B5 at*;generalize d[m]!.f.2.2=B6 at*;generalize aO aK d[m]!.t.1=B7 at*;generalize aO aK d[m]!.t.2.1=B8 at*;generalize d[m]!.t.2.2=B9 at*;have zz:Hid (∀w,ak 159 #[aC #[aA aK A1 A2,aB aK A3,aA aK A4 A5,az aJ A6,aA aK A7 A8,az aJ A9],aC #[aA aK B1 B2,aB aK B3,aA aK B4 B5,az aJ B6,aA aK B7 B8,az aJ B9]] w λr w'=>r=aL (aD bq)/\aj w w'):=hcall
    clear hcall hm
    go_wp2_with fail
    go_region_held3 (λw'=>w'.cell? ⟨g,k*6,none⟩=some (aA aK A1 A2)/\w'.cell? ⟨g,k*6+1,none⟩=some (aB aK A3)/\w'.cell? ⟨g,k*6+2,none⟩=some (aA aK A4 A5)/\w'.cell? ⟨g,k*6+3,none⟩=some (az aJ A6)/\w'.cell? ⟨g,k*6+4,none⟩=some (aA aK A7 A8)/\w'.cell? ⟨g,k*6+5,none⟩=some (az aJ A9)/\w'.cell? ⟨g,m*6,none⟩=some (aA aK B1 B2)/\w'.cell? ⟨g,m*6+1,none⟩=some (aB aK B3)/\w'.cell? ⟨g,m*6+2,none⟩=some (aA aK B4 B5)/\w'.cell? ⟨g,m*6+3,none⟩=some (az aJ B6)/\w'.cell? ⟨g,m*6+4,none⟩=some (aA aK B7 B8)/\w'.cell? ⟨g,m*6+5,none⟩=some (az aJ B9)) (go_keep) (first
      |(go_at_call 159;refine(zz.out _).mono ?_;rintro r w5 ⟨rfl,bg⟩;have c0:=aS bg a0 eK;have c1:=aS bg a1 eK;have c2:=aS bg a2 eK;have c3:=aS bg a3 eK;have c4:=aS bg a4 eK;have c5:=aS bg a5 eK;have e0:=aS bg b0 eK;have e1:=aS bg b1 eK;have e2:=aS bg b2 eK;have e3:=aS bg b3 eK;have e4:=aS bg b4 eK;have e5:=(aS bg b5 eK)))
    have oa:aj wr w5:=(Below.refl _ _).drew.trans bg;have Me:Hid (jY w g cap n d w5/\∀j,j<k->kept d j=true):=⟨HI.out.1.keep oa,HI.out.2⟩;clear a0 b0 c0 e0 a1 b1 c1 e1 a2 b2 c2 e2 a3 b3 c3 e3 a4 b4 c4 e4 a5 b5 c5 e5 bg oa HI zz;cases bq
    .have HK:Hid (kept d k=true):=RH.out
     go_wp2_with fail
     go_roundg (n-(k+1))
     case measure=>omega
     case rel=>
      refine⟨k+1,aa,aa,aY _,ai,Me.out.1,λj hj=>?_⟩
      by_cases e:j=k
      .subst e;exact HK.out
      .exact Me.out.2 j aa
    .have HK:Hid (kept d k=false):=RH.out;have hkc:k<=cap:=aa
     clear hwk HMK
     go_wp2_with fail
     go_loopg [5,7] n (λgk s5 s7 wr2=>∃(kk k2:Nat)(dk:Array PB),s5=az aJ kk/\s7=az aJ k2/\1<=k2/\k+k2<=n/\n-(k+k2)<=gk/\Hid (jY w g cap n dk wr2/\KI d (k+k2) kk dk))
     case atStart=>exact⟨k,1,d,rfl,rfl,aY _,aa,aa,Me.out.1,KI.start aa Me.out.2 HK.out⟩
     case round=>
      obtain⟨kk,k2,dk,rfl,rfl,h1,hle,hg2,HJ⟩:=hrel;obtain⟨m2,hm2⟩:∃m2,k2=m2+1:=⟨k2-1,aa⟩
      have hkk:=HJ.out.2.lt;by_cases ki:k+k2<n
      .obtain⟨a0,a1,a2,a3,a4,a5,_⟩:=HJ.out.1.cells (k+k2) ki;obtain⟨b0,b1,b2,b3,b4,b5,_⟩:=HJ.out.1.cells (k+m2) aa
       obtain⟨q0,q1,q2,q3,q4,q5,z0⟩:=HJ.out.1.cells kk aa
       rw[HJ.out.2.high (k+k2) aa,show(k+k2)*6=k*6+k2*6 by omega] at a0 a1 a2 a3 a4 a5
       rw[HJ.out.2.high (k+m2) aa,show(k+m2)*6=k*6+m2*6 by omega] at b0 b1 b2 b3 b4 b5
       have aaJ:(k2:Int)<(n:Int)-(k:Int):=aa
       have Ru:k2<n-k:=aa
       have atA:m2<n-k:=aa
       have atB:(m2:Int)<(n:Int)-(k:Int):=aa
       have atC:(0:Int)<=(m2:Int):=aa
       have atD:IntKind.i64.wrap ((k2:Int)-1)=(m2:Int):=by rw[IntKind.wrap_i64];omega
       have aan:(kk:Int)<(n:Int):=aa
       have iO:g<wr.heap.size:=by obtain⟨_,_,hb,_⟩:=HJ.out.1.blk;exact lt_of_heap hb
       have hcall:=λw=>Z8 d[k+k2]! d[k+m2]! (HD.out (k+k2) ki) (HD.out (k+m2) aa) w
       have Et:Hid (kept d (k+k2)= !(decide (d[k+k2]!.f=d[k+m2]!.f)&&decide (d[k+k2]!.t=d[k+m2]!.t))):=by
        have e0:decide (k+k2=0)=false:=fY aa
        have e1:k+k2-1=k+m2:=aa
        show kept d (k+k2)=_;unfold kept;rw[e0,e1,VT];rfl
       have HST:Hid (∀w',aj wr w'->jY w g cap n (dk.setIfInBounds kk d[k+k2]!) (w'.setCells g (kk*6) (d[k+k2]!).cells)):=λw' hb=>(HJ.out.1.keep hb).set kk aa _
       generalize RJ:(decide (d[k+k2]!.f=d[k+m2]!.f)&&decide (d[k+k2]!.t=d[k+m2]!.t))=bq at hcall Et;clear RJ hm2;simp only[PB.cells] at hcall HST;generalize d[k+k2]!.wa=P1 at*;generalize d[k+k2]!.wb=P2 at*;generalize d[k+k2]!.sh=P3 at*;generalize aO aK d[k+k2]!.f.1=P4 at*;generalize aO aK d[k+k2]!.f.2.1=P5 at*;generalize d[k+k2]!.f.2.2=P6 at*;generalize aO aK d[k+k2]!.t.1=P7 at*;generalize aO aK d[k+k2]!.t.2.1=P8 at*;generalize d[k+k2]!.t.2.2=P9 at*;generalize d[k+m2]!.wa=R1 at*;generalize d[k+m2]!.wb=R2 at*;generalize d[k+m2]!.sh=R3 at*;generalize aO aK d[k+m2]!.f.1=R4 at*;generalize aO aK d[k+m2]!.f.2.1=R5 at*;generalize d[k+m2]!.f.2.2=R6 at*;generalize aO aK d[k+m2]!.t.1=R7 at*;generalize aO aK d[k+m2]!.t.2.1=R8 at*;generalize d[k+m2]!.t.2.2=R9 at*;have zz:Hid (∀w,ak 159 #[aC #[aA aK P1 P2,aB aK P3,aA aK P4 P5,az aJ P6,aA aK P7 P8,az aJ P9],aC #[aA aK R1 R2,aB aK R3,aA aK R4 R5,az aJ R6,aA aK R7 R8,az aJ R9]] w λr w'=>r=aL (aD bq)/\aj w w'):=hcall
       clear hcall
       go_wp2_with fail
       go_region_held3 (λw'=>w'.cell? ⟨g,k*6+k2*6,none⟩=some (aA aK P1 P2)/\w'.cell? ⟨g,k*6+k2*6+1,none⟩=some (aB aK P3)/\w'.cell? ⟨g,k*6+k2*6+2,none⟩=some (aA aK P4 P5)/\w'.cell? ⟨g,k*6+k2*6+3,none⟩=some (az aJ P6)/\w'.cell? ⟨g,k*6+k2*6+4,none⟩=some (aA aK P7 P8)/\w'.cell? ⟨g,k*6+k2*6+5,none⟩=some (az aJ P9)/\w'.cell? ⟨g,k*6+m2*6,none⟩=some (aA aK R1 R2)/\w'.cell? ⟨g,k*6+m2*6+1,none⟩=some (aB aK R3)/\w'.cell? ⟨g,k*6+m2*6+2,none⟩=some (aA aK R4 R5)/\w'.cell? ⟨g,k*6+m2*6+3,none⟩=some (az aJ R6)/\w'.cell? ⟨g,k*6+m2*6+4,none⟩=some (aA aK R7 R8)/\w'.cell? ⟨g,k*6+m2*6+5,none⟩=some (az aJ R9)) (go_keep) (first
         |(go_at_call 159;refine(zz.out _).mono ?_;rintro r w6 ⟨rfl,bp⟩;have c0:=aS bp a0 iO;have c1:=aS bp a1 iO;have c2:=aS bp a2 iO;have c3:=aS bp a3 iO;have c4:=aS bp a4 iO;have c5:=aS bp a5 iO;have e0:=aS bp b0 iO;have e1:=aS bp b1 iO;have e2:=aS bp b2 iO;have e3:=aS bp b3 iO;have e4:=aS bp b4 iO;have e5:=(aS bp b5 iO)))
       have zA:aj wr w6:=(Below.refl _ _).drew.trans bp;have Ei:Hid (jY w g cap n dk w6):=HJ.out.1.keep zA;have HKI:Hid (KI d (k+k2) kk dk):=HJ.out.2;have aaL:=HST.out w6 zA;have aaM:Hid (jY w g cap n (dk.setIfInBounds kk d[k+k2]!) (w6.setCells g (kk*6) [aA aK P1 P2,aB aK P3,aA aK P4 P5,az aJ P6,aA aK P7 P8,az aJ P9])):=aaL;have x0:=aS bp q0 iO;have x1:=aS bp q1 iO;have x2:=aS bp q2 iO;have x3:=aS bp q3 iO;have x4:=aS bp q4 iO;have x5:=aS bp q5 iO;have y0:w6.frozen? ⟨g,kk*6,none⟩=false:=(bp.frozen (p:=⟨g,kk*6,none⟩) iO).trans (z0 _);have y1:w6.frozen? ⟨g,kk*6+1,none⟩=false:=(bp.frozen (p:=⟨g,kk*6+1,none⟩) iO).trans (z0 _);have y2:w6.frozen? ⟨g,kk*6+2,none⟩=false:=(bp.frozen (p:=⟨g,kk*6+2,none⟩) iO).trans (z0 _);have y3:w6.frozen? ⟨g,kk*6+3,none⟩=false:=(bp.frozen (p:=⟨g,kk*6+3,none⟩) iO).trans (z0 _);have y4:w6.frozen? ⟨g,kk*6+4,none⟩=false:=(bp.frozen (p:=⟨g,kk*6+4,none⟩) iO).trans (z0 _);have y5:w6.frozen? ⟨g,kk*6+5,none⟩=false:=(bp.frozen (p:=⟨g,kk*6+5,none⟩) iO).trans (z0 _);clear a0 b0 e0 q0 a1 b1 e1 q1 a2 b2 e2 q2 a3 b3 e3 q3 a4 b4 e4 q4 a5 b5 e5 q5 bp zA HJ zz HST aaL z0;cases bq
       .have BA:Hid (kept d (k+k2)=true):=Et.out
        go_wp2_with (simp only[gN,oV];go_simp)
        go_roundg (n-(k+(k2+1)))
        case measure=>omega
        case rel=>exact⟨kk+1,k2+1,dk.setIfInBounds kk d[k+k2]!,ai,ai,aa,aa,aY _,aaM.out,HKI.out.keep aa BA.out⟩
       .have BA:Hid (kept d (k+k2)=false):=Et.out;clear c0 x0 y0 c1 x1 y1 c2 x2 y2 c3 x3 y3 c4 x4 y4 c5 x5 y5 aaM
        go_wp2_with fail
        go_roundg (n-(k+(k2+1)))
        case measure=>omega
        case rel=>exact⟨kk,k2+1,dk,rfl,ai,aa,aa,aY _,Ei.out,HKI.out.skip aa BA.out⟩
      .have hend:k+k2=n:=aa
       obtain⟨w',hcl,aW,kV⟩:=HJ.out.1.clear kk aa (cap-kk)
       have Hq:Hid (tV w' (aG (some ⟨g,0,none⟩) kk cap) (iy d n)):=by
        have hI:=HJ.out.2.low;rw[hend] at hI;rw[<-hI];exact kV
       have Hr:Hid (aj w w'):=aW;have Ru:¬k2<n-k:=aa
       have aan:kk<=n:=aa
       have akF:kk<=cap:=aa
       clear kV aW
       go_wp2_with fail
       go_ret
       exact⟨_,rfl,Hq.out,Hr.out⟩
   .have hkn:k=n:=aa
    subst hkn;have e:iy d k=d.toList:=by
     rw[Mc d k aa HI.out.2,<-hds,<-jr,fO]
    have Hq:Hid (tV wr (aG (some ⟨g,0,none⟩) k cap) (iy d k)):=by
     rw[e];exact HI.out.1.rd
    have Hr:Hid (aj w wr):=HI.out.1.below;clear e HI hds
    go_wp2_with fail
    go_ret
    exact⟨_,rfl,Hq.out,Hr.out⟩
theorem aaN:same x y=true↔x.f=y.f/\x.t=y.t:=by unfold same;simp
theorem aaO{x':PB}(hx:dX x)(hx':dX x')(hy:dX y)(hf:x.f=x'.f)(ht:x.t=x'.t):kD x y↔kD x' y:=by
 rw[tZ hx hy,tZ hx' hy,hf,ht]
structure KL [Inhabited PB](S:Array PB)(m:Nat):Prop where
 mem:∀p∈iy S m,∃j,j<m/\p=S[j]!
 all:∀j,j<m->∃p∈iy S m,p.f=S[j]!.f/\p.t=S[j]!.t
 qU:(iy S m).Pairwise kD
theorem aaP [Inhabited PB](S:Array PB)(hv:∀j,j<S.size->dX S[j]!)(hp:∀i j,i<j->j<S.size->¬kD S[j]! S[i]!):∀m,m<=S.size->KL S m
 |0,_=>⟨λp h=>by simp[iy] at h,λj h=>aa,by simp[iy]⟩
 |m+1,hm=>by
  have ih:=aaP S hv hp m aa
  have Hx:=hv m aa
  cases hk:kept S m
  .have e:iy S (m+1)=iy S m:=by rw[iy,hk];simp
   have hs:same S[m]! S[m-1]! =true/\0<m:=by
    unfold kept at hk;rcases Nat.eq_zero_or_pos m with h0|h0
    .rw[h0] at hk;simp at hk
    .refine⟨?_,h0⟩;cases h:same S[m]! S[m-1]!
     .rw[h] at hk;simp at hk
     .rfl
   refine⟨λp h=>?_,λj hj=>?_,by rw[e];exact ih.qU⟩
   .rw[e] at h;obtain⟨j,hj,h⟩:=ih.mem p h;exact⟨j,aa,h⟩
   .rw[e];by_cases hjm:j<m
    .exact ih.all j hjm
    .have:j=m:=aa
     subst this;obtain⟨p,hp1,hp2,tP⟩:=ih.all (j-1) aa
     have h2:=aaN.1 hs.1;exact⟨p,hp1,by rw[hp2,h2.1],by rw[tP,h2.2]⟩
  .have e:iy S (m+1)=iy S m++[S[m]!]:=by rw[iy,hk];simp
   refine⟨λp h=>?_,λj hj=>?_,?_⟩
   .rw[e] at h;rcases dv.1 h with h|h
    .obtain⟨j,hj,h⟩:=ih.mem p h;exact⟨j,aa,h⟩
    .exact⟨m,aa,dh.1 h⟩
   .rw[e];by_cases hjm:j<m
    .obtain⟨p,hp1,hp2⟩:=ih.all j hjm;exact⟨p,vX _ hp1,hp2⟩
    .have:j=m:=aa
     subst this;exact⟨S[j]!,af,rfl,rfl⟩
   .rw[e,JH];refine⟨ih.qU,af,λp h y hy=>?_⟩
    rw[dh.1 hy];obtain⟨j,hj,rfl⟩:=ih.mem p h;have hvj:=hv j aa
    rcases Rz hvj Hx with h1|⟨h1,h2⟩|h1
    .exact h1
    .exfalso;have hv1:=hv (m-1) aa
     have hns:same S[m]! S[m-1]! =false:=by
      unfold kept at hk;have e0:decide (m=0)=false:=fY aa
      rw[e0,VT] at hk;cases hx:same S[m]! S[m-1]!
      .rfl
      .rw[hx] at hk;cases hk
     have h3:¬kD S[m]! S[m-1]! :=hp (m-1) m aa aa
     rcases Rz hv1 Hx with h4|⟨h4,h5⟩|h4
     .by_cases F8:j=m-1
      .subst F8;have:kD S[m]! S[m]! :=(aaO hv1 Hx Hx h1 h2).1 h4;exact aaD _ this
      .refine hp j (m-1) aa aa ?_
       rw[tZ hv1 hvj,h1,h2,<-tZ hv1 Hx];exact h4
     .have:=aaN.2 ⟨h4.symm,h5.symm⟩;rw[this] at hns;cases hns
     .exact h3 h4
    .exact absurd h1 (hp j m aa aa)
structure pW(es:List Ed)(l:List Ge.Nd)(Ps:List PB):Prop where
 ap:AP es l Ps
 v:∀p∈Ps,dX p
 qU:Ps.Pairwise kD
theorem Mf:∀{m:List Ge.Nd}{q:Ge.Nd×Ge.Nd},q∈Ge.nexts m->q.1∈m/\q.2∈m
 |[],_,h=>by simp[Ge.nexts] at h
 |[_],_,h=>by simp[Ge.nexts] at h
 |a::b::r,q,h=>by
  rcases bU.1 h with h|h
  .rw[h];simp
  .have ih:=Mf h;exact⟨bX _ ih.1,bX _ ih.2⟩
theorem AP.v{es:List Ed}{l:List Ge.Nd}{L:List PB}(h:AP es l L)(hs:∀e∈es,gz e)(hl:l.map Ge.aX=Ge.iZ es)(hc:∀n∈l,Ge.Can n):∀p∈L,dX p:=by
 intro p hp;obtain⟨e,_,_,hq⟩:=h.mem p hp;have hm:=Mf hq;have h1:p.f∈l:=(iz.1 hm.1).1;have h2:p.t∈l:=(iz.1 hm.2).1;have hn:∀n∈l,mJ n:=λn hn=>aar hs (hc n hn) (((Ge.D5 es).2.2 _).1 (by rw[<-hl];exact bQ.2 ⟨n,hn,rfl⟩))
 exact⟨hn _ h1,hn _ h2,hc _ h1,hc _ h2⟩
theorem ak9(es:List Ed)(v:aN)(w:aM)(hR:iL w v es)(hl:es.length<=402)(hs:∀e∈es,gz e):
  ak 104 #[v] w λr w'=>∃v' Ps,r=aL v'/\tV w' v' Ps/\aj w w'/\Ps.length<=85000000/\∃l,l.map Ge.aX=Ge.iZ es/\(∀n∈l,Ge.Can n)/\pW es l Ps:=by
 haveI:Inhabited PB:=⟨⟨0,0,0,(0,0,1),(0,0,1)⟩⟩;haveI:Inhabited VP:=⟨⟨⟨0,0,0,(0,0,1),(0,0,1)⟩,⟨ah,ah,ah⟩,⟨ah,ah,ah⟩,⟨ah,ah⟩,⟨ah,ah⟩⟩⟩
 refine(akU es v w hR hl hs (λPs v' w'=>tV w' v' Ps/\aj w w'/\Ps.length<=85000000/\∃l,l.map Ge.aX=Ge.iZ es/\(∀n∈l,Ge.Can n)/\pW es l Ps) ?_).mono λr w' h=>h
 intro l lg lh lv L wr xw tY kZ;have hv:=tY.v hs lg lh;refine(ak4 w lv L wr xw hv kZ).mono ?_;rintro r w' ⟨rfl,S,hS,hperm,hpw⟩;refine⟨rfl,?_⟩;have hSl:S.length=L.length:=hperm.length_eq;have RM:∀p∈S,dX p:=λp hp=>hv p (hperm.mem_iff.1 hp)
 have Dk:AP es l S:=⟨λp hp=>tY.mem p (hperm.mem_iff.1 hp),λe he q hq=>by
  obtain⟨p,hp,h⟩:=tY.all e he q hq;exact⟨p,hperm.mem_iff.2 hp,h⟩⟩
 have get:∀j(hj:j<S.length),S.toArray[j]! =S[j]:=λj hj=>by rw[jh S.toArray j (by simpa using hj)];simp
 have Eg:∀j,j<S.length->dX S.toArray[j]! :=λj hj=>by rw[get j hj];exact RM _ (gZ hj)
 have hK:=aaP S.toArray (λj hj=>Eg j (by simpa using hj)) (λi j hij hj=>by
  have hj':j<S.length:=by simpa using hj
  rw[get j hj',get i aa]
  exact(mn.1 hpw) i j aa hj' hij) S.length af
 have hfin:pW es l (iy S.toArray S.length):=by
  have hm:∀p∈iy S.toArray S.length,p∈S:=λp hp=>by
   obtain⟨j,hj,rfl⟩:=hK.mem p hp;rw[get j hj];exact gZ hj
  refine⟨⟨λp hp=>Dk.mem p (hm p hp),λe he q hq=>?_⟩,λp hp=>RM p (hm p hp),hK.qU⟩
  obtain⟨p,hp,h⟩:=Dk.all e he q hq;obtain⟨j,hj,hjp⟩:=kO.1 hp;obtain⟨p',hp',h1,h2⟩:=hK.all j hj;rw[get j hj,hjp] at h1 h2;exact⟨p',hp',by rw[h1,h2];exact h⟩
 have hlen:(iy S.toArray S.length).length<=S.length:=by
  have:∀m,(iy S.toArray m).length<=m:=λm=>by
   induction m with
   |zero=>simp[iy]
   |succ m ih=>
    rw[iy,bY];split
    .simp;omega
    .simp;omega
  exact this _
 rcases hS.1.2 with⟨rfl,h0⟩|⟨g,cap,cur,rfl,hg,hblk,hnc,hcm,hcs,htk⟩
 .have hS0:S=[]:=iU.1 h0;subst hS0;have HB:Hid (aj w w'):=hS.2;have HF:Hid (pW es l []):=hfin;have HM:Hid (l.map Ge.aX=Ge.iZ es/\(∀n∈l,Ge.Can n)):=⟨lg,lh⟩;clear hfin hlen hK Eg get Dk RM hSl hpw hperm hS xw tY hv h0 lg lh
  go_enter func158,ntmps158
  go_wp2_with fail
  go_ret
  exact⟨_,[],rfl,World.ownsRow_nil _ _ _ _,HB.out,af,l,HM.out.1,HM.out.2,HF.out⟩
 .have hR:jY w g cap S.length S.toArray w':=⟨af,hS.1,hS.2⟩
  refine(ak7 w g cap S.length S.toArray w' hR Eg aa hnc).mono ?_
  rintro r w2 ⟨v',rfl,kV,hb⟩;exact⟨v',_,rfl,kV,hb,aa,l,lg,lh,hfin⟩
namespace Ge
def canon(x y d:Int):Nd:=let g:Int:=Int.gcd (Int.gcd x y:Nat) d;(x.tdiv g,y.tdiv g,d.tdiv g)
theorem RO(x y:Int){d:Int}(hd:0<d):Can (canon x y d)/\aX (canon x y d)=(bC x d,bC y d):=by
 obtain⟨G,hG⟩:∃G,Int.gcd (Int.gcd x y:Nat) d=G:=⟨_,rfl⟩;have wS:0<G:=by rw[<-hG];exact tH aa
 have xh:(G:Int)∣(Int.gcd x y:Nat):=by rw[<-hG];exact Am _ _
 have dx:(G:Int)∣x:=Aq xh (Am _ _);have dy:(G:Int)∣y:=Aq xh (yA _ _);have dd:(G:Int)∣d:=by rw[<-hG];exact yA _ _
 have ed:=(uD dd).symm;have hp:0<d.tdiv (G:Int):=by
  rcases fX (d.tdiv (G:Int)) 0 with h|h|h
  .have:=yt (show(0:Int)<G by omega) h;omega
  .rw[h] at ed;omega
  .exact h
 unfold canon;rw[hG];exact LF aa (uD dx).symm (uD dy).symm ed hp (by rw[hG];simp)
end Ge
def dZ(f t:Ge.Nd):Ge.Nd:=Ge.canon (f.1+t.1) (f.2.1+t.2.1) (f.2.2+t.2.2)
theorem alc{n:Ge.Nd}(hf:mJ x.f)(ht:mJ x.t)(h:aam x n):n=dZ x.f x.t:=by
 have h1:=hf.d;have h2:=ht.d;obtain⟨c,q⟩:=Ge.RO (x.f.1+x.t.1) (x.f.2.1+x.t.2.1) (d:=x.f.2.2+x.t.2.2) aa
 exact Ge.LC h.1 c (by rw[h.2.1];exact q.symm)
def cZ(f t:Ge.Nd):Ge.Ln:=(t.1*f.2.2-f.1*t.2.2,t.2.1*f.2.2-f.2.1*t.2.2,0)
def rising(a b:Int):Prop:=0<a\/(a=0/\0<b)
theorem RQ{a b c d:Int}(h1:rising a b)(h2:rising c d)(hc:a*d=b*c):0<a*c+b*d:=by
 rcases h1 with h1|⟨h1,h1'⟩
 .rcases h2 with h2|⟨h2,h2'⟩
  .have e:a*(a*c+b*d)=(a*a+b*b)*c:=by
    calc a*(a*c+b*d)=a*a*c+b*(a*d):=by grind
     _=(a*a+b*b)*c:=by rw[hc];grind
   have hs:0<a*a+b*b:=by
    have k1:=bJ h1 h1;have k2:0<=b*b:=by
     rcases JC 0 b with h|h
     .exact jo h h
     .exact uz h h
    omega
   have hp:=bJ hs h2;rw[<-e] at hp;exact(KS h1).1.1 hp
  .exfalso;rw[h2,C5] at hc;have:=bJ h1 h2';omega
 .rw[h1,Fs] at hc;have hc0:c=0:=by
   rcases fX c 0 with h|h|h
   .have:=yt h1' h;omega
   .exact h
   .have:=bJ h1' h;omega
  rcases h2 with h2|⟨h2,h2'⟩
  .omega
  .rw[h1,hc0];have:=bJ h1' h2';omega
theorem Mg{a b c d x y:Int}(hc:a*d=b*c)(hd:0<a*c+b*d)(h2:0<c*c+d*d):(a*x+b*y).sign=(c*x+d*y).sign:=by
 have e:(c*c+d*d)*(a*x+b*y)=(a*c+b*d)*(c*x+d*y):=by
  have e1:(c*c+d*d)*(a*x+b*y)-(a*c+b*d)*(c*x+d*y)=(a*d-b*c)*(d*x-c*y):=by grind
  have e2:a*d-b*c=0:=aa
  rw[e2,Fs] at e1;omega
 have k1:=VI (c*c+d*d) (a*x+b*y);have k2:=VI (a*c+b*d) (c*x+d*y);rw[oJ h2,Al] at k1;rw[oJ hd,Al] at k2;rw[<-k1,<-k2,e]
theorem aaS{e:Ed}(hne:e.1≠e.2):rising (Ge.jb (Ge.dB e)).1 (Ge.jb (Ge.dB e)).2.1:=by
 obtain⟨⟨a,b⟩,c,d⟩:=e;have h:¬(a=c/\b=d):=λh=>hne (by simp[h.1,h.2])
 unfold Ge.jb Ge.down Ge.dB Ge.D9 rising;simp only;split
 .rename_i hd
  simp only[VA,qs,yF] at hd;simp only;omega
 .rename_i hd
  simp only[VA,qs,yF] at hd;simp only;omega
theorem Mh{n:Ge.Nd}{e:Ed}(hn:0<n.2.2)(h:Ge.fo (n.1,n.2.1) n.2.2 e=true):lf n.1 n.2.1 n.2.2 e=0:=by
 unfold Ge.fo Ge.on at h;rw[qs,yF] at h;have:=Qv n.1 n.2.1 n.2.2 e;rw[h.1] at this;exact(KS hn).2.2.1 this
theorem aaT{f t:Ge.Nd}(hf:Ge.Can f)(ht:Ge.Can t)(hlt:Ge.lt (Ge.aX f) (Ge.aX t)):rising (cZ f t).1 (cZ f t).2.1:=by
 unfold Ge.lt at hlt;rw[Ge.LB hf ht] at hlt;unfold rising cZ;simp only;generalize f.1*t.2.2=p1 at*;generalize t.1*f.2.2=p2 at*;generalize f.2.1*t.2.2=p3 at*;generalize t.2.1*f.2.2=p4 at*;rcases fX (p1-p2) 0 with h|h|h
 .exact aU aa
 .rw[aV (by rw[h];rfl)] at hlt
  refine aT ⟨aa,?_⟩
  rcases fX (p3-p4) 0 with k|k|k
  .omega
  .rw[k] at hlt;simp at hlt
  .rw[oJ k] at hlt;omega
 .have hs:=oJ h;rw[hs,aQ ah] at hlt
  omega
theorem aaU{e:Ed}{f t:Ge.Nd}(l1:lf f.1 f.2.1 f.2.2 e=0)(l2:lf t.1 t.2.1 t.2.2 e=0):(Ge.dB e).1*(cZ f t).2.1=(Ge.dB e).2.1*(cZ f t).1:=by
 unfold lf at l1 l2;unfold Ge.dB cZ;simp only;have k:(e.2.1-e.1.1)*(t.2.1*f.2.2-f.2.1*t.2.2)-(e.2.2-e.1.2)*(t.1*f.2.2-f.1*t.2.2)=f.2.2*((e.2.1-e.1.1)*t.2.1-(e.2.2-e.1.2)*t.1-((e.2.1-e.1.1)*e.1.2-(e.2.2-e.1.2)*e.1.1)*t.2.2)-t.2.2*((e.2.1-e.1.1)*f.2.1-(e.2.2-e.1.2)*f.1-((e.2.1-e.1.1)*e.1.2-(e.2.2-e.1.2)*e.1.1)*f.2.2):=by grind
 rw[l1,l2,C5,C5] at k;omega
theorem ald{e:Ed}{f t:Ge.Nd}(hne:e.1≠e.2)(hf:Ge.Can f)(ht:Ge.Can t)(h1:Ge.fo (f.1,f.2.1) f.2.2 e=true)(h2:Ge.fo (t.1,t.2.1) t.2.2 e=true)(hlt:Ge.lt (Ge.aX f) (Ge.aX t))(x y:Int):
  ((Ge.jb (Ge.dB e)).1*x+(Ge.jb (Ge.dB e)).2.1*y).sign=((cZ f t).1*x+(cZ f t).2.1*y).sign:=by
 have l1:=Mh hf.pos h1;have l2:=Mh ht.pos h2;have hr:=aaS hne;have hd:=aaT hf ht hlt;have hc:=aaU l1 l2;have hc':(Ge.jb (Ge.dB e)).1*(cZ f t).2.1=(Ge.jb (Ge.dB e)).2.1*(cZ f t).1:=by
  unfold Ge.jb;split
  .show -(Ge.dB e).1*_= -(Ge.dB e).2.1*_;rw[jq,jq,hc]
  .exact hc
 have hdd:0<(cZ f t).1*(cZ f t).1+(cZ f t).2.1*(cZ f t).2.1:=RQ hd hd (fg _ _);exact Mg hc' (RQ hr hd hc') hdd
def rT(es:List Ed)(f t:Ge.Nd):Int:=Ge.total (Ge.fr ((dZ f t).1,(dZ f t).2.1) (dZ f t).2.2) es+Ge.total (Ge.fa (dZ f t) (cZ f t)) es
def pY(es:List Ed)(f t:Ge.Nd):Int:=Ge.total (Ge.fr ((dZ f t).1,(dZ f t).2.1) (dZ f t).2.2) es
theorem ale(p:PB)(es:List Ed)(l:List Ge.Nd)(hes:∀e∈es,e.1≠e.2)(hv:dX p)(hlt:Ge.lt (Ge.aX p.f) (Ge.aX p.t))(hm:∃e∈es,qP p.wa p.wb p.sh (Ge.jb (Ge.dB e))/\(p.f,p.t)∈Ge.nexts (Ge.held e l))(hl:es.length<=402)(hs:∀e∈es,gz e):
  ∀v w,iL w v es->ak 105 #[aC p.cells.toArray,v] w λr w'=>r=aL (aI #[az aJ (rT es p.f p.t),az aJ (pY es p.f p.t)])/\aj w w':=by
 obtain⟨e,he,hfl,hq⟩:=hm;have kA:=hs e he;have b1:sm (Ge.jb (Ge.dB e)).1:=by
  have:=kA.a;have:=kA.c;unfold small at*;unfold Ge.jb Ge.D9 Ge.dB sm;split<;>simp only<;>omega
 have b2:sm (Ge.jb (Ge.dB e)).2.1:=by
  have:=kA.b;have:=kA.d;unfold small at*;unfold Ge.jb Ge.D9 Ge.dB sm;split<;>simp only<;>omega
 obtain⟨n,hi,hc⟩:=akB p _ es hfl b1 b2 hv.f hv.t hl hs;have en:=alc hv.f hv.t hi;subst en;have hm2:=Mf hq;have f1:=(iz.1 hm2.1).2;have f2:=(iz.1 hm2.2).2;have hfa:∀a b,Ge.fa (dZ p.f p.t) (Ge.jb (Ge.dB e)) a b=Ge.fa (dZ p.f p.t) (cZ p.f p.t) a b:=λa b=>by
  unfold Ge.fa;rw[ald (hes e he) hv.cf hv.ct f1 f2 hlt]
 intro v w hR;have h:=hc v w hR;rw[Ge.Za es hfa] at h;exact h
end
namespace Ga
open Ge
variable{es:List (Pt×Pt)}{l:List Nd}{a b:N3}{n f t:Nd}{D p q:Pt}
structure cS(es:List (Pt×Pt))(l:List Nd):Prop where
 map:l.map aX=iZ es
 can:∀n∈l,Ge.Can n
 ne:∀e∈es,e.1≠e.2
theorem cS.mem(h:cS es l)(hn:Ge.Can n)(hi:isNode es (aX n)):n∈l:=by
 have h1:aX n∈l.map aX:=by rw[h.map];exact((D5 es).2.2 _).2 hi
 obtain⟨m,hm,he⟩:=bQ.1 h1;rw[LC hn (h.can m hm) he.symm];exact hm
theorem oc{a b:Nd}(ha:Ge.Can a)(hb:Ge.Can b):lt (aX a) (aX b)↔bV (wv a b):=by
 unfold lt bV wv;rw[LB ha hb];have s1:=sg (a.1*b.2.2-b.1*a.2.2);have s2:=sg (a.2.1*b.2.2-b.2.1*a.2.2);have e1:a.2.2*b.1=b.1*a.2.2:=fg _ _;have e2:b.2.2*a.1=a.1*b.2.2:=fg _ _;have e3:a.2.2*b.2.1=b.2.1*a.2.2:=fg _ _;have e4:b.2.2*a.2.1=a.2.1*b.2.2:=fg _ _;simp only;rw[e1,e2,e3,e4];split<;>omega
def BB(l:List Nd):Prop:=l.Pairwise λa b=>lt (aX a) (aX b)
theorem cS.qU(h:cS es l):BB l:=by
 have:=(D5 es).2.1;rw[<-h.map] at this;exact oL.1 this
theorem cS.Eu(h:cS es l)(e:Pt×Pt):BB (held e l):=agM _ h.qU
theorem gm{e:Pt×Pt}:n∈held e l↔n∈l/\on (rl n e.1) (rl n e.2)=true:=by
 unfold held;rw[iz];exact JD
theorem qV:∀{m:List Nd}{q:Nd×Nd},q∈nexts m->q.1∈m/\q.2∈m
 |[],_,h=>by simp[nexts] at h
 |[_],_,h=>by simp[nexts] at h
 |a::b::r,q,h=>by
  rcases bU.1 h with h|h
  .rw[h];simp
  .have:=qV (m:=b::r) h;exact⟨bX _ this.1,bX _ this.2⟩
theorem aaV:∀{m:List Nd},BB m->∀{q:Nd×Nd},q∈nexts m->lt (aX q.1) (aX q.2)
 |[],_,_,h=>by simp[nexts] at h
 |[_],_,_,h=>by simp[nexts] at h
 |a::b::r,hp,q,h=>by
  rcases bU.1 h with h|h
  .rw[h];exact(ik.1 hp).1 b af
  .exact aaV (ik.1 hp).2 h
theorem aaW:∀{m:List Nd},BB m->(∀n∈m,Ge.Can n)->∀{q:Nd×Nd},q∈nexts m->∀{x:Nd},x∈m->¬(lt (aX q.1) (aX x)/\lt (aX x) (aX q.2))
 |[],_,_,_,h,_,_=>by simp[nexts] at h
 |[_],_,_,_,h,_,_=>by simp[nexts] at h
 |a::b::r,hp,hc,q,h,x,hx=>by
  obtain⟨p1,p2⟩:=ik.1 hp;have asym:∀{y z:Nd},Ge.Can y->Ge.Can z->lt (aX y) (aX z)->¬lt (aX z) (aX y):=λhy hz h1 h2=>lt_irrefl _ (lt_trans (dW hy) (dW hz) (dW hy) h1 h2)
  have Hy:=hc a af
  have hcb:=hc b af
  rcases bU.1 h with h|h
  .rw[h];rintro⟨k1,k2⟩;simp only at k1 k2;rcases bU.1 hx with e|hx
   .rw[e] at k1;exact lt_irrefl _ k1
   .rcases bU.1 hx with e|hx
    .rw[e] at k2;exact lt_irrefl _ k2
    .exact asym (hc x (by simp[hx])) hcb k2 ((ik.1 p2).1 x hx)
  .rintro⟨k1,k2⟩;rcases bU.1 hx with e|hx
   .rw[e] at k1;have hq:=(qV h).1;exact asym Hy (hc q.1 (by rcases bU.1 hq with e'|e'<;>simp[e'])) (p1 q.1 hq) k1
   .exact aaW p2 (λn hn=>hc n (bX _ hn)) h hx ⟨k1,k2⟩
theorem aaX:∀{m:List Nd},BB m->(∀n∈m,Ge.Can n)->∀{x y:Nd},x∈m->y∈m->lt (aX x) (aX y)->∃t,(x,t)∈nexts m
 |[],_,_,_,_,h,_,_=>by simp at h
 |[a],_,_,x,y,h,h',hl=>by
  have e1:x=a:=by simpa using h
  have e2:y=a:=by simpa using h'
  rw[e1,e2] at hl;exact absurd hl (lt_irrefl _)
 |a::b::r,hp,hc,x,y,hx,hy,hl=>by
  obtain⟨p1,p2⟩:=ik.1 hp;rcases bU.1 hx with e|hx
  .exact⟨b,by rw[e];simp[nexts]⟩
  .rcases bU.1 hy with e|hy
   .exfalso;rw[e] at hl;exact lt_irrefl _ (lt_trans (dW (hc a af)) (dW (hc x (bX _ hx))) (dW (hc a af)) (p1 x hx) hl)
   .obtain⟨t,ht⟩:=aaX p2 (λn hn=>hc n (bX _ hn)) hx hy hl
    exact⟨t,bX _ ht⟩
theorem aaY:∀{m:List Nd},BB m->(∀n∈m,Ge.Can n)->∀{x y:Nd},x∈m->y∈m->lt (aX y) (aX x)->∃f,(f,x)∈nexts m
 |[],_,_,_,_,h,_,_=>by simp at h
 |[a],_,_,x,y,h,h',hl=>by
  have e1:x=a:=by simpa using h
  have e2:y=a:=by simpa using h'
  rw[e1,e2] at hl;exact absurd hl (lt_irrefl _)
 |a::b::r,hp,hc,x,y,hx,hy,hl=>by
  obtain⟨p1,p2⟩:=ik.1 hp;rcases bU.1 hx with e|hx
  .exfalso;rw[e] at hl;rcases bU.1 hy with e'|hy
   .rw[e'] at hl;exact lt_irrefl _ hl
   .exact lt_irrefl _ (lt_trans (dW (hc a af)) (dW (hc y (bX _ hy))) (dW (hc a af)) (p1 y hy) hl)
  .by_cases hb:x=b
   .exact⟨a,by rw[hb];simp[nexts]⟩
   .have hb':lt (aX b) (aX x):=by
     rcases bU.1 hx with e|hx
     .exact absurd e hb
     .exact(ik.1 p2).1 x hx
    obtain⟨f,hf⟩:=aaY p2 (λn hn=>hc n (bX _ hn)) hx (OU ..) hb'
    exact⟨f,bX _ hf⟩
theorem rU(hD:bV D)(hc:cr D (wv a b)=0)(hd:0<dt D (wv a b)):Behind a b D:=by
 rcases hD with h|⟨h1,h2⟩
 .left;refine⟨h,?_,hc⟩;have e:dt D (wv a b)*D.1=(wv a b).1*dt D D:=by unfold cr at hc;unfold dt;grind
  have k:=bO (z:=(wv a b).1) (fW (mB (aU h)));have p:=bJ hd h;rw[fg] at k;omega
 .right;unfold cr at hc;unfold dt at hd;rw[h1] at hc hd;have k:=fR (z:=(wv a b).1) h2;have q:=bO (z:=(wv a b).2) h2;exact⟨h1,h2,k.1 aa,q.1 aa⟩
theorem RS(h:Behind a b D):0<dt D (wv a b):=by
 rcases h with⟨h1,h2,h3⟩|⟨h1,h2,h3,h4⟩
 .exact lW (aU h1) (aU h2) h3
 .unfold dt;rw[h1];have:=bJ h2 h4;omega
theorem aaZ(h:Behind a b D):bV (wv a b):=by
 rcases h with⟨_,h2,_⟩|⟨_,_,h3,h4⟩
 .exact aU h2
 .exact aT ⟨h3,h4⟩
theorem Ev{f t:N3}(BC:0<t.2.2)(_hr:bV (wv f t))(h1:on (rl f p) (rl f q)=true)(h2:on (rl t p) (rl t q)=true):lam (wv f t) f p=0/\lam (wv f t) f q=0:=by
 obtain⟨a1,a2⟩:=(mP _ _).1 h1;obtain⟨b1,_⟩:=(mP _ _).1 h2;have e:f.2.2*f.2.2*cr (rl t p) (rl t q)=t.2.2*t.2.2*cr (rl f p) (rl f q)-t.2.2*(lam (wv f t) f q-lam (wv f t) f p):=by
  have k:f.2.2*f.2.2*cr (rl t p) (rl t q)=(f.2.2*(rl t p).1)*(f.2.2*(rl t q).2)-(f.2.2*(rl t p).2)*(f.2.2*(rl t q).1):=by unfold cr;grind
  obtain⟨e1,e2⟩:=mr f t p;obtain⟨e3,e4⟩:=mr f t q;rw[k,e1,e2,e3,e4];unfold lam cr
  grind
 rw[a1,b1] at e;have ht:0<t.2.2:=BC;have hll:lam (wv f t) f q=lam (wv f t) f p:=by
  have:=fR (z:=lam (wv f t) f q-lam (wv f t) f p) ht;have:=this.1 aa
  omega
 have c:=rC (D:=wv f t) a1;have hp0:lam (wv f t) f p=0:=by
  apply mj;intro hn;have hd:=fW (O8 (D:=wv f t) (r:=rl f p) hn);have k:lam (wv f t) f p*(dt (rl f p) (rl f p)-dt (rl f p) (rl f q))=0:=by
   rw[uE];unfold lam at*;rw[hll] at c;omega
  rcases agN.1 k with k|k
  .exact hn k
  .omega
 exact⟨hp0,by rw[hll];exact hp0⟩
theorem aa0{f t m:N3}(hf:0<f.2.2)(ht:0<t.2.2)(hm:0<m.2.2)(hr:bV (wv f t))(h1:on (rl f p) (rl f q)=true)(h2:on (rl t p) (rl t q)=true)(b1:Behind f m (wv f t))(b2:Behind m t (wv f t)):on (rl m p) (rl m q)=true:=by
 have hD:=mB hr;obtain⟨l1,l2⟩:=Ev ht hr h1 h2;have lm:∀z,lam (wv f t) f z=0->lam (wv f t) m z=0:=λz hz=>by have:=qz hf hm b1 z;omega
 have lt:∀z,lam (wv f t) f z=0->lam (wv f t) t z=0:=λz hz=>by have:=qz hf ht (AB hr) z;omega
 have o1:=(yJ hD l1 l2).1 h1;have o2:=(yJ hD (lt p l1) (lt q l2)).1 h2;refine(yJ hD (lm p l1) (lm q l2)).2 ?_;have d1:=RS b1;have d2:=RS b2;have d3:=RS (AB hr);have mv:∀(a b:N3)(z:Pt),a.2.2*dt (wv f t) (rl b z)=b.2.2*dt (wv f t) (rl a z)-dt (wv f t) (wv a b):=λa b z=>by
  obtain⟨e1,e2⟩:=mr a b z;have:a.2.2*dt (wv f t) (rl b z)=(wv f t).1*(a.2.2*(rl b z).1)+(wv f t).2*(a.2.2*(rl b z).2):=by unfold dt;grind
  rw[this,e1,e2];unfold dt
  grind
 have low:∀z,dt (wv f t) (rl f z)<=0->dt (wv f t) (rl m z)<0/\dt (wv f t) (rl t z)<0:=λz hz=>by
  have k1:=mv f m z;have k2:=mv f t z;have p1:=bO (z:=dt (wv f t) (rl f z)) hm;have p2:=neg_mul (z:=dt (wv f t) (rl m z)) hf;have p3:=bO (z:=dt (wv f t) (rl f z)) ht;have p4:=neg_mul (z:=dt (wv f t) (rl t z)) hf;omega
 have high:∀z,0<=dt (wv f t) (rl t z)->0<dt (wv f t) (rl m z):=λz hz=>by
  have k1:=mv m t z;have p1:=neg_mul (z:=dt (wv f t) (rl t z)) hm;have p2:=bO (z:=dt (wv f t) (rl m z)) ht;omega
 generalize wv f t=D at*;by_cases hp:dt D (rl f p)<=0
 .obtain⟨x1,x2⟩:=low p hp;have hq:0<=dt D (rl t q):=by
   apply Fh.1;intro h;exact FO x2 h o2
  exact De (eY x1) (eY (high q hq))
 .have hq:dt D (rl f q)<=0:=by
   apply Fh.1;intro h;exact J6 aa h o1
  obtain⟨x1,x2⟩:=low q hq;have hp':0<=dt D (rl t p):=by
   apply Fh.1;intro h;exact FO h x2 o2
  exact J7 (eY (high p hp')) (eY x1)
def dF(es:List (Pt×Pt))(l:List Nd)(f t:Nd):Prop:=∃e∈es,(f,t)∈nexts (held e l)
theorem dF.facts(hN:cS es l)(h:dF es l f t):f∈l/\t∈l/\bV (wv f t):=by
 obtain⟨e,he,hn⟩:=h;obtain⟨h1,h2⟩:=qV hn;have h1':=(gm.1 h1).1;have h2':=(gm.1 h2).1;exact⟨h1',h2',(oc (hN.can _ h1') (hN.can _ h2')).1 (aaV (hN.Eu e) hn)⟩
theorem dF.gap(hN:cS es l)(h:dF es l f t){m:Nd}(hm:m∈l):¬(Behind f m (wv f t)/\Behind m t (wv f t)):=by
 rintro⟨b1,b2⟩;obtain⟨hf,ht,hr⟩:=h.facts hN;obtain⟨e,he,hn⟩:=h;obtain⟨h1,h2⟩:=qV hn;have cf:=hN.can _ hf;have ct:=hN.can _ ht;have cm:=hN.can _ hm;have ho:=aa0 cf.pos ct.pos cm.pos hr (gm.1 h1).2 (gm.1 h2).2 b1 b2;exact aaW (hN.Eu e) (λn hn=>hN.can n (gm.1 hn).1) hn (gm.2 ⟨hm,ho⟩) ⟨(oc cf cm).2 (aaZ b1),(oc cm ct).2 (aaZ b2)⟩
theorem RU(z:Pt):Ge.Can (z.1,z.2,1):=⟨by show(0:Int)<1;decide,by show Int.gcd (Int.gcd z.1 z.2) 1=1;exact VM ..⟩
theorem aa1(z:Pt):aX (z.1,z.2,1)=pt z:=by unfold aX pt;simp only[KV]
theorem cS.Ew(hN:cS es l){e:Pt×Pt}(he:e∈es):(e.1.1,e.1.2,1)∈l/\(e.2.1,e.2.2,1)∈l:=
 ⟨hN.mem (RU e.1) (aU ⟨e,he,aU (aa1 _)⟩),hN.mem (RU e.2) (aU ⟨e,he,aT (aa1 _)⟩)⟩
theorem BF(f:N3)(z:Pt):wv f (z.1,z.2,1)=rl f z:=by unfold wv rl rel;simp
theorem aa2(t:N3)(z:Pt):wv (z.1,z.2,1) t=neg (rl t z):=by unfold wv rl rel neg;exact eB (by simp;omega) (by simp;omega)
theorem dF.aa3(hN:cS es l)(h:dF es l f t){z:Pt}(hz:(z.1,z.2,1)∈l):oO f t (wv f t) z:=by
 intro hl;obtain⟨hf,ht,hr⟩:=h.facts hN;apply mj;intro hn;have hl':=(td (hN.can _ hf).pos (hN.can _ ht).pos hr z).2 hl;refine h.gap hN hz ⟨rU hr ?_ ?_,rU hr ?_ ?_⟩
 .rw[BF];exact hl
 .rw[BF];omega
 .rw[aa2,gF];unfold lam at hl';omega
 .rw[aa2,mD];omega
end Ga
end Go.Proofs.YtkjhhooecopolaaGreatDoor

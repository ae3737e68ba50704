import Derived.Test.YtkjhhooecopolaaGreatDoorProg
import Derived.Test.YtkjhhooecopolaaGreatDoorWz16
set_option maxRecDepth 100000
set_option maxHeartbeats 4000000
namespace Go.Proofs
open Go.Shelf
def Tryz.sortNd_ren:Go.Shelf.Ren:=⟨fun |6=>124|15=>164|14=>181|28=>208|29=>209|20=>219|21=>220|22=>221|23=>222|24=>223|25=>224|26=>225|27=>226|46=>274|47=>249|48=>250|49=>275|50=>276|57=>297|n=>n,fun |22=>138|24=>83|25=>206|3=>3|39=>238|0=>0|53=>280|55=>282|4=>4|46=>274|45=>273|50=>70|5=>5|9=>9|66=>313|70=>317|76=>346|77=>172|n=>n,fun |n=>n⟩
theorem Tryz.sortNd:Go.Proofs.SlLaysF0.n6 Tryz.prog Tryz.sortNd_ren:={
 mixed:=by kernel_rfl
 f6:=⟨Tryz.f124.name,by decide,Tryz.func124.trans (au some (by kernel_rfl))⟩
 f14:=⟨Tryz.f181.name,by decide,Tryz.func181.trans (au some (by kernel_rfl))⟩
 f15:=Tryz.func164.trans (au some (by kernel_rfl))
 f20:=⟨Tryz.f219.name,by decide,Tryz.func219.trans (au some (by kernel_rfl))⟩
 f21:=⟨Tryz.f220.name,by decide,Tryz.func220.trans (au some (by kernel_rfl))⟩
 f22:=⟨Tryz.f221.name,by decide,Tryz.func221.trans (au some (by kernel_rfl))⟩
 f23:=⟨Tryz.f222.name,by decide,Tryz.func222.trans (au some (by kernel_rfl))⟩
 f24:=⟨Tryz.f223.name,by decide,Tryz.func223.trans (au some (by kernel_rfl))⟩
 f25:=⟨Tryz.f224.name,by decide,Tryz.func224.trans (au some (by kernel_rfl))⟩
 f26:=⟨Tryz.f225.name,by decide,Tryz.func225.trans (au some (by kernel_rfl))⟩
 f27:=⟨Tryz.f226.name,by decide,Tryz.func226.trans (au some (by kernel_rfl))⟩
 f28:=Tryz.func208.trans (au some (by kernel_rfl))
 f29:=Tryz.func209.trans (au some (by kernel_rfl))
 f46:=⟨Tryz.f274.name,by decide,Tryz.func274.trans (au some (by kernel_rfl))⟩
 f47:=Tryz.func249.trans (au some (by kernel_rfl))
 f48:=Tryz.func250.trans (au some (by kernel_rfl))
 f49:=⟨Tryz.f275.name,by decide,Tryz.func275.trans (au some (by kernel_rfl))⟩
 f50:=⟨Tryz.f276.name,by decide,Tryz.func276.trans (au some (by kernel_rfl))⟩
 f57:=⟨Tryz.f297.name,by decide,Tryz.func297.trans (au some (by kernel_rfl))⟩
 t0:=Tryz.underlying0
 a0:=Tryz.isAgg0
 z0:=Tryz.sizeOf0
 v0:=Tryz.zeroValue0
 t3:=Tryz.underlying3
 a3:=Tryz.isAgg3
 z3:=Tryz.sizeOf3
 v3:=Tryz.zeroValue3
 t4:=Tryz.underlying4
 a4:=Tryz.isAgg4
 z4:=Tryz.sizeOf4
 v4:=Tryz.zeroValue4
 t5:=Tryz.underlying5
 a5:=Tryz.isAgg5
 z5:=Tryz.sizeOf5
 v5:=Tryz.zeroValue5
 t9:=Tryz.underlying9
 a9:=Tryz.isAgg9
 z9:=Tryz.sizeOf9
 v9:=Tryz.zeroValue9
 t22:=Tryz.underlying138
 a22:=Tryz.isAgg138
 z22:=Tryz.sizeOf138
 v22:=Tryz.zeroValue138
 t25:=Tryz.underlying206
 a25:=Tryz.isAgg206
 z25:=Tryz.sizeOf206
 v25:=Tryz.zeroValue206
 t39:=Tryz.underlying238
 a39:=Tryz.isAgg238
 z39:=Tryz.sizeOf238
 v39:=Tryz.zeroValue238
 t45:=Tryz.underlying273
 a45:=Tryz.isAgg273
 z45:=Tryz.sizeOf273
 v45:=Tryz.zeroValue273
 t46:=Tryz.underlying274
 a46:=Tryz.isAgg274
 z46:=Tryz.sizeOf274
 v46:=Tryz.zeroValue274
 t50:=Tryz.underlying70
 a50:=Tryz.isAgg70
 z50:=Tryz.sizeOf70
 v50:=Tryz.zeroValue70
 t53:=Tryz.underlying280
 a53:=Tryz.isAgg280
 z53:=Tryz.sizeOf280
 v53:=Tryz.zeroValue280
 t55:=Tryz.underlying282
 a55:=Tryz.isAgg282
 z55:=Tryz.sizeOf282
 v55:=Tryz.zeroValue282
 t66:=Tryz.underlying313
 a66:=Tryz.isAgg313
 z66:=Tryz.sizeOf313
 v66:=Tryz.zeroValue313
 t70:=Tryz.underlying317
 a70:=Tryz.isAgg317
 z70:=Tryz.sizeOf317
 v70:=Tryz.zeroValue317
 t76:=Tryz.underlying346
 a76:=Tryz.isAgg346
 z76:=Tryz.sizeOf346
 v76:=Tryz.zeroValue346
 t77:=Tryz.underlying172
 a77:=Tryz.isAgg172
 z77:=Tryz.sizeOf172
 v77:=Tryz.zeroValue172}
end Go.Proofs
namespace Go.Proofs.YtkjhhooecopolaaGreatDoor
open Go.RowKit
abbrev VN:={n:Ge.Nd //Ge.Can n/\dM n.1 n.2.1 n.2.2}
def ji(x:VN):List Value:=ib x.1
def Ak(x y:VN):Int:=Ge.pc (Ge.ax x.1) (Ge.ax y.1)
theorem IB{w w':World}(h:Below w.heap.size w w')(hd:w.drawn<=w'.drawn):∃q os,w'=Sort.grow (w.drewN q) os:=by
 refine⟨w'.drawn-w.drawn,w'.heap.extract w.heap.size w'.heap.size,?_⟩;have hh:w'.heap=w.heap++w'.heap.extract w.heap.size w'.heap.size:=by
  apply Array.ext_getElem?;intro k;rw[Array.getElem?_append];split
  ·exact h.block k (by assumption)
  ·rename_i hk
   rw[Array.getElem?_extract];by_cases hlt:k<w'.heap.size
   ·rw[aj (by omega)]
    congr 1;omega
   ·rw[af (by omega),FJ (by omega)]
 have e1:w.drawn+(w'.drawn-w.drawn)=w'.drawn:=by omega
 have h1:=h.os;have h2:=h.tape;have h3:=h.output;unfold Sort.grow World.drewN;rw[e1];show w'={heap:=w.heap++w'.heap.extract w.heap.size w'.heap.size,tape:=w.tape,drawn:=w'.drawn,os:=w.os,output:=w.output};rw[<-hh,<-h1,<-h2,<-h3]
theorem afk [Inhabited VN](blk off size:Nat)(w:World):CmpLays Tryz.prog 125 #[] ji 2 Ak blk off size w:=
 fun _ _ _ _ x y=>(Dd x.1 y.1 x.2.2 y.2.2 x.2.1 y.2.1 _).mono fun _ _⟨h1,h2,h3⟩=>⟨h1,IB h2 h3⟩
theorem IC{x y:VN}:ltOf Ak x y=true↔Ge.lt (Ge.ax x.1) (Ge.ax y.1):=by
 unfold ltOf Ak Ge.lt;exact pE
theorem DJ{x y:VN}:ltOf Ak x y=false↔¬Ge.lt (Ge.ax x.1) (Ge.ax y.1):=by
 rw[<-IC];simp
theorem afl:Sort.SWO (ltOf Ak) where
 irrefl _x:=DJ.2 (Ge.lt_irrefl _)
 trans x y z h1 h2:=IC.2 (Ge.lt_trans (Ge.df x.2.1) (Ge.df y.2.1) (Ge.df z.2.1) (IC.1 h1) (IC.1 h2))
 ntrans x y z h1 h2:=DJ.2 fun h=>DJ.1 h1 (Ge.lt_le_trans x.2.1 z.2.1 y.2.1 h (DJ.1 h2))
theorem U4:∀(L:List Ge.Nd),(∀n∈L,Ge.Can n)->(∀n∈L,dM n.1 n.2.1 n.2.2)->∃d:List VN,d.map Subtype.val=L
 |[],_,_=>⟨[],rfl⟩
 |n::L,h1,h2=>by
  obtain⟨d,hd⟩:=U4 L (fun m hm=>h1 m (by simp[hm])) (fun m hm=>h2 m (by simp[hm]))
  exact⟨⟨n,h1 n (by simp),h2 n (by simp)⟩::d,by simp[hd]⟩
theorem U5 [Inhabited VN](d:Array VN):(Sort.flatK ji 2 d).toList=dF (d.toList.map Subtype.val):=by
 apply Bw;intro t;by_cases ht:t<d.size*2
 ·have h1:t/2<d.size:=by omega
  have hx:(d.toList.map Subtype.val)[t/2]?=some (d[t/2]!).1:=by
   rw[gz,jb,nB h1,ik d _ h1];rfl
  have h2:=De _ _ _ hx (t%2) (Ky _ (by decide))
  have e1:t/2*2+t%2=t:=by omega
  rw[e1] at h2;have h3:=Sort.get_flatK ji 2 d t ht;have hs:t<(Sort.flatK ji 2 d).size:=by rw[Sort.size_flatK];exact ht
  rw[ik (Sort.flatK ji 2 d) t hs] at h3;rw[h2,jb,nB hs,h3];have hl:t%2<(ji d[t/2]!).length:=Ky _ (by decide)
  rw[ik (ji d[t/2]!) (t%2) hl];exact(aC hl).symm
 ·rw[wX (by rw[iQ,Sort.size_flatK];omega),wX (by rw[Dp];simp;omega)]
theorem U6(F c:Array Value)(h:F.size<=c.size):(Sort.putCells id 0 F c).toList.take F.size=F.toList:=by
 apply Bw;intro t;rw[kj];by_cases ht:t<F.size
 ·have h1:t<c.size:=by omega
  rw[aj ht,jb,jb];unfold Sort.putCells;rw[amz,nB h1,nB ht];simp[ht]
 ·rw[af ht,jb,FJ (by omega)]
theorem afm [Inhabited VN](d':Array VN)(n:Nat)(os:Array Obj){wr:World}{g:Nat}{cur:Array Value}{t:TypeId}{fr:Nat×Nat}(hb:wr.heap[g]?=some (.cells cur t fr)):
  (sortWorldK ji 2 wr g 0 n d' os).heap[g]?=some (.cells (Sort.putCells id 0 (Sort.flatK ji 2 d') cur) t fr):=by
 have hg:=lt_of_heap hb;show((wr.heap.modify g (Sort.onCells (Sort.putCells id 0 (Sort.flatK ji 2 d'))))++os)[g]?=_;rw[FO (by simpa using hg),yV,aj rfl,hb]
 rfl
theorem afn [Inhabited VN](d':Array VN)(n:Nat)(os:Array Obj){wr:World}{g k:Nat}(hk:k<wr.heap.size)(hne:g≠k):
  (sortWorldK ji 2 wr g 0 n d' os).heap[k]?=wr.heap[k]?:=by
 show((wr.heap.modify g (Sort.onCells (Sort.putCells id 0 (Sort.flatK ji 2 d'))))++os)[k]?=_;rw[FO (by simpa using hk),yV,af hne]
theorem afo [Inhabited VN](d':Array VN)(n:Nat)(os:Array Obj)(wr:World)(g:Nat):wr.heap.size<=(sortWorldK ji 2 wr g 0 n d' os).heap.size:=by
 show _<=((wr.heap.modify g (Sort.onCells (Sort.putCells id 0 (Sort.flatK ji 2 d'))))++os).size;rw[abf,abg];omega
theorem afp [Inhabited VN](w:World)(lv:Value)(L:List Ge.Nd)(wr:World)(h:NL w lv L wr)(hl:L.length<=200000):
  Calls Tryz.prog 124 #[lv,.func (.func 125) #[] #[]] wr fun r w'=>r=.returned (.tuple #[])/\∃S,NL w lv S w'/\(∀n,n∈S↔n∈L)/\S.length=L.length/\S.Pairwise Ge.le:=by
 obtain⟨hlen,ux⟩:=h.own;rcases ux with⟨rfl,h0⟩|⟨g,cap,cur,rfl,hg,hblk,hnc,hcm,hcs,htk⟩
 ·have hL:L=[]:=gF.1 h0;subst hL;refine(AnyF.slices_SortFunc_none Tryz.sortNd none 0 _ wr).mono ?_;rintro e w' ⟨rfl,rfl⟩;exact⟨rfl,[],h,fun n=>Fw,rfl,List.Pairwise.nil⟩
 ·obtain⟨d,hd⟩:=U4 L h.can h.inn;have hgl:g<wr.heap.size:=lt_of_heap hblk;have hsz:L.length=d.toArray.size:=by rw[<-hd];simp
  have hfl:(Sort.flatK ji 2 d.toArray).toList=cur.toList.take (L.length*2):=by rw[U5,htk,<-hd]
  have hH:Sort.HoldsK ji 2 wr g 0 d.toArray:=by
   intro j hj;have hj':=hj;rw[Sort.size_flatK,<-hsz] at hj';have Mw:cur[j]?=some (Sort.flatK ji 2 d.toArray)[j]! :=by
    have e1:(Sort.flatK ji 2 d.toArray).toList[j]?=(cur.toList.take (L.length*2))[j]?:=by rw[hfl]
    rw[kj,aj hj',jb,jb,nB hj] at e1;rw[<-e1,ik (Sort.flatK ji 2 d.toArray) j hj]
   refine⟨?_,bw hblk _⟩;rw[ki];unfold World.cell?;rw[hblk];exact Mw
  have eg:∀args w,(callFunc 125 args).run Tryz.prog w=.ok (.enter 125 args) w:=enters_of Tryz.func125 (by kernel_rfl) rfl
  have hone:∀x:VN,∀v∈ji x,v.oneCell'=true:=fun x v hv=>by
   simp[ji,ib] at hv;rcases hv with rfl|rfl<;>rfl
  have hcon:=AnyQ.slices_SortFunc Tryz.sortNd 2 Tryz.isAgg83 Tryz.sizeOf83 ji (fun _=>rfl) hone Ak afl 125 #[] g 0 cap d.toArray wr eg (afk _ _ _ _) hH hgl (by rw[<-hsz];omega)
  change Calls Tryz.prog 124 _ _ _ at hcon
  rw[<-hsz] at hcon;refine hcon.mono ?_;rintro e w' ⟨rfl,d',n,os,hp,hs,rfl⟩;obtain⟨hps,_,DK⟩:=hp;have hs1:d'.size=L.length:=by rw[hps,hsz]
  have hperm:d'.toList.Perm d:=by
   have e1:d'.extract 0 L.length=d':=by rw[<-hs1];exact KE
   have e2:d.toArray.extract 0 L.length=d.toArray:=by rw[hsz];exact KE
   rw[e1,e2] at DK;exact DK
  have vV:(d'.toList.map Subtype.val).length=L.length:=by simp[hs1]
  have hmem:∀m,m∈d'.toList.map Subtype.val↔m∈L:=fun m=>by
   rw[<-hd];simp only[aN];constructor
   ·rintro⟨x,hx,rfl⟩;exact⟨x,hperm.mem_iff.1 hx,rfl⟩
   ·rintro⟨x,hx,rfl⟩;exact⟨x,hperm.mem_iff.2 hx,rfl⟩
  refine⟨rfl,d'.toList.map Subtype.val,⟨⟨by rw[Dp],ah ⟨g,cap,_,by rw[vV],hg,afm d' n os hblk,by rw[vV];exact hnc,hcm,?_,?_⟩⟩,?_,fun m hm=>h.can m ((hmem m).1 hm),fun m hm=>h.inn m ((hmem m).1 hm)⟩,hmem,vV,?_⟩
  ·unfold Sort.putCells;rw[Qx];exact hcs
  ·have e1:(d'.toList.map Subtype.val).length*2=(Sort.flatK ji 2 d').size:=by rw[Sort.size_flatK,vV,hs1]
   rw[e1,U6 _ _ (by rw[Sort.size_flatK,hs1,hcs];omega),U5]
  ·exact h.below.trans ⟨rfl,rfl,rfl,afo d' n os wr g,fun k hk=>afn d' n os (bu hk h.below.size) (by omega)⟩
  ·rw[lR,kE];intro i j hi hj hij;have hi':i<d'.size:=by simpa using hi
   have hj':j<d'.size:=by simpa using hj
   have hx:=hs i j (iD _) hij (by omega)
   rw[ik d' i hi',ik d' j hj'] at hx;exact DJ.1 hx
theorem afq(es:List Ed)(v:Value)(w:World)(hR:iW w v es)(hl:es.length<=402)(hs:∀e∈es,eO e):
  Calls Tryz.prog 72 #[v] w fun e w'=>∃v' l,e=.returned v'/\iy w' v' l/\Below w.heap.size w w'/\l.map Ge.ax=Ge.gV es/\(∀n∈l,dM n.1 n.2.1 n.2.2)/\l.length<=200000/\(∀n∈l,Ge.Can n):=by
 haveI:Inhabited VN:=⟨⟨(0,0,1),⟨by decide,by decide⟩,⟨by decide,by decide,by decide⟩⟩⟩
 exact aeL es v w hR hl hs (fun lv L wr h1 h2=>afp w lv L wr h1 h2) (fun lv S wr h1 h2=>afj w lv S wr h1 h2)
namespace Ge
theorem Mx{k X:Int}(hk:k≠0):X.natAbs<=(k*X).natAbs:=by
 rw[oa];have:1<=k.natAbs:=by omega
 calc X.natAbs=1*X.natAbs:=(Qi _).symm
  _<=k.natAbs*X.natAbs:=FL _ this
theorem afr(x y:Int){d:Int}(hd:d≠0):∃n:Nd,Can n/\ax n=(aW x d,aW y d)/\n.1.natAbs<=x.natAbs/\n.2.1.natAbs<=y.natAbs/\n.2.2.natAbs<=d.natAbs:=by
 obtain⟨G,hG⟩:∃G,Int.gcd (Int.gcd x y:Nat) d=G:=⟨_,rfl⟩;have CH:0<G:=by rw[<-hG];exact ue (by omega)
 have DL:(G:Int)∣(Int.gcd x y:Nat):=by rw[<-hG];exact BF _ _
 have dx:(G:Int)∣x:=BH DL (BF _ _);have dy:(G:Int)∣y:=BH DL (yY _ _);have dd:(G:Int)∣d:=by rw[<-hG];exact yY _ _
 have main:∀k:Int,k≠0->k.natAbs=G->k∣x->k∣y->k∣d->0<d.tdiv k->∃n:Nd,Can n/\ax n=(aW x d,aW y d)/\n.1.natAbs<=x.natAbs/\n.2.1.natAbs<=y.natAbs/\n.2.2.natAbs<=d.natAbs:=by
  intro k k0 hk kx ky kd hp;have ex:=(xa kx).symm;have ey:=(xa ky).symm;have ed:=(xa kd).symm;obtain⟨h1,h2⟩:=Ib hd ex ey ed hp (by rw[hk,hG])
  refine⟨_,h1,h2,?_,?_,?_⟩
  ·have:=Mx (X:=x.tdiv k) k0;rw[<-ex] at this;exact this
  ·have:=Mx (X:=y.tdiv k) k0;rw[<-ey] at this;exact this
  ·have:=Mx (X:=d.tdiv k) k0;rw[<-ed] at this;exact this
 obtain⟨q,hq⟩:=dd;have vQ:(0:Int)<G:=by omega
 rcases eK d 0 with h|h|h
 ·have hqn:q<0:=by
   rcases eK q 0 with h1|h1|h1
   ·exact h1
   ·rw[h1] at hq;omega
   ·have:=aR vQ h1;omega
  refine main (-(G:Int)) (by omega) (by omega) (Int.neg_dvd.2 dx) (Int.neg_dvd.2 dy) (Int.neg_dvd.2 ⟨q,hq⟩) ?_
  have e:d= -(G:Int)*(-q):=by rw[y7];exact hq
  rw[e,amA _ (by omega)]
  omega
 ·exact absurd h hd
 ·have hqp:0<q:=by
   rcases eK q 0 with h1|h1|h1
   ·have:=wT vQ h1;omega
   ·rw[h1] at hq;omega
   ·exact h1
  refine main (G:Int) (by omega) (by omega) dx dy ⟨q,hq⟩ ?_
  rw[hq,amA _ (by omega)]
  exact hqp
end Ge
theorem afu{es:List Ed}(hs:∀e∈es,eO e){n:Ge.Nd}(hc:Ge.Can n)(h:Ge.isNode es (Ge.ax n)):lF n:=by
 have U7:∀a:Ge.Pt,small a.1->small a.2->Ge.ax n=Ge.pt a->lF n:=fun a h1 h2 hq=>by
  have hc1:Ge.Can (a.1,a.2,1):=⟨by show(0:Int)<1;decide,by simp⟩
  have e:n=(a.1,a.2,1):=Ge.zT hc hc1 (by rw[hq];unfold Ge.ax Ge.pt;simp only[Ge.Hf])
  unfold small at h1 h2;rw[e];exact⟨by simp only;omega,by simp only;omega,by simp⟩
 rcases h with⟨e,he,h|h⟩|⟨e,he,f,hf,hcr,hq,_,_⟩
 ·exact U7 e.1 (hs e he).a (hs e he).b h
 ·exact U7 e.2 (hs e he).c (hs e he).d h
 ·obtain⟨m,hm,hmq,m1,m2,m3⟩:=Ge.afr (Ge.mX e f) (Ge.mY e f) hcr;have en:n=m:=Ge.zT hc hm (by rw[hq,hmq];rfl)
  obtain⟨b1,b2,b3⟩:=Tc (hs e he) (hs f hf);have hp:=hc.pos;rw[<-en] at m1 m2 m3;exact⟨by omega,by omega,by omega⟩
structure AP(es:List Ed)(l:List Ge.Nd)(L:List PB):Prop where
 mem:∀p∈L,∃e∈es,oN p.wa p.wb p.sh (Ge.ia (Ge.cH e))/\(p.f,p.t)∈Ge.nexts (Ge.held e l)
 all:∀e∈es,∀q∈Ge.nexts (Ge.held e l),∃p∈L,(p.f,p.t)=q
theorem AP.nil(l:List Ge.Nd):AP [] l []:=⟨fun p h=>by simp at h,fun e h=>by simp at h⟩
theorem AP.snoc{es:List Ed}{l:List Ge.Nd}{L:List PB}(h:AP es l L)(e:Ed){a b s:Nat}(hw:oN a b s (Ge.ia (Ge.cH e))):AP (es++[e]) l (L++eT a b s e l):=by
 refine⟨fun p hp=>?_,fun f hf q hq=>?_⟩
 ·rcases bQ.1 hp with hp|hp
  ·obtain⟨f,hf,h1⟩:=h.mem p hp;exact⟨f,by simp[hf],h1⟩
  ·unfold eT at hp;obtain⟨q,hq,rfl⟩:=aN.1 hp;exact⟨e,by simp,hw,hq⟩
 ·rcases bQ.1 hf with hf|hf
  ·obtain⟨p,hp,h1⟩:=h.all f hf q hq;exact⟨p,by simp[hp],h1⟩
  ·rw[bY.1 hf] at hq;exact⟨⟨a,b,s,q.1,q.2⟩,q8 _ (aN.2 ⟨q,hq,rfl⟩),rfl⟩
theorem afw{P:Program}{w:World}(base:Nat)(t ty e:TypeId)(i:TypeInfo)(size:Nat)(ht:P.underlying t=some (.slice e))(hi:P.info? e=some i)
  (v:Value)(n:Nat)(xs:List Value)(hown:w.ownsRow base e size v n xs)(xo:Option Addr)(c:Nat):
  (Builtin.append_ #[t,t] ty #[v,.slice xo 0 c]).run P w=.ok v w:=by
 rcases hown.2 with⟨rfl,rfl⟩|⟨g,cap,cur,rfl,_,_,hnc,_⟩
 ·cases xo<;>simp[Builtin.append_,run_underlying ht,sizeOf,typeInfo,hi,Builtin.lenOf,Builtin.firstCells,loadCells,loadCellsFrom]
 ·cases xo<;>simp[Builtin.append_,run_underlying ht,sizeOf,typeInfo,hi,Builtin.lenOf,Builtin.firstCells,hnc,storeCells,loadCells,loadCellsFrom]
theorem U8{P:Program}{w:World}{ops:Array Oper}{rest:List Oper}{o:Oper}{a:Act}{Q:Exit->Act->World->Prop}(hgd:o.guard=none)(s x:Operand)(t:TypeId)
  (ho:o.op=.call {callee:=.builtin .append,args:= #[s,x],argTypes:= #[t,t]})(base:Nat)(e:TypeId)(i:TypeInfo)(size:Nat)(ht:P.underlying t=some (.slice e))(hi:P.info? e=some i)
  (v:Value)(n:Nat)(xs:List Value)(hs:a.eval s=v)(hown:w.ownsRow base e size v n xs)(xo:Option Addr)(c:Nat)(hx:a.eval x=.slice xo 0 c)
  (h:wpList P ops Q rest (a.put o.dst v) w):wpList P ops Q (o::rest) a w:=
 wpList_plain hgd fun _ hK=>by
  have hr:=afw (P:=P) (w:=w) base t o.type e i size ht hi v n xs hown xo c;unfold Oper.wp execOp;simp only[ho,resolve,invoke,builtin,Sem.run_bind,Sem.run_pure,Result.andThen_ok,List.map_toArray,eI,Qj,hs,hx,hr];exact hK _ _ h
theorem afx{w w':World}{v:Value}{l:List Ge.Nd}(h:iy w v l)(hb:Below w.heap.size w w'):iy w' v l:=Ta h fun k _cur hc=>hb.block k (lt_of_heap hc)
theorem U9(l:List PB):∀u∈cV l,u.oneCell'=true:=by
 intro u hu;obtain⟨x,_,h⟩:=nu.1 hu;simp[PB.cells] at h;rcases h with rfl|rfl|rfl|rfl|rfl|rfl<;>rfl
theorem PL.fresh{w:World}{v:Value}{L:List PB}{wr:World}(h:PL w v L wr)(hL:0<L.length):∃g cap,v=.slice (some ⟨g,0,none⟩) L.length cap/\w.heap.size<=g/\∀j u,(cV L)[j]?=some u->wr.cell? ((⟨g,0,none⟩:Addr).add j)=some u:=by
 rcases h.1.2 with⟨_,h0⟩|⟨g,cap,cur,hv,hg,hr⟩
 ·omega
 ·exact⟨g,cap,hv,hg,h.1.cells (by rw[hv];rfl)⟩
theorem afy(a b:List PB):cV (a++b)=cV a++cV b:=by simp[cV]
theorem Al(l:List PB):(cV l).length=l.length*6:=by
 induction l with
 |nil=>rfl
 |cons x r ih=>
  have e:cV (x::r)=x.cells++cV r:=by simp[cV]
  rw[e,aX,ih,cN];show 6+_=_;omega
theorem afz(es:List Ed)(v:Value)(w:World)(hR:iW w v es)(hl:es.length<=402)(hs:∀e∈es,eO e)
  (Q:List PB->Value->World->Prop)
  (HS:Hid (∀l,l.map Ge.ax=Ge.gV es->(∀n∈l,Ge.Can n)->∀lv L wr,PL w lv L wr->AP es l L->L.length<=85000000->Calls Tryz.prog 156 #[lv,.func (.func 157) #[] #[]] wr fun r w'=>r=.returned (.tuple #[])/\Calls Tryz.prog 158 #[lv,.func (.func 159) #[] #[]] w' fun r w''=>∃v' Ps,r=.returned v'/\Q Ps v' w'')):
  Calls Tryz.prog 104 #[v] w fun r w'=>∃v' Ps,r=.returned v'/\Q Ps v' w':=by
 obtain⟨so,cap,rfl⟩:=Hc hR;obtain⟨i0,hi,hz0,hz1,hz2⟩:=info_parts UK;have HR:Hid (iW w (.slice so es.length cap) es):=hR;have HN:Hid (Calls Tryz.prog 72 #[.slice so es.length cap] w fun e w'=>∃v' l,e=.returned v'/\iy w' v' l/\Below w.heap.size w w'/\l.map Ge.ax=Ge.gV es/\(∀n∈l,dM n.1 n.2.1 n.2.2)/\l.length<=200000/\(∀n∈l,Ge.Can n)):=afq es _ w hR hl hs
 have HSE:Hid (∀e∈es,eO e):=hs;clear hR hs
 go_enter Tryz.func104,Tryz.ntmps104
 go_wp2_with fail
 refine HN.out.mono ?_;rintro r w1 ⟨nv,l,rfl,qH,hb1,mh,hin,hll,fZ⟩;obtain⟨ns,nc,rfl⟩:=Io qH;have Va:Hid (iy w1 (.slice ns l.length nc) l):=qH;have HNI:Hid (∀n∈l,dM n.1 n.2.1 n.2.2):=hin;have Vb:Hid (l.map Ge.ax=Ge.gV es/\(∀n∈l,Ge.Can n)):=⟨mh,fZ⟩;clear qH hin mh fZ HN;have bW:Hid (∃L,PL w (.slice none 0 0) L w1/\(∀k,(Value.slice none 0 0).ownBlock=some k->w1.heap.size<=k)/\Below w1.heap.size w1 w1/\AP (es.take 0) l L/\L.length<=0):=⟨[],⟨World.ownsRow_nil _ _ _ _,hb1⟩,(fun k h=>by cases h),Below.refl _ _,by simpa using AP.nil l,by simp⟩
 go_wp2_with fail
 go_loopg [4,11] es.length (fun m lv iv wr=>∃k:Nat,k+m=es.length/\iv=.int .i64 k/\Hid (∃L,PL w lv L wr/\(∀k,lv.ownBlock=some k->w1.heap.size<=k)/\Below w1.heap.size w1 wr/\AP (es.take k) l L/\L.length<=k*200000))
 case atStart=>exact⟨0,by omega,rfl,by simpa using bW⟩
 case round=>
  obtain⟨k,hkn,rfl,HE⟩:=hrel;clear bW;by_cases hlt:k<es.length
  ·obtain⟨L,uy,iu,pM,qI,jN⟩:=HE.out;have My:Hid (∀k,u4.ownBlock=some k->w1.heap.size<=k):=iu;have hLk:L.length<=(k+1)*200000:=fg jN (FL _ (ny k));obtain⟨e,sB⟩:∃e,es[k]?=some e:=⟨_,aC hlt⟩;obtain⟨b,x,rfl,hb,hok,c0,c1,c2,c3⟩:=Hd HR.out sB;have aw:=uy.2;have r0:=(aw.cell (p:=⟨b,k*4,none⟩) hb).trans c0;have r1:=(aw.cell (p:=⟨b,k*4+1,none⟩) hb).trans c1;have r2:=(aw.cell (p:=⟨b,k*4+2,none⟩) hb).trans c2;have r3:=(aw.cell (p:=⟨b,k*4+3,none⟩) hb).trans c3;have hbr:b<wr.heap.size:=bu hb aw.size;have fN:(k:Int)<(es.length:Int):=by omega
   have hmem:=aZ sB;have kq:=HSE.out e hmem;obtain⟨ra,rb,rs,hfl,pQ⟩:=aez (l:=Ge.cH e) (a:=x.wa) (b:=x.wb) (s:=x.sh) ⟨hok.wa,hok.wb,hok.sh⟩;have ID:Hid (AP (es.take (k+1)) l (L++eT ra rb rs e l)):=by
    have htk:es.take (k+1)=es.take k++[e]:=by rw[jF,sB];rfl
    rw[htk];exact qI.snoc e hfl
   have hcl:=UM ra rb rs e l;have Af:Hid (∀v' w',iy w' v' l->Calls Tryz.prog 155 #[.agg #[.complex .f64 x.wa x.wb,.float .f64 x.sh,.complex .f64 x.fa x.fb,.complex .f64 x.ta x.tb],v'] w' fun r w''=>∃v'',r=.returned v''/\PL w' v'' (eT ra rb rs e l) w''):=fun v' w' hv=>ae1 x e l v' w' hok kq hv HNI.out hll pQ
   obtain⟨wa,wb,sh,fa,fb,ta,tb⟩:=x;simp only at r0 r1 r2 r3 Af;have Am:Hid (PL w u4 L wr):=uy;have Vc:iy (wr.alloc (.cells #[.complex .f64 wa wb,.float .f64 sh,.complex .f64 fa fb,.complex .f64 ta tb] 124)) (.slice ns l.length nc) l:=afx Va.out (pM.alloc pM.size _);have Vd:Hid (iy (wr.alloc (.cells #[.complex .f64 wa wb,.float .f64 sh,.complex .f64 fa fb,.complex .f64 ta tb] 124)) (.slice ns l.length nc) l):=Vc;have hb0:Below wr.heap.size wr (wr.alloc (.cells #[.complex .f64 wa wb,.float .f64 sh,.complex .f64 fa fb,.complex .f64 ta tb] 124)):=(Below.refl _ _).alloc (ay _) _;clear c0 c1 c2 c3 sB hok kq hmem pQ hfl qI uy Vc HE
   go_wp2_with (simp only[fW,oD];go_simp)
   generalize wr.alloc (.cells #[.complex .f64 wa wb,.float .f64 sh,.complex .f64 fa fb,.complex .f64 ta tb] 124)=W0 at*;refine(Af.out _ _ Vd.out).mono ?_;rintro r w2 ⟨cv,rfl,hC⟩;have hb2:Below wr.heap.size wr w2:=hb0.trans (hC.2.mono hb0.size);have jk:w2.ownsRow w.heap.size 171 6 u4 L.length (cV L):=aU Am.out.1 fun k hk=>hb2.block k (aB Am.out.1 k hk).2
   have xQ:Below w.heap.size w w2:=aw.trans (hb2.mono aw.size);have IE:Below w1.heap.size w1 w2:=pM.trans (hb2.mono pM.size);clear r0 r1 r2 r3 hb0 Af Vd;by_cases hc0:0<(eT ra rb rs e l).length
   ·obtain⟨g,cp,rfl,hg,hcells⟩:=hC.fresh hc0;have hone:=U9 (eT ra rb rs e l);have hrl:=Al (eT ra rb rs e l);generalize hCL:eT ra rb rs e l=C at*
    go_wp2_with (at_builtin;refine wpList_append_lies _ rfl (.tmp 15) (.tmp 18) 168 rfl w.heap.size 171 i0 _ 6 72 Tryz.underlying168 hi hz0 hz1 hz2 rfl (by decide) u4 L.length (cV L) rfl jk ⟨g,0,none⟩ C.length cp (cV C) rfl hrl hcells hone hc0 (by unfold maxLen;omega) (by omega) xQ.size w2.heap.size rfl ?_;intro g' cap' w8 cU bo gJ pP)
    have cI:Hid (∃L',PL w (.slice (some ⟨g',0,none⟩) (L.length+C.length) cap') L' w8/\(∀k,(Value.slice (some ⟨g',0,none⟩) (L.length+C.length) cap').ownBlock=some k->w1.heap.size<=k)/\Below w1.heap.size w1 w8/\AP (es.take (k+1)) l L'/\L'.length<=(k+1)*200000):=by
     refine⟨L++C,⟨?_,xQ.grown bo xQ.size (fun k hk=>(aB jk k hk).1)⟩,fun k hk=>?_,IE.grown bo IE.size (fun k hk=>My.out k hk),ID.out,?_⟩
     ·rw[afy,aX];exact cU
     ·injection hk with hk;subst hk;rcases gJ with h8|h8
      ·exact My.out _ h8
      ·show w1.heap.size<=g';rw[h8];exact IE.size
     ·rw[aX,FN,Qi];omega
    clear bo cU jk hcells hone hrl hC Am ID
    go_wp2_with fail
    go_roundg (gk-1)
    case measure=>omega
    case rel=>exact⟨k+1,by omega,by go_num,cI⟩
   ·have Ve:(eT ra rb rs e l).length=0:=by omega
    have Vf:eT ra rb rs e l=[]:=gF.1 Ve;obtain⟨xo,xc,rfl⟩:∃xo xc,cv=.slice xo 0 xc:=by
     rcases hC.1.2 with⟨hv,_⟩|⟨gg,cc,cur,hv,_⟩
     ·exact⟨none,0,hv⟩
     ·exact⟨_,cc,by rw[hv,Ve]⟩
    have cI:Hid (∃L',PL w u4 L' w2/\(∀k,u4.ownBlock=some k->w1.heap.size<=k)/\Below w1.heap.size w1 w2/\AP (es.take (k+1)) l L'/\L'.length<=(k+1)*200000):=by
     have h:=ID.out;rw[Vf,q9] at h;exact⟨L,⟨jk,xQ⟩,My.out,IE,h,hLk⟩
    clear hC Am ID Vf
    go_wp2_with (at_builtin;refine U8 rfl (.tmp 15) (.tmp 18) 168 rfl w.heap.size 171 i0 6 Tryz.underlying168 hi u4 L.length (cV L) rfl jk xo xc rfl ?_)
    go_roundg (gk-1)
    case measure=>omega
    case rel=>exact⟨k+1,by omega,by go_num,cI⟩
  ·have hk:k=es.length:=by omega
   subst hk;obtain⟨L,uy,_,pM,qI,jN⟩:=HE.out;rw[gm] at qI;have HC:=HS.out l Vb.out.1 Vb.out.2 _ L _ uy qI (by omega)
   have DM:Hid (Calls Tryz.prog 156 #[u4,.func (.func 157) #[] #[]] wr fun r w'=>r=.returned (.tuple #[])/\Calls Tryz.prog 158 #[u4,.func (.func 159) #[] #[]] w' fun r w''=>∃v' Ps,r=.returned v'/\Q Ps v' w''):=HC
   clear HC HS HE uy qI HR Va
   go_wp2_with fail
   refine DM.out.mono ?_;rintro r w5 ⟨rfl,Vg⟩;have HC5:Hid (Calls Tryz.prog 158 #[u4,.func (.func 159) #[] #[]] w5 fun r w''=>∃v' Ps,r=.returned v'/\Q Ps v' w''):=Vg
   clear Vg DM
   go_wp2_with fail
   refine HC5.out.mono ?_;rintro r w6 ⟨v',Ps,rfl,hQ⟩;have HQ:Hid (Q Ps v' w6):=hQ;clear hQ
   go_wp2_with fail
   go_ret
   exact⟨v',Ps,rfl,HQ.out⟩
end Go.Proofs.YtkjhhooecopolaaGreatDoor
namespace Go.Proofs
open Go.Shelf
def Tryz.sortPc_ren:Go.Shelf.Ren:=⟨fun |6=>156|15=>164|14=>199|28=>208|29=>209|20=>240|21=>241|22=>242|23=>243|24=>244|25=>245|26=>246|27=>247|46=>286|47=>249|48=>250|49=>287|50=>288|57=>304|n=>n,fun |22=>168|24=>171|25=>228|3=>3|39=>238|0=>0|53=>280|55=>282|4=>4|46=>274|45=>273|50=>70|5=>5|9=>9|66=>313|70=>317|76=>346|77=>172|n=>n,fun |n=>n⟩
theorem Tryz.sortPc:Go.Proofs.SlLaysF0.n6 Tryz.prog Tryz.sortPc_ren:={
 mixed:=by kernel_rfl
 f6:=⟨Tryz.f156.name,by decide,Tryz.func156.trans (au some (by kernel_rfl))⟩
 f14:=⟨Tryz.f199.name,by decide,Tryz.func199.trans (au some (by kernel_rfl))⟩
 f15:=Tryz.func164.trans (au some (by kernel_rfl))
 f20:=⟨Tryz.f240.name,by decide,Tryz.func240.trans (au some (by kernel_rfl))⟩
 f21:=⟨Tryz.f241.name,by decide,Tryz.func241.trans (au some (by kernel_rfl))⟩
 f22:=⟨Tryz.f242.name,by decide,Tryz.func242.trans (au some (by kernel_rfl))⟩
 f23:=⟨Tryz.f243.name,by decide,Tryz.func243.trans (au some (by kernel_rfl))⟩
 f24:=⟨Tryz.f244.name,by decide,Tryz.func244.trans (au some (by kernel_rfl))⟩
 f25:=⟨Tryz.f245.name,by decide,Tryz.func245.trans (au some (by kernel_rfl))⟩
 f26:=⟨Tryz.f246.name,by decide,Tryz.func246.trans (au some (by kernel_rfl))⟩
 f27:=⟨Tryz.f247.name,by decide,Tryz.func247.trans (au some (by kernel_rfl))⟩
 f28:=Tryz.func208.trans (au some (by kernel_rfl))
 f29:=Tryz.func209.trans (au some (by kernel_rfl))
 f46:=⟨Tryz.f286.name,by decide,Tryz.func286.trans (au some (by kernel_rfl))⟩
 f47:=Tryz.func249.trans (au some (by kernel_rfl))
 f48:=Tryz.func250.trans (au some (by kernel_rfl))
 f49:=⟨Tryz.f287.name,by decide,Tryz.func287.trans (au some (by kernel_rfl))⟩
 f50:=⟨Tryz.f288.name,by decide,Tryz.func288.trans (au some (by kernel_rfl))⟩
 f57:=⟨Tryz.f304.name,by decide,Tryz.func304.trans (au some (by kernel_rfl))⟩
 t0:=Tryz.underlying0
 a0:=Tryz.isAgg0
 z0:=Tryz.sizeOf0
 v0:=Tryz.zeroValue0
 t3:=Tryz.underlying3
 a3:=Tryz.isAgg3
 z3:=Tryz.sizeOf3
 v3:=Tryz.zeroValue3
 t4:=Tryz.underlying4
 a4:=Tryz.isAgg4
 z4:=Tryz.sizeOf4
 v4:=Tryz.zeroValue4
 t5:=Tryz.underlying5
 a5:=Tryz.isAgg5
 z5:=Tryz.sizeOf5
 v5:=Tryz.zeroValue5
 t9:=Tryz.underlying9
 a9:=Tryz.isAgg9
 z9:=Tryz.sizeOf9
 v9:=Tryz.zeroValue9
 t22:=Tryz.underlying168
 a22:=Tryz.isAgg168
 z22:=Tryz.sizeOf168
 v22:=Tryz.zeroValue168
 t25:=Tryz.underlying228
 a25:=Tryz.isAgg228
 z25:=Tryz.sizeOf228
 v25:=Tryz.zeroValue228
 t39:=Tryz.underlying238
 a39:=Tryz.isAgg238
 z39:=Tryz.sizeOf238
 v39:=Tryz.zeroValue238
 t45:=Tryz.underlying273
 a45:=Tryz.isAgg273
 z45:=Tryz.sizeOf273
 v45:=Tryz.zeroValue273
 t46:=Tryz.underlying274
 a46:=Tryz.isAgg274
 z46:=Tryz.sizeOf274
 v46:=Tryz.zeroValue274
 t50:=Tryz.underlying70
 a50:=Tryz.isAgg70
 z50:=Tryz.sizeOf70
 v50:=Tryz.zeroValue70
 t53:=Tryz.underlying280
 a53:=Tryz.isAgg280
 z53:=Tryz.sizeOf280
 v53:=Tryz.zeroValue280
 t55:=Tryz.underlying282
 a55:=Tryz.isAgg282
 z55:=Tryz.sizeOf282
 v55:=Tryz.zeroValue282
 t66:=Tryz.underlying313
 a66:=Tryz.isAgg313
 z66:=Tryz.sizeOf313
 v66:=Tryz.zeroValue313
 t70:=Tryz.underlying317
 a70:=Tryz.isAgg317
 z70:=Tryz.sizeOf317
 v70:=Tryz.zeroValue317
 t76:=Tryz.underlying346
 a76:=Tryz.isAgg346
 z76:=Tryz.sizeOf346
 v76:=Tryz.zeroValue346
 t77:=Tryz.underlying172
 a77:=Tryz.isAgg172
 z77:=Tryz.sizeOf172
 v77:=Tryz.zeroValue172}
end Go.Proofs
namespace Go.Proofs.YtkjhhooecopolaaGreatDoor
open Go.RowKit
def jx(x y:PB):Prop:=Ae x y<0
theorem Mz{a b:Ge.Nd}(ha:Ge.Can a)(hb:Ge.Can b):Ge.lt (Ge.ax a) (Ge.ax b)\/a=b\/Ge.lt (Ge.ax b) (Ge.ax a):=by
 by_cases h:Ge.lt (Ge.ax b) (Ge.ax a)
 ·exact ah (ah h)
 ·by_cases e:a=b
  ·exact ah (ag e)
  ·exact ag (Ge.zY ha hb h e)
theorem qJ{x y:PB}(hx:dh x)(hy:dh y):jx x y↔Ge.lt (Ge.ax x.f) (Ge.ax y.f)\/(x.f=y.f/\Ge.lt (Ge.ax x.t) (Ge.ax y.t)):=by
 unfold jx Ae bn Ge.lt;by_cases h:Ge.pc (Ge.ax x.f) (Ge.ax y.f)=0
 ·have e:=Ge.um hx.cf hy.cf h;rw[aj h];constructor
  ·exact fun k=>ah ⟨e,k⟩
  ·rintro(k|⟨_,k⟩)
   ·omega
   ·exact k
 ·rw[af h];constructor
  ·exact ag
  ·rintro(k|⟨e,_⟩)
   ·exact k
   ·exact absurd (by rw[e];exact Ge.xC _) h
theorem Vh{x y z:PB}(hx:dh x)(hy:dh y)(hz:dh z)(h1:jx x y)(h2:jx y z):jx x z:=by
 rw[qJ hx hy] at h1;rw[qJ hy hz] at h2;rw[qJ hx hz];rcases h1 with h1|⟨e1,h1⟩<;>rcases h2 with h2|⟨e2,h2⟩
 ·exact ag (Ge.lt_trans (Ge.df hx.cf) (Ge.df hy.cf) (Ge.df hz.cf) h1 h2)
 ·exact ag (by rw[<-e2];exact h1)
 ·exact ag (by rw[e1];exact h2)
 ·exact ah ⟨e1.trans e2,Ge.lt_trans (Ge.df hx.ct) (Ge.df hy.ct) (Ge.df hz.ct) h1 h2⟩
theorem MA{x y:PB}(hx:dh x)(hy:dh y):jx x y\/(x.f=y.f/\x.t=y.t)\/jx y x:=by
 rw[qJ hx hy,qJ hy hx];rcases Mz hx.cf hy.cf with h|h|h
 ·exact ag (ag h)
 ·rcases Mz hx.ct hy.ct with k|k|k
  ·exact ag (ah ⟨h,k⟩)
  ·exact ah (ag ⟨h,k⟩)
  ·exact ah (ah (ah ⟨h.symm,k⟩))
 ·exact ah (ah (ag h))
theorem Vi(x:PB):¬jx x x:=by
 unfold jx Ae bn;rw[aj (Ge.xC _),Ge.xC];decide
abbrev VP:={x:PB //dh x}
def jl(x:VP):List Value:=x.1.cells
def Ao(x y:VP):Int:=Ae x.1 y.1
theorem afE [Inhabited VP](blk off size:Nat)(w:World):CmpLays Tryz.prog 157 #[] jl 6 Ao blk off size w:=
 fun _ _ _ _ x y=>(aeV x.1 y.1 x.2 y.2 _).mono fun _ _⟨h1,h2,h3⟩=>⟨h1,IB h2 h3⟩
theorem IG{x y:VP}:ltOf Ao x y=true↔jx x.1 y.1:=by
 unfold ltOf Ao jx;exact pE
theorem DN{x y:VP}:ltOf Ao x y=false↔¬jx x.1 y.1:=by
 rw[<-IG];simp
theorem afF:Sort.SWO (ltOf Ao) where
 irrefl x:=DN.2 (Vi _)
 trans x y z h1 h2:=IG.2 (Vh x.2 y.2 z.2 (IG.1 h1) (IG.1 h2))
 ntrans x y z h1 h2:=DN.2 fun h=>by
  have k1:=DN.1 h1;have k2:=DN.1 h2;rcases MA x.2 y.2 with a|⟨a,b⟩|a
  ·exact k1 a
  ·refine k2 ?_;rw[qJ y.2 z.2,<-a,<-b,<-qJ x.2 z.2];exact h
  ·exact k2 (Vh y.2 x.2 z.2 a h)
theorem Vj:∀(L:List PB),(∀n∈L,dh n)->∃d:List VP,d.map Subtype.val=L
 |[],_=>⟨[],rfl⟩
 |n::L,h1=>by
  obtain⟨d,hd⟩:=Vj L (fun m hm=>h1 m (by simp[hm]))
  exact⟨⟨n,h1 n (by simp)⟩::d,by simp[hd]⟩
theorem IH:∀(l:List PB)(k:Nat)(e:PB),l[k]?=some e->∀j,j<6->(cV l)[k*6+j]?=e.cells[j]?
 |[],_,_,h,_,_=>by simp at h
 |q::r,0,e,h,j,hj=>by
  simp at h;subst h;have e1:cV (q::r)=q.cells++cV r:=by simp[cV]
  rw[e1,fC (by show _<6;omega)]
  simp
 |q::r,k+1,e,h,j,hj=>by
  have ih:=IH r k e (by simpa using h) j hj
  have e1:cV (q::r)=q.cells++cV r:=by simp[cV]
  have e0:q.cells.length=6:=rfl;rw[e1,n9 (by omega)]
  have e2:(k+1)*6+j-q.cells.length=k*6+j:=by omega
  rw[e2,ih]
theorem Vk [Inhabited VP](d:Array VP):(Sort.flatK jl 6 d).toList=cV (d.toList.map Subtype.val):=by
 apply Bw;intro t;by_cases ht:t<d.size*6
 ·have h1:t/6<d.size:=by omega
  have hx:(d.toList.map Subtype.val)[t/6]?=some (d[t/6]!).1:=by
   rw[gz,jb,nB h1,ik d _ h1];rfl
  have h2:=IH _ _ _ hx (t%6) (Ky _ (by decide))
  have e1:t/6*6+t%6=t:=by omega
  rw[e1] at h2;have h3:=Sort.get_flatK jl 6 d t ht;have hs:t<(Sort.flatK jl 6 d).size:=by rw[Sort.size_flatK];exact ht
  rw[ik (Sort.flatK jl 6 d) t hs] at h3;rw[h2,jb,nB hs,h3];have hl:t%6<(jl d[t/6]!).length:=Ky _ (by decide)
  rw[ik (jl d[t/6]!) (t%6) hl];exact(aC hl).symm
 ·rw[wX (by rw[iQ,Sort.size_flatK];omega),wX (by rw[Al];simp;omega)]
theorem afG [Inhabited VP](d':Array VP)(n:Nat)(os:Array Obj){wr:World}{g:Nat}{cur:Array Value}{t:TypeId}{fr:Nat×Nat}(hb:wr.heap[g]?=some (.cells cur t fr)):
  (sortWorldK jl 6 wr g 0 n d' os).heap[g]?=some (.cells (Sort.putCells id 0 (Sort.flatK jl 6 d') cur) t fr):=by
 have hg:=lt_of_heap hb;show((wr.heap.modify g (Sort.onCells (Sort.putCells id 0 (Sort.flatK jl 6 d'))))++os)[g]?=_;rw[FO (by simpa using hg),yV,aj rfl,hb]
 rfl
theorem afH [Inhabited VP](d':Array VP)(n:Nat)(os:Array Obj){wr:World}{g k:Nat}(hk:k<wr.heap.size)(hne:g≠k):
  (sortWorldK jl 6 wr g 0 n d' os).heap[k]?=wr.heap[k]?:=by
 show((wr.heap.modify g (Sort.onCells (Sort.putCells id 0 (Sort.flatK jl 6 d'))))++os)[k]?=_;rw[FO (by simpa using hk),yV,af hne]
theorem afI [Inhabited VP](d':Array VP)(n:Nat)(os:Array Obj)(wr:World)(g:Nat):wr.heap.size<=(sortWorldK jl 6 wr g 0 n d' os).heap.size:=by
 show _<=((wr.heap.modify g (Sort.onCells (Sort.putCells id 0 (Sort.flatK jl 6 d'))))++os).size;rw[abf,abg];omega
theorem afJ [Inhabited VP](w:World)(lv:Value)(L:List PB)(wr:World)(h:PL w lv L wr)(hv:∀x∈L,dh x)(hl:L.length<=85000000):
  Calls Tryz.prog 156 #[lv,.func (.func 157) #[] #[]] wr fun r w'=>r=.returned (.tuple #[])/\∃S,PL w lv S w'/\S.Perm L/\S.Pairwise (fun x y=>¬jx y x):=by
 obtain⟨hlen,ux⟩:=h.1;rcases ux with⟨rfl,h0⟩|⟨g,cap,cur,rfl,hg,hblk,hnc,hcm,hcs,htk⟩
 ·have hL:L=[]:=gF.1 h0;subst hL;refine(AnyF.slices_SortFunc_none Tryz.sortPc none 0 _ wr).mono ?_;rintro e w' ⟨rfl,rfl⟩;exact⟨rfl,[],h,FP _,List.Pairwise.nil⟩
 ·obtain⟨d,hd⟩:=Vj L hv;have hgl:g<wr.heap.size:=lt_of_heap hblk;have hsz:L.length=d.toArray.size:=by rw[<-hd];simp
  have hfl:(Sort.flatK jl 6 d.toArray).toList=cur.toList.take (L.length*6):=by rw[Vk,htk,<-hd]
  have hH:Sort.HoldsK jl 6 wr g 0 d.toArray:=by
   intro j hj;have hj':=hj;rw[Sort.size_flatK,<-hsz] at hj';have Mw:cur[j]?=some (Sort.flatK jl 6 d.toArray)[j]! :=by
    have e1:(Sort.flatK jl 6 d.toArray).toList[j]?=(cur.toList.take (L.length*6))[j]?:=by rw[hfl]
    rw[kj,aj hj',jb,jb,nB hj] at e1;rw[<-e1,ik (Sort.flatK jl 6 d.toArray) j hj]
   refine⟨?_,bw hblk _⟩;rw[ki];unfold World.cell?;rw[hblk];exact Mw
  have eg:∀args w,(callFunc 157 args).run Tryz.prog w=.ok (.enter 157 args) w:=enters_of Tryz.func157 (by kernel_rfl) rfl
  have hone:∀x:VP,∀v∈jl x,v.oneCell'=true:=fun x v hv=>by
   simp[jl,PB.cells] at hv;rcases hv with rfl|rfl|rfl|rfl|rfl|rfl<;>rfl
  have hcon:=AnyQ.slices_SortFunc Tryz.sortPc 6 Tryz.isAgg171 Tryz.sizeOf171 jl (fun _=>rfl) hone Ao afF 157 #[] g 0 cap d.toArray wr eg (afE _ _ _ _) hH hgl (by rw[<-hsz];omega)
  change Calls Tryz.prog 156 _ _ _ at hcon
  rw[<-hsz] at hcon;refine hcon.mono ?_;rintro e w' ⟨rfl,d',n,os,hp,hs,rfl⟩;obtain⟨hps,_,DK⟩:=hp;have hs1:d'.size=L.length:=by rw[hps,hsz]
  have hperm:d'.toList.Perm d:=by
   have e1:d'.extract 0 L.length=d':=by rw[<-hs1];exact KE
   have e2:d.toArray.extract 0 L.length=d.toArray:=by rw[hsz];exact KE
   rw[e1,e2] at DK;exact DK
  have vV:(d'.toList.map Subtype.val).length=L.length:=by simp[hs1]
  have hpm:(d'.toList.map Subtype.val).Perm L:=by rw[<-hd];exact hperm.map _
  refine⟨rfl,d'.toList.map Subtype.val,⟨⟨by rw[Al],ah ⟨g,cap,_,by rw[vV],hg,afG d' n os hblk,by rw[vV];exact hnc,hcm,?_,?_⟩⟩,?_⟩,hpm,?_⟩
  ·unfold Sort.putCells;rw[Qx];exact hcs
  ·have e1:(d'.toList.map Subtype.val).length*6=(Sort.flatK jl 6 d').size:=by rw[Sort.size_flatK,vV,hs1]
   rw[e1,U6 _ _ (by rw[Sort.size_flatK,hs1,hcs];omega),Vk]
  ·exact h.2.trans ⟨rfl,rfl,rfl,afI d' n os wr g,fun k hk=>afH d' n os (bu hk h.2.size) (by omega)⟩
  ·rw[lR,kE];intro i j hi hj hij;have hi':i<d'.size:=by simpa using hi
   have hj':j<d'.size:=by simpa using hj
   have hx:=hs i j (iD _) hij (by omega)
   rw[ik d' i hi',ik d' j hj'] at hx;exact DN.1 hx
end Go.Proofs.YtkjhhooecopolaaGreatDoor

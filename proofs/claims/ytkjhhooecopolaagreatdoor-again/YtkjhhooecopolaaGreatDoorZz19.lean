import Derived.Test.YtkjhhooecopolaaGreatDoorProg
import Derived.Test.YtkjhhooecopolaaGreatDoorZz18
set_option maxRecDepth 100000
set_option maxHeartbeats 4000000
namespace Go.Proofs
open Go.Shelf
def Tryz.sortNd_ren:Go.Shelf.Ren:=⟨fun |6=>124|15=>164|14=>181|28=>208|29=>209|20=>219|21=>220|22=>221|23=>222|24=>223|25=>224|26=>225|27=>226|46=>274|47=>249|48=>250|49=>275|50=>276|57=>297|n=>n,fun |22=>138|24=>83|25=>206|3=>3|39=>238|0=>0|53=>280|55=>282|4=>4|46=>274|45=>273|50=>70|5=>5|9=>9|66=>313|70=>317|76=>346|77=>172|n=>n,fun |n=>n⟩
theorem Tryz.sortNd:Go.Proofs.SlLaysF0.n6 Tryz.prog Tryz.sortNd_ren:={
 mixed:=by kernel_rfl
 f6:=⟨Tryz.f124.name,by decide,Tryz.func124.trans (aw some (by kernel_rfl))⟩
 f14:=⟨Tryz.f181.name,by decide,Tryz.func181.trans (aw some (by kernel_rfl))⟩
 f15:=Tryz.func164.trans (aw some (by kernel_rfl))
 f20:=⟨Tryz.f219.name,by decide,Tryz.func219.trans (aw some (by kernel_rfl))⟩
 f21:=⟨Tryz.f220.name,by decide,Tryz.func220.trans (aw some (by kernel_rfl))⟩
 f22:=⟨Tryz.f221.name,by decide,Tryz.func221.trans (aw some (by kernel_rfl))⟩
 f23:=⟨Tryz.f222.name,by decide,Tryz.func222.trans (aw some (by kernel_rfl))⟩
 f24:=⟨Tryz.f223.name,by decide,Tryz.func223.trans (aw some (by kernel_rfl))⟩
 f25:=⟨Tryz.f224.name,by decide,Tryz.func224.trans (aw some (by kernel_rfl))⟩
 f26:=⟨Tryz.f225.name,by decide,Tryz.func225.trans (aw some (by kernel_rfl))⟩
 f27:=⟨Tryz.f226.name,by decide,Tryz.func226.trans (aw some (by kernel_rfl))⟩
 f28:=Tryz.func208.trans (aw some (by kernel_rfl))
 f29:=Tryz.func209.trans (aw some (by kernel_rfl))
 f46:=⟨Tryz.f274.name,by decide,Tryz.func274.trans (aw some (by kernel_rfl))⟩
 f47:=Tryz.func249.trans (aw some (by kernel_rfl))
 f48:=Tryz.func250.trans (aw some (by kernel_rfl))
 f49:=⟨Tryz.f275.name,by decide,Tryz.func275.trans (aw some (by kernel_rfl))⟩
 f50:=⟨Tryz.f276.name,by decide,Tryz.func276.trans (aw some (by kernel_rfl))⟩
 f57:=⟨Tryz.f297.name,by decide,Tryz.func297.trans (aw some (by kernel_rfl))⟩
 t0:=Tryz.underlying0
 a0:=Tryz.isAgg0
 z0:=Tryz.sizeOf0
 v0:=Tryz.zeroValue0
 t3:=Tryz.underlying3
 a3:=Tryz.isAgg3
 z3:=Tryz.sizeOf3
 v3:=Tryz.zeroValue3
 t4:=Tryz.underlying4
 a4:=Tryz.isAgg4
 z4:=Tryz.sizeOf4
 v4:=Tryz.zeroValue4
 t5:=Tryz.underlying5
 a5:=Tryz.isAgg5
 z5:=Tryz.sizeOf5
 v5:=Tryz.zeroValue5
 t9:=Tryz.underlying9
 a9:=Tryz.isAgg9
 z9:=Tryz.sizeOf9
 v9:=Tryz.zeroValue9
 t22:=Tryz.underlying138
 a22:=Tryz.isAgg138
 z22:=Tryz.sizeOf138
 v22:=Tryz.zeroValue138
 t25:=Tryz.underlying206
 a25:=Tryz.isAgg206
 z25:=Tryz.sizeOf206
 v25:=Tryz.zeroValue206
 t39:=Tryz.underlying238
 a39:=Tryz.isAgg238
 z39:=Tryz.sizeOf238
 v39:=Tryz.zeroValue238
 t45:=Tryz.underlying273
 a45:=Tryz.isAgg273
 z45:=Tryz.sizeOf273
 v45:=Tryz.zeroValue273
 t46:=Tryz.underlying274
 a46:=Tryz.isAgg274
 z46:=Tryz.sizeOf274
 v46:=Tryz.zeroValue274
 t50:=Tryz.underlying70
 a50:=Tryz.isAgg70
 z50:=Tryz.sizeOf70
 v50:=Tryz.zeroValue70
 t53:=Tryz.underlying280
 a53:=Tryz.isAgg280
 z53:=Tryz.sizeOf280
 v53:=Tryz.zeroValue280
 t55:=Tryz.underlying282
 a55:=Tryz.isAgg282
 z55:=Tryz.sizeOf282
 v55:=Tryz.zeroValue282
 t66:=Tryz.underlying313
 a66:=Tryz.isAgg313
 z66:=Tryz.sizeOf313
 v66:=Tryz.zeroValue313
 t70:=Tryz.underlying317
 a70:=Tryz.isAgg317
 z70:=Tryz.sizeOf317
 v70:=Tryz.zeroValue317
 t76:=Tryz.underlying346
 a76:=Tryz.isAgg346
 z76:=Tryz.sizeOf346
 v76:=Tryz.zeroValue346
 t77:=Tryz.underlying172
 a77:=Tryz.isAgg172
 z77:=Tryz.sizeOf172
 v77:=Tryz.zeroValue172}
end Go.Proofs
namespace Go.Proofs.YtkjhhooecopolaaGreatDoor
open Go.RowKit
abbrev VN:={n:Ge.Nd //Ge.Can n/\cP n.1 n.2.1 n.2.2}
def iL(x:VN):List Value:=gu x.1
def zh(x y:VN):Int:=Ge.pc (Ge.au x.1) (Ge.au y.1)
theorem GK{w w':World}(h:Below w.heap.size w w')(hd:w.drawn<=w'.drawn):∃q os,w'=Sort.grow (w.drewN q) os:=by
 refine⟨w'.drawn-w.drawn,w'.heap.extract w.heap.size w'.heap.size,?_⟩;have hh:w'.heap=w.heap++w'.heap.extract w.heap.size w'.heap.size:=by
  apply Array.ext_getElem?;intro k;rw[Array.getElem?_append];split
  ·exact h.block k (by assumption)
  ·rename_i hk
   rw[Array.getElem?_extract];by_cases hlt:k<w'.heap.size
   ·rw[ah (by omega)]
    congr 1;omega
   ·rw[aa (by omega),z8 (by omega)]
 have e1:w.drawn+(w'.drawn-w.drawn)=w'.drawn:=by omega
 have h1:=h.os;have h2:=h.tape;have h3:=h.output;unfold Sort.grow World.drewN;rw[e1];show w'={heap:=w.heap++w'.heap.extract w.heap.size w'.heap.size,tape:=w.tape,drawn:=w'.drawn,os:=w.os,output:=w.output};rw[<-hh,<-h1,<-h2,<-h3]
theorem adV [Inhabited VN](blk off size:Nat)(w:World):CmpLays Tryz.prog 125 #[] iL 2 zh blk off size w:=
 fun _ _ _ _ x y=>(BO x.1 y.1 x.2.2 y.2.2 x.2.1 y.2.1 _).mono fun _ _⟨h1,h2,h3⟩=>⟨h1,GK h2 h3⟩
theorem GL{x y:VN}:ltOf zh x y=true↔Ge.lt (Ge.au x.1) (Ge.au y.1):=by
 unfold ltOf zh Ge.lt;exact qp
theorem CE{x y:VN}:ltOf zh x y=false↔¬Ge.lt (Ge.au x.1) (Ge.au y.1):=by
 rw[<-GL];simp
theorem adW:Sort.SWO (ltOf zh) where
 irrefl _x:=CE.2 (Ge.lt_irrefl _)
 trans x y z h1 h2:=GL.2 (Ge.lt_trans (Ge.cJ x.2.1) (Ge.cJ y.2.1) (Ge.cJ z.2.1) (GL.1 h1) (GL.1 h2))
 ntrans x y z h1 h2:=CE.2 fun h=>CE.1 h1 (Ge.lt_le_trans x.2.1 z.2.1 y.2.1 h (CE.1 h2))
theorem TP:∀(L:List Ge.Nd),(∀n∈L,Ge.Can n)->(∀n∈L,cP n.1 n.2.1 n.2.2)->∃d:List VN,d.map Subtype.val=L
 |[],_,_=>⟨[],rfl⟩
 |n::L,h1,h2=>by
  obtain⟨d,hd⟩:=TP L (fun m hm=>h1 m (by simp[hm])) (fun m hm=>h2 m (by simp[hm]))
  exact⟨⟨n,h1 n (by simp),h2 n (by simp)⟩::d,by simp[hd]⟩
theorem TQ [Inhabited VN](d:Array VN):(Sort.flatK iL 2 d).toList=cS (d.toList.map Subtype.val):=by
 apply zY;intro t;by_cases ht:t<d.size*2
 ·have h1:t/2<d.size:=by omega
  have hx:(d.toList.map Subtype.val)[t/2]?=some (d[t/2]!).1:=by
   rw[fR,iu,mf h1,gG d _ h1];rfl
  have h2:=BP _ _ _ hx (t%2) (Ji _ (by decide))
  have e1:t/2*2+t%2=t:=by omega
  rw[e1] at h2;have h3:=Sort.get_flatK iL 2 d t ht;have hs:t<(Sort.flatK iL 2 d).size:=by rw[Sort.size_flatK];exact ht
  rw[gG (Sort.flatK iL 2 d) t hs] at h3;rw[h2,iu,mf hs,h3];have hl:t%2<(iL d[t/2]!).length:=Ji _ (by decide)
  rw[gG (iL d[t/2]!) (t%2) hl];exact(aD hl).symm
 ·rw[vC (by rw[iw,Sort.size_flatK];omega),vC (by rw[Cg];simp;omega)]
theorem TU(F c:Array Value)(h:F.size<=c.size):(Sort.putCells id 0 F c).toList.take F.size=F.toList:=by
 apply zY;intro t;rw[jt];by_cases ht:t<F.size
 ·have h1:t<c.size:=by omega
  rw[ah ht,iu,iu];unfold Sort.putCells;rw[akq,mf h1,mf ht];simp[ht]
 ·rw[aa ht,iu,z8 (by omega)]
theorem adX [Inhabited VN](d':Array VN)(n:Nat)(os:Array Obj){wr:World}{g:Nat}{cur:Array Value}{t:TypeId}{fr:Nat×Nat}(hb:wr.heap[g]?=some (.cells cur t fr)):
  (sortWorldK iL 2 wr g 0 n d' os).heap[g]?=some (.cells (Sort.putCells id 0 (Sort.flatK iL 2 d') cur) t fr):=by
 have hg:=lt_of_heap hb;show((wr.heap.modify g (Sort.onCells (Sort.putCells id 0 (Sort.flatK iL 2 d'))))++os)[g]?=_;rw[Eu (by simpa using hg),xN,ah rfl,hb]
 rfl
theorem adY [Inhabited VN](d':Array VN)(n:Nat)(os:Array Obj){wr:World}{g k:Nat}(hk:k<wr.heap.size)(hne:g≠k):
  (sortWorldK iL 2 wr g 0 n d' os).heap[k]?=wr.heap[k]?:=by
 show((wr.heap.modify g (Sort.onCells (Sort.putCells id 0 (Sort.flatK iL 2 d'))))++os)[k]?=_;rw[Eu (by simpa using hk),xN,aa hne]
theorem adZ [Inhabited VN](d':Array VN)(n:Nat)(os:Array Obj)(wr:World)(g:Nat):wr.heap.size<=(sortWorldK iL 2 wr g 0 n d' os).heap.size:=by
 show _<=((wr.heap.modify g (Sort.onCells (Sort.putCells id 0 (Sort.flatK iL 2 d'))))++os).size;rw[ZF,ZG];omega
theorem ad0 [Inhabited VN](w:World)(lv:Value)(L:List Ge.Nd)(wr:World)(h:NL w lv L wr)(hl:L.length<=200000):
  Calls Tryz.prog 124 #[lv,.func (.func 125) #[] #[]] wr fun r w'=>r=.returned (.tuple #[])/\∃S,NL w lv S w'/\(∀n,n∈S↔n∈L)/\S.length=L.length/\S.Pairwise Ge.le:=by
 obtain⟨hlen,tD⟩:=h.own;rcases tD with⟨rfl,h0⟩|⟨g,cap,cur,rfl,hg,hblk,hnc,hcm,hcs,htk⟩
 ·have hL:L=[]:=fK.1 h0;subst hL;refine(AnyF.slices_SortFunc_none Tryz.sortNd none 0 _ wr).mono ?_;rintro e w' ⟨rfl,rfl⟩;exact⟨rfl,[],h,fun n=>zW,rfl,List.Pairwise.nil⟩
 ·obtain⟨d,hd⟩:=TP L h.can h.aF;have hgl:g<wr.heap.size:=lt_of_heap hblk;have hsz:L.length=d.toArray.size:=by rw[<-hd];simp
  have hfl:(Sort.flatK iL 2 d.toArray).toList=cur.toList.take (L.length*2):=by rw[TQ,htk,<-hd]
  have hH:Sort.HoldsK iL 2 wr g 0 d.toArray:=by
   intro j hj;have hj':=hj;rw[Sort.size_flatK,<-hsz] at hj';have Lm:cur[j]?=some (Sort.flatK iL 2 d.toArray)[j]! :=by
    have e1:(Sort.flatK iL 2 d.toArray).toList[j]?=(cur.toList.take (L.length*2))[j]?:=by rw[hfl]
    rw[jt,ah hj',iu,iu,mf hj] at e1;rw[<-e1,gG (Sort.flatK iL 2 d.toArray) j hj]
   refine⟨?_,aX hblk _⟩;rw[js];unfold World.cell?;rw[hblk];exact Lm
  have eg:∀args w,(callFunc 125 args).run Tryz.prog w=.ok (.enter 125 args) w:=enters_of Tryz.func125 (by kernel_rfl) rfl
  have hone:∀x:VN,∀v∈iL x,v.oneCell'=true:=fun x v hv=>by
   simp[iL,gu] at hv;rcases hv with rfl|rfl<;>rfl
  have hcon:=AnyQ.slices_SortFunc Tryz.sortNd 2 Tryz.isAgg83 Tryz.sizeOf83 iL (fun _=>rfl) hone zh adW 125 #[] g 0 cap d.toArray wr eg (adV _ _ _ _) hH hgl (by rw[<-hsz];omega)
  change Calls Tryz.prog 124 _ _ _ at hcon
  rw[<-hsz] at hcon;refine hcon.mono ?_;rintro e w' ⟨rfl,d',n,os,hp,hs,rfl⟩;obtain⟨hps,_,CF⟩:=hp;have hs1:d'.size=L.length:=by rw[hps,hsz]
  have hperm:d'.toList.Perm d:=by
   have e1:d'.extract 0 L.length=d':=by rw[<-hs1];exact Jo
   have e2:d.toArray.extract 0 L.length=d.toArray:=by rw[hsz];exact Jo
   rw[e1,e2] at CF;exact CF
  have uR:(d'.toList.map Subtype.val).length=L.length:=by simp[hs1]
  have hmem:∀m,m∈d'.toList.map Subtype.val↔m∈L:=fun m=>by
   rw[<-hd];simp only[bp];constructor
   ·rintro⟨x,hx,rfl⟩;exact⟨x,hperm.mem_iff.1 hx,rfl⟩
   ·rintro⟨x,hx,rfl⟩;exact⟨x,hperm.mem_iff.2 hx,rfl⟩
  refine⟨rfl,d'.toList.map Subtype.val,⟨⟨by rw[Cg],af ⟨g,cap,_,by rw[uR],hg,adX d' n os hblk,by rw[uR];exact hnc,hcm,?_,?_⟩⟩,?_,fun m hm=>h.can m ((hmem m).1 hm),fun m hm=>h.aF m ((hmem m).1 hm)⟩,hmem,uR,?_⟩
  ·unfold Sort.putCells;rw[O2];exact hcs
  ·have e1:(d'.toList.map Subtype.val).length*2=(Sort.flatK iL 2 d').size:=by rw[Sort.size_flatK,uR,hs1]
   rw[e1,TU _ _ (by rw[Sort.size_flatK,hs1,hcs];omega),TQ]
  ·exact h.below.trans ⟨rfl,rfl,rfl,adZ d' n os wr g,fun k hk=>adY d' n os (aZ hk h.below.size) (by omega)⟩
  ·rw[lZ,lF];intro i j hi hj hij;have hi':i<d'.size:=by simpa using hi
   have hj':j<d'.size:=by simpa using hj
   have hx:=hs i j (iq _) hij (by omega)
   rw[gG d' i hi',gG d' j hj'] at hx;exact CE.1 hx
theorem TV(es:List Ed)(v:Value)(w:World)(hR:fG w v es)(hl:es.length<=402)(hs:∀e∈es,dU e):
  Calls Tryz.prog 72 #[v] w fun e w'=>∃v' l,e=.returned v'/\fM w' v' l/\Below w.heap.size w w'/\l.map Ge.au=Ge.eO es/\(∀n∈l,cP n.1 n.2.1 n.2.2)/\l.length<=200000/\(∀n∈l,Ge.Can n):=by
 haveI:Inhabited VN:=⟨⟨(0,0,1),⟨by decide,by decide⟩,⟨by decide,by decide,by decide⟩⟩⟩
 exact adi es v w hR hl hs (fun lv L wr h1 h2=>ad0 w lv L wr h1 h2) (fun lv S wr h1 h2=>adU w lv S wr h1 h2)
namespace Ge
theorem Lp{k X:Int}(hk:k≠0):X.natAbs<=(k*X).natAbs:=by
 rw[l9];have:1<=k.natAbs:=by omega
 calc X.natAbs=1*X.natAbs:=(OL _).symm
  _<=k.natAbs*X.natAbs:=Eo _ this
theorem ad1(x y:Int){d:Int}(hd:d≠0):∃n:Nd,Can n/\au n=(aS x d,aS y d)/\n.1.natAbs<=x.natAbs/\n.2.1.natAbs<=y.natAbs/\n.2.2.natAbs<=d.natAbs:=by
 obtain⟨G,hG⟩:∃G,Int.gcd (Int.gcd x y:Nat) d=G:=⟨_,rfl⟩;have sJ:0<G:=by rw[<-hG];exact qI (by omega)
 have sW:(G:Int)∣(Int.gcd x y:Nat):=by rw[<-hG];exact vF _ _
 have dx:(G:Int)∣x:=vI sW (vF _ _);have dy:(G:Int)∣y:=vI sW (ub _ _);have dd:(G:Int)∣d:=by rw[<-hG];exact ub _ _
 have main:∀k:Int,k≠0->k.natAbs=G->k∣x->k∣y->k∣d->0<d.tdiv k->∃n:Nd,Can n/\au n=(aS x d,aS y d)/\n.1.natAbs<=x.natAbs/\n.2.1.natAbs<=y.natAbs/\n.2.2.natAbs<=d.natAbs:=by
  intro k k0 hk kx ky kd hp;have ex:=(qo kx).symm;have ey:=(qo ky).symm;have ed:=(qo kd).symm;obtain⟨h1,h2⟩:=Gh hd ex ey ed hp (by rw[hk,hG])
  refine⟨_,h1,h2,?_,?_,?_⟩
  ·have:=Lp (X:=x.tdiv k) k0;rw[<-ex] at this;exact this
  ·have:=Lp (X:=y.tdiv k) k0;rw[<-ey] at this;exact this
  ·have:=Lp (X:=d.tdiv k) k0;rw[<-ed] at this;exact this
 obtain⟨q,hq⟩:=dd;have uL:(0:Int)<G:=by omega
 rcases eD d 0 with h|h|h
 ·have hqn:q<0:=by
   rcases eD q 0 with h1|h1|h1
   ·exact h1
   ·rw[h1] at hq;omega
   ·have:=aR uL h1;omega
  refine main (-(G:Int)) (by omega) (by omega) (Int.neg_dvd.2 dx) (Int.neg_dvd.2 dy) (Int.neg_dvd.2 ⟨q,hq⟩) ?_
  have e:d= -(G:Int)*(-q):=by rw[xR];exact hq
  rw[e,akr _ (by omega)]
  omega
 ·exact absurd h hd
 ·have hqp:0<q:=by
   rcases eD q 0 with h1|h1|h1
   ·have:=tZ uL h1;omega
   ·rw[h1] at hq;omega
   ·exact h1
  refine main (G:Int) (by omega) (by omega) dx dy ⟨q,hq⟩ ?_
  rw[hq,akr _ (by omega)]
  exact hqp
end Ge
theorem ad3{es:List Ed}(hs:∀e∈es,dU e){n:Ge.Nd}(hc:Ge.Can n)(h:Ge.isNode es (Ge.au n)):ko n:=by
 have TW:∀a:Ge.Pt,small a.1->small a.2->Ge.au n=Ge.pt a->ko n:=fun a h1 h2 hq=>by
  have hc1:Ge.Can (a.1,a.2,1):=⟨by show(0:Int)<1;decide,by simp⟩
  have e:n=(a.1,a.2,1):=Ge.Gg hc hc1 (by rw[hq];unfold Ge.au Ge.pt;simp only[Ge.Fw])
  unfold small at h1 h2;rw[e];exact⟨by simp only;omega,by simp only;omega,by simp⟩
 rcases h with⟨e,he,h|h⟩|⟨e,he,f,hf,hcr,hq,_,_⟩
 ·exact TW e.1 (hs e he).a (hs e he).b h
 ·exact TW e.2 (hs e he).c (hs e he).d h
 ·obtain⟨m,hm,hmq,m1,m2,m3⟩:=Ge.ad1 (Ge.mX e f) (Ge.mY e f) hcr;have en:n=m:=Ge.Gg hc hm (by rw[hq,hmq];rfl)
  obtain⟨b1,b2,b3⟩:=RF (hs e he) (hs f hf);have hp:=hc.pos;rw[<-en] at m1 m2 m3;exact⟨by omega,by omega,by omega⟩
structure AP(es:List Ed)(l:List Ge.Nd)(L:List PB):Prop where
 mem:∀p∈L,∃e∈es,nO p.wa p.wb p.sh (Ge.gq (Ge.bX e))/\(p.f,p.t)∈Ge.nexts (Ge.held e l)
 all:∀e∈es,∀q∈Ge.nexts (Ge.held e l),∃p∈L,(p.f,p.t)=q
theorem AP.nil(l:List Ge.Nd):AP [] l []:=⟨fun p h=>by simp at h,fun e h=>by simp at h⟩
theorem AP.snoc{es:List Ed}{l:List Ge.Nd}{L:List PB}(h:AP es l L)(e:Ed){a b s:Nat}(hw:nO a b s (Ge.gq (Ge.bX e))):AP (es++[e]) l (L++dW a b s e l):=by
 refine⟨fun p hp=>?_,fun f hf q hq=>?_⟩
 ·rcases bT.1 hp with hp|hp
  ·obtain⟨f,hf,h1⟩:=h.mem p hp;exact⟨f,by simp[hf],h1⟩
  ·unfold dW at hp;obtain⟨q,hq,rfl⟩:=bp.1 hp;exact⟨e,by simp,hw,hq⟩
 ·rcases bT.1 hf with hf|hf
  ·obtain⟨p,hp,h1⟩:=h.all f hf q hq;exact⟨p,by simp[hp],h1⟩
  ·rw[bI.1 hf] at hq;exact⟨⟨a,b,s,q.1,q.2⟩,zU _ (bp.2 ⟨q,hq,rfl⟩),rfl⟩
theorem ad5{P:Program}{w:World}(base:Nat)(t ty e:TypeId)(i:TypeInfo)(size:Nat)(ht:P.underlying t=some (.slice e))(hi:P.info? e=some i)
  (v:Value)(n:Nat)(xs:List Value)(hown:w.ownsRow base e size v n xs)(xo:Option Addr)(c:Nat):
  (Builtin.append_ #[t,t] ty #[v,.slice xo 0 c]).run P w=.ok v w:=by
 rcases hown.2 with⟨rfl,rfl⟩|⟨g,cap,cur,rfl,_,_,hnc,_⟩
 ·cases xo<;>simp[Builtin.append_,run_underlying ht,sizeOf,typeInfo,hi,Builtin.lenOf,Builtin.firstCells,loadCells,loadCellsFrom]
 ·cases xo<;>simp[Builtin.append_,run_underlying ht,sizeOf,typeInfo,hi,Builtin.lenOf,Builtin.firstCells,hnc,storeCells,loadCells,loadCellsFrom]
theorem TY{P:Program}{w:World}{ops:Array Oper}{rest:List Oper}{o:Oper}{a:Act}{Q:Exit->Act->World->Prop}(hgd:o.guard=none)(s x:Operand)(t:TypeId)
  (ho:o.op=.call {callee:=.builtin .append,args:= #[s,x],argTypes:= #[t,t]})(base:Nat)(e:TypeId)(i:TypeInfo)(size:Nat)(ht:P.underlying t=some (.slice e))(hi:P.info? e=some i)
  (v:Value)(n:Nat)(xs:List Value)(hs:a.eval s=v)(hown:w.ownsRow base e size v n xs)(xo:Option Addr)(c:Nat)(hx:a.eval x=.slice xo 0 c)
  (h:wpList P ops Q rest (a.put o.dst v) w):wpList P ops Q (o::rest) a w:=
 wpList_plain hgd fun _ hK=>by
  have hr:=ad5 (P:=P) (w:=w) base t o.type e i size ht hi v n xs hown xo c;unfold Oper.wp execOp;simp only[ho,resolve,invoke,builtin,Sem.run_bind,Sem.run_pure,Result.andThen_ok,List.map_toArray,iE,OM,hs,hx,hr];exact hK _ _ h
theorem ad6{w w':World}{v:Value}{l:List Ge.Nd}(h:fM w v l)(hb:Below w.heap.size w w'):fM w' v l:=Rz h fun k _cur hc=>hb.block k (lt_of_heap hc)
theorem TZ(l:List PB):∀u∈cE l,u.oneCell'=true:=by
 intro u hu;obtain⟨x,_,h⟩:=qf.1 hu;simp[PB.cells] at h;rcases h with rfl|rfl|rfl|rfl|rfl|rfl<;>rfl
theorem PL.fresh{w:World}{v:Value}{L:List PB}{wr:World}(h:PL w v L wr)(hL:0<L.length):∃g cap,v=.slice (some ⟨g,0,none⟩) L.length cap/\w.heap.size<=g/\∀j u,(cE L)[j]?=some u->wr.cell? ((⟨g,0,none⟩:Addr).add j)=some u:=by
 rcases h.1.2 with⟨_,h0⟩|⟨g,cap,cur,hv,hg,hr⟩
 ·omega
 ·exact⟨g,cap,hv,hg,h.1.cells (by rw[hv];rfl)⟩
theorem ad7(a b:List PB):cE (a++b)=cE a++cE b:=by simp[cE]
theorem zi(l:List PB):(cE l).length=l.length*6:=by
 induction l with
 |nil=>rfl
 |cons x r ih=>
  have e:cE (x::r)=x.cells++cE r:=by simp[cE]
  rw[e,aT,ih,cG];show 6+_=_;omega
theorem ad8(es:List Ed)(v:Value)(w:World)(hR:fG w v es)(hl:es.length<=402)(hs:∀e∈es,dU e)
  (Q:List PB->Value->World->Prop)
  (HS:Hid (∀l,l.map Ge.au=Ge.eO es->(∀n∈l,Ge.Can n)->∀lv L wr,PL w lv L wr->AP es l L->L.length<=85000000->Calls Tryz.prog 156 #[lv,.func (.func 157) #[] #[]] wr fun r w'=>r=.returned (.tuple #[])/\Calls Tryz.prog 158 #[lv,.func (.func 159) #[] #[]] w' fun r w''=>∃v' Ps,r=.returned v'/\Q Ps v' w'')):
  Calls Tryz.prog 104 #[v] w fun r w'=>∃v' Ps,r=.returned v'/\Q Ps v' w':=by
 obtain⟨so,cap,rfl⟩:=Bg hR;obtain⟨i0,hi,hz0,hz1,hz2⟩:=info_parts Tz;have HR:Hid (fG w (.slice so es.length cap) es):=hR;have HN:Hid (Calls Tryz.prog 72 #[.slice so es.length cap] w fun e w'=>∃v' l,e=.returned v'/\fM w' v' l/\Below w.heap.size w w'/\l.map Ge.au=Ge.eO es/\(∀n∈l,cP n.1 n.2.1 n.2.2)/\l.length<=200000/\(∀n∈l,Ge.Can n)):=TV es _ w hR hl hs
 have HSE:Hid (∀e∈es,dU e):=hs;clear hR hs
 go_enter Tryz.func104,Tryz.ntmps104
 go_wp2_with fail
 refine HN.out.mono ?_;rintro r w1 ⟨nv,l,rfl,mG,hb1,jX,hin,hll,jo⟩;obtain⟨ns,nc,rfl⟩:=BR mG;have T4:Hid (fM w1 (.slice ns l.length nc) l):=mG;have HNI:Hid (∀n∈l,cP n.1 n.2.1 n.2.2):=hin;have T5:Hid (l.map Ge.au=Ge.eO es/\(∀n∈l,Ge.Can n)):=⟨jX,jo⟩;clear mG hin jX jo HN;have bH:Hid (∃L,PL w (.slice none 0 0) L w1/\(∀k,(Value.slice none 0 0).ownBlock=some k->w1.heap.size<=k)/\Below w1.heap.size w1 w1/\AP (es.take 0) l L/\L.length<=0):=⟨[],⟨World.ownsRow_nil _ _ _ _,hb1⟩,(fun k h=>by cases h),Below.refl _ _,by simpa using AP.nil l,by simp⟩
 go_wp2_with fail
 go_loopg [4,11] es.length (fun m lv iv wr=>∃k:Nat,k+m=es.length/\iv=.int .i64 k/\Hid (∃L,PL w lv L wr/\(∀k,lv.ownBlock=some k->w1.heap.size<=k)/\Below w1.heap.size w1 wr/\AP (es.take k) l L/\L.length<=k*200000))
 case atStart=>exact⟨0,by omega,rfl,by simpa using bH⟩
 case round=>
  obtain⟨k,hkn,rfl,HE⟩:=hrel;clear bH;by_cases hlt:k<es.length
  ·obtain⟨L,tE,gK,ov,pO,jn⟩:=HE.out;have Lq:Hid (∀k,u4.ownBlock=some k->w1.heap.size<=k):=gK;have hLk:L.length<=(k+1)*200000:=dY jn (Eo _ (mb k));obtain⟨e,kP⟩:∃e,es[k]?=some e:=⟨_,aD hlt⟩;obtain⟨b,x,rfl,hb,hok,c0,c1,c2,c3⟩:=Bh HR.out kP;have aj:=tE.2;have r0:=(aj.cell (p:=⟨b,k*4,none⟩) hb).trans c0;have r1:=(aj.cell (p:=⟨b,k*4+1,none⟩) hb).trans c1;have r2:=(aj.cell (p:=⟨b,k*4+2,none⟩) hb).trans c2;have r3:=(aj.cell (p:=⟨b,k*4+3,none⟩) hb).trans c3;have hbr:b<wr.heap.size:=aZ hb aj.size;have ez:(k:Int)<(es.length:Int):=by omega
   have hmem:=bh kP;have ic:=HSE.out e hmem;obtain⟨ra,rb,rs,hfl,oG⟩:=ac4 (l:=Ge.bX e) (a:=x.wa) (b:=x.wb) (s:=x.sh) ⟨hok.wa,hok.wb,hok.sh⟩;have GM:Hid (AP (es.take (k+1)) l (L++dW ra rb rs e l)):=by
    have htk:es.take (k+1)=es.take k++[e]:=by rw[jh,kP];rfl
    rw[htk];exact pO.snoc e hfl
   have hcl:=TC ra rb rs e l;have za:Hid (∀v' w',fM w' v' l->Calls Tryz.prog 155 #[.agg #[.complex .f64 x.wa x.wb,.float .f64 x.sh,.complex .f64 x.fa x.fb,.complex .f64 x.ta x.tb],v'] w' fun r w''=>∃v'',r=.returned v''/\PL w' v'' (dW ra rb rs e l) w''):=fun v' w' hv=>adE x e l v' w' hok ic hv HNI.out hll oG
   obtain⟨wa,wb,sh,fa,fb,ta,tb⟩:=x;simp only at r0 r1 r2 r3 za;have zj:Hid (PL w u4 L wr):=tE;have T6:fM (wr.alloc (.cells #[.complex .f64 wa wb,.float .f64 sh,.complex .f64 fa fb,.complex .f64 ta tb] 124)) (.slice ns l.length nc) l:=ad6 T4.out (ov.alloc ov.size _);have T7:Hid (fM (wr.alloc (.cells #[.complex .f64 wa wb,.float .f64 sh,.complex .f64 fa fb,.complex .f64 ta tb] 124)) (.slice ns l.length nc) l):=T6;have hb0:Below wr.heap.size wr (wr.alloc (.cells #[.complex .f64 wa wb,.float .f64 sh,.complex .f64 fa fb,.complex .f64 ta tb] 124)):=(Below.refl _ _).alloc (ax _) _;clear c0 c1 c2 c3 kP hok ic hmem oG hfl pO tE T6 HE
   go_wp2_with (simp only[eK,lO];go_simp)
   generalize wr.alloc (.cells #[.complex .f64 wa wb,.float .f64 sh,.complex .f64 fa fb,.complex .f64 ta tb] 124)=W0 at*;refine(za.out _ _ T7.out).mono ?_;rintro r w2 ⟨cv,rfl,hC⟩;have hb2:Below wr.heap.size wr w2:=hb0.trans (hC.2.mono hb0.size);have iM:w2.ownsRow w.heap.size 171 6 u4 L.length (cE L):=aO zj.out.1 fun k hk=>hb2.block k (aB zj.out.1 k hk).2
   have wL:Below w.heap.size w w2:=aj.trans (hb2.mono aj.size);have GN:Below w1.heap.size w1 w2:=ov.trans (hb2.mono ov.size);clear r0 r1 r2 r3 hb0 za T7;by_cases hc0:0<(dW ra rb rs e l).length
   ·obtain⟨g,cp,rfl,hg,hcells⟩:=hC.fresh hc0;have hone:=TZ (dW ra rb rs e l);have hrl:=zi (dW ra rb rs e l);generalize hCL:dW ra rb rs e l=C at*
    go_wp2_with (at_builtin;refine wpList_append_lies _ rfl (.tmp 15) (.tmp 18) 168 rfl w.heap.size 171 i0 _ 6 72 Tryz.underlying168 hi hz0 hz1 hz2 rfl (by decide) u4 L.length (cE L) rfl iM ⟨g,0,none⟩ C.length cp (cE C) rfl hrl hcells hone hc0 (by unfold maxLen;omega) (by omega) wL.size w2.heap.size rfl ?_;intro g' cap' w8 cD bf fU oF)
    have bW:Hid (∃L',PL w (.slice (some ⟨g',0,none⟩) (L.length+C.length) cap') L' w8/\(∀k,(Value.slice (some ⟨g',0,none⟩) (L.length+C.length) cap').ownBlock=some k->w1.heap.size<=k)/\Below w1.heap.size w1 w8/\AP (es.take (k+1)) l L'/\L'.length<=(k+1)*200000):=by
     refine⟨L++C,⟨?_,wL.grown bf wL.size (fun k hk=>(aB iM k hk).1)⟩,fun k hk=>?_,GN.grown bf GN.size (fun k hk=>Lq.out k hk),GM.out,?_⟩
     ·rw[ad7,aT];exact cD
     ·injection hk with hk;subst hk;rcases fU with h8|h8
      ·exact Lq.out _ h8
      ·show w1.heap.size<=g';rw[h8];exact GN.size
     ·rw[aT,Es,OL];omega
    clear bf cD iM hcells hone hrl hC zj GM
    go_wp2_with fail
    go_roundg (gk-1)
    case measure=>omega
    case rel=>exact⟨k+1,by omega,by go_num,bW⟩
   ·have T8:(dW ra rb rs e l).length=0:=by omega
    have T9:dW ra rb rs e l=[]:=fK.1 T8;obtain⟨xo,xc,rfl⟩:∃xo xc,cv=.slice xo 0 xc:=by
     rcases hC.1.2 with⟨hv,_⟩|⟨gg,cc,cur,hv,_⟩
     ·exact⟨none,0,hv⟩
     ·exact⟨_,cc,by rw[hv,T8]⟩
    have bW:Hid (∃L',PL w u4 L' w2/\(∀k,u4.ownBlock=some k->w1.heap.size<=k)/\Below w1.heap.size w1 w2/\AP (es.take (k+1)) l L'/\L'.length<=(k+1)*200000):=by
     have h:=GM.out;rw[T9,qg] at h;exact⟨L,⟨iM,wL⟩,Lq.out,GN,h,hLk⟩
    clear hC zj GM T9
    go_wp2_with (at_builtin;refine TY rfl (.tmp 15) (.tmp 18) 168 rfl w.heap.size 171 i0 6 Tryz.underlying168 hi u4 L.length (cE L) rfl iM xo xc rfl ?_)
    go_roundg (gk-1)
    case measure=>omega
    case rel=>exact⟨k+1,by omega,by go_num,bW⟩
  ·have hk:k=es.length:=by omega
   subst hk;obtain⟨L,tE,_,ov,pO,jn⟩:=HE.out;rw[fg] at pO;have HC:=HS.out l T5.out.1 T5.out.2 _ L _ tE pO (by omega)
   have CG:Hid (Calls Tryz.prog 156 #[u4,.func (.func 157) #[] #[]] wr fun r w'=>r=.returned (.tuple #[])/\Calls Tryz.prog 158 #[u4,.func (.func 159) #[] #[]] w' fun r w''=>∃v' Ps,r=.returned v'/\Q Ps v' w''):=HC
   clear HC HS HE tE pO HR T4
   go_wp2_with fail
   refine CG.out.mono ?_;rintro r w5 ⟨rfl,Ua⟩;have HC5:Hid (Calls Tryz.prog 158 #[u4,.func (.func 159) #[] #[]] w5 fun r w''=>∃v' Ps,r=.returned v'/\Q Ps v' w''):=Ua
   clear Ua CG
   go_wp2_with fail
   refine HC5.out.mono ?_;rintro r w6 ⟨v',Ps,rfl,hQ⟩;have HQ:Hid (Q Ps v' w6):=hQ;clear hQ
   go_wp2_with fail
   go_ret
   exact⟨v',Ps,rfl,HQ.out⟩
end Go.Proofs.YtkjhhooecopolaaGreatDoor
namespace Go.Proofs
open Go.Shelf
def Tryz.sortPc_ren:Go.Shelf.Ren:=⟨fun |6=>156|15=>164|14=>199|28=>208|29=>209|20=>240|21=>241|22=>242|23=>243|24=>244|25=>245|26=>246|27=>247|46=>286|47=>249|48=>250|49=>287|50=>288|57=>304|n=>n,fun |22=>168|24=>171|25=>228|3=>3|39=>238|0=>0|53=>280|55=>282|4=>4|46=>274|45=>273|50=>70|5=>5|9=>9|66=>313|70=>317|76=>346|77=>172|n=>n,fun |n=>n⟩
theorem Tryz.sortPc:Go.Proofs.SlLaysF0.n6 Tryz.prog Tryz.sortPc_ren:={
 mixed:=by kernel_rfl
 f6:=⟨Tryz.f156.name,by decide,Tryz.func156.trans (aw some (by kernel_rfl))⟩
 f14:=⟨Tryz.f199.name,by decide,Tryz.func199.trans (aw some (by kernel_rfl))⟩
 f15:=Tryz.func164.trans (aw some (by kernel_rfl))
 f20:=⟨Tryz.f240.name,by decide,Tryz.func240.trans (aw some (by kernel_rfl))⟩
 f21:=⟨Tryz.f241.name,by decide,Tryz.func241.trans (aw some (by kernel_rfl))⟩
 f22:=⟨Tryz.f242.name,by decide,Tryz.func242.trans (aw some (by kernel_rfl))⟩
 f23:=⟨Tryz.f243.name,by decide,Tryz.func243.trans (aw some (by kernel_rfl))⟩
 f24:=⟨Tryz.f244.name,by decide,Tryz.func244.trans (aw some (by kernel_rfl))⟩
 f25:=⟨Tryz.f245.name,by decide,Tryz.func245.trans (aw some (by kernel_rfl))⟩
 f26:=⟨Tryz.f246.name,by decide,Tryz.func246.trans (aw some (by kernel_rfl))⟩
 f27:=⟨Tryz.f247.name,by decide,Tryz.func247.trans (aw some (by kernel_rfl))⟩
 f28:=Tryz.func208.trans (aw some (by kernel_rfl))
 f29:=Tryz.func209.trans (aw some (by kernel_rfl))
 f46:=⟨Tryz.f286.name,by decide,Tryz.func286.trans (aw some (by kernel_rfl))⟩
 f47:=Tryz.func249.trans (aw some (by kernel_rfl))
 f48:=Tryz.func250.trans (aw some (by kernel_rfl))
 f49:=⟨Tryz.f287.name,by decide,Tryz.func287.trans (aw some (by kernel_rfl))⟩
 f50:=⟨Tryz.f288.name,by decide,Tryz.func288.trans (aw some (by kernel_rfl))⟩
 f57:=⟨Tryz.f304.name,by decide,Tryz.func304.trans (aw some (by kernel_rfl))⟩
 t0:=Tryz.underlying0
 a0:=Tryz.isAgg0
 z0:=Tryz.sizeOf0
 v0:=Tryz.zeroValue0
 t3:=Tryz.underlying3
 a3:=Tryz.isAgg3
 z3:=Tryz.sizeOf3
 v3:=Tryz.zeroValue3
 t4:=Tryz.underlying4
 a4:=Tryz.isAgg4
 z4:=Tryz.sizeOf4
 v4:=Tryz.zeroValue4
 t5:=Tryz.underlying5
 a5:=Tryz.isAgg5
 z5:=Tryz.sizeOf5
 v5:=Tryz.zeroValue5
 t9:=Tryz.underlying9
 a9:=Tryz.isAgg9
 z9:=Tryz.sizeOf9
 v9:=Tryz.zeroValue9
 t22:=Tryz.underlying168
 a22:=Tryz.isAgg168
 z22:=Tryz.sizeOf168
 v22:=Tryz.zeroValue168
 t25:=Tryz.underlying228
 a25:=Tryz.isAgg228
 z25:=Tryz.sizeOf228
 v25:=Tryz.zeroValue228
 t39:=Tryz.underlying238
 a39:=Tryz.isAgg238
 z39:=Tryz.sizeOf238
 v39:=Tryz.zeroValue238
 t45:=Tryz.underlying273
 a45:=Tryz.isAgg273
 z45:=Tryz.sizeOf273
 v45:=Tryz.zeroValue273
 t46:=Tryz.underlying274
 a46:=Tryz.isAgg274
 z46:=Tryz.sizeOf274
 v46:=Tryz.zeroValue274
 t50:=Tryz.underlying70
 a50:=Tryz.isAgg70
 z50:=Tryz.sizeOf70
 v50:=Tryz.zeroValue70
 t53:=Tryz.underlying280
 a53:=Tryz.isAgg280
 z53:=Tryz.sizeOf280
 v53:=Tryz.zeroValue280
 t55:=Tryz.underlying282
 a55:=Tryz.isAgg282
 z55:=Tryz.sizeOf282
 v55:=Tryz.zeroValue282
 t66:=Tryz.underlying313
 a66:=Tryz.isAgg313
 z66:=Tryz.sizeOf313
 v66:=Tryz.zeroValue313
 t70:=Tryz.underlying317
 a70:=Tryz.isAgg317
 z70:=Tryz.sizeOf317
 v70:=Tryz.zeroValue317
 t76:=Tryz.underlying346
 a76:=Tryz.isAgg346
 z76:=Tryz.sizeOf346
 v76:=Tryz.zeroValue346
 t77:=Tryz.underlying172
 a77:=Tryz.isAgg172
 z77:=Tryz.sizeOf172
 v77:=Tryz.zeroValue172}
end Go.Proofs
namespace Go.Proofs.YtkjhhooecopolaaGreatDoor
open Go.RowKit
def iZ(x y:PB):Prop:=y8 x y<0
theorem Lr{a b:Ge.Nd}(ha:Ge.Can a)(hb:Ge.Can b):Ge.lt (Ge.au a) (Ge.au b)\/a=b\/Ge.lt (Ge.au b) (Ge.au a):=by
 by_cases h:Ge.lt (Ge.au b) (Ge.au a)
 ·exact af (af h)
 ·by_cases e:a=b
  ·exact af (ae e)
  ·exact ae (Ge.yT ha hb h e)
theorem pP{x y:PB}(hx:cK x)(hy:cK y):iZ x y↔Ge.lt (Ge.au x.f) (Ge.au y.f)\/(x.f=y.f/\Ge.lt (Ge.au x.t) (Ge.au y.t)):=by
 unfold iZ y8 aY Ge.lt;by_cases h:Ge.pc (Ge.au x.f) (Ge.au y.f)=0
 ·have e:=Ge.sU hx.cf hy.cf h;rw[ah h];constructor
  ·exact fun k=>af ⟨e,k⟩
  ·rintro(k|⟨_,k⟩)
   ·omega
   ·exact k
 ·rw[aa h];constructor
  ·exact ae
  ·rintro(k|⟨e,_⟩)
   ·exact k
   ·exact absurd (by rw[e];exact Ge.wu _) h
theorem Ub{x y z:PB}(hx:cK x)(hy:cK y)(hz:cK z)(h1:iZ x y)(h2:iZ y z):iZ x z:=by
 rw[pP hx hy] at h1;rw[pP hy hz] at h2;rw[pP hx hz];rcases h1 with h1|⟨e1,h1⟩<;>rcases h2 with h2|⟨e2,h2⟩
 ·exact ae (Ge.lt_trans (Ge.cJ hx.cf) (Ge.cJ hy.cf) (Ge.cJ hz.cf) h1 h2)
 ·exact ae (by rw[<-e2];exact h1)
 ·exact ae (by rw[e1];exact h2)
 ·exact af ⟨e1.trans e2,Ge.lt_trans (Ge.cJ hx.ct) (Ge.cJ hy.ct) (Ge.cJ hz.ct) h1 h2⟩
theorem Ls{x y:PB}(hx:cK x)(hy:cK y):iZ x y\/(x.f=y.f/\x.t=y.t)\/iZ y x:=by
 rw[pP hx hy,pP hy hx];rcases Lr hx.cf hy.cf with h|h|h
 ·exact ae (ae h)
 ·rcases Lr hx.ct hy.ct with k|k|k
  ·exact ae (af ⟨h,k⟩)
  ·exact af (ae ⟨h,k⟩)
  ·exact af (af (af ⟨h.symm,k⟩))
 ·exact af (af (ae h))
theorem Uc(x:PB):¬iZ x x:=by
 unfold iZ y8 aY;rw[ah (Ge.wu _),Ge.wu];decide
abbrev VP:={x:PB //cK x}
def iN(x:VP):List Value:=x.1.cells
def zk(x y:VP):Int:=y8 x.1 y.1
theorem aed [Inhabited VP](blk off size:Nat)(w:World):CmpLays Tryz.prog 157 #[] iN 6 zk blk off size w:=
 fun _ _ _ _ x y=>(ads x.1 y.1 x.2 y.2 _).mono fun _ _⟨h1,h2,h3⟩=>⟨h1,GK h2 h3⟩
theorem GP{x y:VP}:ltOf zk x y=true↔iZ x.1 y.1:=by
 unfold ltOf zk iZ;exact qp
theorem CH{x y:VP}:ltOf zk x y=false↔¬iZ x.1 y.1:=by
 rw[<-GP];simp
theorem aee:Sort.SWO (ltOf zk) where
 irrefl x:=CH.2 (Uc _)
 trans x y z h1 h2:=GP.2 (Ub x.2 y.2 z.2 (GP.1 h1) (GP.1 h2))
 ntrans x y z h1 h2:=CH.2 fun h=>by
  have k1:=CH.1 h1;have k2:=CH.1 h2;rcases Ls x.2 y.2 with a|⟨a,b⟩|a
  ·exact k1 a
  ·refine k2 ?_;rw[pP y.2 z.2,<-a,<-b,<-pP x.2 z.2];exact h
  ·exact k2 (Ub y.2 x.2 z.2 a h)
theorem Ud:∀(L:List PB),(∀n∈L,cK n)->∃d:List VP,d.map Subtype.val=L
 |[],_=>⟨[],rfl⟩
 |n::L,h1=>by
  obtain⟨d,hd⟩:=Ud L (fun m hm=>h1 m (by simp[hm]))
  exact⟨⟨n,h1 n (by simp)⟩::d,by simp[hd]⟩
theorem GQ:∀(l:List PB)(k:Nat)(e:PB),l[k]?=some e->∀j,j<6->(cE l)[k*6+j]?=e.cells[j]?
 |[],_,_,h,_,_=>by simp at h
 |q::r,0,e,h,j,hj=>by
  simp at h;subst h;have e1:cE (q::r)=q.cells++cE r:=by simp[cE]
  rw[e1,eG (by show _<6;omega)]
  simp
 |q::r,k+1,e,h,j,hj=>by
  have ih:=GQ r k e (by simpa using h) j hj
  have e1:cE (q::r)=q.cells++cE r:=by simp[cE]
  have e0:q.cells.length=6:=rfl;rw[e1,mW (by omega)]
  have e2:(k+1)*6+j-q.cells.length=k*6+j:=by omega
  rw[e2,ih]
theorem Ue [Inhabited VP](d:Array VP):(Sort.flatK iN 6 d).toList=cE (d.toList.map Subtype.val):=by
 apply zY;intro t;by_cases ht:t<d.size*6
 ·have h1:t/6<d.size:=by omega
  have hx:(d.toList.map Subtype.val)[t/6]?=some (d[t/6]!).1:=by
   rw[fR,iu,mf h1,gG d _ h1];rfl
  have h2:=GQ _ _ _ hx (t%6) (Ji _ (by decide))
  have e1:t/6*6+t%6=t:=by omega
  rw[e1] at h2;have h3:=Sort.get_flatK iN 6 d t ht;have hs:t<(Sort.flatK iN 6 d).size:=by rw[Sort.size_flatK];exact ht
  rw[gG (Sort.flatK iN 6 d) t hs] at h3;rw[h2,iu,mf hs,h3];have hl:t%6<(iN d[t/6]!).length:=Ji _ (by decide)
  rw[gG (iN d[t/6]!) (t%6) hl];exact(aD hl).symm
 ·rw[vC (by rw[iw,Sort.size_flatK];omega),vC (by rw[zi];simp;omega)]
theorem aef [Inhabited VP](d':Array VP)(n:Nat)(os:Array Obj){wr:World}{g:Nat}{cur:Array Value}{t:TypeId}{fr:Nat×Nat}(hb:wr.heap[g]?=some (.cells cur t fr)):
  (sortWorldK iN 6 wr g 0 n d' os).heap[g]?=some (.cells (Sort.putCells id 0 (Sort.flatK iN 6 d') cur) t fr):=by
 have hg:=lt_of_heap hb;show((wr.heap.modify g (Sort.onCells (Sort.putCells id 0 (Sort.flatK iN 6 d'))))++os)[g]?=_;rw[Eu (by simpa using hg),xN,ah rfl,hb]
 rfl
theorem aeg [Inhabited VP](d':Array VP)(n:Nat)(os:Array Obj){wr:World}{g k:Nat}(hk:k<wr.heap.size)(hne:g≠k):
  (sortWorldK iN 6 wr g 0 n d' os).heap[k]?=wr.heap[k]?:=by
 show((wr.heap.modify g (Sort.onCells (Sort.putCells id 0 (Sort.flatK iN 6 d'))))++os)[k]?=_;rw[Eu (by simpa using hk),xN,aa hne]
theorem aeh [Inhabited VP](d':Array VP)(n:Nat)(os:Array Obj)(wr:World)(g:Nat):wr.heap.size<=(sortWorldK iN 6 wr g 0 n d' os).heap.size:=by
 show _<=((wr.heap.modify g (Sort.onCells (Sort.putCells id 0 (Sort.flatK iN 6 d'))))++os).size;rw[ZF,ZG];omega
theorem aei [Inhabited VP](w:World)(lv:Value)(L:List PB)(wr:World)(h:PL w lv L wr)(hv:∀x∈L,cK x)(hl:L.length<=85000000):
  Calls Tryz.prog 156 #[lv,.func (.func 157) #[] #[]] wr fun r w'=>r=.returned (.tuple #[])/\∃S,PL w lv S w'/\S.Perm L/\S.Pairwise (fun x y=>¬iZ y x):=by
 obtain⟨hlen,tD⟩:=h.1;rcases tD with⟨rfl,h0⟩|⟨g,cap,cur,rfl,hg,hblk,hnc,hcm,hcs,htk⟩
 ·have hL:L=[]:=fK.1 h0;subst hL;refine(AnyF.slices_SortFunc_none Tryz.sortPc none 0 _ wr).mono ?_;rintro e w' ⟨rfl,rfl⟩;exact⟨rfl,[],h,Jp _,List.Pairwise.nil⟩
 ·obtain⟨d,hd⟩:=Ud L hv;have hgl:g<wr.heap.size:=lt_of_heap hblk;have hsz:L.length=d.toArray.size:=by rw[<-hd];simp
  have hfl:(Sort.flatK iN 6 d.toArray).toList=cur.toList.take (L.length*6):=by rw[Ue,htk,<-hd]
  have hH:Sort.HoldsK iN 6 wr g 0 d.toArray:=by
   intro j hj;have hj':=hj;rw[Sort.size_flatK,<-hsz] at hj';have Lm:cur[j]?=some (Sort.flatK iN 6 d.toArray)[j]! :=by
    have e1:(Sort.flatK iN 6 d.toArray).toList[j]?=(cur.toList.take (L.length*6))[j]?:=by rw[hfl]
    rw[jt,ah hj',iu,iu,mf hj] at e1;rw[<-e1,gG (Sort.flatK iN 6 d.toArray) j hj]
   refine⟨?_,aX hblk _⟩;rw[js];unfold World.cell?;rw[hblk];exact Lm
  have eg:∀args w,(callFunc 157 args).run Tryz.prog w=.ok (.enter 157 args) w:=enters_of Tryz.func157 (by kernel_rfl) rfl
  have hone:∀x:VP,∀v∈iN x,v.oneCell'=true:=fun x v hv=>by
   simp[iN,PB.cells] at hv;rcases hv with rfl|rfl|rfl|rfl|rfl|rfl<;>rfl
  have hcon:=AnyQ.slices_SortFunc Tryz.sortPc 6 Tryz.isAgg171 Tryz.sizeOf171 iN (fun _=>rfl) hone zk aee 157 #[] g 0 cap d.toArray wr eg (aed _ _ _ _) hH hgl (by rw[<-hsz];omega)
  change Calls Tryz.prog 156 _ _ _ at hcon
  rw[<-hsz] at hcon;refine hcon.mono ?_;rintro e w' ⟨rfl,d',n,os,hp,hs,rfl⟩;obtain⟨hps,_,CF⟩:=hp;have hs1:d'.size=L.length:=by rw[hps,hsz]
  have hperm:d'.toList.Perm d:=by
   have e1:d'.extract 0 L.length=d':=by rw[<-hs1];exact Jo
   have e2:d.toArray.extract 0 L.length=d.toArray:=by rw[hsz];exact Jo
   rw[e1,e2] at CF;exact CF
  have uR:(d'.toList.map Subtype.val).length=L.length:=by simp[hs1]
  have hpm:(d'.toList.map Subtype.val).Perm L:=by rw[<-hd];exact hperm.map _
  refine⟨rfl,d'.toList.map Subtype.val,⟨⟨by rw[zi],af ⟨g,cap,_,by rw[uR],hg,aef d' n os hblk,by rw[uR];exact hnc,hcm,?_,?_⟩⟩,?_⟩,hpm,?_⟩
  ·unfold Sort.putCells;rw[O2];exact hcs
  ·have e1:(d'.toList.map Subtype.val).length*6=(Sort.flatK iN 6 d').size:=by rw[Sort.size_flatK,uR,hs1]
   rw[e1,TU _ _ (by rw[Sort.size_flatK,hs1,hcs];omega),Ue]
  ·exact h.2.trans ⟨rfl,rfl,rfl,aeh d' n os wr g,fun k hk=>aeg d' n os (aZ hk h.2.size) (by omega)⟩
  ·rw[lZ,lF];intro i j hi hj hij;have hi':i<d'.size:=by simpa using hi
   have hj':j<d'.size:=by simpa using hj
   have hx:=hs i j (iq _) hij (by omega)
   rw[gG d' i hi',gG d' j hj'] at hx;exact CH.1 hx
end Go.Proofs.YtkjhhooecopolaaGreatDoor

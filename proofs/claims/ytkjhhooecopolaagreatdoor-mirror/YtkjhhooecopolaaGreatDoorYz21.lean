import Derived.Test.YtkjhhooecopolaaGreatDoorProg
import Derived.Test.YtkjhhooecopolaaGreatDoorYz20
set_option maxRecDepth 100000
set_option maxHeartbeats 4000000
namespace Go.Proofs
open Go.Shelf
def Tryz.sortNd_ren:Go.Shelf.Ren:=⟨fun |6=>124|15=>164|14=>181|28=>208|29=>209|20=>219|21=>220|22=>221|23=>222|24=>223|25=>224|26=>225|27=>226|46=>274|47=>249|48=>250|49=>275|50=>276|57=>297|n=>n,fun |22=>138|24=>83|25=>206|3=>3|39=>238|0=>0|53=>280|55=>282|4=>4|46=>274|45=>273|50=>70|5=>5|9=>9|66=>313|70=>317|76=>346|77=>172|n=>n,fun |n=>n⟩
theorem Tryz.sortNd:Go.Proofs.SlLaysF0.n6 Tryz.prog Tryz.sortNd_ren:={
 mixed:=by kernel_rfl
 f6:=⟨Tryz.f124.name,by decide,Tryz.func124.trans (aw some (by kernel_rfl))⟩
 f14:=⟨Tryz.f181.name,by decide,Tryz.func181.trans (aw some (by kernel_rfl))⟩
 f15:=Tryz.func164.trans (aw some (by kernel_rfl))
 f20:=⟨Tryz.f219.name,by decide,Tryz.func219.trans (aw some (by kernel_rfl))⟩
 f21:=⟨Tryz.f220.name,by decide,Tryz.func220.trans (aw some (by kernel_rfl))⟩
 f22:=⟨Tryz.f221.name,by decide,Tryz.func221.trans (aw some (by kernel_rfl))⟩
 f23:=⟨Tryz.f222.name,by decide,Tryz.func222.trans (aw some (by kernel_rfl))⟩
 f24:=⟨Tryz.f223.name,by decide,Tryz.func223.trans (aw some (by kernel_rfl))⟩
 f25:=⟨Tryz.f224.name,by decide,Tryz.func224.trans (aw some (by kernel_rfl))⟩
 f26:=⟨Tryz.f225.name,by decide,Tryz.func225.trans (aw some (by kernel_rfl))⟩
 f27:=⟨Tryz.f226.name,by decide,Tryz.func226.trans (aw some (by kernel_rfl))⟩
 f28:=Tryz.func208.trans (aw some (by kernel_rfl))
 f29:=Tryz.func209.trans (aw some (by kernel_rfl))
 f46:=⟨Tryz.f274.name,by decide,Tryz.func274.trans (aw some (by kernel_rfl))⟩
 f47:=Tryz.func249.trans (aw some (by kernel_rfl))
 f48:=Tryz.func250.trans (aw some (by kernel_rfl))
 f49:=⟨Tryz.f275.name,by decide,Tryz.func275.trans (aw some (by kernel_rfl))⟩
 f50:=⟨Tryz.f276.name,by decide,Tryz.func276.trans (aw some (by kernel_rfl))⟩
 f57:=⟨Tryz.f297.name,by decide,Tryz.func297.trans (aw some (by kernel_rfl))⟩
 t0:=Tryz.underlying0
 a0:=Tryz.isAgg0
 z0:=Tryz.sizeOf0
 v0:=Tryz.zeroValue0
 t3:=Tryz.underlying3
 a3:=Tryz.isAgg3
 z3:=Tryz.sizeOf3
 v3:=Tryz.zeroValue3
 t4:=Tryz.underlying4
 a4:=Tryz.isAgg4
 z4:=Tryz.sizeOf4
 v4:=Tryz.zeroValue4
 t5:=Tryz.underlying5
 a5:=Tryz.isAgg5
 z5:=Tryz.sizeOf5
 v5:=Tryz.zeroValue5
 t9:=Tryz.underlying9
 a9:=Tryz.isAgg9
 z9:=Tryz.sizeOf9
 v9:=Tryz.zeroValue9
 t22:=Tryz.underlying138
 a22:=Tryz.isAgg138
 z22:=Tryz.sizeOf138
 v22:=Tryz.zeroValue138
 t25:=Tryz.underlying206
 a25:=Tryz.isAgg206
 z25:=Tryz.sizeOf206
 v25:=Tryz.zeroValue206
 t39:=Tryz.underlying238
 a39:=Tryz.isAgg238
 z39:=Tryz.sizeOf238
 v39:=Tryz.zeroValue238
 t45:=Tryz.underlying273
 a45:=Tryz.isAgg273
 z45:=Tryz.sizeOf273
 v45:=Tryz.zeroValue273
 t46:=Tryz.underlying274
 a46:=Tryz.isAgg274
 z46:=Tryz.sizeOf274
 v46:=Tryz.zeroValue274
 t50:=Tryz.underlying70
 a50:=Tryz.isAgg70
 z50:=Tryz.sizeOf70
 v50:=Tryz.zeroValue70
 t53:=Tryz.underlying280
 a53:=Tryz.isAgg280
 z53:=Tryz.sizeOf280
 v53:=Tryz.zeroValue280
 t55:=Tryz.underlying282
 a55:=Tryz.isAgg282
 z55:=Tryz.sizeOf282
 v55:=Tryz.zeroValue282
 t66:=Tryz.underlying313
 a66:=Tryz.isAgg313
 z66:=Tryz.sizeOf313
 v66:=Tryz.zeroValue313
 t70:=Tryz.underlying317
 a70:=Tryz.isAgg317
 z70:=Tryz.sizeOf317
 v70:=Tryz.zeroValue317
 t76:=Tryz.underlying346
 a76:=Tryz.isAgg346
 z76:=Tryz.sizeOf346
 v76:=Tryz.zeroValue346
 t77:=Tryz.underlying172
 a77:=Tryz.isAgg172
 z77:=Tryz.sizeOf172
 v77:=Tryz.zeroValue172}
end Go.Proofs
namespace Go.Proofs.YtkjhhooecopolaaGreatDoor
open Go.RowKit
abbrev VN:={n:Ge.Nd //Ge.Can n/\dC n.1 n.2.1 n.2.2}
def jg(x:VN):List Value:=ij x.1
def Bu(x y:VN):Int:=Ge.pc (Ge.ay x.1) (Ge.ay y.1)
theorem Jd{w w':World}(h:Below w.heap.size w w')(hd:w.drawn<=w'.drawn):∃q os,w'=Sort.grow (w.drewN q) os:=by
 refine⟨w'.drawn-w.drawn,w'.heap.extract w.heap.size w'.heap.size,?_⟩;have hh:w'.heap=w.heap++w'.heap.extract w.heap.size w'.heap.size:=by
  apply Array.ext_getElem?;intro k;rw[Array.getElem?_append];split
  ·exact h.block k (by assumption)
  ·rename_i hk
   rw[Array.getElem?_extract];by_cases hlt:k<w'.heap.size
   ·rw[ah (by omega)]
    congr 1;omega
   ·rw[aa (by omega),Gz (by omega)]
 have e1:w.drawn+(w'.drawn-w.drawn)=w'.drawn:=by omega
 have h1:=h.os;have h2:=h.tape;have h3:=h.output;unfold Sort.grow World.drewN;rw[e1];show w'={heap:=w.heap++w'.heap.extract w.heap.size w'.heap.size,tape:=w.tape,drawn:=w'.drawn,os:=w.os,output:=w.output};rw[<-hh,<-h1,<-h2,<-h3]
theorem ahl [Inhabited VN](blk off size:Nat)(w:World):CmpLays Tryz.prog 125 #[] jg 2 Bu blk off size w:=
 fun _ _ _ _ x y=>(Ea x.1 y.1 x.2.2 y.2.2 x.2.1 y.2.1 _).mono fun _ _⟨h1,h2,h3⟩=>⟨h1,Jd h2 h3⟩
theorem Je{x y:VN}:ltOf Bu x y=true↔Ge.lt (Ge.ay x.1) (Ge.ay y.1):=by
 unfold ltOf Bu Ge.lt;exact rW
theorem EC{x y:VN}:ltOf Bu x y=false↔¬Ge.lt (Ge.ay x.1) (Ge.ay y.1):=by
 rw[<-Je];simp
theorem ahm:Sort.SWO (ltOf Bu) where
 irrefl _x:=EC.2 (Ge.lt_irrefl _)
 trans x y z h1 h2:=Je.2 (Ge.lt_trans (Ge.cS x.2.1) (Ge.cS y.2.1) (Ge.cS z.2.1) (Je.1 h1) (Je.1 h2))
 ntrans x y z h1 h2:=EC.2 fun h=>EC.1 h1 (Ge.lt_le_trans x.2.1 z.2.1 y.2.1 h (EC.1 h2))
theorem WN:∀(L:List Ge.Nd),(∀n∈L,Ge.Can n)->(∀n∈L,dC n.1 n.2.1 n.2.2)->∃d:List VN,d.map Subtype.val=L
 |[],_,_=>⟨[],rfl⟩
 |n::L,h1,h2=>by
  obtain⟨d,hd⟩:=WN L (fun m hm=>h1 m (by simp[hm])) (fun m hm=>h2 m (by simp[hm]))
  exact⟨⟨n,h1 n (by simp),h2 n (by simp)⟩::d,by simp[hd]⟩
theorem WQ [Inhabited VN](d:Array VN):(Sort.flatK jg 2 d).toList=dv (d.toList.map Subtype.val):=by
 apply Ct;intro t;by_cases ht:t<d.size*2
 ·have h1:t/2<d.size:=by omega
  have hx:(d.toList.map Subtype.val)[t/2]?=some (d[t/2]!).1:=by
   rw[gD,ja,nX h1,iz d _ h1];rfl
  have h2:=Eb _ _ _ hx (t%2) (K7 _ (by decide))
  have e1:t/2*2+t%2=t:=by omega
  rw[e1] at h2;have h3:=Sort.get_flatK jg 2 d t ht;have hs:t<(Sort.flatK jg 2 d).size:=by rw[Sort.size_flatK];exact ht
  rw[iz (Sort.flatK jg 2 d) t hs] at h3;rw[h2,ja,nX hs,h3];have hl:t%2<(jg d[t/2]!).length:=K7 _ (by decide)
  rw[iz (jg d[t/2]!) (t%2) hl];exact(aD hl).symm
 ·rw[xO (by rw[iP,Sort.size_flatK];omega),xO (by rw[El];simp;omega)]
theorem WR(F c:Array Value)(h:F.size<=c.size):(Sort.putCells id 0 F c).toList.take F.size=F.toList:=by
 apply Ct;intro t;rw[kC];by_cases ht:t<F.size
 ·have h1:t<c.size:=by omega
  rw[ah ht,ja,ja];unfold Sort.putCells;rw[anW,nX h1,nX ht];simp[ht]
 ·rw[aa ht,ja,Gz (by omega)]
theorem ahn [Inhabited VN](d':Array VN)(n:Nat)(os:Array Obj){wr:World}{g:Nat}{cur:Array Value}{t:TypeId}{fr:Nat×Nat}(hb:wr.heap[g]?=some (.cells cur t fr)):
  (sortWorldK jg 2 wr g 0 n d' os).heap[g]?=some (.cells (Sort.putCells id 0 (Sort.flatK jg 2 d') cur) t fr):=by
 have hg:=lt_of_heap hb;show((wr.heap.modify g (Sort.onCells (Sort.putCells id 0 (Sort.flatK jg 2 d'))))++os)[g]?=_;rw[GH (by simpa using hg),zM,ah rfl,hb]
 rfl
theorem aho [Inhabited VN](d':Array VN)(n:Nat)(os:Array Obj){wr:World}{g k:Nat}(hk:k<wr.heap.size)(hne:g≠k):
  (sortWorldK jg 2 wr g 0 n d' os).heap[k]?=wr.heap[k]?:=by
 show((wr.heap.modify g (Sort.onCells (Sort.putCells id 0 (Sort.flatK jg 2 d'))))++os)[k]?=_;rw[GH (by simpa using hk),zM,aa hne]
theorem ahp [Inhabited VN](d':Array VN)(n:Nat)(os:Array Obj)(wr:World)(g:Nat):wr.heap.size<=(sortWorldK jg 2 wr g 0 n d' os).heap.size:=by
 show _<=((wr.heap.modify g (Sort.onCells (Sort.putCells id 0 (Sort.flatK jg 2 d'))))++os).size;rw[acH,acI];omega
theorem ahq [Inhabited VN](w:World)(lv:Value)(L:List Ge.Nd)(wr:World)(h:NL w lv L wr)(hl:L.length<=200000):
  Calls Tryz.prog 124 #[lv,.func (.func 125) #[] #[]] wr fun r w'=>r=.returned (.tuple #[])/\∃S,NL w lv S w'/\(∀n,n∈S↔n∈L)/\S.length=L.length/\S.Pairwise Ge.le:=by
 obtain⟨hlen,jM⟩:=h.own;rcases jM with⟨rfl,h0⟩|⟨g,cap,cur,rfl,hg,hblk,hnc,hcm,hcs,htk⟩
 ·have hL:L=[]:=gF.1 h0;subst hL;refine(AnyF.slices_SortFunc_none Tryz.sortNd none 0 _ wr).mono ?_;rintro e w' ⟨rfl,rfl⟩;exact⟨rfl,[],h,fun n=>Iff.rfl,rfl,List.Pairwise.nil⟩
 ·obtain⟨d,hd⟩:=WN L h.can h.aF;have hgl:g<wr.heap.size:=lt_of_heap hblk;have hsz:L.length=d.toArray.size:=by rw[<-hd];simp
  have hfl:(Sort.flatK jg 2 d.toArray).toList=cur.toList.take (L.length*2):=by rw[WQ,htk,<-hd]
  have hH:Sort.HoldsK jg 2 wr g 0 d.toArray:=by
   intro j hj;have hj':=hj;rw[Sort.size_flatK,<-hsz] at hj';have NF:cur[j]?=some (Sort.flatK jg 2 d.toArray)[j]! :=by
    have e1:(Sort.flatK jg 2 d.toArray).toList[j]?=(cur.toList.take (L.length*2))[j]?:=by rw[hfl]
    rw[kC,ah hj',ja,ja,nX hj] at e1;rw[<-e1,iz (Sort.flatK jg 2 d.toArray) j hj]
   refine⟨?_,aH hblk _⟩;rw[jn];unfold World.cell?;rw[hblk];exact NF
  have eg:∀args w,(callFunc 125 args).run Tryz.prog w=.ok (.enter 125 args) w:=enters_of Tryz.func125 (by kernel_rfl) rfl
  have hone:∀x:VN,∀v∈jg x,v.oneCell'=true:=fun x v hv=>by
   simp[jg,ij] at hv;rcases hv with rfl|rfl<;>rfl
  have hcon:=AnyQ.slices_SortFunc Tryz.sortNd 2 Tryz.isAgg83 Tryz.sizeOf83 jg (fun _=>rfl) hone Bu ahm 125 #[] g 0 cap d.toArray wr eg (ahl _ _ _ _) hH hgl (by rw[<-hsz];omega)
  change Calls Tryz.prog 124 _ _ _ at hcon
  rw[<-hsz] at hcon;refine hcon.mono ?_;rintro e w' ⟨rfl,d',n,os,hp,hs,rfl⟩;obtain⟨hps,_,ED⟩:=hp;have hs1:d'.size=L.length:=by rw[hps,hsz]
  have hperm:d'.toList.Perm d:=by
   have e1:d'.extract 0 L.length=d':=by rw[<-hs1];exact Le
   have e2:d.toArray.extract 0 L.length=d.toArray:=by rw[hsz];exact Le
   rw[e1,e2] at ED;exact ED
  have xh:(d'.toList.map Subtype.val).length=L.length:=by simp[hs1]
  have hmem:∀m,m∈d'.toList.map Subtype.val↔m∈L:=fun m=>by
   rw[<-hd];simp only[bh];constructor
   ·rintro⟨x,hx,rfl⟩;exact⟨x,hperm.mem_iff.1 hx,rfl⟩
   ·rintro⟨x,hx,rfl⟩;exact⟨x,hperm.mem_iff.2 hx,rfl⟩
  refine⟨rfl,d'.toList.map Subtype.val,⟨⟨by rw[El],af ⟨g,cap,_,by rw[xh],hg,ahn d' n os hblk,by rw[xh];exact hnc,hcm,?_,?_⟩⟩,?_,fun m hm=>h.can m ((hmem m).1 hm),fun m hm=>h.aF m ((hmem m).1 hm)⟩,hmem,xh,?_⟩
  ·unfold Sort.putCells;rw[RX];exact hcs
  ·have e1:(d'.toList.map Subtype.val).length*2=(Sort.flatK jg 2 d').size:=by rw[Sort.size_flatK,xh,hs1]
   rw[e1,WR _ _ (by rw[Sort.size_flatK,hs1,hcs];omega),WQ]
  ·exact h.below.trans ⟨rfl,rfl,rfl,ahp d' n os wr g,fun k hk=>aho d' n os (aQ hk h.below.size) (by omega)⟩
  ·rw[nU,mZ];intro i j hi hj hij;have hi':i<d'.size:=by simpa using hi
   have hj':j<d'.size:=by simpa using hj
   have hx:=hs i j (iI _) hij (by omega)
   rw[iz d' i hi',iz d' j hj'] at hx;exact EC.1 hx
theorem ahr(es:List Ed)(v:Value)(w:World)(hR:gG w v es)(hl:es.length<=402)(hs:∀e∈es,fB e):
  Calls Tryz.prog 72 #[v] w fun e w'=>∃v' l,e=.returned v'/\iD w' v' l/\Below w.heap.size w w'/\l.map Ge.ay=Ge.gq es/\(∀n∈l,dC n.1 n.2.1 n.2.2)/\l.length<=200000/\(∀n∈l,Ge.Can n):=by
 haveI:Inhabited VN:=⟨⟨(0,0,1),⟨by decide,by decide⟩,⟨by decide,by decide,by decide⟩⟩⟩
 exact agK es v w hR hl hs (fun lv L wr h1 h2=>ahq w lv L wr h1 h2) (fun lv S wr h1 h2=>ahk w lv S wr h1 h2)
namespace Ge
theorem NG{k X:Int}(hk:k≠0):X.natAbs<=(k*X).natAbs:=by
 rw[nV];have:1<=k.natAbs:=by omega
 calc X.natAbs=1*X.natAbs:=(Rw _).symm
  _<=k.natAbs*X.natAbs:=zN _ this
theorem ahs(x y:Int){d:Int}(hd:d≠0):∃n:Nd,Can n/\ay n=(aW x d,aW y d)/\n.1.natAbs<=x.natAbs/\n.2.1.natAbs<=y.natAbs/\n.2.2.natAbs<=d.natAbs:=by
 obtain⟨G,hG⟩:∃G,Int.gcd (Int.gcd x y:Nat) d=G:=⟨_,rfl⟩;have uO:0<G:=by rw[<-hG];exact sI (by omega)
 have vq:(G:Int)∣(Int.gcd x y:Nat):=by rw[<-hG];exact xR _ _
 have dx:(G:Int)∣x:=xV vq (xR _ _);have dy:(G:Int)∣y:=xV vq (vY _ _);have dd:(G:Int)∣d:=by rw[<-hG];exact vY _ _
 have main:∀k:Int,k≠0->k.natAbs=G->k∣x->k∣y->k∣d->0<d.tdiv k->∃n:Nd,Can n/\ay n=(aW x d,aW y d)/\n.1.natAbs<=x.natAbs/\n.2.1.natAbs<=y.natAbs/\n.2.2.natAbs<=d.natAbs:=by
  intro k k0 hk kx ky kd hp;have ex:=(rU kx).symm;have ey:=(rU ky).symm;have ed:=(rU kd).symm;obtain⟨h1,h2⟩:=IQ hd ex ey ed hp (by rw[hk,hG])
  refine⟨_,h1,h2,?_,?_,?_⟩
  ·have:=NG (X:=x.tdiv k) k0;rw[<-ex] at this;exact this
  ·have:=NG (X:=y.tdiv k) k0;rw[<-ey] at this;exact this
  ·have:=NG (X:=d.tdiv k) k0;rw[<-ed] at this;exact this
 obtain⟨q,hq⟩:=dd;have xa:(0:Int)<G:=by omega
 rcases fD d 0 with h|h|h
 ·have hqn:q<0:=by
   rcases fD q 0 with h1|h1|h1
   ·exact h1
   ·rw[h1] at hq;omega
   ·have:=aU xa h1;omega
  refine main (-(G:Int)) (by omega) (by omega) (Int.neg_dvd.2 dx) (Int.neg_dvd.2 dy) (Int.neg_dvd.2 ⟨q,hq⟩) ?_
  have e:d= -(G:Int)*(-q):=by rw[zT];exact hq
  rw[e,anX _ (by omega)]
  omega
 ·exact absurd h hd
 ·have hqp:0<q:=by
   rcases fD q 0 with h1|h1|h1
   ·have:=vV xa h1;omega
   ·rw[h1] at hq;omega
   ·exact h1
  refine main (G:Int) (by omega) (by omega) dx dy ⟨q,hq⟩ ?_
  rw[hq,anX _ (by omega)]
  exact hqp
end Ge
theorem ahu{es:List Ed}(hs:∀e∈es,fB e){n:Ge.Nd}(hc:Ge.Can n)(h:Ge.isNode es (Ge.ay n)):lQ n:=by
 have WT:∀a:Ge.Pt,small a.1->small a.2->Ge.ay n=Ge.pt a->lQ n:=fun a h1 h2 hq=>by
  have hc1:Ge.Can (a.1,a.2,1):=⟨by show(0:Int)<1;decide,by simp⟩
  have e:n=(a.1,a.2,1):=Ge.IP hc hc1 (by rw[hq];unfold Ge.ay Ge.pt;simp only[Ge.H6])
  unfold small at h1 h2;rw[e];exact⟨by simp only;omega,by simp only;omega,by simp⟩
 rcases h with⟨e,he,h|h⟩|⟨e,he,f,hf,hcr,hq,_,_⟩
 ·exact WT e.1 (hs e he).a (hs e he).b h
 ·exact WT e.2 (hs e he).c (hs e he).d h
 ·obtain⟨m,hm,hmq,m1,m2,m3⟩:=Ge.ahs (Ge.mX e f) (Ge.mY e f) hcr;have en:n=m:=Ge.IP hc hm (by rw[hq,hmq];rfl)
  obtain⟨b1,b2,b3⟩:=U0 (hs e he) (hs f hf);have hp:=hc.pos;rw[<-en] at m1 m2 m3;exact⟨by omega,by omega,by omega⟩
structure AP(es:List Ed)(l:List Ge.Nd)(L:List PB):Prop where
 mem:∀p∈L,∃e∈es,pP p.wa p.wb p.sh (Ge.ig (Ge.cC e))/\(p.f,p.t)∈Ge.nexts (Ge.held e l)
 all:∀e∈es,∀q∈Ge.nexts (Ge.held e l),∃p∈L,(p.f,p.t)=q
theorem AP.nil(l:List Ge.Nd):AP [] l []:=⟨fun p h=>by simp at h,fun e h=>by simp at h⟩
theorem AP.snoc{es:List Ed}{l:List Ge.Nd}{L:List PB}(h:AP es l L)(e:Ed){a b s:Nat}(hw:pP a b s (Ge.ig (Ge.cC e))):AP (es++[e]) l (L++fk a b s e l):=by
 refine⟨fun p hp=>?_,fun f hf q hq=>?_⟩
 ·rcases cu.1 hp with hp|hp
  ·obtain⟨f,hf,h1⟩:=h.mem p hp;exact⟨f,by simp[hf],h1⟩
  ·unfold fk at hp;obtain⟨q,hq,rfl⟩:=bh.1 hp;exact⟨e,by simp,hw,hq⟩
 ·rcases cu.1 hf with hf|hf
  ·obtain⟨p,hp,h1⟩:=h.all f hf q hq;exact⟨p,by simp[hp],h1⟩
  ·rw[bU.1 hf] at hq;exact⟨⟨a,b,s,q.1,q.2⟩,Cq _ (bh.2 ⟨q,hq,rfl⟩),rfl⟩
theorem ahw{P:Program}{w:World}(base:Nat)(t ty e:TypeId)(i:TypeInfo)(size:Nat)(ht:P.underlying t=some (.slice e))(hi:P.info? e=some i)
  (v:Value)(n:Nat)(xs:List Value)(hown:w.ownsRow base e size v n xs)(xo:Option Addr)(c:Nat):
  (Builtin.append_ #[t,t] ty #[v,.slice xo 0 c]).run P w=.ok v w:=by
 rcases hown.2 with⟨rfl,rfl⟩|⟨g,cap,cur,rfl,_,_,hnc,_⟩
 ·cases xo<;>simp[Builtin.append_,run_underlying ht,sizeOf,typeInfo,hi,Builtin.lenOf,Builtin.firstCells,loadCells,loadCellsFrom]
 ·cases xo<;>simp[Builtin.append_,run_underlying ht,sizeOf,typeInfo,hi,Builtin.lenOf,Builtin.firstCells,hnc,storeCells,loadCells,loadCellsFrom]
theorem WU{P:Program}{w:World}{ops:Array Oper}{rest:List Oper}{o:Oper}{a:Act}{Q:Exit->Act->World->Prop}(hgd:o.guard=none)(s x:Operand)(t:TypeId)
  (ho:o.op=.call {callee:=.builtin .append,args:= #[s,x],argTypes:= #[t,t]})(base:Nat)(e:TypeId)(i:TypeInfo)(size:Nat)(ht:P.underlying t=some (.slice e))(hi:P.info? e=some i)
  (v:Value)(n:Nat)(xs:List Value)(hs:a.eval s=v)(hown:w.ownsRow base e size v n xs)(xo:Option Addr)(c:Nat)(hx:a.eval x=.slice xo 0 c)
  (h:wpList P ops Q rest (a.put o.dst v) w):wpList P ops Q (o::rest) a w:=
 wpList_plain hgd fun _ hK=>by
  have hr:=ahw (P:=P) (w:=w) base t o.type e i size ht hi v n xs hown xo c;unfold Oper.wp execOp;simp only[ho,resolve,invoke,builtin,Sem.run_bind,Sem.run_pure,Result.andThen_ok,List.map_toArray,gU,Rx,hs,hx,hr];exact hK _ _ h
theorem ahx{w w':World}{v:Value}{l:List Ge.Nd}(h:iD w v l)(hb:Below w.heap.size w w'):iD w' v l:=Iq h fun k _cur hc=>hb.block k (lt_of_heap hc)
theorem WV(l:List PB):∀u∈cN l,u.oneCell'=true:=by
 intro u hu;obtain⟨x,_,h⟩:=uq.1 hu;simp[PB.cells] at h;rcases h with rfl|rfl|rfl|rfl|rfl|rfl<;>rfl
theorem PL.fresh{w:World}{v:Value}{L:List PB}{wr:World}(h:PL w v L wr)(hL:0<L.length):∃g cap,v=.slice (some ⟨g,0,none⟩) L.length cap/\w.heap.size<=g/\∀j u,(cN L)[j]?=some u->wr.cell? ((⟨g,0,none⟩:Addr).add j)=some u:=by
 rcases h.1.2 with⟨_,h0⟩|⟨g,cap,cur,hv,hg,hr⟩
 ·omega
 ·exact⟨g,cap,hv,hg,h.1.cells (by rw[hv];rfl)⟩
theorem ahy(a b:List PB):cN (a++b)=cN a++cN b:=by simp[cN]
theorem Bv(l:List PB):(cN l).length=l.length*6:=by
 induction l with
 |nil=>rfl
 |cons x r ih=>
  have e:cN (x::r)=x.cells++cN r:=by simp[cN]
  rw[e,aX,ih,bW];show 6+_=_;omega
theorem ahz(es:List Ed)(v:Value)(w:World)(hR:gG w v es)(hl:es.length<=402)(hs:∀e∈es,fB e)
  (Q:List PB->Value->World->Prop)
  (HS:Hid (∀l,l.map Ge.ay=Ge.gq es->(∀n∈l,Ge.Can n)->∀lv L wr,PL w lv L wr->AP es l L->L.length<=85000000->Calls Tryz.prog 156 #[lv,.func (.func 157) #[] #[]] wr fun r w'=>r=.returned (.tuple #[])/\Calls Tryz.prog 158 #[lv,.func (.func 159) #[] #[]] w' fun r w''=>∃v' Ps,r=.returned v'/\Q Ps v' w'')):
  Calls Tryz.prog 104 #[v] w fun r w'=>∃v' Ps,r=.returned v'/\Q Ps v' w':=by
 obtain⟨so,cap,rfl⟩:=Dq hR;obtain⟨i0,hi,hz0,hz1,hz2⟩:=info_parts Wy;have HR:Hid (gG w (.slice so es.length cap) es):=hR;have HN:Hid (Calls Tryz.prog 72 #[.slice so es.length cap] w fun e w'=>∃v' l,e=.returned v'/\iD w' v' l/\Below w.heap.size w w'/\l.map Ge.ay=Ge.gq es/\(∀n∈l,dC n.1 n.2.1 n.2.2)/\l.length<=200000/\(∀n∈l,Ge.Can n)):=ahr es _ w hR hl hs
 have HSE:Hid (∀e∈es,fB e):=hs;clear hR hs
 go_enter Tryz.func104,Tryz.ntmps104
 go_wp2_with fail
 refine HN.out.mono ?_;rintro r w1 ⟨nv,l,rfl,rA,hb1,mL,hin,hll,jP⟩;obtain⟨ns,nc,rfl⟩:=I3 rA;have WW:Hid (iD w1 (.slice ns l.length nc) l):=rA;have HNI:Hid (∀n∈l,dC n.1 n.2.1 n.2.2):=hin;have WX:Hid (l.map Ge.ay=Ge.gq es/\(∀n∈l,Ge.Can n)):=⟨mL,jP⟩;clear rA hin mL jP HN;have bw:Hid (∃L,PL w (.slice none 0 0) L w1/\(∀k,(Value.slice none 0 0).ownBlock=some k->w1.heap.size<=k)/\Below w1.heap.size w1 w1/\AP (es.take 0) l L/\L.length<=0):=⟨[],⟨World.ownsRow_nil _ _ _ _,hb1⟩,(fun k h=>by cases h),Below.refl _ _,by simpa using AP.nil l,by simp⟩
 go_wp2_with fail
 go_loopg [4,11] es.length (fun m lv iv wr=>∃k:Nat,k+m=es.length/\iv=.int .i64 k/\Hid (∃L,PL w lv L wr/\(∀k,lv.ownBlock=some k->w1.heap.size<=k)/\Below w1.heap.size w1 wr/\AP (es.take k) l L/\L.length<=k*200000))
 case atStart=>exact⟨0,by omega,rfl,by simpa using bw⟩
 case round=>
  obtain⟨k,hkn,rfl,HE⟩:=hrel;clear bw;by_cases hlt:k<es.length
  ·obtain⟨L,vA,fg,xj,rB,jO⟩:=HE.out;have NH:Hid (∀k,u4.ownBlock=some k->w1.heap.size<=k):=fg;have hLk:L.length<=(k+1)*200000:=dY jO (zN _ (l8 k));obtain⟨e,mn⟩:∃e,es[k]?=some e:=⟨_,aD hlt⟩;obtain⟨b,x,rfl,hb,hok,c0,c1,c2,c3⟩:=Dr HR.out mn;have ak:=vA.2;have r0:=(ak.cell (p:=⟨b,k*4,none⟩) hb).trans c0;have r1:=(ak.cell (p:=⟨b,k*4+1,none⟩) hb).trans c1;have r2:=(ak.cell (p:=⟨b,k*4+2,none⟩) hb).trans c2;have r3:=(ak.cell (p:=⟨b,k*4+3,none⟩) hb).trans c3;have hbr:b<wr.heap.size:=aQ hb ak.size;have eK:(k:Int)<(es.length:Int):=by omega
   have hmem:=bn mn;have jx:=HSE.out e hmem;obtain⟨ra,rb,rs,hfl,qq⟩:=agy (l:=Ge.cC e) (a:=x.wa) (b:=x.wb) (s:=x.sh) ⟨hok.wa,hok.wb,hok.sh⟩;have Jf:Hid (AP (es.take (k+1)) l (L++fk ra rb rs e l)):=by
    have htk:es.take (k+1)=es.take k++[e]:=by rw[jH,mn];rfl
    rw[htk];exact rB.snoc e hfl
   have hcl:=WA ra rb rs e l;have Bp:Hid (∀v' w',iD w' v' l->Calls Tryz.prog 155 #[.agg #[.complex .f64 x.wa x.wb,.float .f64 x.sh,.complex .f64 x.fa x.fb,.complex .f64 x.ta x.tb],v'] w' fun r w''=>∃v'',r=.returned v''/\PL w' v'' (fk ra rb rs e l) w''):=fun v' w' hv=>ag4 x e l v' w' hok jx hv HNI.out hll qq
   obtain⟨wa,wb,sh,fa,fb,ta,tb⟩:=x;simp only at r0 r1 r2 r3 Bp;have Bw:Hid (PL w u4 L wr):=vA;have WY:iD (wr.alloc (.cells #[.complex .f64 wa wb,.float .f64 sh,.complex .f64 fa fb,.complex .f64 ta tb] 124)) (.slice ns l.length nc) l:=ahx WW.out (xj.alloc xj.size _);have WZ:Hid (iD (wr.alloc (.cells #[.complex .f64 wa wb,.float .f64 sh,.complex .f64 fa fb,.complex .f64 ta tb] 124)) (.slice ns l.length nc) l):=WY;have hb0:Below wr.heap.size wr (wr.alloc (.cells #[.complex .f64 wa wb,.float .f64 sh,.complex .f64 fa fb,.complex .f64 ta tb] 124)):=(Below.refl _ _).alloc (ai _) _;clear c0 c1 c2 c3 mn hok jx hmem qq hfl rB vA WY HE
   go_wp2_with (simp only[fL,nH];go_simp)
   generalize wr.alloc (.cells #[.complex .f64 wa wb,.float .f64 sh,.complex .f64 fa fb,.complex .f64 ta tb] 124)=W0 at*;refine(Bp.out _ _ WZ.out).mono ?_;rintro r w2 ⟨cv,rfl,hC⟩;have hb2:Below wr.heap.size wr w2:=hb0.trans (hC.2.mono hb0.size);have gw:w2.ownsRow w.heap.size 171 6 u4 L.length (cN L):=aO Bw.out.1 fun k hk=>hb2.block k (aA Bw.out.1 k hk).2
   have pN:Below w.heap.size w w2:=ak.trans (hb2.mono ak.size);have Jg:Below w1.heap.size w1 w2:=xj.trans (hb2.mono xj.size);clear r0 r1 r2 r3 hb0 Bp WZ;by_cases hc0:0<(fk ra rb rs e l).length
   ·obtain⟨g,cp,rfl,hg,hcells⟩:=hC.fresh hc0;have hone:=WV (fk ra rb rs e l);have hrl:=Bv (fk ra rb rs e l);generalize hCL:fk ra rb rs e l=C at*
    go_wp2_with (at_builtin;refine wpList_append_lies _ rfl (.tmp 15) (.tmp 18) 168 rfl w.heap.size 171 i0 _ 6 72 Tryz.underlying168 hi hz0 hz1 hz2 rfl (by decide) u4 L.length (cN L) rfl gw ⟨g,0,none⟩ C.length cp (cN C) rfl hrl hcells hone hc0 (by unfold maxLen;omega) (by omega) pN.size w2.heap.size rfl ?_;intro g' cap' w8 cM bo gK qp)
    have cI:Hid (∃L',PL w (.slice (some ⟨g',0,none⟩) (L.length+C.length) cap') L' w8/\(∀k,(Value.slice (some ⟨g',0,none⟩) (L.length+C.length) cap').ownBlock=some k->w1.heap.size<=k)/\Below w1.heap.size w1 w8/\AP (es.take (k+1)) l L'/\L'.length<=(k+1)*200000):=by
     refine⟨L++C,⟨?_,pN.grown bo pN.size (fun k hk=>(aA gw k hk).1)⟩,fun k hk=>?_,Jg.grown bo Jg.size (fun k hk=>NH.out k hk),Jf.out,?_⟩
     ·rw[ahy,aX];exact cM
     ·injection hk with hk;subst hk;rcases gK with h8|h8
      ·exact NH.out _ h8
      ·show w1.heap.size<=g';rw[h8];exact Jg.size
     ·rw[aX,GG,Rw];omega
    clear bo cM gw hcells hone hrl hC Bw Jf
    go_wp2_with fail
    go_roundg (gk-1)
    case measure=>omega
    case rel=>exact⟨k+1,by omega,by go_num,cI⟩
   ·have W6:(fk ra rb rs e l).length=0:=by omega
    have W7:fk ra rb rs e l=[]:=gF.1 W6;obtain⟨xo,xc,rfl⟩:∃xo xc,cv=.slice xo 0 xc:=by
     rcases hC.1.2 with⟨hv,_⟩|⟨gg,cc,cur,hv,_⟩
     ·exact⟨none,0,hv⟩
     ·exact⟨_,cc,by rw[hv,W6]⟩
    have cI:Hid (∃L',PL w u4 L' w2/\(∀k,u4.ownBlock=some k->w1.heap.size<=k)/\Below w1.heap.size w1 w2/\AP (es.take (k+1)) l L'/\L'.length<=(k+1)*200000):=by
     have h:=Jf.out;rw[W7,rM] at h;exact⟨L,⟨gw,pN⟩,NH.out,Jg,h,hLk⟩
    clear hC Bw Jf W7
    go_wp2_with (at_builtin;refine WU rfl (.tmp 15) (.tmp 18) 168 rfl w.heap.size 171 i0 6 Tryz.underlying168 hi u4 L.length (cN L) rfl gw xo xc rfl ?_)
    go_roundg (gk-1)
    case measure=>omega
    case rel=>exact⟨k+1,by omega,by go_num,cI⟩
  ·have hk:k=es.length:=by omega
   subst hk;obtain⟨L,vA,_,xj,rB,jO⟩:=HE.out;rw[dN] at rB;have HC:=HS.out l WX.out.1 WX.out.2 _ L _ vA rB (by omega)
   have EE:Hid (Calls Tryz.prog 156 #[u4,.func (.func 157) #[] #[]] wr fun r w'=>r=.returned (.tuple #[])/\Calls Tryz.prog 158 #[u4,.func (.func 159) #[] #[]] w' fun r w''=>∃v' Ps,r=.returned v'/\Q Ps v' w''):=HC
   clear HC HS HE vA rB HR WW
   go_wp2_with fail
   refine EE.out.mono ?_;rintro r w5 ⟨rfl,W8⟩;have HC5:Hid (Calls Tryz.prog 158 #[u4,.func (.func 159) #[] #[]] w5 fun r w''=>∃v' Ps,r=.returned v'/\Q Ps v' w''):=W8
   clear W8 EE
   go_wp2_with fail
   refine HC5.out.mono ?_;rintro r w6 ⟨v',Ps,rfl,hQ⟩;have HQ:Hid (Q Ps v' w6):=hQ;clear hQ
   go_wp2_with fail
   go_ret
   exact⟨v',Ps,rfl,HQ.out⟩
end Go.Proofs.YtkjhhooecopolaaGreatDoor
namespace Go.Proofs
open Go.Shelf
def Tryz.sortPc_ren:Go.Shelf.Ren:=⟨fun |6=>156|15=>164|14=>199|28=>208|29=>209|20=>240|21=>241|22=>242|23=>243|24=>244|25=>245|26=>246|27=>247|46=>286|47=>249|48=>250|49=>287|50=>288|57=>304|n=>n,fun |22=>168|24=>171|25=>228|3=>3|39=>238|0=>0|53=>280|55=>282|4=>4|46=>274|45=>273|50=>70|5=>5|9=>9|66=>313|70=>317|76=>346|77=>172|n=>n,fun |n=>n⟩
theorem Tryz.sortPc:Go.Proofs.SlLaysF0.n6 Tryz.prog Tryz.sortPc_ren:={
 mixed:=by kernel_rfl
 f6:=⟨Tryz.f156.name,by decide,Tryz.func156.trans (aw some (by kernel_rfl))⟩
 f14:=⟨Tryz.f199.name,by decide,Tryz.func199.trans (aw some (by kernel_rfl))⟩
 f15:=Tryz.func164.trans (aw some (by kernel_rfl))
 f20:=⟨Tryz.f240.name,by decide,Tryz.func240.trans (aw some (by kernel_rfl))⟩
 f21:=⟨Tryz.f241.name,by decide,Tryz.func241.trans (aw some (by kernel_rfl))⟩
 f22:=⟨Tryz.f242.name,by decide,Tryz.func242.trans (aw some (by kernel_rfl))⟩
 f23:=⟨Tryz.f243.name,by decide,Tryz.func243.trans (aw some (by kernel_rfl))⟩
 f24:=⟨Tryz.f244.name,by decide,Tryz.func244.trans (aw some (by kernel_rfl))⟩
 f25:=⟨Tryz.f245.name,by decide,Tryz.func245.trans (aw some (by kernel_rfl))⟩
 f26:=⟨Tryz.f246.name,by decide,Tryz.func246.trans (aw some (by kernel_rfl))⟩
 f27:=⟨Tryz.f247.name,by decide,Tryz.func247.trans (aw some (by kernel_rfl))⟩
 f28:=Tryz.func208.trans (aw some (by kernel_rfl))
 f29:=Tryz.func209.trans (aw some (by kernel_rfl))
 f46:=⟨Tryz.f286.name,by decide,Tryz.func286.trans (aw some (by kernel_rfl))⟩
 f47:=Tryz.func249.trans (aw some (by kernel_rfl))
 f48:=Tryz.func250.trans (aw some (by kernel_rfl))
 f49:=⟨Tryz.f287.name,by decide,Tryz.func287.trans (aw some (by kernel_rfl))⟩
 f50:=⟨Tryz.f288.name,by decide,Tryz.func288.trans (aw some (by kernel_rfl))⟩
 f57:=⟨Tryz.f304.name,by decide,Tryz.func304.trans (aw some (by kernel_rfl))⟩
 t0:=Tryz.underlying0
 a0:=Tryz.isAgg0
 z0:=Tryz.sizeOf0
 v0:=Tryz.zeroValue0
 t3:=Tryz.underlying3
 a3:=Tryz.isAgg3
 z3:=Tryz.sizeOf3
 v3:=Tryz.zeroValue3
 t4:=Tryz.underlying4
 a4:=Tryz.isAgg4
 z4:=Tryz.sizeOf4
 v4:=Tryz.zeroValue4
 t5:=Tryz.underlying5
 a5:=Tryz.isAgg5
 z5:=Tryz.sizeOf5
 v5:=Tryz.zeroValue5
 t9:=Tryz.underlying9
 a9:=Tryz.isAgg9
 z9:=Tryz.sizeOf9
 v9:=Tryz.zeroValue9
 t22:=Tryz.underlying168
 a22:=Tryz.isAgg168
 z22:=Tryz.sizeOf168
 v22:=Tryz.zeroValue168
 t25:=Tryz.underlying228
 a25:=Tryz.isAgg228
 z25:=Tryz.sizeOf228
 v25:=Tryz.zeroValue228
 t39:=Tryz.underlying238
 a39:=Tryz.isAgg238
 z39:=Tryz.sizeOf238
 v39:=Tryz.zeroValue238
 t45:=Tryz.underlying273
 a45:=Tryz.isAgg273
 z45:=Tryz.sizeOf273
 v45:=Tryz.zeroValue273
 t46:=Tryz.underlying274
 a46:=Tryz.isAgg274
 z46:=Tryz.sizeOf274
 v46:=Tryz.zeroValue274
 t50:=Tryz.underlying70
 a50:=Tryz.isAgg70
 z50:=Tryz.sizeOf70
 v50:=Tryz.zeroValue70
 t53:=Tryz.underlying280
 a53:=Tryz.isAgg280
 z53:=Tryz.sizeOf280
 v53:=Tryz.zeroValue280
 t55:=Tryz.underlying282
 a55:=Tryz.isAgg282
 z55:=Tryz.sizeOf282
 v55:=Tryz.zeroValue282
 t66:=Tryz.underlying313
 a66:=Tryz.isAgg313
 z66:=Tryz.sizeOf313
 v66:=Tryz.zeroValue313
 t70:=Tryz.underlying317
 a70:=Tryz.isAgg317
 z70:=Tryz.sizeOf317
 v70:=Tryz.zeroValue317
 t76:=Tryz.underlying346
 a76:=Tryz.isAgg346
 z76:=Tryz.sizeOf346
 v76:=Tryz.zeroValue346
 t77:=Tryz.underlying172
 a77:=Tryz.isAgg172
 z77:=Tryz.sizeOf172
 v77:=Tryz.zeroValue172}
end Go.Proofs
namespace Go.Proofs.YtkjhhooecopolaaGreatDoor
open Go.RowKit
def jy(x y:PB):Prop:=Bo x y<0
theorem NI{a b:Ge.Nd}(ha:Ge.Can a)(hb:Ge.Can b):Ge.lt (Ge.ay a) (Ge.ay b)\/a=b\/Ge.lt (Ge.ay b) (Ge.ay a):=by
 by_cases h:Ge.lt (Ge.ay b) (Ge.ay a)
 ·exact af (af h)
 ·by_cases e:a=b
  ·exact af (ae e)
  ·exact ae (Ge.Bh ha hb h e)
theorem rC{x y:PB}(hx:cU x)(hy:cU y):jy x y↔Ge.lt (Ge.ay x.f) (Ge.ay y.f)\/(x.f=y.f/\Ge.lt (Ge.ay x.t) (Ge.ay y.t)):=by
 unfold jy Bo bg Ge.lt;by_cases h:Ge.pc (Ge.ay x.f) (Ge.ay y.f)=0
 ·have e:=Ge.vk hx.cf hy.cf h;rw[ah h];constructor
  ·exact fun k=>af ⟨e,k⟩
  ·rintro(k|⟨_,k⟩)
   ·omega
   ·exact k
 ·rw[aa h];constructor
  ·exact ae
  ·rintro(k|⟨e,_⟩)
   ·exact k
   ·exact absurd (by rw[e];exact Ge.yA _) h
theorem W9{x y z:PB}(hx:cU x)(hy:cU y)(hz:cU z)(h1:jy x y)(h2:jy y z):jy x z:=by
 rw[rC hx hy] at h1;rw[rC hy hz] at h2;rw[rC hx hz];rcases h1 with h1|⟨e1,h1⟩<;>rcases h2 with h2|⟨e2,h2⟩
 ·exact ae (Ge.lt_trans (Ge.cS hx.cf) (Ge.cS hy.cf) (Ge.cS hz.cf) h1 h2)
 ·exact ae (by rw[<-e2];exact h1)
 ·exact ae (by rw[e1];exact h2)
 ·exact af ⟨e1.trans e2,Ge.lt_trans (Ge.cS hx.ct) (Ge.cS hy.ct) (Ge.cS hz.ct) h1 h2⟩
theorem NK{x y:PB}(hx:cU x)(hy:cU y):jy x y\/(x.f=y.f/\x.t=y.t)\/jy y x:=by
 rw[rC hx hy,rC hy hx];rcases NI hx.cf hy.cf with h|h|h
 ·exact ae (ae h)
 ·rcases NI hx.ct hy.ct with k|k|k
  ·exact ae (af ⟨h,k⟩)
  ·exact af (ae ⟨h,k⟩)
  ·exact af (af (af ⟨h.symm,k⟩))
 ·exact af (af (ae h))
theorem Xa(x:PB):¬jy x x:=by
 unfold jy Bo bg;rw[ah (Ge.yA _),Ge.yA];decide
abbrev VP:={x:PB //cU x}
def jh(x:VP):List Value:=x.1.cells
def Bx(x y:VP):Int:=Bo x.1 y.1
theorem ahE [Inhabited VP](blk off size:Nat)(w:World):CmpLays Tryz.prog 157 #[] jh 6 Bx blk off size w:=
 fun _ _ _ _ x y=>(agT x.1 y.1 x.2 y.2 _).mono fun _ _⟨h1,h2,h3⟩=>⟨h1,Jd h2 h3⟩
theorem Jh{x y:VP}:ltOf Bx x y=true↔jy x.1 y.1:=by
 unfold ltOf Bx jy;exact rW
theorem EF{x y:VP}:ltOf Bx x y=false↔¬jy x.1 y.1:=by
 rw[<-Jh];simp
theorem ahF:Sort.SWO (ltOf Bx) where
 irrefl x:=EF.2 (Xa _)
 trans x y z h1 h2:=Jh.2 (W9 x.2 y.2 z.2 (Jh.1 h1) (Jh.1 h2))
 ntrans x y z h1 h2:=EF.2 fun h=>by
  have k1:=EF.1 h1;have k2:=EF.1 h2;rcases NK x.2 y.2 with a|⟨a,b⟩|a
  ·exact k1 a
  ·refine k2 ?_;rw[rC y.2 z.2,<-a,<-b,<-rC x.2 z.2];exact h
  ·exact k2 (W9 y.2 x.2 z.2 a h)
theorem Xb:∀(L:List PB),(∀n∈L,cU n)->∃d:List VP,d.map Subtype.val=L
 |[],_=>⟨[],rfl⟩
 |n::L,h1=>by
  obtain⟨d,hd⟩:=Xb L (fun m hm=>h1 m (by simp[hm]))
  exact⟨⟨n,h1 n (by simp)⟩::d,by simp[hd]⟩
theorem Ji:∀(l:List PB)(k:Nat)(e:PB),l[k]?=some e->∀j,j<6->(cN l)[k*6+j]?=e.cells[j]?
 |[],_,_,h,_,_=>by simp at h
 |q::r,0,e,h,j,hj=>by
  simp at h;subst h;have e1:cN (q::r)=q.cells++cN r:=by simp[cN]
  rw[e1,eD (by show _<6;omega)]
  simp
 |q::r,k+1,e,h,j,hj=>by
  have ih:=Ji r k e (by simpa using h) j hj
  have e1:cN (q::r)=q.cells++cN r:=by simp[cN]
  have e0:q.cells.length=6:=rfl;rw[e1,nT (by omega)]
  have e2:(k+1)*6+j-q.cells.length=k*6+j:=by omega
  rw[e2,ih]
theorem Xc [Inhabited VP](d:Array VP):(Sort.flatK jh 6 d).toList=cN (d.toList.map Subtype.val):=by
 apply Ct;intro t;by_cases ht:t<d.size*6
 ·have h1:t/6<d.size:=by omega
  have hx:(d.toList.map Subtype.val)[t/6]?=some (d[t/6]!).1:=by
   rw[gD,ja,nX h1,iz d _ h1];rfl
  have h2:=Ji _ _ _ hx (t%6) (K7 _ (by decide))
  have e1:t/6*6+t%6=t:=by omega
  rw[e1] at h2;have h3:=Sort.get_flatK jh 6 d t ht;have hs:t<(Sort.flatK jh 6 d).size:=by rw[Sort.size_flatK];exact ht
  rw[iz (Sort.flatK jh 6 d) t hs] at h3;rw[h2,ja,nX hs,h3];have hl:t%6<(jh d[t/6]!).length:=K7 _ (by decide)
  rw[iz (jh d[t/6]!) (t%6) hl];exact(aD hl).symm
 ·rw[xO (by rw[iP,Sort.size_flatK];omega),xO (by rw[Bv];simp;omega)]
theorem ahG [Inhabited VP](d':Array VP)(n:Nat)(os:Array Obj){wr:World}{g:Nat}{cur:Array Value}{t:TypeId}{fr:Nat×Nat}(hb:wr.heap[g]?=some (.cells cur t fr)):
  (sortWorldK jh 6 wr g 0 n d' os).heap[g]?=some (.cells (Sort.putCells id 0 (Sort.flatK jh 6 d') cur) t fr):=by
 have hg:=lt_of_heap hb;show((wr.heap.modify g (Sort.onCells (Sort.putCells id 0 (Sort.flatK jh 6 d'))))++os)[g]?=_;rw[GH (by simpa using hg),zM,ah rfl,hb]
 rfl
theorem ahH [Inhabited VP](d':Array VP)(n:Nat)(os:Array Obj){wr:World}{g k:Nat}(hk:k<wr.heap.size)(hne:g≠k):
  (sortWorldK jh 6 wr g 0 n d' os).heap[k]?=wr.heap[k]?:=by
 show((wr.heap.modify g (Sort.onCells (Sort.putCells id 0 (Sort.flatK jh 6 d'))))++os)[k]?=_;rw[GH (by simpa using hk),zM,aa hne]
theorem ahI [Inhabited VP](d':Array VP)(n:Nat)(os:Array Obj)(wr:World)(g:Nat):wr.heap.size<=(sortWorldK jh 6 wr g 0 n d' os).heap.size:=by
 show _<=((wr.heap.modify g (Sort.onCells (Sort.putCells id 0 (Sort.flatK jh 6 d'))))++os).size;rw[acH,acI];omega
theorem ahJ [Inhabited VP](w:World)(lv:Value)(L:List PB)(wr:World)(h:PL w lv L wr)(hv:∀x∈L,cU x)(hl:L.length<=85000000):
  Calls Tryz.prog 156 #[lv,.func (.func 157) #[] #[]] wr fun r w'=>r=.returned (.tuple #[])/\∃S,PL w lv S w'/\S.Perm L/\S.Pairwise (fun x y=>¬jy y x):=by
 obtain⟨hlen,jM⟩:=h.1;rcases jM with⟨rfl,h0⟩|⟨g,cap,cur,rfl,hg,hblk,hnc,hcm,hcs,htk⟩
 ·have hL:L=[]:=gF.1 h0;subst hL;refine(AnyF.slices_SortFunc_none Tryz.sortPc none 0 _ wr).mono ?_;rintro e w' ⟨rfl,rfl⟩;exact⟨rfl,[],h,xX _,List.Pairwise.nil⟩
 ·obtain⟨d,hd⟩:=Xb L hv;have hgl:g<wr.heap.size:=lt_of_heap hblk;have hsz:L.length=d.toArray.size:=by rw[<-hd];simp
  have hfl:(Sort.flatK jh 6 d.toArray).toList=cur.toList.take (L.length*6):=by rw[Xc,htk,<-hd]
  have hH:Sort.HoldsK jh 6 wr g 0 d.toArray:=by
   intro j hj;have hj':=hj;rw[Sort.size_flatK,<-hsz] at hj';have NF:cur[j]?=some (Sort.flatK jh 6 d.toArray)[j]! :=by
    have e1:(Sort.flatK jh 6 d.toArray).toList[j]?=(cur.toList.take (L.length*6))[j]?:=by rw[hfl]
    rw[kC,ah hj',ja,ja,nX hj] at e1;rw[<-e1,iz (Sort.flatK jh 6 d.toArray) j hj]
   refine⟨?_,aH hblk _⟩;rw[jn];unfold World.cell?;rw[hblk];exact NF
  have eg:∀args w,(callFunc 157 args).run Tryz.prog w=.ok (.enter 157 args) w:=enters_of Tryz.func157 (by kernel_rfl) rfl
  have hone:∀x:VP,∀v∈jh x,v.oneCell'=true:=fun x v hv=>by
   simp[jh,PB.cells] at hv;rcases hv with rfl|rfl|rfl|rfl|rfl|rfl<;>rfl
  have hcon:=AnyQ.slices_SortFunc Tryz.sortPc 6 Tryz.isAgg171 Tryz.sizeOf171 jh (fun _=>rfl) hone Bx ahF 157 #[] g 0 cap d.toArray wr eg (ahE _ _ _ _) hH hgl (by rw[<-hsz];omega)
  change Calls Tryz.prog 156 _ _ _ at hcon
  rw[<-hsz] at hcon;refine hcon.mono ?_;rintro e w' ⟨rfl,d',n,os,hp,hs,rfl⟩;obtain⟨hps,_,ED⟩:=hp;have hs1:d'.size=L.length:=by rw[hps,hsz]
  have hperm:d'.toList.Perm d:=by
   have e1:d'.extract 0 L.length=d':=by rw[<-hs1];exact Le
   have e2:d.toArray.extract 0 L.length=d.toArray:=by rw[hsz];exact Le
   rw[e1,e2] at ED;exact ED
  have xh:(d'.toList.map Subtype.val).length=L.length:=by simp[hs1]
  have hpm:(d'.toList.map Subtype.val).Perm L:=by rw[<-hd];exact hperm.map _
  refine⟨rfl,d'.toList.map Subtype.val,⟨⟨by rw[Bv],af ⟨g,cap,_,by rw[xh],hg,ahG d' n os hblk,by rw[xh];exact hnc,hcm,?_,?_⟩⟩,?_⟩,hpm,?_⟩
  ·unfold Sort.putCells;rw[RX];exact hcs
  ·have e1:(d'.toList.map Subtype.val).length*6=(Sort.flatK jh 6 d').size:=by rw[Sort.size_flatK,xh,hs1]
   rw[e1,WR _ _ (by rw[Sort.size_flatK,hs1,hcs];omega),Xc]
  ·exact h.2.trans ⟨rfl,rfl,rfl,ahI d' n os wr g,fun k hk=>ahH d' n os (aQ hk h.2.size) (by omega)⟩
  ·rw[nU,mZ];intro i j hi hj hij;have hi':i<d'.size:=by simpa using hi
   have hj':j<d'.size:=by simpa using hj
   have hx:=hs i j (iI _) hij (by omega)
   rw[iz d' i hi',iz d' j hj'] at hx;exact EF.1 hx
end Go.Proofs.YtkjhhooecopolaaGreatDoor

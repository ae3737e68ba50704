import Derived.Test.YtkjhhooecopolaaGreatDoorSz06
import Derived.Test.YtkjhhooecopolaaGreatDoorProg
set_option maxRecDepth 100000
set_option maxHeartbeats 4000000
namespace Go.Proofs.YtkjhhooecopolaaGreatDoor
open Tryz
open Value renaming int->az,complex->aA,float->aB,agg->aC,bool->aD,string->aF,slice->aG,pointer->aH,tuple->aI
open IntKind renaming i64->aJ
open FloatKind renaming f64->aK
open Ending renaming returned->aL
open Go renaming World->aM,Value->aN,floatOfInt->aO
section
open Go.RowKit
variable{w w' wr:aM}
abbrev VN:={n:Ge.Nd //Ge.Can n/\fC n.1 n.2.1 n.2.2}
def j4(x:VN):List aN:=jd x.1
def ED(x y:VN):Int:=Ge.pc (Ge.aU x.1) (Ge.aU y.1)
theorem Mp(h:aj w w')(hd:w.drawn<=w'.drawn):∃q os,w'=Sort.grow (w.drewN q) os:=by
 refine⟨w'.drawn-w.drawn,w'.heap.extract w.heap.size w'.heap.size,?_⟩;have hh:w'.heap=w.heap++w'.heap.extract w.heap.size w'.heap.size:=by
  apply Array.ext_getElem?;intro k;rw[Array.getElem?_append];split
  .exact h.block k (by assumption)
  .rename_i hk
   rw[Array.getElem?_extract];by_cases hlt:k<w'.heap.size
   .rw[aV aa]
    congr 1;omega
   .rw[aP aa,J6 aa]
 have e1:w.drawn+(w'.drawn-w.drawn)=w'.drawn:=aa
 have h1:=h.os;have h2:=h.tape;have h3:=h.output;unfold Sort.grow World.drewN;rw[e1];show w'={heap:=w.heap++w'.heap.extract w.heap.size w'.heap.size,tape:=w.tape,drawn:=w'.drawn,os:=w.os,output:=w.output};rw[<-hh,<-h1,<-h2,<-h3]
theorem alg[Inhabited VN](blk off size:Nat)(w:aM):CmpLays prog 125 #[] j4 2 ED blk off size w:=
 λ_ _ _ _ x y=>(Hd x.1 y.1 x.2.2 y.2.2 x.2.1 y.2.1 _).mono λ_ _⟨h1,h2,h3⟩=>⟨h1,Mp h2 h3⟩
theorem Mq{x y:VN}:ltOf ED x y=true↔Ge.lt (Ge.aU x.1) (Ge.aU y.1):=by
 unfold ltOf ED Ge.lt;exact uV
theorem H7{x y:VN}:ltOf ED x y=false↔¬Ge.lt (Ge.aU x.1) (Ge.aU y.1):=by
 rw[<-Mq];simp
theorem alh:Sort.SWO (ltOf ED) where
 irrefl _x:=H7.2 (Ge.lt_irrefl _)
 trans x y z h1 h2:=Mq.2 (Ge.lt_trans (Ge.eA x.2.1) (Ge.eA y.2.1) (Ge.eA z.2.1) (Mq.1 h1) (Mq.1 h2))
 ntrans x y z h1 h2:=H7.2 λh=>H7.1 h1 (Ge.lt_le_trans x.2.1 z.2.1 y.2.1 h (H7.1 h2))
theorem aaH:∀(L:List Ge.Nd),(∀n∈L,Ge.Can n)->(∀n∈L,fC n.1 n.2.1 n.2.2)->∃d:List VN,d.map Subtype.val=L
 |[],_,_=>⟨[],rfl⟩
 |n::L,h1,h2=>by
  obtain⟨d,hd⟩:=aaH L (λm hm=>h1 m (by simp[hm])) (λm hm=>h2 m (by simp[hm]))
  exact⟨⟨n,h1 n af,h2 n af⟩::d,by simp[hd]⟩
theorem aaI[Inhabited VN](d:Array VN):(Sort.flatK j4 2 d).toList=eW (d.toList.map Subtype.val):=by
 apply FJ;intro t;by_cases ht:t<d.size*2
 .have h1:t/2<d.size:=aa
  have hx:(d.toList.map Subtype.val)[t/2]?=some (d[t/2]!).1:=by
   rw[iy,jW,pU h1,jl d _ h1];rfl
  have h2:=He _ _ _ hx (t%2) (uU _ ah)
  have e1:t/2*2+t%2=t:=aa
  rw[e1] at h2;have h3:=Sort.get_flatK j4 2 d t ht;have hs:t<(Sort.flatK j4 2 d).size:=by rw[Sort.size_flatK];exact ht
  rw[jl (Sort.flatK j4 2 d) t hs] at h3;rw[h2,jW,pU hs,h3];have hl:t%2<(j4 d[t/2]!).length:=uU _ ah
  rw[jl (j4 d[t/2]!) (t%2) hl];exact(bo hl).symm
 .rw[yK (by rw[jw,Sort.size_flatK];omega),yK (by rw[Hn];simp;omega)]
theorem aaJ(F c:Array aN)(h:F.size<=c.size):(Sort.putCells id 0 F c).toList.take F.size=F.toList:=by
 apply FJ;intro t;rw[lH];by_cases ht:t<F.size
 .have h1:t<c.size:=aa
  rw[aV ht,jW,jW];unfold Sort.putCells;rw[atw,pU h1,pU ht];simp[ht]
 .rw[aP ht,jW,J6 aa]
theorem ali[Inhabited VN](d':Array VN)(n:Nat)(os:Array Obj){g:Nat}{cur:Array aN}{t:TypeId}{fr:Nat×Nat}(hb:wr.heap[g]?=some (.cells cur t fr)):
  (sortWorldK j4 2 wr g 0 n d' os).heap[g]?=some (.cells (Sort.putCells id 0 (Sort.flatK j4 2 d') cur) t fr):=by
 have hg:=lt_of_heap hb;show((wr.heap.modify g (Sort.onCells (Sort.putCells id 0 (Sort.flatK j4 2 d'))))++os)[g]?=_;rw[Ka (by simpa using hg),Db,aV rfl,hb]
 rfl
theorem alj[Inhabited VN](d':Array VN)(n:Nat)(os:Array Obj){g k:Nat}(hk:k<wr.heap.size)(hne:g≠k):
  (sortWorldK j4 2 wr g 0 n d' os).heap[k]?=wr.heap[k]?:=by
 show((wr.heap.modify g (Sort.onCells (Sort.putCells id 0 (Sort.flatK j4 2 d'))))++os)[k]?=_;rw[Ka (by simpa using hk),Db,aP hne]
theorem alk[Inhabited VN](d':Array VN)(n:Nat)(os:Array Obj)(wr:aM)(g:Nat):wr.heap.size<=(sortWorldK j4 2 wr g 0 n d' os).heap.size:=by
 show _<=((wr.heap.modify g (Sort.onCells (Sort.putCells id 0 (Sort.flatK j4 2 d'))))++os).size;rw[ahn,aho];omega
theorem alm[Inhabited VN](w:aM)(lv:aN)(L:List Ge.Nd)(wr:aM)(h:NL w lv L wr)(hl:L.length<=200000):
  ak 124 #[lv,.func (.func 125) #[] #[]] wr λr w'=>r=aL (aI #[])/\∃S,NL w lv S w'/\(∀n,n∈S↔n∈L)/\S.length=L.length/\S.Pairwise Ge.le:=by
 obtain⟨hlen,xL⟩:=h.own;rcases xL with⟨rfl,h0⟩|⟨g,cap,cur,rfl,hg,hblk,hnc,hcm,hcs,htk⟩
 .have hL:L=[]:=iX.1 h0;subst hL;refine(AnyF.slices_SortFunc_none Tryz.sortNd none 0 _ wr).mono ?_;rintro e w' ⟨rfl,rfl⟩;exact⟨rfl,[],h,λn=>JV,rfl,List.Pairwise.nil⟩
 .obtain⟨d,hd⟩:=aaH L h.can h.bw;have hgl:g<wr.heap.size:=lt_of_heap hblk;have hsz:L.length=d.toArray.size:=by rw[<-hd];simp
  have hfl:(Sort.flatK j4 2 d.toArray).toList=cur.toList.take (L.length*2):=by rw[aaI,htk,<-hd]
  have hH:Sort.HoldsK j4 2 wr g 0 d.toArray:=by
   intro j hj;have hj':=hj;rw[Sort.size_flatK,<-hsz] at hj';have Si:cur[j]?=some (Sort.flatK j4 2 d.toArray)[j]! :=by
    have e1:(Sort.flatK j4 2 d.toArray).toList[j]?=(cur.toList.take (L.length*2))[j]?:=by rw[hfl]
    rw[lH,aV hj',jW,jW,pU hj] at e1;rw[<-e1,jl (Sort.flatK j4 2 d.toArray) j hj]
   refine⟨?_,bK hblk _⟩;rw[jH];unfold World.cell?;rw[hblk];exact Si
  have eg:∀args w,(callFunc 125 args).run prog w=.ok (.enter 125 args) w:=enters_of func125 ag rfl
  have hone:∀x:VN,∀v∈j4 x,v.oneCell'=true:=λx v hv=>by
   simp[j4,jd] at hv;rcases hv with rfl|rfl<;>rfl
  have hcon:=AnyQ.slices_SortFunc Tryz.sortNd 2 isAgg83 sizeOf83 j4 (λ_=>rfl) hone ED alh 125 #[] g 0 cap d.toArray wr eg (alg _ _ _ _) hH hgl (by rw[<-hsz];omega)
  change ak 124 _ _ _ at hcon
  rw[<-hsz] at hcon;refine hcon.mono ?_;rintro e w' ⟨rfl,d',n,os,hp,hs,rfl⟩;obtain⟨hps,_,H8⟩:=hp;have hs1:d'.size=L.length:=by rw[hps,hsz]
  have hperm:d'.toList.Perm d:=by
   have e1:d'.extract 0 L.length=d':=by rw[<-hs1];exact Po
   have e2:d.toArray.extract 0 L.length=d.toArray:=by rw[hsz];exact Po
   rw[e1,e2] at H8;exact H8
  have zH:(d'.toList.map Subtype.val).length=L.length:=by simp[hs1]
  have hmem:∀m,m∈d'.toList.map Subtype.val↔m∈L:=λm=>by
   rw[<-hd];simp only[bQ];constructor
   .rintro⟨x,hx,rfl⟩;exact⟨x,hperm.mem_iff.1 hx,rfl⟩
   .rintro⟨x,hx,rfl⟩;exact⟨x,hperm.mem_iff.2 hx,rfl⟩
  refine⟨rfl,d'.toList.map Subtype.val,⟨⟨by rw[Hn],aR ⟨g,cap,_,by rw[zH],hg,ali d' n os hblk,by rw[zH];exact hnc,hcm,?_,?_⟩⟩,?_,λm hm=>h.can m ((hmem m).1 hm),λm hm=>h.bw m ((hmem m).1 hm)⟩,hmem,zH,?_⟩
  .unfold Sort.putCells;rw[Ww];exact hcs
  .have e1:(d'.toList.map Subtype.val).length*2=(Sort.flatK j4 2 d').size:=by rw[Sort.size_flatK,zH,hs1]
   rw[e1,aaJ _ _ (by rw[Sort.size_flatK,hs1,hcs];omega),aaI]
  .exact h.below.trans ⟨rfl,rfl,rfl,alk d' n os wr g,λk hk=>alj d' n os (bW hk h.below.size) aa⟩
  .rw[lF,lW];intro i j hi hj hij;have hi':i<d'.size:=by simpa using hi
   have hj':j<d'.size:=by simpa using hj
   have hx:=hs i j (iW _) hij aa
   rw[jl d' i hi',jl d' j hj'] at hx;exact H7.1 hx
theorem aln(es:List Ed)(v:aN)(w:aM)(hR:jL w v es)(hl:es.length<=402)(hs:∀e∈es,gS e):
  ak 72 #[v] w λe w'=>∃v' l,e=aL v'/\jn w' v' l/\aj w w'/\l.map Ge.aU=Ge.ja es/\(∀n∈l,fC n.1 n.2.1 n.2.2)/\l.length<=200000/\(∀n∈l,Ge.Can n):=by
 haveI:Inhabited VN:=⟨⟨(0,0,1),⟨ah,ah⟩,⟨ah,ah,ah⟩⟩⟩
 exact akK es v w hR hl hs (λlv L wr h1 h2=>alm w lv L wr h1 h2) (λlv S wr h1 h2=>alf w lv S wr h1 h2)
namespace Ge
theorem Sj{k X:Int}(hk:k≠0):X.natAbs<=(k*X).natAbs:=by
 rw[oX];have:1<=k.natAbs:=aa
 calc X.natAbs=1*X.natAbs:=(Wb _).symm
  _<=k.natAbs*X.natAbs:=J7 _ this
theorem alo(x y:Int){d:Int}(hd:d≠0):∃n:Nd,Can n/\aU n=(bO x d,bO y d)/\n.1.natAbs<=x.natAbs/\n.2.1.natAbs<=y.natAbs/\n.2.2.natAbs<=d.natAbs:=by
 obtain⟨G,hG⟩:∃G,Int.gcd (Int.gcd x y:Nat) d=G:=⟨_,rfl⟩;have GJ:0<G:=by rw[<-hG];exact vp aa
 have H9:(G:Int)∣(Int.gcd x y:Nat):=by rw[<-hG];exact FP _ _
 have dx:(G:Int)∣x:=FT H9 (FP _ _);have dy:(G:Int)∣y:=FT H9 (Dg _ _);have dd:(G:Int)∣d:=by rw[<-hG];exact Dg _ _
 have main:∀k:Int,k≠0->k.natAbs=G->k∣x->k∣y->k∣d->0<d.tdiv k->∃n:Nd,Can n/\aU n=(bO x d,bO y d)/\n.1.natAbs<=x.natAbs/\n.2.1.natAbs<=y.natAbs/\n.2.2.natAbs<=d.natAbs:=by
  intro k k0 hk kx ky kd hp;have ex:=(AB kx).symm;have ey:=(AB ky).symm;have ed:=(AB kd).symm;obtain⟨h1,h2⟩:=LZ hd ex ey ed hp (by rw[hk,hG])
  refine⟨_,h1,h2,?_,?_,?_⟩
  .have:=Sj (X:=x.tdiv k) k0;rw[<-ex] at this;exact this
  .have:=Sj (X:=y.tdiv k) k0;rw[<-ey] at this;exact this
  .have:=Sj (X:=d.tdiv k) k0;rw[<-ed] at this;exact this
 obtain⟨q,hq⟩:=dd;have mZ:(0:Int)<G:=aa
 rcases gf d 0 with h|h|h
 .have hqn:q<0:=by
   rcases gf q 0 with h1|h1|h1
   .exact h1
   .rw[h1] at hq;omega
   .have:=bJ mZ h1;omega
  refine main (-(G:Int)) aa aa (Int.neg_dvd.2 dx) (Int.neg_dvd.2 dy) (Int.neg_dvd.2 ⟨q,hq⟩) ?_
  have e:d= -(G:Int)*(-q):=by rw[AH];exact hq
  rw[e,atx _ aa]
  omega
 .exact absurd h hd
 .have hqp:0<q:=by
   rcases gf q 0 with h1|h1|h1
   .have:=wK mZ h1;omega
   .rw[h1] at hq;omega
   .exact h1
  refine main (G:Int) aa aa dx dy ⟨q,hq⟩ ?_
  rw[hq,atx _ aa]
  exact hqp
end Ge
theorem aaK{es:List Ed}(hs:∀e∈es,gS e){n:Ge.Nd}(hc:Ge.Can n)(h:Ge.isNode es (Ge.aU n)):nj n:=by
 have aaL:∀a:Ge.Pt,small a.1->small a.2->Ge.aU n=Ge.pt a->nj n:=λa h1 h2 hq=>by
  have hc1:Ge.Can (a.1,a.2,1):=⟨by show(0:Int)<1;decide,af⟩
  have e:n=(a.1,a.2,1):=Ge.LY hc hc1 (by rw[hq];unfold Ge.aU Ge.pt;simp only[Ge.Lc])
  unfold small at h1 h2;rw[e];exact⟨by simp only;omega,by simp only;omega,af⟩
 rcases h with⟨e,he,h|h⟩|⟨e,he,f,hf,hcr,hq,_,_⟩
 .exact aaL e.1 (hs e he).a (hs e he).b h
 .exact aaL e.2 (hs e he).c (hs e he).d h
 .obtain⟨m,hm,hmq,m1,m2,m3⟩:=Ge.alo (Ge.mX e f) (Ge.mY e f) hcr;have en:n=m:=Ge.LY hc hm (by rw[hq,hmq];rfl)
  obtain⟨b1,b2,b3⟩:=Y7 (hs e he) (hs f hf);have hp:=hc.pos;rw[<-en] at m1 m2 m3;exact⟨aa,aa,aa⟩
structure AP(es:List Ed)(l:List Ge.Nd)(L:List PB):Prop where
 mem:∀p∈L,∃e∈es,qZ p.wa p.wb p.sh (Ge.jc (Ge.dK e))/\(p.f,p.t)∈Ge.nexts (Ge.held e l)
 all:∀e∈es,∀q∈Ge.nexts (Ge.held e l),∃p∈L,(p.f,p.t)=q
theorem AP.nil(l:List Ge.Nd):AP [] l []:=⟨λp h=>by simp at h,λe h=>by simp at h⟩
theorem AP.snoc{es:List Ed}{l:List Ge.Nd}{L:List PB}(h:AP es l L)(e:Ed){a b s:Nat}(hw:qZ a b s (Ge.jc (Ge.dK e))):AP (es++[e]) l (L++gz a b s e l):=by
 refine⟨λp hp=>?_,λf hf q hq=>?_⟩
 .rcases dF.1 hp with hp|hp
  .obtain⟨f,hf,h1⟩:=h.mem p hp;exact⟨f,by simp[hf],h1⟩
  .unfold gz at hp;obtain⟨q,hq,rfl⟩:=bQ.1 hp;exact⟨e,af,hw,hq⟩
 .rcases dF.1 hf with hf|hf
  .obtain⟨p,hp,h1⟩:=h.all f hf q hq;exact⟨p,by simp[hp],h1⟩
  .rw[dB.1 hf] at hq;exact⟨⟨a,b,s,q.1,q.2⟩,JU _ (bQ.2 ⟨q,hq,rfl⟩),rfl⟩
theorem alr{P:Program}(base:Nat)(t ty e:TypeId)(i:TypeInfo)(size:Nat)(ht:P.underlying t=some (.slice e))(hi:P.info? e=some i)
  (v:aN)(n:Nat)(xs:List aN)(hown:w.ownsRow base e size v n xs)(xo:Option Addr)(c:Nat):
  (Builtin.append_ #[t,t] ty #[v,aG xo 0 c]).run P w=.ok v w:=by
 rcases hown.2 with⟨rfl,rfl⟩|⟨g,cap,cur,rfl,_,_,hnc,_⟩
 .cases xo<;>simp[Builtin.append_,run_underlying ht,sizeOf,typeInfo,hi,Builtin.lenOf,Builtin.firstCells,loadCells,loadCellsFrom]
 .cases xo<;>simp[Builtin.append_,run_underlying ht,sizeOf,typeInfo,hi,Builtin.lenOf,Builtin.firstCells,hnc,storeCells,loadCells,loadCellsFrom]
theorem aaM{P:Program}{ops:Array Oper}{rest:List Oper}{o:Oper}{a:Act}{Q:Exit->Act->aM->Prop}(hgd:o.guard=none)(s x:Operand)(t:TypeId)
  (ho:o.op=.call {callee:=.builtin .append,args:= #[s,x],argTypes:= #[t,t]})(base:Nat)(e:TypeId)(i:TypeInfo)(size:Nat)(ht:P.underlying t=some (.slice e))(hi:P.info? e=some i)
  (v:aN)(n:Nat)(xs:List aN)(hs:a.eval s=v)(hown:w.ownsRow base e size v n xs)(xo:Option Addr)(c:Nat)(hx:a.eval x=aG xo 0 c)
  (h:wpList P ops Q rest (a.put o.dst v) w):wpList P ops Q (o::rest) a w:=
 wpList_plain hgd λ_ hK=>by
  have hr:=alr (P:=P) (w:=w) base t o.type e i size ht hi v n xs hown xo c;unfold Oper.wp execOp;simp only[ho,resolve,invoke,builtin,Sem.run_bind,Sem.run_pure,Result.andThen_ok,List.map_toArray,gM,J2,hs,hx,hr];exact hK _ _ h
theorem als{v:aN}{l:List Ge.Nd}(h:jn w v l)(hb:aj w w'):jn w' v l:=Bu h λk _cur hc=>hb.block k (lt_of_heap hc)
theorem aaN(l:List PB):∀u∈dX l,u.oneCell'=true:=by
 intro u hu;obtain⟨x,_,h⟩:=oW.1 hu;simp[PB.cells] at h;rcases h with rfl|rfl|rfl|rfl|rfl|rfl<;>rfl
theorem PL.fresh{v:aN}{L:List PB}(h:PL w v L wr)(hL:0<L.length):∃g cap,v=aG (some ⟨g,0,none⟩) L.length cap/\w.heap.size<=g/\∀j u,(dX L)[j]?=some u->wr.cell? ((⟨g,0,none⟩:Addr).add j)=some u:=by
 rcases h.1.2 with⟨_,h0⟩|⟨g,cap,cur,hv,hg,hr⟩
 .omega
 .exact⟨g,cap,hv,hg,h.1.cells (by rw[hv];rfl)⟩
theorem alu(a b:List PB):dX (a++b)=dX a++dX b:=by simp[dX]
theorem EE(l:List PB):(dX l).length=l.length*6:=by
 induction l with
 |nil=>rfl
 |cons x r ih=>
  have e:dX (x::r)=x.cells++dX r:=by simp[dX]
  rw[e,bX,ih,dG];show 6+_=_;omega
theorem alv(es:List Ed)(v:aN)(w:aM)(hR:jL w v es)(hl:es.length<=402)(hs:∀e∈es,gS e)
  (Q:List PB->aN->aM->Prop)
  (HS:Hid (∀l,l.map Ge.aU=Ge.ja es->(∀n∈l,Ge.Can n)->∀lv L wr,PL w lv L wr->AP es l L->L.length<=85000000->ak 156 #[lv,.func (.func 157) #[] #[]] wr λr w'=>r=aL (aI #[])/\ak 158 #[lv,.func (.func 159) #[] #[]] w' λr w''=>∃v' Ps,r=aL v'/\Q Ps v' w'')):
  ak 104 #[v] w λr w'=>∃v' Ps,r=aL v'/\Q Ps v' w':=by
 obtain⟨so,cap,rfl⟩:=K9 hR;obtain⟨i0,hi,hz0,hz1,hz2⟩:=info_parts aas;have HR:Hid (jL w (aG so es.length cap) es):=hR;have HN:Hid (ak 72 #[aG so es.length cap] w λe w'=>∃v' l,e=aL v'/\jn w' v' l/\aj w w'/\l.map Ge.aU=Ge.ja es/\(∀n∈l,fC n.1 n.2.1 n.2.2)/\l.length<=200000/\(∀n∈l,Ge.Can n)):=aln es _ w hR hl hs
 have HSE:Hid (∀e∈es,gS e):=hs;clear hR hs
 go_enter func104,ntmps104
 go_wp2_with fail
 refine HN.out.mono ?_;rintro r w1 ⟨nv,l,rfl,uq,hb1,kU,hin,hll,lQ⟩;obtain⟨ns,nc,rfl⟩:=Md uq;have HRN:Hid (jn w1 (aG ns l.length nc) l):=uq;have HNI:Hid (∀n∈l,fC n.1 n.2.1 n.2.2):=hin;have HLI:Hid (l.map Ge.aU=Ge.ja es/\(∀n∈l,Ge.Can n)):=⟨kU,lQ⟩;clear uq hin kU lQ HN;have cQ:Hid (∃L,PL w (aG none 0 0) L w1/\(∀k,(Value.slice none 0 0).ownBlock=some k->w1.heap.size<=k)/\aj w1 w1/\AP (es.take 0) l L/\L.length<=0):=⟨[],⟨World.ownsRow_nil _ _ _ _,hb1⟩,(λk h=>by cases h),Below.refl _ _,by simpa using AP.nil l,af⟩
 go_wp2_with fail
 go_loopg [4,11] es.length (λm lv iv wr=>∃k:Nat,k+m=es.length/\iv=az aJ k/\Hid (∃L,PL w lv L wr/\(∀k,lv.ownBlock=some k->w1.heap.size<=k)/\aj w1 wr/\AP (es.take k) l L/\L.length<=k*200000))
 case atStart=>exact⟨0,aa,rfl,by simpa using cQ⟩
 case round=>
  obtain⟨k,hkn,rfl,HE⟩:=hrel;clear cQ;by_cases hlt:k<es.length
  .obtain⟨L,xM,iK,sB,ur,lO⟩:=HE.out;have Sk:Hid (∀k,u4.ownBlock=some k->w1.heap.size<=k):=iK;have hLk:L.length<=(k+1)*200000:=fN lO (J7 _ (pT k));obtain⟨e,vM⟩:∃e,es[k]?=some e:=⟨_,bo hlt⟩;obtain⟨b,x,rfl,hb,hok,c0,c1,c2,c3⟩:=La HR.out vM;have aX:=xM.2;have r0:=aQ aX c0 hb;have r1:=aQ aX c1 hb;have r2:=aQ aX c2 hb;have r3:=aQ aX c3 hb;have hbr:b<wr.heap.size:=bW hb aX.size;have ij:(k:Int)<(es.length:Int):=aa
   have hmem:=bA vM;have mK:=HSE.out e hmem;obtain⟨ra,rb,rs,hfl,sK⟩:=aky (l:=Ge.dK e) (a:=x.wa) (b:=x.wb) (s:=x.sh) ⟨hok.wa,hok.wb,hok.sh⟩;have oD:Hid (AP (es.take (k+1)) l (L++gz ra rb rs e l)):=by
    have htk:es.take (k+1)=es.take k++[e]:=by rw[ju,vM];rfl
    rw[htk];exact ur.snoc e hfl
   have hcl:=aau ra rb rs e l;have Ex:Hid (∀v' w',jn w' v' l->ak 155 #[aC #[aA aK x.wa x.wb,aB aK x.sh,aA aK x.fa x.fb,aA aK x.ta x.tb],v'] w' λr w''=>∃v'',r=aL v''/\PL w' v'' (gz ra rb rs e l) w''):=λv' w' hv=>akY x e l v' w' hok mK hv HNI.out hll sK
   obtain⟨wa,wb,sh,fa,fb,ta,tb⟩:=x;simp only at r0 r1 r2 r3 Ex;have EF:Hid (PL w u4 L wr):=xM;have hRN:jn (wr.alloc (.cells #[aA aK wa wb,aB aK sh,aA aK fa fb,aA aK ta tb] 124)) (aG ns l.length nc) l:=als HRN.out (sB.alloc sB.size _);have HRW:Hid (jn (wr.alloc (.cells #[aA aK wa wb,aB aK sh,aA aK fa fb,aA aK ta tb] 124)) (aG ns l.length nc) l):=hRN;have hb0:aj wr (wr.alloc (.cells #[aA aK wa wb,aB aK sh,aA aK fa fb,aA aK ta tb] 124)):=aw _ _;clear c0 c1 c2 c3 vM hok mK hmem sK hfl ur xM hRN HE
   go_wp2_with (simp only[iH,qO];go_simp)
   generalize wr.alloc (.cells #[aA aK wa wb,aB aK sh,aA aK fa fb,aA aK ta tb] 124)=W0 at*;refine(Ex.out _ _ HRW.out).mono ?_;rintro r w2 ⟨cv,rfl,hC⟩;have hb2:aj wr w2:=hb0.trans (hC.2.mono hb0.size);have j5:w2.ownsRow w.heap.size 171 6 u4 L.length (dX L):=bG EF.out.1 λk hk=>hb2.block k (bn EF.out.1 k hk).2
   have BG:aj w w2:=aX.trans (hb2.mono aX.size);have Mr:aj w1 w2:=sB.trans (hb2.mono sB.size);clear r0 r1 r2 r3 hb0 Ex HRW;by_cases hc0:0<(gz ra rb rs e l).length
   .obtain⟨g,cp,rfl,hg,hcells⟩:=hC.fresh hc0;have hone:=aaN (gz ra rb rs e l);have hrl:=EE (gz ra rb rs e l);generalize hCL:gz ra rb rs e l=C at*
    go_wp2_with (at_builtin;refine wpList_append_lies _ rfl (.tmp 15) (.tmp 18) 168 rfl w.heap.size 171 i0 _ 6 72 underlying168 hi hz0 hz1 hz2 rfl ah u4 L.length (dX L) rfl j5 ⟨g,0,none⟩ C.length cp (dX C) rfl hrl hcells hone hc0 (by unfold maxLen;omega) aa BG.size w2.heap.size rfl ?_;intro g' cap' w8 dW cI iN sH)
    have dw:Hid (∃L',PL w (aG (some ⟨g',0,none⟩) (L.length+C.length) cap') L' w8/\(∀k,(Value.slice (some ⟨g',0,none⟩) (L.length+C.length) cap').ownBlock=some k->w1.heap.size<=k)/\aj w1 w8/\AP (es.take (k+1)) l L'/\L'.length<=(k+1)*200000):=by
     refine⟨L++C,⟨?_,BG.grown cI BG.size (λk hk=>(bn j5 k hk).1)⟩,λk hk=>?_,Mr.grown cI Mr.size (λk hk=>Sk.out k hk),oD.out,?_⟩
     .rw[alu,bX];exact dW
     .injection hk with hk;subst hk;rcases iN with h8|h8
      .exact Sk.out _ h8
      .show w1.heap.size<=g';rw[h8];exact Mr.size
     .rw[bX,FO,Wb];omega
    clear cI dW j5 hcells hone hrl hC EF oD
    go_wp2_with fail
    go_roundg (gk-1)
    case measure=>omega
    case rel=>exact⟨k+1,aa,ai,dw⟩
   .have hC0:(gz ra rb rs e l).length=0:=aa
    have hCn:gz ra rb rs e l=[]:=iX.1 hC0;obtain⟨xo,xc,rfl⟩:∃xo xc,cv=aG xo 0 xc:=by
     rcases hC.1.2 with⟨hv,_⟩|⟨gg,cc,cur,hv,_⟩
     .exact⟨none,0,hv⟩
     .exact⟨_,cc,by rw[hv,hC0]⟩
    have dw:Hid (∃L',PL w u4 L' w2/\(∀k,u4.ownBlock=some k->w1.heap.size<=k)/\aj w1 w2/\AP (es.take (k+1)) l L'/\L'.length<=(k+1)*200000):=by
     have h:=oD.out;rw[hCn,qC] at h;exact⟨L,⟨j5,BG⟩,Sk.out,Mr,h,hLk⟩
    clear hC EF oD hCn
    go_wp2_with (at_builtin;refine aaM rfl (.tmp 15) (.tmp 18) 168 rfl w.heap.size 171 i0 6 underlying168 hi u4 L.length (dX L) rfl j5 xo xc rfl ?_)
    go_roundg (gk-1)
    case measure=>omega
    case rel=>exact⟨k+1,aa,ai,dw⟩
  .have hk:k=es.length:=aa
   subst hk;obtain⟨L,xM,_,sB,ur,lO⟩:=HE.out;rw[gv] at ur;have HC:=HS.out l HLI.out.1 HLI.out.2 _ L _ xM ur aa
   have Ia:Hid (ak 156 #[u4,.func (.func 157) #[] #[]] wr λr w'=>r=aL (aI #[])/\ak 158 #[u4,.func (.func 159) #[] #[]] w' λr w''=>∃v' Ps,r=aL v'/\Q Ps v' w''):=HC
   clear HC HS HE xM ur HR HRN
   go_wp2_with fail
   refine Ia.out.mono ?_;rintro r w5 ⟨rfl,hC5⟩;have HC5:Hid (ak 158 #[u4,.func (.func 159) #[] #[]] w5 λr w''=>∃v' Ps,r=aL v'/\Q Ps v' w''):=hC5
   clear hC5 Ia
   go_wp2_with fail
   refine HC5.out.mono ?_;rintro r w6 ⟨v',Ps,rfl,hQ⟩;have HQ:Hid (Q Ps v' w6):=hQ;clear hQ
   go_wp2_with fail
   go_ret
   exact⟨v',Ps,rfl,HQ.out⟩
end
end Go.Proofs.YtkjhhooecopolaaGreatDoor
namespace Go.Proofs
open Tryz
open Value renaming int->az,complex->aA,float->aB,agg->aC,bool->aD,string->aF,slice->aG,pointer->aH,tuple->aI
open IntKind renaming i64->aJ
open FloatKind renaming f64->aK
open Ending renaming returned->aL
open Go renaming World->aM,Value->aN,floatOfInt->aO
open Go.Shelf
def Tryz.sortPc_ren:Go.Shelf.Ren:=⟨fun |6=>156|15=>164|14=>199|28=>208|29=>209|20=>240|21=>241|22=>242|23=>243|24=>244|25=>245|26=>246|27=>247|46=>286|47=>249|48=>250|49=>287|50=>288|57=>304|n=>n,fun |22=>168|24=>171|25=>228|3=>3|39=>238|0=>0|53=>280|55=>282|4=>4|46=>274|45=>273|50=>70|5=>5|9=>9|66=>313|70=>317|76=>346|77=>172|n=>n,fun |n=>n⟩
theorem Tryz.sortPc:Go.Proofs.SlLaysF0.n6 prog Tryz.sortPc_ren:={
 mixed:=ag
 f6:=⟨Tryz.f156.name,ah,func156.trans (aZ some ag)⟩
 f14:=⟨Tryz.f199.name,ah,func199.trans (aZ some ag)⟩
 f15:=func164.trans (aZ some ag)
 f20:=⟨Tryz.f240.name,ah,func240.trans (aZ some ag)⟩
 f21:=⟨Tryz.f241.name,ah,func241.trans (aZ some ag)⟩
 f22:=⟨Tryz.f242.name,ah,func242.trans (aZ some ag)⟩
 f23:=⟨Tryz.f243.name,ah,func243.trans (aZ some ag)⟩
 f24:=⟨Tryz.f244.name,ah,func244.trans (aZ some ag)⟩
 f25:=⟨Tryz.f245.name,ah,func245.trans (aZ some ag)⟩
 f26:=⟨Tryz.f246.name,ah,func246.trans (aZ some ag)⟩
 f27:=⟨Tryz.f247.name,ah,func247.trans (aZ some ag)⟩
 f28:=func208.trans (aZ some ag)
 f29:=func209.trans (aZ some ag)
 f46:=⟨Tryz.f286.name,ah,func286.trans (aZ some ag)⟩
 f47:=func249.trans (aZ some ag)
 f48:=func250.trans (aZ some ag)
 f49:=⟨Tryz.f287.name,ah,func287.trans (aZ some ag)⟩
 f50:=⟨Tryz.f288.name,ah,func288.trans (aZ some ag)⟩
 f57:=⟨Tryz.f304.name,ah,func304.trans (aZ some ag)⟩
 t0:=underlying0
 a0:=isAgg0
 z0:=sizeOf0
 v0:=zeroValue0
 t3:=underlying3
 a3:=isAgg3
 z3:=sizeOf3
 v3:=zeroValue3
 t4:=underlying4
 a4:=isAgg4
 z4:=sizeOf4
 v4:=zeroValue4
 t5:=underlying5
 a5:=isAgg5
 z5:=sizeOf5
 v5:=zeroValue5
 t9:=underlying9
 a9:=isAgg9
 z9:=sizeOf9
 v9:=zeroValue9
 t22:=underlying168
 a22:=isAgg168
 z22:=sizeOf168
 v22:=zeroValue168
 t25:=underlying228
 a25:=isAgg228
 z25:=sizeOf228
 v25:=zeroValue228
 t39:=underlying238
 a39:=isAgg238
 z39:=sizeOf238
 v39:=zeroValue238
 t45:=underlying273
 a45:=isAgg273
 z45:=sizeOf273
 v45:=zeroValue273
 t46:=underlying274
 a46:=isAgg274
 z46:=sizeOf274
 v46:=zeroValue274
 t50:=underlying70
 a50:=isAgg70
 z50:=sizeOf70
 v50:=zeroValue70
 t53:=underlying280
 a53:=isAgg280
 z53:=sizeOf280
 v53:=zeroValue280
 t55:=underlying282
 a55:=isAgg282
 z55:=sizeOf282
 v55:=zeroValue282
 t66:=underlying313
 a66:=isAgg313
 z66:=sizeOf313
 v66:=zeroValue313
 t70:=underlying317
 a70:=isAgg317
 z70:=sizeOf317
 v70:=zeroValue317
 t76:=underlying346
 a76:=isAgg346
 z76:=sizeOf346
 v76:=zeroValue346
 t77:=underlying172
 a77:=isAgg172
 z77:=sizeOf172
 v77:=zeroValue172}
end Go.Proofs
namespace Go.Proofs.YtkjhhooecopolaaGreatDoor
open Tryz
open Value renaming int->az,complex->aA,float->aB,agg->aC,bool->aD,string->aF,slice->aG,pointer->aH,tuple->aI
open IntKind renaming i64->aJ
open FloatKind renaming f64->aK
open Ending renaming returned->aL
open Go renaming World->aM,Value->aN,floatOfInt->aO
section
open Go.RowKit
variable{S T d:Array PB}{g k m cap n:Nat}{x y:PB}{wr w:aM}
def kV(x y:PB):Prop:=Ew x y<0
theorem Sl{a b:Ge.Nd}(ha:Ge.Can a)(hb:Ge.Can b):Ge.lt (Ge.aU a) (Ge.aU b)\/a=b\/Ge.lt (Ge.aU b) (Ge.aU a):=by
 by_cases h:Ge.lt (Ge.aU b) (Ge.aU a)
 .exact aR (aR h)
 .by_cases e:a=b
  .exact aR (aS e)
  .exact aS (Ge.Em ha hb h e)
theorem uu(hx:eB x)(hy:eB y):kV x y↔Ge.lt (Ge.aU x.f) (Ge.aU y.f)\/(x.f=y.f/\Ge.lt (Ge.aU x.t) (Ge.aU y.t)):=by
 unfold kV Ew cE Ge.lt;by_cases h:Ge.pc (Ge.aU x.f) (Ge.aU y.f)=0
 .have e:=Ge.xD hx.cf hy.cf h;rw[aV h];constructor
  .exact λk=>aR ⟨e,k⟩
  .rintro(k|⟨_,k⟩)
   .omega
   .exact k
 .rw[aP h];constructor
  .exact aS
  .rintro(k|⟨e,_⟩)
   .exact k
   .exact absurd (by rw[e];exact Ge.Bp _) h
theorem aaV{z:PB}(hx:eB x)(hy:eB y)(hz:eB z)(h1:kV x y)(h2:kV y z):kV x z:=by
 rw[uu hx hy] at h1;rw[uu hy hz] at h2;rw[uu hx hz];rcases h1 with h1|⟨e1,h1⟩<;>rcases h2 with h2|⟨e2,h2⟩
 .exact aS (Ge.lt_trans (Ge.eA hx.cf) (Ge.eA hy.cf) (Ge.eA hz.cf) h1 h2)
 .exact aS (by rw[<-e2];exact h1)
 .exact aS (by rw[e1];exact h2)
 .exact aR ⟨e1.trans e2,Ge.lt_trans (Ge.eA hx.ct) (Ge.eA hy.ct) (Ge.eA hz.ct) h1 h2⟩
theorem Sm(hx:eB x)(hy:eB y):kV x y\/(x.f=y.f/\x.t=y.t)\/kV y x:=by
 rw[uu hx hy,uu hy hx];rcases Sl hx.cf hy.cf with h|h|h
 .exact aS (aS h)
 .rcases Sl hx.ct hy.ct with k|k|k
  .exact aS (aR ⟨h,k⟩)
  .exact aR (aS ⟨h,k⟩)
  .exact aR (aR (aR ⟨h.symm,k⟩))
 .exact aR (aR (aS h))
theorem aaW(x:PB):¬kV x x:=by
 unfold kV Ew cE;rw[aV (Ge.Bp _),Ge.Bp];decide
abbrev VP:={x:PB //eB x}
def j6(x:VP):List aN:=x.1.cells
def EG(x y:VP):Int:=Ew x.1 y.1
theorem alB[Inhabited VP](blk off size:Nat)(w:aM):CmpLays prog 157 #[] j6 6 EG blk off size w:=
 λ_ _ _ _ x y=>(akS x.1 y.1 x.2 y.2 _).mono λ_ _⟨h1,h2,h3⟩=>⟨h1,Mp h2 h3⟩
theorem Ms{x y:VP}:ltOf EG x y=true↔kV x.1 y.1:=by
 unfold ltOf EG kV;exact uV
theorem Ib{x y:VP}:ltOf EG x y=false↔¬kV x.1 y.1:=by
 rw[<-Ms];simp
theorem alC:Sort.SWO (ltOf EG) where
 irrefl x:=Ib.2 (aaW _)
 trans x y z h1 h2:=Ms.2 (aaV x.2 y.2 z.2 (Ms.1 h1) (Ms.1 h2))
 ntrans x y z h1 h2:=Ib.2 λh=>by
  have k1:=Ib.1 h1;have k2:=Ib.1 h2;rcases Sm x.2 y.2 with a|⟨a,b⟩|a
  .exact k1 a
  .refine k2 ?_;rw[uu y.2 z.2,<-a,<-b,<-uu x.2 z.2];exact h
  .exact k2 (aaV y.2 x.2 z.2 a h)
theorem aaX:∀(L:List PB),(∀n∈L,eB n)->∃d:List VP,d.map Subtype.val=L
 |[],_=>⟨[],rfl⟩
 |n::L,h1=>by
  obtain⟨d,hd⟩:=aaX L (λm hm=>h1 m (by simp[hm]))
  exact⟨⟨n,h1 n af⟩::d,by simp[hd]⟩
theorem Mt:∀(l:List PB)(k:Nat)(e:PB),l[k]?=some e->∀j,j<6->(dX l)[k*6+j]?=e.cells[j]?
 |[],_,_,h,_,_=>by simp at h
 |q::r,0,e,h,j,hj=>by
  simp at h;subst h;have e1:dX (q::r)=q.cells++dX r:=by simp[dX]
  rw[e1,fM (by show _<6;omega)]
  simp
 |q::r,k+1,e,h,j,hj=>by
  have ih:=Mt r k e (by simpa using h) j hj
  have e1:dX (q::r)=q.cells++dX r:=by simp[dX]
  have e0:q.cells.length=6:=rfl;rw[e1,nE aa]
  have e2:(k+1)*6+j-q.cells.length=k*6+j:=aa
  rw[e2,ih]
theorem aaY[Inhabited VP](d:Array VP):(Sort.flatK j6 6 d).toList=dX (d.toList.map Subtype.val):=by
 apply FJ;intro t;by_cases ht:t<d.size*6
 .have h1:t/6<d.size:=aa
  have hx:(d.toList.map Subtype.val)[t/6]?=some (d[t/6]!).1:=by
   rw[iy,jW,pU h1,jl d _ h1];rfl
  have h2:=Mt _ _ _ hx (t%6) (uU _ ah)
  have e1:t/6*6+t%6=t:=aa
  rw[e1] at h2;have h3:=Sort.get_flatK j6 6 d t ht;have hs:t<(Sort.flatK j6 6 d).size:=by rw[Sort.size_flatK];exact ht
  rw[jl (Sort.flatK j6 6 d) t hs] at h3;rw[h2,jW,pU hs,h3];have hl:t%6<(j6 d[t/6]!).length:=uU _ ah
  rw[jl (j6 d[t/6]!) (t%6) hl];exact(bo hl).symm
 .rw[yK (by rw[jw,Sort.size_flatK];omega),yK (by rw[EE];simp;omega)]
theorem alD[Inhabited VP](d':Array VP)(n:Nat)(os:Array Obj){cur:Array aN}{t:TypeId}{fr:Nat×Nat}(hb:wr.heap[g]?=some (.cells cur t fr)):
  (sortWorldK j6 6 wr g 0 n d' os).heap[g]?=some (.cells (Sort.putCells id 0 (Sort.flatK j6 6 d') cur) t fr):=by
 have hg:=lt_of_heap hb;show((wr.heap.modify g (Sort.onCells (Sort.putCells id 0 (Sort.flatK j6 6 d'))))++os)[g]?=_;rw[Ka (by simpa using hg),Db,aV rfl,hb]
 rfl
theorem alE[Inhabited VP](d':Array VP)(n:Nat)(os:Array Obj)(hk:k<wr.heap.size)(hne:g≠k):
  (sortWorldK j6 6 wr g 0 n d' os).heap[k]?=wr.heap[k]?:=by
 show((wr.heap.modify g (Sort.onCells (Sort.putCells id 0 (Sort.flatK j6 6 d'))))++os)[k]?=_;rw[Ka (by simpa using hk),Db,aP hne]
theorem alF[Inhabited VP](d':Array VP)(n:Nat)(os:Array Obj)(wr:aM)(g:Nat):wr.heap.size<=(sortWorldK j6 6 wr g 0 n d' os).heap.size:=by
 show _<=((wr.heap.modify g (Sort.onCells (Sort.putCells id 0 (Sort.flatK j6 6 d'))))++os).size;rw[ahn,aho];omega
theorem alG[Inhabited VP](w:aM)(lv:aN)(L:List PB)(wr:aM)(h:PL w lv L wr)(hv:∀x∈L,eB x)(hl:L.length<=85000000):
  ak 156 #[lv,.func (.func 157) #[] #[]] wr λr w'=>r=aL (aI #[])/\∃S,PL w lv S w'/\S.Perm L/\S.Pairwise (λx y=>¬kV y x):=by
 obtain⟨hlen,xL⟩:=h.1;rcases xL with⟨rfl,h0⟩|⟨g,cap,cur,rfl,hg,hblk,hnc,hcm,hcs,htk⟩
 .have hL:L=[]:=iX.1 h0;subst hL;refine(AnyF.slices_SortFunc_none Tryz.sortPc none 0 _ wr).mono ?_;rintro e w' ⟨rfl,rfl⟩;exact⟨rfl,[],h,Kb _,List.Pairwise.nil⟩
 .obtain⟨d,hd⟩:=aaX L hv;have hgl:g<wr.heap.size:=lt_of_heap hblk;have hsz:L.length=d.toArray.size:=by rw[<-hd];simp
  have hfl:(Sort.flatK j6 6 d.toArray).toList=cur.toList.take (L.length*6):=by rw[aaY,htk,<-hd]
  have hH:Sort.HoldsK j6 6 wr g 0 d.toArray:=by
   intro j hj;have hj':=hj;rw[Sort.size_flatK,<-hsz] at hj';have Si:cur[j]?=some (Sort.flatK j6 6 d.toArray)[j]! :=by
    have e1:(Sort.flatK j6 6 d.toArray).toList[j]?=(cur.toList.take (L.length*6))[j]?:=by rw[hfl]
    rw[lH,aV hj',jW,jW,pU hj] at e1;rw[<-e1,jl (Sort.flatK j6 6 d.toArray) j hj]
   refine⟨?_,bK hblk _⟩;rw[jH];unfold World.cell?;rw[hblk];exact Si
  have eg:∀args w,(callFunc 157 args).run prog w=.ok (.enter 157 args) w:=enters_of func157 ag rfl
  have hone:∀x:VP,∀v∈j6 x,v.oneCell'=true:=λx v hv=>by
   simp[j6,PB.cells] at hv;rcases hv with rfl|rfl|rfl|rfl|rfl|rfl<;>rfl
  have hcon:=AnyQ.slices_SortFunc Tryz.sortPc 6 isAgg171 sizeOf171 j6 (λ_=>rfl) hone EG alC 157 #[] g 0 cap d.toArray wr eg (alB _ _ _ _) hH hgl (by rw[<-hsz];omega)
  change ak 156 _ _ _ at hcon
  rw[<-hsz] at hcon;refine hcon.mono ?_;rintro e w' ⟨rfl,d',n,os,hp,hs,rfl⟩;obtain⟨hps,_,H8⟩:=hp;have hs1:d'.size=L.length:=by rw[hps,hsz]
  have hperm:d'.toList.Perm d:=by
   have e1:d'.extract 0 L.length=d':=by rw[<-hs1];exact Po
   have e2:d.toArray.extract 0 L.length=d.toArray:=by rw[hsz];exact Po
   rw[e1,e2] at H8;exact H8
  have zH:(d'.toList.map Subtype.val).length=L.length:=by simp[hs1]
  have hpm:(d'.toList.map Subtype.val).Perm L:=by rw[<-hd];exact hperm.map _
  refine⟨rfl,d'.toList.map Subtype.val,⟨⟨by rw[EE],aR ⟨g,cap,_,by rw[zH],hg,alD d' n os hblk,by rw[zH];exact hnc,hcm,?_,?_⟩⟩,?_⟩,hpm,?_⟩
  .unfold Sort.putCells;rw[Ww];exact hcs
  .have e1:(d'.toList.map Subtype.val).length*6=(Sort.flatK j6 6 d').size:=by rw[Sort.size_flatK,zH,hs1]
   rw[e1,aaJ _ _ (by rw[Sort.size_flatK,hs1,hcs];omega),aaY]
  .exact h.2.trans ⟨rfl,rfl,rfl,alF d' n os wr g,λk hk=>alE d' n os (bW hk h.2.size) aa⟩
  .rw[lF,lW];intro i j hi hj hij;have hi':i<d'.size:=by simpa using hi
   have hj':j<d'.size:=by simpa using hj
   have hx:=hs i j (iW _) hij aa
   rw[jl d' i hi',jl d' j hj'] at hx;exact Ib.1 hx
def same(x y:PB):Bool:=decide (x.f=y.f)&&decide (x.t=y.t)
def kept [Inhabited PB](S:Array PB)(j:Nat):Bool:=decide (j=0)|| !same S[j]! S[j-1]!
def iJ [Inhabited PB](S:Array PB):Nat->List PB
 |0=>[]
 |m+1=>iJ S m++(if kept S m then[S[m]!] else[])
theorem Mu[Inhabited PB](S:Array PB):∀m,m<=S.size->(∀j,j<m->kept S j=true)->iJ S m=S.toList.take m
 |0,_,_=>by simp[iJ]
 |m+1,hm,h=>by
  have hlt:m<S.toList.length:=by rw[jw];omega
  have e:S[m]! =S.toList[m]:=by rw[jl S m aa];simp
  rw[iJ,Mu S m aa (λj hj=>h j aa),h m aa,aV rfl,qD hlt,e]
structure KI [Inhabited PB](S:Array PB)(m k:Nat)(T:Array PB):Prop where
 size:T.size=S.size
 lt:k<m
 le:m<=S.size
 low:T.toList.take k=iJ S m
 high:∀j,k<=j->T[j]! =S[j]!
theorem KI.start[Inhabited PB]{k0:Nat}(hk:k0<S.size)(hall:∀j,j<k0->kept S j=true)(h:kept S k0=false):KI S (k0+1) k0 S:=
 ⟨rfl,Nat.lt_succ_self _,hk,by rw[iJ,h,Mu S k0 aa hall];simp,λ_ _=>rfl⟩
theorem KI.skip[Inhabited PB](h:KI S m k T)(hm:m<S.size)(hk:kept S m=false):KI S (m+1) k T:=
 ⟨h.size,by have:=h.lt;omega,hm,by rw[iJ,hk,h.low];simp,h.high⟩
theorem KI.keep[Inhabited PB](h:KI S m k T)(hm:m<S.size)(hk:kept S m=true):KI S (m+1) (k+1) (T.setIfInBounds k S[m]!):=by
 have hl:=h.lt;have hs:=h.size;refine⟨by rw[AJ];exact hs,aa,hm,?_,λj hj=>?_⟩
 .rw[iJ,hk,aV rfl,<-h.low,Pn];have hkl:k<(T.toList.set k S[m]!).length:=by rw[FU,jw];omega
  rw[qD hkl,List.getElem_set_self,List.take_set_of_le (aY _)]
 .have hne:j≠k:=aa
  rw[<-h.high j aa]
  by_cases vN:j<T.size
  .rw[jl _ j (by rw[AJ];exact vN),jl T j vN,Array.getElem_setIfInBounds,aP (Ne.symm hne)]
  .rw[getElem!_neg _ j (by rw[AJ];exact vN),getElem!_neg T j vN]
structure ke(w:aM)(g cap n:Nat)(d:Array PB)(wr:aM):Prop where
 size:d.size=n
 own:wr.ownsRow w.heap.size 171 6 (aG (some ⟨g,0,none⟩) n cap) n (dX d.toList)
 below:aj w wr
theorem ke.blk(h:ke w g cap n d wr):∃cur,w.heap.size<=g/\wr.heap[g]?=some (.cells cur 171 (0,0))/\n<=cap/\cap<=maxLen/\cur.size=cap*6/\cur.toList.take (n*6)=dX d.toList:=by
 rcases h.own.2 with⟨hv,_⟩|⟨g',cap',cur,hv,h1,h2,h3,h4,h5,h6⟩
 .simp at hv
 .simp only[Value.slice.injEq,Option.some.injEq,Addr.mk.injEq] at hv;obtain⟨⟨rfl,_⟩,_,rfl⟩:=hv;exact⟨cur,h1,h2,h3,h4,h5,h6⟩
theorem ke.cells[Inhabited PB](h:ke w g cap n d wr)(i:Nat)(hi:i<n):
  wr.cell? ⟨g,i*6,none⟩=some (aA aK (d[i]!).wa (d[i]!).wb)/\wr.cell? ⟨g,i*6+1,none⟩=some (aB aK (d[i]!).sh)/\wr.cell? ⟨g,i*6+2,none⟩=some (aA aK (aO aK (d[i]!).f.1) (aO aK (d[i]!).f.2.1))/\wr.cell? ⟨g,i*6+3,none⟩=some (az aJ (d[i]!).f.2.2)/\wr.cell? ⟨g,i*6+4,none⟩=some (aA aK (aO aK (d[i]!).t.1) (aO aK (d[i]!).t.2.1))/\wr.cell? ⟨g,i*6+5,none⟩=some (az aJ (d[i]!).t.2.2)/\∀o,wr.frozen? ⟨g,o,none⟩=false:=by
 obtain⟨cur,_,hb,_,_,hs,htk⟩:=h.blk;have hd:i<d.size:=by rw[h.size];exact hi
 have hx:d.toList[i]?=some d[i]! :=by rw[jW,pU hd,jl d i hd]
 have key:∀j,j<6->wr.cell? ⟨g,i*6+j,none⟩=(d[i]!).cells[j]?:=λj hj=>by
  have k0:=Mt _ _ _ hx j hj;rw[<-htk,lH,aV aa,jW] at k0
  unfold World.cell?;rw[hb];exact k0
 exact⟨key 0 aa,key 1 aa,key 2 aa,key 3 aa,key 4 aa,key 5 aa,λo=>bK hb _⟩
def Sn(w:aM)(g o:Nat)(x:PB):aM:=w.setCells g o x.cells
theorem aaZ:∀(l:List PB)(k:Nat)(x:PB),k<l.length->dX (l.set k x)=(dX l).take (k*6)++x.cells++(dX l).drop (k*6+6)
 |[],_,_,h=>by simp at h
 |a::l,0,x,_=>by
  have e:∀(b:PB)(r:List PB),dX (b::r)=b.cells++dX r:=λb r=>by simp[dX]
  rw[dZ,e,e];have e0:a.cells.length=6:=rfl;rw[show 0*6=0 from rfl,ahk,tE,show 0+6=a.cells.length from rfl,ahp]
 |a::l,k+1,x,h=>by
  have ih:=aaZ l k x (by simpa using h)
  have e:∀(b:PB)(r:List PB),dX (b::r)=b.cells++dX r:=λb r=>by simp[dX]
  rw[dL,e,e,ih];have e1:(k+1)*6=a.cells.length+k*6:=by show _=6+_;omega
  have e2:a.cells.length+k*6+6=a.cells.length+(k*6+6):=aa
  rw[e1,e2,Wx,List.drop_append,qE (ahq _ _),Ay (ahq _ _)];simp
theorem alI{o:Nat}{cur:Array aN}{t:TypeId}(hb:w.heap[g]?=some (.cells cur t (0,0)))(ho:o+6<=cur.size):
  (Sn w g o x)=w.setRow g (cur.toList.take o++x.cells++cur.toList.drop (o+6)).toArray:=by
 have one:∀v∈x.cells,v.oneCell'=true:=λv hv=>aaN [x] v (by simpa[dX] using hv)
 have h6:x.cells.length=6:=rfl;unfold Sn;generalize x.cells=C at*;have hst:=run_storeCells_at prog g o t C 0 cur w hb (by rw[h6];omega) one
 have Sp:=run_storeCells_cells (P:=prog) g o C 0 w (λj hj=>by
  rw[h6] at hj;unfold World.cell?;rw[hb];simp only[rM];rw[pU aa]
  rfl) (λj _=>bK hb _) one
 rw[rM] at hst Sp;rw[h6] at hst;rw[hst] at Sp;injection Sp with _ h2;exact h2.symm
theorem ke.set(h:ke w g cap n d wr)(k:Nat)(hk:k<n)(x:PB):ke w g cap n (d.setIfInBounds k x) (Sn wr g (k*6) x):=by
 obtain⟨cur,hg,hb,hnc,hcm,hs,htk⟩:=h.blk;have hd:k<d.toList.length:=by rw[jw,h.size];exact hk
 have h6:x.cells.length=6:=rfl;rw[alI hb aa]
 have Eb:=setRow_heap wr g cur (cur.toList.take (k*6)++x.cells++cur.toList.drop (k*6+6)).toArray _ _ hb;refine⟨by rw[AJ];exact h.size,⟨?_,aR ⟨g,cap,_,rfl,hg,Eb,hnc,hcm,?_,?_⟩⟩,h.below.trans ⟨rfl,rfl,rfl,af,λj hj=>setRow_other _ _ _ _ aa⟩⟩
 .rw[EE,jw,AJ,h.size]
 .simp only[ahl,bX,iE,rJ,jw,h6,hs];omega
 .rw[Pn,aaZ _ _ _ hd,<-htk];show(cur.toList.take (k*6)++x.cells++cur.toList.drop (k*6+6)).take (n*6)=_;have l1:(cur.toList.take (k*6)).length=k*6:=by rw[iE,jw,hs];omega
  rw[fL,Wx,l1,Wx,h6,AK,AK,List.take_drop];have m1:min (n*6) (k*6)=k*6:=aa
  have m2:min (k*6) (n*6)=k*6:=aa
  have m3:x.cells.take (n*6-k*6)=x.cells:=qE (by rw[h6];omega)
  have m4:k*6+6+(n*6-k*6-6)=n*6:=aa
  rw[m1,m2,m3,m4,fL]
theorem ke.keep{w':aM}(h:ke w g cap n d wr)(hb:aj wr w'):ke w g cap n d w':=
 ⟨h.size,bG h.own λk hk=>hb.block k (bn h.own k hk).2,h.below.trans (hb.mono h.below.size)⟩
theorem ke.rd(h:ke w g cap n d wr):uk wr (aG (some ⟨g,0,none⟩) n cap) d.toList:=by
 obtain⟨cur,hg,hb,hnc,hcm,hs,htk⟩:=h.blk;have e:d.toList.length=n:=by rw[jw,h.size]
 exact⟨by rw[EE],aR ⟨g,cap,cur,by rw[e],iW _,hb,by rw[e];exact hnc,hcm,hs,by rw[e];exact htk⟩⟩
theorem aa0:∀(l:List PB)(k:Nat),(dX l).take (k*6)=dX (l.take k)
 |[],k=>by simp[dX]
 |a::l,0=>by simp[dX]
 |a::l,k+1=>by
  have ih:=aa0 l k;have e:∀(b:PB)(r:List PB),dX (b::r)=b.cells++dX r:=λb r=>by simp[dX]
  have e1:(k+1)*6=a.cells.length+k*6:=by show _=6+_;omega
  rw[FL,e,e,<-ih,e1,Wx,qE (ahq _ _)];simp
theorem ke.clear(h:ke w g cap n d wr)(k:Nat)(hk:k<n)(c:Nat):
  ∃w',(∀ty,(Builtin.clear_ #[168] ty #[aG (some ⟨g,k*6,none⟩) (n-k) c]).run prog wr=.ok (aI #[]) w')/\aj w w'/\uk w' (aG (some ⟨g,0,none⟩) k cap) (d.toList.take k):=by
 obtain⟨cur,hg,hb,hnc,hcm,hs,htk⟩:=h.blk;have hzl:(Builtin.zeroCells (Value.agg #[aA aK 0 0,aB aK 0,aA aK 0 0,az aJ 0,aA aK 0 0,az aJ 0]).cells (n-k)).toList.length=(n-k)*6:=by
  rw[jw];unfold Builtin.zeroCells;rw[Array.size_map,Array.size_range];rfl
 have hone:∀v∈(Builtin.zeroCells (Value.agg #[aA aK 0 0,aB aK 0,aA aK 0 0,az aJ 0,aA aK 0 0,az aJ 0]).cells (n-k)).toList,v.oneCell'=true:=by
  intro v hv;unfold Builtin.zeroCells at hv;simp only[Array.toList_map,bQ] at hv;obtain⟨i,_,rfl⟩:=hv;have e:(Value.agg #[aA aK 0 0,aB aK 0,aA aK 0 0,az aJ 0,aA aK 0 0,az aJ 0]).cells= #[aA aK 0 0,aB aK 0,aA aK 0 0,az aJ 0,aA aK 0 0,az aJ 0]:=rfl;rw[e];show(#[Value.complex aK 0 0,aB aK 0,aA aK 0 0,az aJ 0,aA aK 0 0,az aJ 0][i%6]!).oneCell'=true;have h2:i%6=0\/i%6=1\/i%6=2\/i%6=3\/i%6=4\/i%6=5:=aa
  rcases h2 with h2|h2|h2|h2|h2|h2<;>rw[h2]<;>rfl
 have hst:=run_storeCells_at prog g (k*6) 171 _ 0 cur wr hb (by rw[hzl,hs];omega) hone
 simp only[rM] at hst;rw[hzl] at hst;generalize nL:(Builtin.zeroCells (Value.agg #[aA aK 0 0,aB aK 0,aA aK 0 0,az aJ 0,aA aK 0 0,az aJ 0]).cells (n-k)).toList=Z at*;have Eb:=setRow_heap wr g cur (cur.toList.take (k*6)++Z++cur.toList.drop (k*6+(n-k)*6)).toArray _ _ hb;refine⟨wr.setRow g (cur.toList.take (k*6)++Z++cur.toList.drop (k*6+(n-k)*6)).toArray,λty=>?_,?_,?_,aR ⟨g,cap,_,?_,iW _,Eb,?_,hcm,?_,?_⟩⟩
 .obtain⟨m,hm⟩:∃m,n-k=m+1:=⟨n-k-1,aa⟩
  rw[hm] at hst nL⊢;simp[Builtin.clear_,run_underlying underlying168,nL,hst]
 .refine h.below.trans ⟨rfl,rfl,rfl,af,λj hj=>setRow_other _ _ _ _ aa⟩
 .rw[EE]
 .have e:(d.toList.take k).length=k:=by rw[iE,jw,h.size];omega
  rw[e]
 .rw[iE,jw,h.size];omega
 .simp only[ahl,bX,iE,rJ,jw,hzl,hs];omega
 .have e:(d.toList.take k).length=k:=by rw[iE,jw,h.size];omega
  rw[e];show((cur.toList.take (k*6)++_++_).take (k*6))=_;rw[fL,ahm (by rw[iE,jw,hs];omega),AK,Nat.min_self]
  have e2:cur.toList.take (k*6)=(cur.toList.take (n*6)).take (k*6):=by rw[AK,Dc aa]
  rw[e2,htk];exact aa0 _ _
theorem aa1[Inhabited PB](d:Array PB)(j:Nat)(hj:j<1):kept d j=true:=by
 have e:j=0:=aa
 unfold kept;rw[e];rfl
theorem alJ[Inhabited PB](w:aM)(g cap n:Nat)(d:Array PB)(BX:aM)(h:ke w g cap n d BX)(hd:∀i,i<n->eB (d[i]!))(hn:n<=85000000)(hc:n<=cap):
  ak 158 #[aG (some ⟨g,0,none⟩) n cap,.func (.func 159) #[] #[]] BX λr w'=>∃v',r=aL v'/\uk w' v' (iJ d n)/\aj w w':=by
 have HR:Hid (ke w g cap n d BX):=h;have HD:Hid (∀i,i<n->eB (d[i]!)):=hd;have hds:d.size=n:=h.size;clear h hd;by_cases h2:n<2
 .go_enter func158,ntmps158
  go_wp2_with fail
  go_ret
  refine⟨_,rfl,?_,HR.out.below⟩;have e:iJ d n=d.toList:=by
   rw[Mu d n aa (λj hj=>aa1 d j aa),<-hds,<-jw,gv]
  rw[e];exact HR.out.rd
 .go_enter func158,ntmps158
  go_wp2_with fail
  go_loopg [5] n (λgk s5 wr=>∃k:Nat,1<=k/\k<=n/\n-k<=gk/\s5=az aJ k/\Hid (ke w g cap n d wr/\∀j,j<k->kept d j=true))
  case atStart=>exact⟨1,aY _,aa,aa,rfl,HR.out,aa1 d⟩
  case round=>
   obtain⟨k,hk1,hk,hg,rfl,HI⟩:=hrel;obtain⟨m,hm⟩:∃m,k=m+1:=⟨k-1,aa⟩
   by_cases hlt:k<n
   .obtain⟨a0,a1,a2,a3,a4,a5,_⟩:=HI.out.1.cells k hlt;obtain⟨b0,b1,b2,b3,b4,b5,_⟩:=HI.out.1.cells m aa
    have ij:(k:Int)<(n:Int):=aa
    have rf:(m:Int)<(n:Int):=aa
    have hwk:IntKind.i64.wrap ((k:Int)-1)=(m:Int):=by rw[IntKind.wrap_i64];omega
    have hm0:(0:Int)<=(m:Int):=aa
    have auB:m<n:=aa
    have HMK:Hid (k=m+1):=hm;have fh:g<wr.heap.size:=by obtain⟨_,_,hb,_⟩:=HI.out.1.blk;exact lt_of_heap hb
    have hcall:=λw=>aap d[k]! d[m]! (HD.out k hlt) (HD.out m aa) w
    have EH:Hid (kept d k= !same d[k]! d[m]!):=by
     have e0:decide (k=0)=false:=jU aa
     have e1:k-1=m:=aa
     show kept d k=_;unfold kept;rw[e0,e1,Wv]
    have Sq:Hid (kept d k= !(decide (d[k]!.f=d[m]!.f)&&decide (d[k]!.t=d[m]!.t))):=EH;generalize Sr:(decide (d[k]!.f=d[m]!.f)&&decide (d[k]!.t=d[m]!.t))=bq at hcall Sq;clear Sr EH;simp only[PB.cells] at hcall;generalize d[k]!.wa=A1 at*;generalize d[k]!.wb=A2 at*;generalize d[k]!.sh=A3 at*;generalize aO aK d[k]!.f.1=A4 at*;generalize aO aK d[k]!.f.2.1=A5 at*;generalize d[k]!.f.2.2=A6 at*;generalize aO aK d[k]!.t.1=A7 at*;generalize aO aK d[k]!.t.2.1=A8 at*;generalize d[k]!.t.2.2=A9 at*;generalize d[m]!.wa=B1 at*;generalize d[m]!.wb=B2 at*;generalize d[m]!.sh=B3 at*;generalize aO aK d[m]!.f.1=B4 at*;generalize aO aK d[m]!.f.2.1=B5 at*;generalize d[m]!.f.2.2=B6 at*;generalize aO aK d[m]!.t.1=B7 at*;generalize aO aK d[m]!.t.2.1=B8 at*;generalize d[m]!.t.2.2=B9 at*;have uv:Hid (∀w,ak 159 #[aC #[aA aK A1 A2,aB aK A3,aA aK A4 A5,az aJ A6,aA aK A7 A8,az aJ A9],aC #[aA aK B1 B2,aB aK B3,aA aK B4 B5,az aJ B6,aA aK B7 B8,az aJ B9]] w λr w'=>r=aL (aD bq)/\aj w w'):=hcall
    clear hcall hm
    go_wp2_with fail
    go_region_held3 (λw'=>w'.cell? ⟨g,k*6,none⟩=some (aA aK A1 A2)/\w'.cell? ⟨g,k*6+1,none⟩=some (aB aK A3)/\w'.cell? ⟨g,k*6+2,none⟩=some (aA aK A4 A5)/\w'.cell? ⟨g,k*6+3,none⟩=some (az aJ A6)/\w'.cell? ⟨g,k*6+4,none⟩=some (aA aK A7 A8)/\w'.cell? ⟨g,k*6+5,none⟩=some (az aJ A9)/\w'.cell? ⟨g,m*6,none⟩=some (aA aK B1 B2)/\w'.cell? ⟨g,m*6+1,none⟩=some (aB aK B3)/\w'.cell? ⟨g,m*6+2,none⟩=some (aA aK B4 B5)/\w'.cell? ⟨g,m*6+3,none⟩=some (az aJ B6)/\w'.cell? ⟨g,m*6+4,none⟩=some (aA aK B7 B8)/\w'.cell? ⟨g,m*6+5,none⟩=some (az aJ B9)) (go_keep) (first
      |(go_at_call 159;refine(uv.out _).mono ?_;rintro r w5 ⟨rfl,bh⟩;have c0:=aQ bh a0 fh;have c1:=aQ bh a1 fh;have c2:=aQ bh a2 fh;have c3:=aQ bh a3 fh;have c4:=aQ bh a4 fh;have c5:=aQ bh a5 fh;have e0:=aQ bh b0 fh;have e1:=aQ bh b1 fh;have e2:=aQ bh b2 fh;have e3:=aQ bh b3 fh;have e4:=aQ bh b4 fh;have e5:=(aQ bh b5 fh)))
    have oF:aj wr w5:=(Below.refl _ _).drew.trans bh;have Mw:Hid (ke w g cap n d w5/\∀j,j<k->kept d j=true):=⟨HI.out.1.keep oF,HI.out.2⟩;clear a0 b0 c0 e0 a1 b1 c1 e1 a2 b2 c2 e2 a3 b3 c3 e3 a4 b4 c4 e4 a5 b5 c5 e5 bh oF HI uv;cases bq
    .have HK:Hid (kept d k=true):=Sq.out
     go_wp2_with fail
     go_roundg (n-(k+1))
     case measure=>omega
     case rel=>
      refine⟨k+1,aa,aa,aY _,ai,Mw.out.1,λj hj=>?_⟩
      by_cases e:j=k
      .subst e;exact HK.out
      .exact Mw.out.2 j aa
    .have HK:Hid (kept d k=false):=Sq.out;have hkc:k<=cap:=aa
     clear hwk HMK
     go_wp2_with fail
     go_loopg [5,7] n (λgk s5 s7 wr2=>∃(kk k2:Nat)(dk:Array PB),s5=az aJ kk/\s7=az aJ k2/\1<=k2/\k+k2<=n/\n-(k+k2)<=gk/\Hid (ke w g cap n dk wr2/\KI d (k+k2) kk dk))
     case atStart=>exact⟨k,1,d,rfl,rfl,aY _,aa,aa,Mw.out.1,KI.start aa Mw.out.2 HK.out⟩
     case round=>
      obtain⟨kk,k2,dk,rfl,rfl,h1,hle,hg2,HJ⟩:=hrel;obtain⟨m2,hm2⟩:∃m2,k2=m2+1:=⟨k2-1,aa⟩
      have hkk:=HJ.out.2.lt;by_cases ik:k+k2<n
      .obtain⟨a0,a1,a2,a3,a4,a5,_⟩:=HJ.out.1.cells (k+k2) ik;obtain⟨b0,b1,b2,b3,b4,b5,_⟩:=HJ.out.1.cells (k+m2) aa
       obtain⟨q0,q1,q2,q3,q4,q5,z0⟩:=HJ.out.1.cells kk aa
       rw[HJ.out.2.high (k+k2) aa,show(k+k2)*6=k*6+k2*6 by omega] at a0 a1 a2 a3 a4 a5
       rw[HJ.out.2.high (k+m2) aa,show(k+m2)*6=k*6+m2*6 by omega] at b0 b1 b2 b3 b4 b5
       have aa2:(k2:Int)<(n:Int)-(k:Int):=aa
       have Sh:k2<n-k:=aa
       have auC:m2<n-k:=aa
       have auD:(m2:Int)<(n:Int)-(k:Int):=aa
       have auE:(0:Int)<=(m2:Int):=aa
       have auF:IntKind.i64.wrap ((k2:Int)-1)=(m2:Int):=by rw[IntKind.wrap_i64];omega
       have aaG:(kk:Int)<(n:Int):=aa
       have iO:g<wr.heap.size:=by obtain⟨_,_,hb,_⟩:=HJ.out.1.blk;exact lt_of_heap hb
       have hcall:=λw=>aap d[k+k2]! d[k+m2]! (HD.out (k+k2) ik) (HD.out (k+m2) aa) w
       have EH:Hid (kept d (k+k2)= !(decide (d[k+k2]!.f=d[k+m2]!.f)&&decide (d[k+k2]!.t=d[k+m2]!.t))):=by
        have e0:decide (k+k2=0)=false:=jU aa
        have e1:k+k2-1=k+m2:=aa
        show kept d (k+k2)=_;unfold kept;rw[e0,e1,Wv];rfl
       have HST:Hid (∀w',aj wr w'->ke w g cap n (dk.setIfInBounds kk d[k+k2]!) (w'.setCells g (kk*6) (d[k+k2]!).cells)):=λw' hb=>(HJ.out.1.keep hb).set kk aa _
       generalize Sr:(decide (d[k+k2]!.f=d[k+m2]!.f)&&decide (d[k+k2]!.t=d[k+m2]!.t))=bq at hcall EH;clear Sr hm2;simp only[PB.cells] at hcall HST;generalize d[k+k2]!.wa=P1 at*;generalize d[k+k2]!.wb=P2 at*;generalize d[k+k2]!.sh=P3 at*;generalize aO aK d[k+k2]!.f.1=P4 at*;generalize aO aK d[k+k2]!.f.2.1=P5 at*;generalize d[k+k2]!.f.2.2=P6 at*;generalize aO aK d[k+k2]!.t.1=P7 at*;generalize aO aK d[k+k2]!.t.2.1=P8 at*;generalize d[k+k2]!.t.2.2=P9 at*;generalize d[k+m2]!.wa=R1 at*;generalize d[k+m2]!.wb=R2 at*;generalize d[k+m2]!.sh=R3 at*;generalize aO aK d[k+m2]!.f.1=R4 at*;generalize aO aK d[k+m2]!.f.2.1=R5 at*;generalize d[k+m2]!.f.2.2=R6 at*;generalize aO aK d[k+m2]!.t.1=R7 at*;generalize aO aK d[k+m2]!.t.2.1=R8 at*;generalize d[k+m2]!.t.2.2=R9 at*;have uv:Hid (∀w,ak 159 #[aC #[aA aK P1 P2,aB aK P3,aA aK P4 P5,az aJ P6,aA aK P7 P8,az aJ P9],aC #[aA aK R1 R2,aB aK R3,aA aK R4 R5,az aJ R6,aA aK R7 R8,az aJ R9]] w λr w'=>r=aL (aD bq)/\aj w w'):=hcall
       clear hcall
       go_wp2_with fail
       go_region_held3 (λw'=>w'.cell? ⟨g,k*6+k2*6,none⟩=some (aA aK P1 P2)/\w'.cell? ⟨g,k*6+k2*6+1,none⟩=some (aB aK P3)/\w'.cell? ⟨g,k*6+k2*6+2,none⟩=some (aA aK P4 P5)/\w'.cell? ⟨g,k*6+k2*6+3,none⟩=some (az aJ P6)/\w'.cell? ⟨g,k*6+k2*6+4,none⟩=some (aA aK P7 P8)/\w'.cell? ⟨g,k*6+k2*6+5,none⟩=some (az aJ P9)/\w'.cell? ⟨g,k*6+m2*6,none⟩=some (aA aK R1 R2)/\w'.cell? ⟨g,k*6+m2*6+1,none⟩=some (aB aK R3)/\w'.cell? ⟨g,k*6+m2*6+2,none⟩=some (aA aK R4 R5)/\w'.cell? ⟨g,k*6+m2*6+3,none⟩=some (az aJ R6)/\w'.cell? ⟨g,k*6+m2*6+4,none⟩=some (aA aK R7 R8)/\w'.cell? ⟨g,k*6+m2*6+5,none⟩=some (az aJ R9)) (go_keep) (first
         |(go_at_call 159;refine(uv.out _).mono ?_;rintro r w6 ⟨rfl,bp⟩;have c0:=aQ bp a0 iO;have c1:=aQ bp a1 iO;have c2:=aQ bp a2 iO;have c3:=aQ bp a3 iO;have c4:=aQ bp a4 iO;have c5:=aQ bp a5 iO;have e0:=aQ bp b0 iO;have e1:=aQ bp b1 iO;have e2:=aQ bp b2 iO;have e3:=aQ bp b3 iO;have e4:=aQ bp b4 iO;have e5:=(aQ bp b5 iO)))
       have zI:aj wr w6:=(Below.refl _ _).drew.trans bp;have Ev:Hid (ke w g cap n dk w6):=HJ.out.1.keep zI;have HKI:Hid (KI d (k+k2) kk dk):=HJ.out.2;have aa4:=HST.out w6 zI;have aa5:Hid (ke w g cap n (dk.setIfInBounds kk d[k+k2]!) (w6.setCells g (kk*6) [aA aK P1 P2,aB aK P3,aA aK P4 P5,az aJ P6,aA aK P7 P8,az aJ P9])):=aa4;have x0:=aQ bp q0 iO;have x1:=aQ bp q1 iO;have x2:=aQ bp q2 iO;have x3:=aQ bp q3 iO;have x4:=aQ bp q4 iO;have x5:=aQ bp q5 iO;have y0:w6.frozen? ⟨g,kk*6,none⟩=false:=(bp.frozen (p:=⟨g,kk*6,none⟩) iO).trans (z0 _);have y1:w6.frozen? ⟨g,kk*6+1,none⟩=false:=(bp.frozen (p:=⟨g,kk*6+1,none⟩) iO).trans (z0 _);have y2:w6.frozen? ⟨g,kk*6+2,none⟩=false:=(bp.frozen (p:=⟨g,kk*6+2,none⟩) iO).trans (z0 _);have y3:w6.frozen? ⟨g,kk*6+3,none⟩=false:=(bp.frozen (p:=⟨g,kk*6+3,none⟩) iO).trans (z0 _);have y4:w6.frozen? ⟨g,kk*6+4,none⟩=false:=(bp.frozen (p:=⟨g,kk*6+4,none⟩) iO).trans (z0 _);have y5:w6.frozen? ⟨g,kk*6+5,none⟩=false:=(bp.frozen (p:=⟨g,kk*6+5,none⟩) iO).trans (z0 _);clear a0 b0 e0 q0 a1 b1 e1 q1 a2 b2 e2 q2 a3 b3 e3 q3 a4 b4 e4 q4 a5 b5 e5 q5 bp zI HJ uv HST aa4 z0;cases bq
       .have BZ:Hid (kept d (k+k2)=true):=EH.out
        go_wp2_with (simp only[iH,qO];go_simp)
        go_roundg (n-(k+(k2+1)))
        case measure=>omega
        case rel=>exact⟨kk+1,k2+1,dk.setIfInBounds kk d[k+k2]!,ai,ai,aa,aa,aY _,aa5.out,HKI.out.keep aa BZ.out⟩
       .have BZ:Hid (kept d (k+k2)=false):=EH.out;clear c0 x0 y0 c1 x1 y1 c2 x2 y2 c3 x3 y3 c4 x4 y4 c5 x5 y5 aa5
        go_wp2_with fail
        go_roundg (n-(k+(k2+1)))
        case measure=>omega
        case rel=>exact⟨kk,k2+1,dk,rfl,ai,aa,aa,aY _,Ev.out,HKI.out.skip aa BZ.out⟩
      .have hend:k+k2=n:=aa
       obtain⟨w',hcl,aX,mJ⟩:=HJ.out.1.clear kk aa (cap-kk)
       have H4:Hid (uk w' (aG (some ⟨g,0,none⟩) kk cap) (iJ d n)):=by
        have hI:=HJ.out.2.low;rw[hend] at hI;rw[<-hI];exact mJ
       have H6:Hid (aj w w'):=aX;have Sh:¬k2<n-k:=aa
       have aaG:kk<=n:=aa
       have ale:kk<=cap:=aa
       clear mJ aX
       go_wp2_with fail
       go_ret
       exact⟨_,rfl,H4.out,H6.out⟩
   .have hkn:k=n:=aa
    subst hkn;have e:iJ d k=d.toList:=by
     rw[Mu d k aa HI.out.2,<-hds,<-jw,gv]
    have H4:Hid (uk wr (aG (some ⟨g,0,none⟩) k cap) (iJ d k)):=by
     rw[e];exact HI.out.1.rd
    have H6:Hid (aj w wr):=HI.out.1.below;clear e HI hds
    go_wp2_with fail
    go_ret
    exact⟨_,rfl,H4.out,H6.out⟩
theorem aa6:same x y=true↔x.f=y.f/\x.t=y.t:=by unfold same;simp
theorem aa7{x':PB}(hx:eB x)(hx':eB x')(hy:eB y)(hf:x.f=x'.f)(ht:x.t=x'.t):kV x y↔kV x' y:=by
 rw[uu hx hy,uu hx' hy,hf,ht]
structure KL [Inhabited PB](S:Array PB)(m:Nat):Prop where
 mem:∀p∈iJ S m,∃j,j<m/\p=S[j]!
 all:∀j,j<m->∃p∈iJ S m,p.f=S[j]!.f/\p.t=S[j]!.t
 rp:(iJ S m).Pairwise kV
theorem aa8[Inhabited PB](S:Array PB)(hv:∀j,j<S.size->eB S[j]!)(hp:∀i j,i<j->j<S.size->¬kV S[j]! S[i]!):∀m,m<=S.size->KL S m
 |0,_=>⟨λp h=>by simp[iJ] at h,λj h=>aa,by simp[iJ]⟩
 |m+1,hm=>by
  have ih:=aa8 S hv hp m aa
  have Ic:=hv m aa
  cases hk:kept S m
  .have e:iJ S (m+1)=iJ S m:=by rw[iJ,hk];simp
   have hs:same S[m]! S[m-1]! =true/\0<m:=by
    unfold kept at hk;rcases Nat.eq_zero_or_pos m with h0|h0
    .rw[h0] at hk;simp at hk
    .refine⟨?_,h0⟩;cases h:same S[m]! S[m-1]!
     .rw[h] at hk;simp at hk
     .rfl
   refine⟨λp h=>?_,λj hj=>?_,by rw[e];exact ih.rp⟩
   .rw[e] at h;obtain⟨j,hj,h⟩:=ih.mem p h;exact⟨j,aa,h⟩
   .rw[e];by_cases hjm:j<m
    .exact ih.all j hjm
    .have:j=m:=aa
     subst this;obtain⟨p,hp1,hp2,ue⟩:=ih.all (j-1) aa
     have h2:=aa6.1 hs.1;exact⟨p,hp1,by rw[hp2,h2.1],by rw[ue,h2.2]⟩
  .have e:iJ S (m+1)=iJ S m++[S[m]!]:=by rw[iJ,hk];simp
   refine⟨λp h=>?_,λj hj=>?_,?_⟩
   .rw[e] at h;rcases dF.1 h with h|h
    .obtain⟨j,hj,h⟩:=ih.mem p h;exact⟨j,aa,h⟩
    .exact⟨m,aa,dB.1 h⟩
   .rw[e];by_cases hjm:j<m
    .obtain⟨p,hp1,hp2⟩:=ih.all j hjm;exact⟨p,Ap _ hp1,hp2⟩
    .have:j=m:=aa
     subst this;exact⟨S[j]!,af,rfl,rfl⟩
   .rw[e,JY];refine⟨ih.rp,af,λp h y hy=>?_⟩
    rw[dB.1 hy];obtain⟨j,hj,rfl⟩:=ih.mem p h;have hvj:=hv j aa
    rcases Sm hvj Ic with h1|⟨h1,h2⟩|h1
    .exact h1
    .exfalso;have hv1:=hv (m-1) aa
     have hns:same S[m]! S[m-1]! =false:=by
      unfold kept at hk;have e0:decide (m=0)=false:=jU aa
      rw[e0,Wv] at hk;cases hx:same S[m]! S[m-1]!
      .rfl
      .rw[hx] at hk;cases hk
     have h3:¬kV S[m]! S[m-1]! :=hp (m-1) m aa aa
     rcases Sm hv1 Ic with h4|⟨h4,h5⟩|h4
     .by_cases tV:j=m-1
      .subst tV;have:kV S[m]! S[m]! :=(aa7 hv1 Ic Ic h1 h2).1 h4;exact aaW _ this
      .refine hp j (m-1) aa aa ?_
       rw[uu hv1 hvj,h1,h2,<-uu hv1 Ic];exact h4
     .have:=aa6.2 ⟨h4.symm,h5.symm⟩;rw[this] at hns;cases hns
     .exact h3 h4
    .exact absurd h1 (hp j m aa aa)
structure qi(es:List Ed)(l:List Ge.Nd)(Ps:List PB):Prop where
 ap:AP es l Ps
 v:∀p∈Ps,eB p
 rp:Ps.Pairwise kV
theorem Mx:∀{m:List Ge.Nd}{q:Ge.Nd×Ge.Nd},q∈Ge.nexts m->q.1∈m/\q.2∈m
 |[],_,h=>by simp[Ge.nexts] at h
 |[_],_,h=>by simp[Ge.nexts] at h
 |a::b::r,q,h=>by
  rcases bU.1 h with h|h
  .rw[h];simp
  .have ih:=Mx h;exact⟨bV _ ih.1,bV _ ih.2⟩
theorem AP.v{es:List Ed}{l:List Ge.Nd}{L:List PB}(h:AP es l L)(hs:∀e∈es,gS e)(hl:l.map Ge.aU=Ge.ja es)(hc:∀n∈l,Ge.Can n):∀p∈L,eB p:=by
 intro p hp;obtain⟨e,_,_,hq⟩:=h.mem p hp;have hm:=Mx hq;have h1:p.f∈l:=(jr.1 hm.1).1;have h2:p.t∈l:=(jr.1 hm.2).1;have hn:∀n∈l,nj n:=λn hn=>aaK hs (hc n hn) (((Ge.Eh es).2.2 _).1 (by rw[<-hl];exact bQ.2 ⟨n,hn,rfl⟩))
 exact⟨hn _ h1,hn _ h2,hc _ h1,hc _ h2⟩
theorem alL(es:List Ed)(v:aN)(w:aM)(hR:jL w v es)(hl:es.length<=402)(hs:∀e∈es,gS e):
  ak 104 #[v] w λr w'=>∃v' Ps,r=aL v'/\uk w' v' Ps/\aj w w'/\Ps.length<=85000000/\∃l,l.map Ge.aU=Ge.ja es/\(∀n∈l,Ge.Can n)/\qi es l Ps:=by
 haveI:Inhabited PB:=⟨⟨0,0,0,(0,0,1),(0,0,1)⟩⟩;haveI:Inhabited VP:=⟨⟨⟨0,0,0,(0,0,1),(0,0,1)⟩,⟨ah,ah,ah⟩,⟨ah,ah,ah⟩,⟨ah,ah⟩,⟨ah,ah⟩⟩⟩
 refine(alv es v w hR hl hs (λPs v' w'=>uk w' v' Ps/\aj w w'/\Ps.length<=85000000/\∃l,l.map Ge.aU=Ge.ja es/\(∀n∈l,Ge.Can n)/\qi es l Ps) ?_).mono λr w' h=>h
 intro l kU lQ lv L wr xM ur lO;have hv:=ur.v hs kU lQ;refine(alG w lv L wr xM hv lO).mono ?_;rintro r w' ⟨rfl,S,hS,hperm,hpw⟩;refine⟨rfl,?_⟩;have hSl:S.length=L.length:=hperm.length_eq;have Ss:∀p∈S,eB p:=λp hp=>hv p (hperm.mem_iff.1 hp)
 have DB:AP es l S:=⟨λp hp=>ur.mem p (hperm.mem_iff.1 hp),λe he q hq=>by
  obtain⟨p,hp,h⟩:=ur.all e he q hq;exact⟨p,hperm.mem_iff.2 hp,h⟩⟩
 have get:∀j(hj:j<S.length),S.toArray[j]! =S[j]:=λj hj=>by rw[jl S.toArray j (by simpa using hj)];simp
 have Et:∀j,j<S.length->eB S.toArray[j]! :=λj hj=>by rw[get j hj];exact Ss _ (iw hj)
 have hK:=aa8 S.toArray (λj hj=>Et j (by simpa using hj)) (λi j hij hj=>by
  have hj':j<S.length:=by simpa using hj
  rw[get j hj',get i aa]
  exact(lW.1 hpw) i j aa hj' hij) S.length af
 have hfin:qi es l (iJ S.toArray S.length):=by
  have hm:∀p∈iJ S.toArray S.length,p∈S:=λp hp=>by
   obtain⟨j,hj,rfl⟩:=hK.mem p hp;rw[get j hj];exact iw hj
  refine⟨⟨λp hp=>DB.mem p (hm p hp),λe he q hq=>?_⟩,λp hp=>Ss p (hm p hp),hK.rp⟩
  obtain⟨p,hp,h⟩:=DB.all e he q hq;obtain⟨j,hj,hjp⟩:=jG.1 hp;obtain⟨p',hp',h1,h2⟩:=hK.all j hj;rw[get j hj,hjp] at h1 h2;exact⟨p',hp',by rw[h1,h2];exact h⟩
 have hlen:(iJ S.toArray S.length).length<=S.length:=by
  have:∀m,(iJ S.toArray m).length<=m:=λm=>by
   induction m with
   |zero=>simp[iJ]
   |succ m ih=>
    rw[iJ,bX];split
    .simp;omega
    .simp;omega
  exact this _
 rcases hS.1.2 with⟨rfl,h0⟩|⟨g,cap,cur,rfl,hg,hblk,hnc,hcm,hcs,htk⟩
 .have hS0:S=[]:=iX.1 h0;subst hS0;have HB:Hid (aj w w'):=hS.2;have HF:Hid (qi es l []):=hfin;have HM:Hid (l.map Ge.aU=Ge.ja es/\(∀n∈l,Ge.Can n)):=⟨kU,lQ⟩;clear hfin hlen hK Et get DB Ss hSl hpw hperm hS xM ur hv h0 kU lQ
  go_enter func158,ntmps158
  go_wp2_with fail
  go_ret
  exact⟨_,[],rfl,World.ownsRow_nil _ _ _ _,HB.out,af,l,HM.out.1,HM.out.2,HF.out⟩
 .have hR:ke w g cap S.length S.toArray w':=⟨af,hS.1,hS.2⟩
  refine(alJ w g cap S.length S.toArray w' hR Et aa hnc).mono ?_
  rintro r w2 ⟨v',rfl,mJ,hb⟩;exact⟨v',_,rfl,mJ,hb,aa,l,kU,lQ,hfin⟩
namespace Ge
def canon(x y d:Int):Nd:=let g:Int:=Int.gcd (Int.gcd x y:Nat) d;(x.tdiv g,y.tdiv g,d.tdiv g)
theorem Su(x y:Int){d:Int}(hd:0<d):Can (canon x y d)/\aU (canon x y d)=(bO x d,bO y d):=by
 obtain⟨G,hG⟩:∃G,Int.gcd (Int.gcd x y:Nat) d=G:=⟨_,rfl⟩;have GJ:0<G:=by rw[<-hG];exact vp aa
 have H9:(G:Int)∣(Int.gcd x y:Nat):=by rw[<-hG];exact FP _ _
 have dx:(G:Int)∣x:=FT H9 (FP _ _);have dy:(G:Int)∣y:=FT H9 (Dg _ _);have dd:(G:Int)∣d:=by rw[<-hG];exact Dg _ _
 have ed:=(AB dd).symm;have hp:0<d.tdiv (G:Int):=by
  rcases gf (d.tdiv (G:Int)) 0 with h|h|h
  .have:=wK (show(0:Int)<G by omega) h;omega
  .rw[h] at ed;omega
  .exact h
 unfold canon;rw[hG];exact LZ aa (AB dx).symm (AB dy).symm ed hp (by rw[hG];simp)
end Ge
def eI(f t:Ge.Nd):Ge.Nd:=Ge.canon (f.1+t.1) (f.2.1+t.2.1) (f.2.2+t.2.2)
theorem alO{n:Ge.Nd}(hf:nj x.f)(ht:nj x.t)(h:aaF x n):n=eI x.f x.t:=by
 have h1:=hf.d;have h2:=ht.d;obtain⟨c,q⟩:=Ge.Su (x.f.1+x.t.1) (x.f.2.1+x.t.2.1) (d:=x.f.2.2+x.t.2.2) aa
 exact Ge.LY h.1 c (by rw[h.2.1];exact q.symm)
def df(f t:Ge.Nd):Ge.Ln:=(t.1*f.2.2-f.1*t.2.2,t.2.1*f.2.2-f.2.1*t.2.2,0)
def rising(a b:Int):Prop:=0<a\/(a=0/\0<b)
theorem Sv{a b c d:Int}(h1:rising a b)(h2:rising c d)(hc:a*d=b*c):0<a*c+b*d:=by
 rcases h1 with h1|⟨h1,h1'⟩
 .rcases h2 with h2|⟨h2,h2'⟩
  .have e:a*(a*c+b*d)=(a*a+b*b)*c:=by
    calc a*(a*c+b*d)=a*a*c+b*(a*d):=by grind
     _=(a*a+b*b)*c:=by rw[hc];grind
   have hs:0<a*a+b*b:=by
    have k1:=bJ h1 h1;have k2:0<=b*b:=by
     rcases Aq 0 b with h|h
     .exact jF h h
     .exact uQ h h
    omega
   have hp:=bJ hs h2;rw[<-e] at hp;exact(K6 h1).1.1 hp
  .exfalso;rw[h2,Dk] at hc;have:=bJ h1 h2';omega
 .rw[h1,AA] at hc;have hc0:c=0:=by
   rcases gf c 0 with h|h|h
   .have:=wK h1' h;omega
   .exact h
   .have:=bJ h1' h;omega
  rcases h2 with h2|⟨h2,h2'⟩
  .omega
  .rw[h1,hc0];have:=bJ h1' h2';omega
theorem My{a b c d x y:Int}(hc:a*d=b*c)(hd:0<a*c+b*d)(h2:0<c*c+d*d):(a*x+b*y).sign=(c*x+d*y).sign:=by
 have e:(c*c+d*d)*(a*x+b*y)=(a*c+b*d)*(c*x+d*y):=by
  have e1:(c*c+d*d)*(a*x+b*y)-(a*c+b*d)*(c*x+d*y)=(a*d-b*c)*(d*x-c*y):=by grind
  have e2:a*d-b*c=0:=aa
  rw[e2,AA] at e1;omega
 have k1:=Wm (c*c+d*d) (a*x+b*y);have k2:=Wm (a*c+b*d) (c*x+d*y);rw[nV h2,wQ] at k1;rw[nV hd,wQ] at k2;rw[<-k1,<-k2,e]
theorem abb{e:Ed}(hne:e.1≠e.2):rising (Ge.jc (Ge.dK e)).1 (Ge.jc (Ge.dK e)).2.1:=by
 obtain⟨⟨a,b⟩,c,d⟩:=e;have h:¬(a=c/\b=d):=λh=>hne (by simp[h.1,h.2])
 unfold Ge.jc Ge.down Ge.dK Ge.El rising;simp only;split
 .rename_i hd
  simp only[agV,tH,AL] at hd;simp only;omega
 .rename_i hd
  simp only[agV,tH,AL] at hd;simp only;omega
theorem Ca{n:Ge.Nd}{e:Ed}(hn:0<n.2.2)(h:Ge.fo (n.1,n.2.1) n.2.2 e=true):lf n.1 n.2.1 n.2.2 e=0:=by
 unfold Ge.fo Ge.on at h;rw[tH,AL] at h;have:=QR n.1 n.2.1 n.2.2 e;rw[h.1] at this;exact(K6 hn).2.2.1 this
theorem abc{f t:Ge.Nd}(hf:Ge.Can f)(ht:Ge.Can t)(hlt:Ge.lt (Ge.aU f) (Ge.aU t)):rising (df f t).1 (df f t).2.1:=by
 unfold Ge.lt at hlt;rw[Ge.LX hf ht] at hlt;unfold rising df;simp only;generalize f.1*t.2.2=p1 at*;generalize t.1*f.2.2=p2 at*;generalize f.2.1*t.2.2=p3 at*;generalize t.2.1*f.2.2=p4 at*;rcases gf (p1-p2) 0 with h|h|h
 .exact aS aa
 .rw[aV (by rw[h];rfl)] at hlt
  refine aR ⟨aa,?_⟩
  rcases gf (p3-p4) 0 with k|k|k
  .omega
  .rw[k] at hlt;simp at hlt
  .rw[nV k] at hlt;omega
 .have hs:=nV h;rw[hs,aP ah] at hlt
  omega
theorem abd{e:Ed}{f t:Ge.Nd}(l1:lf f.1 f.2.1 f.2.2 e=0)(l2:lf t.1 t.2.1 t.2.2 e=0):(Ge.dK e).1*(df f t).2.1=(Ge.dK e).2.1*(df f t).1:=by
 unfold lf at l1 l2;unfold Ge.dK df;simp only;have k:(e.2.1-e.1.1)*(t.2.1*f.2.2-f.2.1*t.2.2)-(e.2.2-e.1.2)*(t.1*f.2.2-f.1*t.2.2)=f.2.2*((e.2.1-e.1.1)*t.2.1-(e.2.2-e.1.2)*t.1-((e.2.1-e.1.1)*e.1.2-(e.2.2-e.1.2)*e.1.1)*t.2.2)-t.2.2*((e.2.1-e.1.1)*f.2.1-(e.2.2-e.1.2)*f.1-((e.2.1-e.1.1)*e.1.2-(e.2.2-e.1.2)*e.1.1)*f.2.2):=by grind
 rw[l1,l2,Dk,Dk] at k;omega
theorem alP{e:Ed}{f t:Ge.Nd}(hne:e.1≠e.2)(hf:Ge.Can f)(ht:Ge.Can t)(h1:Ge.fo (f.1,f.2.1) f.2.2 e=true)(h2:Ge.fo (t.1,t.2.1) t.2.2 e=true)(hlt:Ge.lt (Ge.aU f) (Ge.aU t))(x y:Int):
  ((Ge.jc (Ge.dK e)).1*x+(Ge.jc (Ge.dK e)).2.1*y).sign=((df f t).1*x+(df f t).2.1*y).sign:=by
 have l1:=Ca hf.pos h1;have l2:=Ca ht.pos h2;have hr:=abb hne;have hd:=abc hf ht hlt;have hc:=abd l1 l2;have hc':(Ge.jc (Ge.dK e)).1*(df f t).2.1=(Ge.jc (Ge.dK e)).2.1*(df f t).1:=by
  unfold Ge.jc;split
  .show -(Ge.dK e).1*_= -(Ge.dK e).2.1*_;rw[js,js,hc]
  .exact hc
 have hdd:0<(df f t).1*(df f t).1+(df f t).2.1*(df f t).2.1:=Sv hd hd (gF _ _);exact My hc' (Sv hr hd hc') hdd
def sL(es:List Ed)(f t:Ge.Nd):Int:=Ge.total (Ge.fr ((eI f t).1,(eI f t).2.1) (eI f t).2.2) es+Ge.total (Ge.fa (eI f t) (df f t)) es
def qj(es:List Ed)(f t:Ge.Nd):Int:=Ge.total (Ge.fr ((eI f t).1,(eI f t).2.1) (eI f t).2.2) es
theorem alQ(p:PB)(es:List Ed)(l:List Ge.Nd)(hes:∀e∈es,e.1≠e.2)(hv:eB p)(hlt:Ge.lt (Ge.aU p.f) (Ge.aU p.t))(hm:∃e∈es,qZ p.wa p.wb p.sh (Ge.jc (Ge.dK e))/\(p.f,p.t)∈Ge.nexts (Ge.held e l))(hl:es.length<=402)(hs:∀e∈es,gS e):
  ∀v w,jL w v es->ak 105 #[aC p.cells.toArray,v] w λr w'=>r=aL (aI #[az aJ (sL es p.f p.t),az aJ (qj es p.f p.t)])/\aj w w':=by
 obtain⟨e,he,hfl,hq⟩:=hm;have mK:=hs e he;have b1:sm (Ge.jc (Ge.dK e)).1:=by
  have:=mK.a;have:=mK.c;unfold small at*;unfold Ge.jc Ge.El Ge.dK sm;split<;>simp only<;>omega
 have b2:sm (Ge.jc (Ge.dK e)).2.1:=by
  have:=mK.b;have:=mK.d;unfold small at*;unfold Ge.jc Ge.El Ge.dK sm;split<;>simp only<;>omega
 obtain⟨n,hi,hc⟩:=ala p _ es hfl b1 b2 hv.f hv.t hl hs;have en:=alO hv.f hv.t hi;subst en;have hm2:=Mx hq;have f1:=(jr.1 hm2.1).2;have f2:=(jr.1 hm2.2).2;have hfa:∀a b,Ge.fa (eI p.f p.t) (Ge.jc (Ge.dK e)) a b=Ge.fa (eI p.f p.t) (df p.f p.t) a b:=λa b=>by
  unfold Ge.fa;rw[alP (hes e he) hv.cf hv.ct f1 f2 hlt]
 intro v w hR;have h:=hc v w hR;rw[Ge.aj8 es hfa] at h;exact h
end
namespace Ga
open Ge
variable{es:List (Pt×Pt)}{l:List Nd}{n a b f m:N3}{t:Nd}{D p q u v:Pt}
structure di(es:List (Pt×Pt))(l:List Nd):Prop where
 map:l.map aU=ja es
 can:∀n∈l,Ge.Can n
 ne:∀e∈es,e.1≠e.2
theorem di.mem(h:di es l){n:Nd}(hn:Ge.Can n)(hi:isNode es (aU n)):n∈l:=by
 have h1:aU n∈l.map aU:=by rw[h.map];exact((Eh es).2.2 _).2 hi
 obtain⟨m,hm,he⟩:=bQ.1 h1;rw[LY hn (h.can m hm) he.symm];exact hm
theorem pA{a b:Nd}(ha:Ge.Can a)(hb:Ge.Can b):lt (aU a) (aU b)↔bz (wv a b):=by
 unfold lt bz wv;rw[LX ha hb];have s1:=sg (a.1*b.2.2-b.1*a.2.2);have s2:=sg (a.2.1*b.2.2-b.2.1*a.2.2);have e1:a.2.2*b.1=b.1*a.2.2:=gF _ _;have e2:b.2.2*a.1=a.1*b.2.2:=gF _ _;have e3:a.2.2*b.2.1=b.2.1*a.2.2:=gF _ _;have e4:b.2.2*a.2.1=a.2.1*b.2.2:=gF _ _;simp only;rw[e1,e2,e3,e4];split<;>omega
def Cb(l:List Nd):Prop:=l.Pairwise λa b=>lt (aU a) (aU b)
theorem di.rp(h:di es l):Cb l:=by
 have:=(Eh es).2.1;rw[<-h.map] at this;exact lF.1 this
theorem di.Ie(h:di es l)(e:Pt×Pt):Cb (held e l):=ahr _ h.rp
theorem je{e:Pt×Pt}{n:Nd}:n∈held e l↔n∈l/\on (rl n e.1) (rl n e.2)=true:=by
 unfold held;rw[jr];exact JV
theorem uw:∀{m:List Nd}{q:Nd×Nd},q∈nexts m->q.1∈m/\q.2∈m
 |[],_,h=>by simp[nexts] at h
 |[_],_,h=>by simp[nexts] at h
 |a::b::r,q,h=>by
  rcases bU.1 h with h|h
  .rw[h];simp
  .have:=uw (m:=b::r) h;exact⟨bV _ this.1,bV _ this.2⟩
theorem abe:∀{m:List Nd},Cb m->∀{q:Nd×Nd},q∈nexts m->lt (aU q.1) (aU q.2)
 |[],_,_,h=>by simp[nexts] at h
 |[_],_,_,h=>by simp[nexts] at h
 |a::b::r,hp,q,h=>by
  rcases bU.1 h with h|h
  .rw[h];exact(gN.1 hp).1 b af
  .exact abe (gN.1 hp).2 h
theorem abf:∀{m:List Nd},Cb m->(∀n∈m,Ge.Can n)->∀{q:Nd×Nd},q∈nexts m->∀{x:Nd},x∈m->¬(lt (aU q.1) (aU x)/\lt (aU x) (aU q.2))
 |[],_,_,_,h,_,_=>by simp[nexts] at h
 |[_],_,_,_,h,_,_=>by simp[nexts] at h
 |a::b::r,hp,hc,q,h,x,hx=>by
  obtain⟨p1,p2⟩:=gN.1 hp;have asym:∀{y z:Nd},Ge.Can y->Ge.Can z->lt (aU y) (aU z)->¬lt (aU z) (aU y):=λhy hz h1 h2=>lt_irrefl _ (lt_trans (eA hy) (eA hz) (eA hy) h1 h2)
  have Ig:=hc a af
  have hcb:=hc b af
  rcases bU.1 h with h|h
  .rw[h];rintro⟨k1,k2⟩;simp only at k1 k2;rcases bU.1 hx with e|hx
   .rw[e] at k1;exact lt_irrefl _ k1
   .rcases bU.1 hx with e|hx
    .rw[e] at k2;exact lt_irrefl _ k2
    .exact asym (hc x (by simp[hx])) hcb k2 ((gN.1 p2).1 x hx)
  .rintro⟨k1,k2⟩;rcases bU.1 hx with e|hx
   .rw[e] at k1;have hq:=(uw h).1;exact asym Ig (hc q.1 (by rcases bU.1 hq with e'|e'<;>simp[e'])) (p1 q.1 hq) k1
   .exact abf p2 (λn hn=>hc n (bV _ hn)) h hx ⟨k1,k2⟩
theorem abg:∀{m:List Nd},Cb m->(∀n∈m,Ge.Can n)->∀{x y:Nd},x∈m->y∈m->lt (aU x) (aU y)->∃t,(x,t)∈nexts m
 |[],_,_,_,_,h,_,_=>by simp at h
 |[a],_,_,x,y,h,h',hl=>by
  have e1:x=a:=by simpa using h
  have e2:y=a:=by simpa using h'
  rw[e1,e2] at hl;exact absurd hl (lt_irrefl _)
 |a::b::r,hp,hc,x,y,hx,hy,hl=>by
  obtain⟨p1,p2⟩:=gN.1 hp;rcases bU.1 hx with e|hx
  .exact⟨b,by rw[e];simp[nexts]⟩
  .rcases bU.1 hy with e|hy
   .exfalso;rw[e] at hl;exact lt_irrefl _ (lt_trans (eA (hc a af)) (eA (hc x (bV _ hx))) (eA (hc a af)) (p1 x hx) hl)
   .obtain⟨t,ht⟩:=abg p2 (λn hn=>hc n (bV _ hn)) hx hy hl
    exact⟨t,bV _ ht⟩
theorem abh:∀{m:List Nd},Cb m->(∀n∈m,Ge.Can n)->∀{x y:Nd},x∈m->y∈m->lt (aU y) (aU x)->∃f,(f,x)∈nexts m
 |[],_,_,_,_,h,_,_=>by simp at h
 |[a],_,_,x,y,h,h',hl=>by
  have e1:x=a:=by simpa using h
  have e2:y=a:=by simpa using h'
  rw[e1,e2] at hl;exact absurd hl (lt_irrefl _)
 |a::b::r,hp,hc,x,y,hx,hy,hl=>by
  obtain⟨p1,p2⟩:=gN.1 hp;rcases bU.1 hx with e|hx
  .exfalso;rw[e] at hl;rcases bU.1 hy with e'|hy
   .rw[e'] at hl;exact lt_irrefl _ hl
   .exact lt_irrefl _ (lt_trans (eA (hc a af)) (eA (hc y (bV _ hy))) (eA (hc a af)) (p1 y hy) hl)
  .by_cases hb:x=b
   .exact⟨a,by rw[hb];simp[nexts]⟩
   .have hb':lt (aU b) (aU x):=by
     rcases bU.1 hx with e|hx
     .exact absurd e hb
     .exact(gN.1 p2).1 x hx
    obtain⟨f,hf⟩:=abh p2 (λn hn=>hc n (bV _ hn)) hx (Kc ..) hb'
    exact⟨f,bV _ hf⟩
theorem ql(hD:bz D)(hc:cr D (wv a b)=0)(hd:0<dt D (wv a b)):Behind a b D:=by
 rcases hD with h|⟨h1,h2⟩
 .left;refine⟨h,?_,hc⟩;have e:dt D (wv a b)*D.1=(wv a b).1*dt D D:=by unfold cr at hc;unfold dt;grind
  have k:=bT (z:=(wv a b).1) (dC (mR (aS h)));have p:=bJ hd h;rw[gF] at k;omega
 .right;unfold cr at hc;unfold dt at hd;rw[h1] at hc hd;have k:=dP (z:=(wv a b).1) h2;have q:=bT (z:=(wv a b).2) h2;exact⟨h1,h2,k.1 aa,q.1 aa⟩
theorem Sw(h:Behind a b D):0<dt D (wv a b):=by
 rcases h with⟨h1,h2,h3⟩|⟨h1,h2,h3,h4⟩
 .exact mD (aS h1) (aS h2) h3
 .unfold dt;rw[h1];have:=bJ h2 h4;omega
theorem abj(h:Behind a b D):bz (wv a b):=by
 rcases h with⟨_,h2,_⟩|⟨_,_,h3,h4⟩
 .exact aS h2
 .exact aR ⟨h3,h4⟩
theorem Ih{t:N3}(Cc:0<t.2.2)(_hr:bz (wv f t))(h1:on (rl f p) (rl f q)=true)(h2:on (rl t p) (rl t q)=true):lam (wv f t) f p=0/\lam (wv f t) f q=0:=by
 obtain⟨a1,a2⟩:=(jX _ _).1 h1;obtain⟨b1,_⟩:=(jX _ _).1 h2;have e:f.2.2*f.2.2*cr (rl t p) (rl t q)=t.2.2*t.2.2*cr (rl f p) (rl f q)-t.2.2*(lam (wv f t) f q-lam (wv f t) f p):=by
  have k:f.2.2*f.2.2*cr (rl t p) (rl t q)=(f.2.2*(rl t p).1)*(f.2.2*(rl t q).2)-(f.2.2*(rl t p).2)*(f.2.2*(rl t q).1):=by unfold cr;grind
  obtain⟨e1,e2⟩:=mQ f t p;obtain⟨e3,e4⟩:=mQ f t q;rw[k,e1,e2,e3,e4];unfold lam cr
  grind
 rw[a1,b1] at e;have ht:0<t.2.2:=Cc;have hll:lam (wv f t) f q=lam (wv f t) f p:=by
  have:=dP (z:=lam (wv f t) f q-lam (wv f t) f p) ht;have:=this.1 aa
  omega
 have c:=wY (D:=wv f t) a1;have hp0:lam (wv f t) f p=0:=by
  apply iV;intro hn;have hd:=dC (PQ (D:=wv f t) (r:=rl f p) hn);have k:lam (wv f t) f p*(dt (rl f p) (rl f p)-dt (rl f p) (rl f q))=0:=by
   rw[rP];unfold lam at*;rw[hll] at c;omega
  rcases ahs.1 k with k|k
  .exact hn k
  .omega
 exact⟨hp0,by rw[hll];exact hp0⟩
theorem abk{t:N3}(hf:0<f.2.2)(ht:0<t.2.2)(hm:0<m.2.2)(hr:bz (wv f t))(h1:on (rl f p) (rl f q)=true)(h2:on (rl t p) (rl t q)=true)(b1:Behind f m (wv f t))(b2:Behind m t (wv f t)):on (rl m p) (rl m q)=true:=by
 have hD:=mR hr;obtain⟨l1,l2⟩:=Ih ht hr h1 h2;have lm:∀z,lam (wv f t) f z=0->lam (wv f t) m z=0:=λz hz=>by have:=qH hf hm b1 z;omega
 have lt:∀z,lam (wv f t) f z=0->lam (wv f t) t z=0:=λz hz=>by have:=qH hf ht (AX hr) z;omega
 have o1:=(tR hD l1 l2).1 h1;have o2:=(tR hD (lt p l1) (lt q l2)).1 h2;refine(tR hD (lm p l1) (lm q l2)).2 ?_;have d1:=Sw b1;have d2:=Sw b2;have d3:=Sw (AX hr);have mv:∀(a b:N3)(z:Pt),a.2.2*dt (wv f t) (rl b z)=b.2.2*dt (wv f t) (rl a z)-dt (wv f t) (wv a b):=λa b z=>by
  obtain⟨e1,e2⟩:=mQ a b z;have:a.2.2*dt (wv f t) (rl b z)=(wv f t).1*(a.2.2*(rl b z).1)+(wv f t).2*(a.2.2*(rl b z).2):=by unfold dt;grind
  rw[this,e1,e2];unfold dt
  grind
 have low:∀z,dt (wv f t) (rl f z)<=0->dt (wv f t) (rl m z)<0/\dt (wv f t) (rl t z)<0:=λz hz=>by
  have k1:=mv f m z;have k2:=mv f t z;have p1:=bT (z:=dt (wv f t) (rl f z)) hm;have p2:=neg_mul (z:=dt (wv f t) (rl m z)) hf;have p3:=bT (z:=dt (wv f t) (rl f z)) ht;have p4:=neg_mul (z:=dt (wv f t) (rl t z)) hf;omega
 have high:∀z,0<=dt (wv f t) (rl t z)->0<dt (wv f t) (rl m z):=λz hz=>by
  have k1:=mv m t z;have p1:=neg_mul (z:=dt (wv f t) (rl t z)) hm;have p2:=bT (z:=dt (wv f t) (rl m z)) ht;omega
 generalize wv f t=D at*;by_cases hp:dt D (rl f p)<=0
 .obtain⟨x1,x2⟩:=low p hp;have hq:0<=dt D (rl t q):=by
   apply FE.1;intro h;exact yX x2 h o2
  exact uY (fA x1) (fA (high q hq))
 .have hq:dt D (rl f q)<=0:=by
   apply FE.1;intro h;exact AY aa h o1
  obtain⟨x1,x2⟩:=low q hq;have hp':0<=dt D (rl t p):=by
   apply FE.1;intro h;exact yX h x2 o2
  exact Kn (fA (high p hp')) (fA x1)
def fk(es:List (Pt×Pt))(l:List Nd)(f t:Nd):Prop:=∃e∈es,(f,t)∈nexts (held e l)
theorem fk.facts(hN:di es l){f:Nd}(h:fk es l f t):f∈l/\t∈l/\bz (wv f t):=by
 obtain⟨e,he,hn⟩:=h;obtain⟨h1,h2⟩:=uw hn;have h1':=(je.1 h1).1;have h2':=(je.1 h2).1;exact⟨h1',h2',(pA (hN.can _ h1') (hN.can _ h2')).1 (abe (hN.Ie e) hn)⟩
theorem fk.gap(hN:di es l){f:Nd}(h:fk es l f t){m:Nd}(hm:m∈l):¬(Behind f m (wv f t)/\Behind m t (wv f t)):=by
 rintro⟨b1,b2⟩;obtain⟨hf,ht,hr⟩:=h.facts hN;obtain⟨e,he,hn⟩:=h;obtain⟨h1,h2⟩:=uw hn;have cf:=hN.can _ hf;have ct:=hN.can _ ht;have cm:=hN.can _ hm;have ho:=abk cf.pos ct.pos cm.pos hr (je.1 h1).2 (je.1 h2).2 b1 b2;exact abf (hN.Ie e) (λn hn=>hN.can n (je.1 hn).1) hn (je.2 ⟨hm,ho⟩) ⟨(pA cf cm).2 (abj b1),(pA cm ct).2 (abj b2)⟩
theorem Sy(z:Pt):Ge.Can (z.1,z.2,1):=⟨by show(0:Int)<1;decide,by show Int.gcd (Int.gcd z.1 z.2) 1=1;exact Wq ..⟩
theorem abl(z:Pt):aU (z.1,z.2,1)=pt z:=by unfold aU pt;simp only[Lc]
theorem di.Ii(hN:di es l){e:Pt×Pt}(he:e∈es):(e.1.1,e.1.2,1)∈l/\(e.2.1,e.2.2,1)∈l:=
 ⟨hN.mem (Sy e.1) (aS ⟨e,he,aS (abl _)⟩),hN.mem (Sy e.2) (aS ⟨e,he,aR (abl _)⟩)⟩
theorem Ij(f:N3)(z:Pt):wv f (z.1,z.2,1)=rl f z:=by unfold wv rl rel;simp
theorem abm(t:N3)(z:Pt):wv (z.1,z.2,1) t=neg (rl t z):=by unfold wv rl rel neg;exact dN (by simp;omega) (by simp;omega)
theorem fk.abn(hN:di es l){f:Nd}(h:fk es l f t){z:Pt}(hz:(z.1,z.2,1)∈l):oY f t (wv f t) z:=by
 intro hl;obtain⟨hf,ht,hr⟩:=h.facts hN;apply iV;intro hn;have hl':=(tS (hN.can _ hf).pos (hN.can _ ht).pos hr z).2 hl;refine h.gap hN hz ⟨ql hr ?_ ?_,ql hr ?_ ?_⟩
 .rw[Ij];exact hl
 .rw[Ij];omega
 .rw[abm,fG];unfold lam at hl';omega
 .rw[abm,kI];omega
def jM(u v:Pt)(a b:Int):N3:=(u.1*b-v.1*a,u.2*b-v.2*a,b-a)
theorem abo(f:N3)(D u v:Pt):wv f (jM u v (lam D f u) (lam D f v))=(D.1*cr (rl f u) (rl f v),D.2*cr (rl f u) (rl f v)):=by
 unfold wv jM lam cr rl rel;exact dN (by simp only;grind) (by simp only;grind)
theorem alS{k:Int}(hD:bz D)(hk:0<k)(h:wv a b=(D.1*k,D.2*k)):Behind a b D:=by
 refine ql hD ?_ ?_
 .rw[h];unfold cr;simp only;grind
 .rw[h];have e:dt D (D.1*k,D.2*k)=k*dt D D:=by unfold dt;simp only;grind
  rw[e];exact bJ hk (dC (mR hD))
theorem alT{t:N3}(hB:Behind f t D)(u v:Pt):t.2.2*(wv (jM u v (lam D f u) (lam D f v)) t).1= -(f.2.2*cr (rl t u) (rl t v))*D.1/\t.2.2*(wv (jM u v (lam D f u) (lam D f v)) t).2= -(f.2.2*cr (rl t u) (rl t v))*D.2:=by
 have m1:=PG hB u;have m2:=PG hB v;have e:=abo t D u v;have e1:=aZ Prod.fst e;have e2:=aZ Prod.snd e;unfold wv jM at e1 e2⊢;simp only at e1 e2⊢;generalize lam D f u=a at*;generalize lam D f v=b at*;generalize lam D t u=a' at*;generalize lam D t v=b' at*;constructor
 .have k:t.2.2*((b-a)*t.1-t.2.2*(u.1*b-v.1*a))=(t.2.2*b-t.2.2*a)*t.1-t.2.2*(u.1*(t.2.2*b)-v.1*(t.2.2*a)):=by grind
  rw[k,<-m1,<-m2];have k2:(f.2.2*b'-f.2.2*a')*t.1-t.2.2*(u.1*(f.2.2*b')-v.1*(f.2.2*a'))= -f.2.2*(t.2.2*(u.1*b'-v.1*a')-(b'-a')*t.1):=by grind
  rw[k2,e1]
  grind
 .have k:t.2.2*((b-a)*t.2.1-t.2.2*(u.2*b-v.2*a))=(t.2.2*b-t.2.2*a)*t.2.1-t.2.2*(u.2*(t.2.2*b)-v.2*(t.2.2*a)):=by grind
  rw[k,<-m1,<-m2];have k2:(f.2.2*b'-f.2.2*a')*t.2.1-t.2.2*(u.2*(f.2.2*b')-v.2*(f.2.2*a'))= -f.2.2*(t.2.2*(u.2*b'-v.2*a')-(b'-a')*t.2.1):=by grind
  rw[k2,e2]
  grind
theorem alU{a b:Int}(ha:a<=0)(hb:0<=b):on (rl (jM u v a b) u) (rl (jM u v a b) v)=true:=by
 have e1:rl (jM u v a b) u=(a*(v.1-u.1),a*(v.2-u.2)):=by unfold rl rel jM;exact dN (by simp only;grind) (by simp only;grind)
 have e2:rl (jM u v a b) v=(b*(v.1-u.1),b*(v.2-u.2)):=by unfold rl rel jM;exact dN (by simp only;grind) (by simp only;grind)
 rw[e1,e2,jX];constructor
 .unfold cr;simp only;grind
 .have e:dt (a*(v.1-u.1),a*(v.2-u.2)) (b*(v.1-u.1),b*(v.2-u.2))=(a*b)*((v.1-u.1)*(v.1-u.1)+(v.2-u.2)*(v.2-u.2)):=by unfold dt;simp only;grind
  rw[e];refine C8 (uY ha hb) ?_;have k:∀x:Int,0<=x*x:=λx=>by
   rcases Aq 0 x with h|h
   .exact jF h h
   .exact uQ h h
  have:=k (v.1-u.1);have:=k (v.2-u.2);omega
theorem alV(hm:0<m.2.2):∃n:Nd,Ge.Can n/\aU n=(bO m.1 m.2.2,bO m.2.1 m.2.2)/\n.1*m.2.2=m.1*n.2.2/\n.2.1*m.2.2=m.2.1*n.2.2:=by
 obtain⟨c,q⟩:=Su m.1 m.2.1 hm;refine⟨canon m.1 m.2.1 m.2.2,c,q,?_,?_⟩
 .have h:=aZ Prod.fst q;have k:=Ei (a:=(canon m.1 m.2.1 m.2.2).1) (c:=m.1) c.pos hm;have h':bO (canon m.1 m.2.1 m.2.2).1 (canon m.1 m.2.1 m.2.2).2.2=bO m.1 m.2.2:=h;rw[h',DV] at k;have:=yL.1 k.symm;omega
 .have h:=aZ Prod.snd q;have k:=Ei (a:=(canon m.1 m.2.1 m.2.2).2.1) (c:=m.2.1) c.pos hm;have h':bO (canon m.1 m.2.1 m.2.2).2.1 (canon m.1 m.2.1 m.2.2).2.2=bO m.2.1 m.2.2:=h;rw[h',DV] at k;have:=yL.1 k.symm;omega
theorem Sz(e1:n.1*m.2.2=m.1*n.2.2)(e2:n.2.1*m.2.2=m.2.1*n.2.2)(z:Pt):m.2.2*(rl n z).1=n.2.2*(rl m z).1/\m.2.2*(rl n z).2=n.2.2*(rl m z).2:=by
 unfold rl rel;simp only;constructor
 .rw[rP,rP,gF m.2.2 n.1,e1];grind
 .rw[rP,rP,gF m.2.2 n.2.1,e2];grind
theorem Mz(hn:0<n.2.2)(hm:0<m.2.2)(e1:n.1*m.2.2=m.1*n.2.2)(e2:n.2.1*m.2.2=m.2.1*n.2.2)(h:on (rl m u) (rl m v)=true):on (rl n u) (rl n v)=true:=by
 obtain⟨h1,h2⟩:=(jX _ _).1 h;obtain⟨a1,a2⟩:=Sz e1 e2 u;obtain⟨b1,b2⟩:=Sz e1 e2 v;have k1:m.2.2*m.2.2*cr (rl n u) (rl n v)=n.2.2*n.2.2*cr (rl m u) (rl m v):=by
  have:m.2.2*m.2.2*cr (rl n u) (rl n v)=(m.2.2*(rl n u).1)*(m.2.2*(rl n v).2)-(m.2.2*(rl n u).2)*(m.2.2*(rl n v).1):=by unfold cr;grind
  rw[this,a1,a2,b1,b2];unfold cr
  grind
 have k2:m.2.2*m.2.2*dt (rl n u) (rl n v)=n.2.2*n.2.2*dt (rl m u) (rl m v):=by
  have:m.2.2*m.2.2*dt (rl n u) (rl n v)=(m.2.2*(rl n u).1)*(m.2.2*(rl n v).1)+(m.2.2*(rl n u).2)*(m.2.2*(rl n v).2):=by unfold dt;grind
  rw[this,a1,a2,b1,b2];unfold dt
  grind
 have p:=bJ hm hm;have q:=bJ hn hn;have z1:=dP (z:=cr (rl n u) (rl n v)) p;have z2:=bT (z:=dt (rl n u) (rl n v)) p;have z3:=bT (z:=dt (rl m u) (rl m v)) q;rw[h1] at k1;refine(jX _ _).2 ⟨z1.1 aa,aa⟩
theorem alW(hn:0<n.2.2)(hm:0<m.2.2)(e1:n.1*m.2.2=m.1*n.2.2)(e2:n.2.1*m.2.2=m.2.1*n.2.2)(h:Behind f m D):Behind f n D:=by
 have w1:m.2.2*(wv f n).1=n.2.2*(wv f m).1:=by unfold wv;simp only;grind
 have w2:m.2.2*(wv f n).2=n.2.2*(wv f m).2:=by unfold wv;simp only;grind
 have a1:=bT (z:=(wv f n).1) hm;have a2:=bT (z:=(wv f m).1) hn;have a3:=dP (z:=(wv f n).1) hm;have a4:=dP (z:=(wv f m).1) hn;have a5:=bT (z:=(wv f n).2) hm;have a6:=bT (z:=(wv f m).2) hn;have hc:m.2.2*cr D (wv f n)=n.2.2*cr D (wv f m):=by
  have:m.2.2*cr D (wv f n)=D.1*(m.2.2*(wv f n).2)-D.2*(m.2.2*(wv f n).1):=by unfold cr;grind
  rw[this,w1,w2];unfold cr
  grind
 have a7:=dP (z:=cr D (wv f n)) hm;rcases h with⟨h1,h2,h3⟩|⟨h1,h2,h3,h4⟩
 .rw[h3] at hc;exact aS ⟨h1,aa,a7.1 aa⟩
 .exact aR ⟨h1,h2,aa,aa⟩
theorem alX{t:N3}(hn:0<n.2.2)(hm:0<m.2.2)(e1:n.1*m.2.2=m.1*n.2.2)(e2:n.2.1*m.2.2=m.2.1*n.2.2)(h:Behind m t D):Behind n t D:=by
 have w1:m.2.2*(wv n t).1=n.2.2*(wv m t).1:=by unfold wv;simp only;grind
 have w2:m.2.2*(wv n t).2=n.2.2*(wv m t).2:=by unfold wv;simp only;grind
 have a1:=bT (z:=(wv n t).1) hm;have a2:=bT (z:=(wv m t).1) hn;have a3:=dP (z:=(wv n t).1) hm;have a4:=dP (z:=(wv m t).1) hn;have a5:=bT (z:=(wv n t).2) hm;have a6:=bT (z:=(wv m t).2) hn;have hc:m.2.2*cr D (wv n t)=n.2.2*cr D (wv m t):=by
  have:m.2.2*cr D (wv n t)=D.1*(m.2.2*(wv n t).2)-D.2*(m.2.2*(wv n t).1):=by unfold cr;grind
  rw[this,w1,w2];unfold cr
  grind
 have a7:=dP (z:=cr D (wv n t)) hm;rcases h with⟨h1,h2,h3⟩|⟨h1,h2,h3,h4⟩
 .rw[h3] at hc;exact aS ⟨h1,aa,a7.1 aa⟩
 .exact aR ⟨h1,h2,aa,aa⟩
def mh(e:Pt×Pt)(z:Pt):Int:=(e.2.1-e.1.1)*(z.2-e.1.2)-(e.2.2-e.1.2)*(z.1-e.1.1)
theorem alY{e:Pt×Pt}(hf:0<f.2.2)(hD:D≠(0,0))(hne:e.1≠e.2)(l1:lam D f e.1=0)(l2:lam D f e.2=0):∃k k':Int,k≠0/\k'≠0/\∀z,k*mh e z=k'*lam D f z:=by
 have par:D.1*(e.2.2-e.1.2)=D.2*(e.2.1-e.1.1):=by
  have:f.2.2*(D.1*(e.2.2-e.1.2)-D.2*(e.2.1-e.1.1))=lam D f e.2-lam D f e.1:=by unfold lam cr rl rel;simp only;grind
  rw[l1,l2] at this;have:=(dP hf).1 (show _=0 by rw[this];rfl)
  omega
 have hz:∀z,lam D f z=f.2.2*(D.1*(z.2-e.1.2)-D.2*(z.1-e.1.1)):=λz=>by
  have:lam D f z-lam D f e.1=f.2.2*(D.1*(z.2-e.1.2)-D.2*(z.1-e.1.1)):=by unfold lam cr rl rel;simp only;grind
  rw[l1] at this;omega
 by_cases h1:D.1=0
 .have h2:D.2≠0:=λh2=>hD (dN h1 h2)
  have h3:e.2.1-e.1.1=0:=by
   rw[h1,AA] at par;rcases ahs.1 par.symm with h|h
   .exact absurd h h2
   .exact h
  have h4:e.2.2-e.1.2≠0:=λh4=>hne (dN aa aa)
  refine⟨D.2*f.2.2,e.2.2-e.1.2,ahc h2 aa,h4,λz=>?_⟩
  rw[hz z];unfold mh;rw[h1,h3]
  grind
 .have h4:e.2.1-e.1.1≠0:=λh4=>by
   rw[h4,Dk] at par;rcases ahs.1 par with h|h
   .exact h1 h
   .exact hne (dN aa aa)
  refine⟨D.1*f.2.2,e.2.1-e.1.1,ahc h1 aa,h4,λz=>?_⟩
  rw[hz z];unfold mh;have:D.1*f.2.2*((e.2.1-e.1.1)*(z.2-e.1.2)-(e.2.2-e.1.2)*(z.1-e.1.1))=f.2.2*((e.2.1-e.1.1)*(D.1*(z.2-e.1.2))-(D.1*(e.2.2-e.1.2))*(z.1-e.1.1)):=by grind
  rw[this,par]
  grind
theorem alZ(e0 e:Pt×Pt):dO e e0=mh e0 e.1-mh e0 e.2/\mX e e0=e.2.1*mh e0 e.1-e.1.1*mh e0 e.2/\mY e e0=e.2.2*mh e0 e.1-e.1.2*mh e0 e.2:=by
 unfold mX mY mT dO mh;refine⟨?_,?_,?_⟩<;>grind
theorem fk.abp(hN:di es l){f:Nd}(h:fk es l f t)(he:(u,v)∈es\/(v,u)∈es)(h1:lam (wv f t) f u<=0)(h2:0<=lam (wv f t) f v)(h3:lam (wv f t) f u<lam (wv f t) f v):cr (rl f u) (rl f v)<=0\/0<=cr (rl t u) (rl t v):=by
 apply iV;intro hn;obtain⟨hf,ht,hr⟩:=h.facts hN;have cf:=hN.can _ hf;have ct:=hN.can _ ht;have pZ:0<(jM u v (lam (wv f t) f u) (lam (wv f t) f v)).2.2:=by show 0<lam (wv f t) f v-lam (wv f t) f u;omega
 have b1:Behind f (jM u v (lam (wv f t) f u) (lam (wv f t) f v)) (wv f t):=alS hr (k:=cr (rl f u) (rl f v)) aa (abo f (wv f t) u v)
 have b2:Behind (jM u v (lam (wv f t) f u) (lam (wv f t) f v)) t (wv f t):=by
  obtain⟨e1,e2⟩:=alT (AX hr) u v;have kp:0< -(f.2.2*cr (rl t u) (rl t v)):=by
   have:=(neg_mul (z:=cr (rl t u) (rl t v)) cf.pos).2 aa
   omega
  refine ql hr ?_ ?_
  .have z:=dP (z:=cr (wv f t) (wv (jM u v (lam (wv f t) f u) (lam (wv f t) f v)) t)) ct.pos;refine z.1 ?_;have:t.2.2*cr (wv f t) (wv (jM u v (lam (wv f t) f u) (lam (wv f t) f v)) t)=(wv f t).1*(t.2.2*(wv (jM u v (lam (wv f t) f u) (lam (wv f t) f v)) t).2)-(wv f t).2*(t.2.2*(wv (jM u v (lam (wv f t) f u) (lam (wv f t) f v)) t).1):=by unfold cr;grind
   rw[this,e1,e2]
   grind
  .have z:=bT (z:=dt (wv f t) (wv (jM u v (lam (wv f t) f u) (lam (wv f t) f v)) t)) ct.pos;refine z.1 ?_;have:t.2.2*dt (wv f t) (wv (jM u v (lam (wv f t) f u) (lam (wv f t) f v)) t)=(wv f t).1*(t.2.2*(wv (jM u v (lam (wv f t) f u) (lam (wv f t) f v)) t).1)+(wv f t).2*(t.2.2*(wv (jM u v (lam (wv f t) f u) (lam (wv f t) f v)) t).2):=by unfold dt;grind
   rw[this,e1,e2];have e3:(wv f t).1*(-(f.2.2*cr (rl t u) (rl t v))*(wv f t).1)+(wv f t).2*(-(f.2.2*cr (rl t u) (rl t v))*(wv f t).2)= -(f.2.2*cr (rl t u) (rl t v))*dt (wv f t) (wv f t):=by unfold dt;grind
   rw[e3];exact bJ kp (dC (mR hr))
 have o1:=alU (u:=u) (v:=v) h1 h2;obtain⟨e0,MA,hn0⟩:=id h;obtain⟨i1,i2⟩:=uw hn0;have o2:=abk cf.pos ct.pos pZ hr (je.1 i1).2 (je.1 i2).2 b1 b2;obtain⟨L1,L2⟩:=Ih ct.pos hr (je.1 i1).2 (je.1 i2).2;obtain⟨k,k',hk,hk',hkk⟩:=alY cf.pos (mR hr) (hN.ne e0 MA) L1 L2;obtain⟨n,cn,qn,n1,n2⟩:=alV pZ;have on1:=Mz cn.pos pZ n1 n2 o1;have on2:=Mz cn.pos pZ n1 n2 o2;have pr:mh e0 v*lam (wv f t) f u=mh e0 u*lam (wv f t) f v:=by
  have a:=hkk u;have b:=hkk v;have:k*(mh e0 v*lam (wv f t) f u)=k*(mh e0 u*lam (wv f t) f v):=by
   calc k*(mh e0 v*lam (wv f t) f u)=k*mh e0 v*lam (wv f t) f u:=by grind
    _=k'*lam (wv f t) f v*lam (wv f t) f u:=by rw[b]
    _=k'*lam (wv f t) f u*lam (wv f t) f v:=by grind
    _=k*mh e0 u*lam (wv f t) f v:=by rw[a]
    _=k*(mh e0 u*lam (wv f t) f v):=by grind
  exact Dh hk this
 have gw:mh e0 u≠mh e0 v:=λhe=>by
  have a:=hkk u;have b:=hkk v;rw[he,b] at a;have:=Dh hk' a;omega
 have abr:∀e:Pt×Pt,e∈es->(e=(u,v)\/e=(v,u))->isNode es (aU n):=λe Ik heq=>by
  obtain⟨c1,c2,c3⟩:=alZ e0 e;have hc:dO e e0≠0:=by
   rw[c1];rcases heq with h|h<;>rw[h]<;>simp only<;>omega
  have hq:aU n=gK e e0:=by
   rw[qn];unfold gK;refine dN ?_ ?_
   .refine DW aa hc ?_
    rw[c1,c2];unfold jM;simp only;rcases heq with h|h<;>rw[h]<;>simp only<;>grind
   .refine DW aa hc ?_
    rw[c1,c3];unfold jM;simp only;rcases heq with h|h<;>rw[h]<;>simp only<;>grind
  refine aR ⟨e,Ik,e0,MA,hc,hq,?_,?_⟩
  .rw[<-hq,L8 cn];rcases heq with h|h<;>rw[h]
   .exact on1
   .show on (rl n v) (rl n u)=true;rw[uZ];exact on1
  .rw[<-hq,L8 cn];exact on2
 have hin:isNode es (aU n):=by
  rcases he with he|he
  .exact abr _ he (aS rfl)
  .exact abr _ he (aR rfl)
 exact h.gap hN (hN.mem cn hin) ⟨alW cn.pos pZ n1 n2 b1,alX cn.pos pZ n1 n2 b2⟩
theorem fk.qJ(hN:di es l){f:Nd}(h:fk es l f t):wZ es f t:=by
 obtain⟨hf,ht,hr⟩:=h.facts hN;refine⟨(hN.can _ hf).pos,(hN.can _ ht).pos,hr,λe he=>⟨λa b c=>h.abp hN (aS he) a b c,λa b c=>?_⟩,λe he=>⟨h.abn hN (hN.Ii he).1,h.abn hN (hN.Ii he).2⟩⟩
 have:=h.abp hN (u:=e.2) (v:=e.1) (aR he) a b c;rw[dh (rl f e.1) (rl f e.2),dh (rl t e.1) (rl t e.2)] at this;omega
end Ga
end Go.Proofs.YtkjhhooecopolaaGreatDoor

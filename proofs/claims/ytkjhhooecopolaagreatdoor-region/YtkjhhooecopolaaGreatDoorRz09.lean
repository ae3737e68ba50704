import Derived.Test.YtkjhhooecopolaaGreatDoorRz08
set_option maxRecDepth 100000
set_option maxHeartbeats 4000000
namespace Go.Proofs.YtkjhhooecopolaaGreatDoor
open Tryz
open Value renaming int->az,complex->aA,float->aB,agg->aC,bool->aD,string->aF,slice->aG,pointer->aH,tuple->aI
open IntKind renaming i64->aJ
open FloatKind renaming f64->aK
open Ending renaming returned->aL
open Go renaming World->aM,Value->aN,floatOfInt->aO
section
open Go.RowKit
variable{l m:Ge.Ln}{bs:List Nat}{Xs:List PB}{i g b:Nat}{x y:PB}{wr w w':aM}
def vz(Xs:List PB)(i j:Fin Xs.length):Int:=cE Xs[i].f Xs[j].f
def qc(Xs:List PB)(h:0<Xs.length):Array (Fin Xs.length):=
 haveI:Inhabited (Fin Xs.length):=⟨⟨0,h⟩⟩
 Sort.pdq (ltOf (vz Xs)) (Array.ofFn id) 0 Xs.length (Lib.bitLen Xs.length) true true
def zE(Xs:List PB):List PB:=if h:0<Xs.length then(qc Xs h).toList.map (λi=>Xs[i]) else[]
theorem MC{i j:Fin Xs.length}:ltOf (vz Xs) i j=true↔Ge.lt (Ge.aX Xs[i].f) (Ge.aX Xs[j].f):=by
 unfold ltOf vz cE Ge.lt;exact pK
theorem H8{i j:Fin Xs.length}:ltOf (vz Xs) i j=false↔¬Ge.lt (Ge.aX Xs[i].f) (Ge.aX Xs[j].f):=by
 rw[<-MC];simp
theorem abx(hv:∀x∈Xs,dX x):Sort.SWO (ltOf (vz Xs)):=by
 have hc:∀i:Fin Xs.length,Ge.Can Xs[i].f:=λi=>(hv _ (gZ i.2)).cf
 exact{
  irrefl:=λx=>H8.2 (Ge.lt_irrefl _)
  trans:=λx y z h1 h2=>MC.2 (Ge.lt_trans (Ge.dW (hc x)) (Ge.dW (hc y)) (Ge.dW (hc z)) (MC.1 h1) (MC.1 h2))
  ntrans:=λx y z h1 h2=>H8.2 λh=>H8.1 h1 (Ge.lt_le_trans (hc x) (hc z) (hc y) h (H8.1 h2))}
def zF(bs:List Nat)(n:Nat)(h:bs.length=n)(i:Fin n):aN:=aH (some ⟨bs[i]'(by rw[h];exact i.2),0,none⟩)
theorem aby{α:Type}[Inhabited α](enc:α->aN)(d':Array α)(n:Nat)(os:Array Obj){cur:Array aN}{t:TypeId}{fr:Nat×Nat}(hb:wr.heap[g]?=some (.cells cur t fr)):
  (sortWorld enc wr g 0 n d' os).heap[g]?=some (.cells (Sort.putCells enc 0 d' cur) t fr):=by
 have hg:=lt_of_heap hb;show((wr.heap.modify g (Sort.onCells (Sort.putCells enc 0 d')))++os)[g]?=_;rw[JT (by simpa using hg),CV,aV rfl,hb]
 rfl
theorem H9{α:Type}[Inhabited α](enc:α->aN)(d':Array α)(n:Nat)(os:Array Obj){k:Nat}(hk:k<wr.heap.size)(hne:g≠k):
  (sortWorld enc wr g 0 n d' os).heap[k]?=wr.heap[k]?:=by
 show((wr.heap.modify g (Sort.onCells (Sort.putCells enc 0 d')))++os)[k]?=_;rw[JT (by simpa using hk),CV,aQ hne]
theorem Sw{α:Type}[Inhabited α](enc:α->aN)(d':Array α)(n:Nat)(os:Array Obj)(wr:aM)(g:Nat):wr.heap.size<=(sortWorld enc wr g 0 n d' os).heap.size:=by
 show _<=((wr.heap.modify g (Sort.onCells (Sort.putCells enc 0 d')))++os).size;rw[agI,agJ];omega
theorem abz{α:Type}[Inhabited α](enc:α->aN)(d:Array α)(c:Array aN)(h:d.size<=c.size):(Sort.putCells enc 0 d c).toList.take d.size=d.toList.map enc:=by
 apply Fj;intro t;rw[kQ];by_cases ht:t<d.size
 .have h1:t<c.size:=aa
  rw[aV ht,jP,iI,jP];unfold Sort.putCells;rw[asB,pJ h1,pJ ht];simp[ht]
 .rw[aQ ht,yw (by simp;omega)]
theorem alW{w1:aM}{cap:Nat}(h:BS w1 (aG (some ⟨g,0,none⟩) bs.length cap) bs Xs wr)(hv:∀x∈Xs,dX x)[Inhabited (Fin Xs.length)]:
  CmpLays1 prog 109 #[] (zF bs Xs.length h.len) (vz Xs) g 0 Xs.length wr:=by
 intro m os dk hdk x y;have at':∀i:Fin Xs.length,jy (sortWorld (zF bs Xs.length h.len) wr g 0 m dk os) (bs[i]'(by rw[h.len];exact i.2)) Xs[i]:=λi=>by
  have hib:i.1<bs.length:=by rw[h.len];exact i.2
  have hl:=(h.lies i.1 _ _ (bo hib) (bo i.2)).2;have hne:=h.ne (bs[i]'hib) (gZ hib);refine jy.of (wk:=false) (ow:=none) ((H9 _ dk m os (lt_of_heap hl) (λe=>hne (aZ some e))).trans hl)
 exact(Sv Xs[x] Xs[y] (hv _ (gZ x.2)) (hv _ (gZ y.2)) _ _ _ (at' x) (at' y)).mono λ_ _⟨h1,h2,h3⟩=>⟨h1,L6 h2 h3⟩
theorem MD{α:Type}(a:Array α){n:Nat}(h:a.size=n):a.extract 0 n=a:=by subst h;exact OT
theorem abA(Xs:List PB)(hv:∀x∈Xs,dX x)(h:0<Xs.length):(qc Xs h).size=Xs.length/\(qc Xs h).toList.Perm (Array.ofFn (id:Fin Xs.length->Fin Xs.length)).toList/\
  ∀i j(hi:i<(qc Xs h).size)(hj:j<(qc Xs h).size),i<j->¬Ge.lt (Ge.aX Xs[(qc Xs h)[j]].f) (Ge.aX Xs[(qc Xs h)[i]].f):=by
 letI:Inhabited (Fin Xs.length):=⟨⟨0,h⟩⟩
 have hs:(Array.ofFn (id:Fin Xs.length->Fin Xs.length)).size=Xs.length:=VW;have key:=Sort.pdq_sorts (ltOf (vz Xs)) (abx hv) (Array.ofFn id) 0 Xs.length (Lib.bitLen Xs.length) true true (iA _) (by rw[hs];exact aY _) (aU rfl)
 have e:qc Xs h=Sort.pdq (ltOf (vz Xs)) (Array.ofFn id) 0 Xs.length (Lib.bitLen Xs.length) true true:=rfl;rw[<-e] at key;obtain⟨⟨p1,_,p3⟩,p4⟩:=key;have hd:(qc Xs h).size=Xs.length:=by rw[p1,hs]
 rw[MD _ hd,MD _ hs] at p3;refine⟨hd,p3,λi j hi hj hij=>?_⟩
 have hx:=p4 i j (iA _) hij aa
 rw[jh (qc Xs h) i hi,jh (qc Xs h) j hj] at hx;exact H8.1 hx
theorem abB(Xs:List PB)(hv:∀x∈Xs,dX x):(zE Xs).Perm Xs/\(zE Xs).Pairwise (λx y=>¬Ge.lt (Ge.aX y.f) (Ge.aX x.f)):=by
 unfold zE;by_cases h:0<Xs.length
 .rw[yG h];obtain⟨hd,p3,p4⟩:=abA Xs hv h;refine⟨?_,?_⟩
  .have k:=p3.map (λi:Fin Xs.length=>Xs[i])
   have e3:(Array.ofFn (id:Fin Xs.length->Fin Xs.length)).toList.map (λi:Fin Xs.length=>Xs[i])=Xs:=by
    apply Aw
    .simp
    .intro i h1 h2;simp
   rw[e3] at k;exact k
  .rw[oL,mn];intro i j hi hj hij;exact p4 i j (by simpa using hi) (by simpa using hj) hij
 .rw[Fy h];have:Xs=[]:=iU.1 aa
  subst this;exact⟨JU _,List.Pairwise.nil⟩
theorem alY(g cap n:Nat)(wr:aM)(Q:aM->Prop)(hn:n<=85000000)
  (HP:Hid (ak 163 #[aG (some ⟨g,0,none⟩) n cap,az aJ (0:Nat),az aJ n,az aJ (Lib.bitLen n:Nat),.func (.func 109) #[] #[]] wr λe w'=>e=aL (aI #[])/\Q w')):
  ak 108 #[aG (some ⟨g,0,none⟩) n cap,.func (.func 109) #[] #[]] wr λe w'=>e=aL (aI #[])/\Q w':=by
 have HL:Hid (ak 164 #[az .u64 (n:Int)] wr λe w'=>e=aL (az aJ (Lib.bitLen n:Nat))/\w'=wr):=by
  have h:=Tryz.bits_Len (n:Int) wr aa aa
  rwa[JM] at h
 have hwr:IntKind.u64.wrap (n:Int)=n:=by simp[IntKind.wrap,IntKind.bits,IntKind.signed];omega
 generalize Lib.bitLen n=BL at*
 go_enter func108,ntmps108
 go_wp2_with fail
 refine HL.out.mono ?_;rintro r w1 ⟨rfl,rfl⟩
 go_wp2_with fail
 refine HP.out.mono ?_;rintro r w2 ⟨rfl,hQ⟩;have HQ:Hid (Q w2):=hQ;clear hQ HP
 go_wp2_with fail
 go_end0
 exact⟨rfl,HQ.out⟩
theorem abC(p:Option Addr)(cap:Nat)(wr:aM):
  ak 108 #[aG p 0 cap,.func (.func 109) #[] #[]] wr λe w'=>e=aL (aI #[])/\w'=wr:=by
 have HL:Hid (ak 164 #[az .u64 0] wr λe w'=>e=aL (az aJ (Lib.bitLen 0:Nat))/\w'=wr):=Tryz.bits_Len 0 wr aa aa
 have HP:Hid (∀lim:Int,ak 163 #[aG p 0 cap,az aJ 0,az aJ 0,az aJ lim,.func (.func 109) #[] #[]] wr λe w'=>e=aL (aI #[])/\w'=wr):=λlim=>AnyF.pdqsortCmpFunc_none {Tryz.pdqSd with} p cap lim _ wr
 generalize Lib.bitLen 0=BL at*
 go_enter func108,ntmps108
 go_wp2_with fail
 refine HL.out.mono ?_;rintro r w2 ⟨rfl,rfl⟩
 go_wp2_with fail
 refine(HP.out _).mono ?_;rintro r w3 ⟨rfl,rfl⟩
 go_wp2_with fail
 go_end0
 exact⟨rfl,rfl⟩
theorem alZ(w1:aM)(lv:aN)(bs:List Nat)(Xs:List PB)(wr:aM)(h:BS w1 lv bs Xs wr)(hv:∀x∈Xs,dX x)(hl:bs.length<=85000000):
  ak 108 #[lv,.func (.func 109) #[] #[]] wr λe w'=>e=aL (aI #[])/\∃bs',BS w1 lv bs' (zE Xs) w'/\bs'.length=bs.length:=by
 obtain⟨hlen,xt⟩:=h.own;rcases xt with⟨rfl,h0⟩|⟨g,cap,cur,rfl,hg,hblk,hnc,hcm,hcs,htk⟩
 .have hb0:bs=[]:=iU.1 h0;have ue:Xs=[]:=iU.1 (by rw[<-h.len];exact h0)
  subst hb0;subst ue;refine(abC none 0 wr).mono ?_;rintro r w' ⟨rfl,rfl⟩;exact⟨rfl,[],h,rfl⟩
 .by_cases hn:0<Xs.length
  .letI:Inhabited (Fin Xs.length):=⟨⟨0,hn⟩⟩
   have hgl:g<wr.heap.size:=lt_of_heap hblk;have hs:(Array.ofFn (id:Fin Xs.length->Fin Xs.length)).size=Xs.length:=VW;have henc:(Array.ofFn (id:Fin Xs.length->Fin Xs.length)).toList.map (zF bs Xs.length h.len)=bA bs:=by
    apply Aw
    .simp[bA,h.len]
    .intro i h1 h2;simp[bA,zF]
   have hH:Sort.Holds (zF bs Xs.length h.len) wr g 0 (Array.ofFn id):=by
    intro j hj;have hj':j<bs.length:=by rw[h.len,<-hs];exact hj
    have e1:(cur.toList.take (bs.length*1))[j]?=((Array.ofFn (id:Fin Xs.length->Fin Xs.length)).toList.map (zF bs Xs.length h.len))[j]?:=by rw[htk,henc]
    rw[kQ,aV aa,jP,iI,jP,pJ hj] at e1
    refine⟨?_,bK hblk _⟩;rw[jD];unfold World.cell?;rw[hblk,jh (Array.ofFn (id:Fin Xs.length->Fin Xs.length)) j hj];exact e1
   have eg:∀args w,(callFunc 109 args).run prog w=.ok (.enter 109 args) w:=enters_of func109 ag rfl
   have zj:=alW h hv;have hcon:=Any.pdqsortCmpFunc_all Tryz.pdqSd (zF bs Xs.length h.len) (vz Xs) 109 #[] (abx hv) g 0 cap (Array.ofFn id) wr eg (by rw[hs];exact zj) ⟨λ_=>rfl,hH,hgl⟩ (Xs.length+1) 0 Xs.length (Lib.bitLen Xs.length) (Array.ofFn id) wr aa rfl (SW.start hH) (iA _) (by rw[hs];exact aY _) (by rw[hs,<-h.len];omega) (Nat.lt_of_le_of_lt (Lib.bitLen_le Xs.length 62 aa (by have:=h.len;omega)) aa) (aU rfl)
   rw[hs] at hcon;rw[h.len];refine alY g cap Xs.length wr (λw'=>∃bs',BS w1 (aG (some ⟨g,0,none⟩) Xs.length cap) bs' (zE Xs) w'/\bs'.length=Xs.length) (by rw[<-h.len];exact hl) (hcon.mono ?_)
   rintro r w' ⟨rfl,m,os,rfl⟩;refine⟨rfl,?_⟩;have e:Sort.pdq (ltOf (vz Xs)) (Array.ofFn id) 0 Xs.length (Lib.bitLen Xs.length) true true=qc Xs hn:=rfl;rw[e];have hsp:=abA Xs hv hn;have hd:=hsp.1;have p3:=hsp.2.1;clear hsp hcon e;have eX:zE Xs=(qc Xs hn).toList.map (λi=>Xs[i]):=by unfold zE;rw[yG hn]
   rw[eX];clear eX;obtain⟨d',hd'⟩:∃d',d'=qc Xs hn:=⟨_,rfl⟩;rw[<-hd'] at hd p3⊢;have uf:∀i:Fin Xs.length,i.1<bs.length:=λi=>by rw[h.len];exact i.2
   have hpb:(d'.toList.map (λi:Fin Xs.length=>bs[i.1]'(uf i))).Perm bs:=by
    have k:=p3.map (λi:Fin Xs.length=>bs[i.1]'(uf i))
    have e3:(Array.ofFn (id:Fin Xs.length->Fin Xs.length)).toList.map (λi:Fin Xs.length=>bs[i.1]'(uf i))=bs:=by
     apply Aw
     .simp[h.len]
     .intro i h1 h2;simp
    rw[e3] at k;exact k
   refine⟨d'.toList.map (λi:Fin Xs.length=>bs[i.1]'(uf i)),⟨⟨by simp[bA],aT ⟨g,cap,_,by simp[hd],hg,aby _ d' m os hblk,by simp[hd,<-h.len,hnc],hcm,?_,?_⟩⟩,af,λi b x h1 h2=>?_,λb hb=>?_,?_,?_⟩,by simp[hd]⟩
   .unfold Sort.putCells;rw[VU];exact hcs
   .have e1:(d'.toList.map (λi:Fin Xs.length=>bs[i.1]'(uf i))).length*1=d'.size:=af
    rw[e1,abz _ _ _ (by rw[hcs,hd,<-h.len];omega)]
    simp[bA,zF]
   .rw[iI] at h1 h2;cases hj:d'.toList[i]? with
    |none=>rw[hj] at h1;cases h1
    |some j=>
     rw[hj] at h1 h2;have hb:bs[j.1]'(uf j)=b:=by simpa using h1
     have hx:Xs[j]=x:=by simpa using h2
     obtain⟨k1,k2⟩:=h.lies j.1 b x (by rw[bo (uf j),hb]) (by rw[bo j.2];exact aZ some hx)
     have hne:=h.ne b (by rw[<-hb];exact gZ _)
     exact⟨k1,(H9 _ d' m os (lt_of_heap k2) (λe=>hne (aZ some e))).trans k2⟩
   .have:=h.ne b (hpb.mem_iff.1 hb);exact this
   .exact hpb.nodup_iff.2 h.nd
   .exact h.below.trans ⟨rfl,rfl,rfl,Sw _ d' m os wr g,λk hk=>H9 _ d' m os (bW hk h.below.size) aa⟩
  .have ue:Xs=[]:=iU.1 aa
   have hb0:bs=[]:=iU.1 (by rw[h.len];omega)
   subst hb0;subst ue;refine(abC (some ⟨g,0,none⟩) cap wr).mono ?_;rintro r w' ⟨rfl,rfl⟩;exact⟨rfl,[],h,rfl⟩
theorem dX.rev(h:dX x):dX x.rev:=⟨h.t,h.f,h.ct,h.cf⟩
theorem Sy{r:Int}{es:List Ed}{p:PB}(h:dX p)(hx:x∈gD r es p):dX x:=by
 unfold gD at hx;split at hx
 .rw[dh.1 hx];exact h
 .split at hx
  .rw[dh.1 hx];exact h.rev
  .simp at hx
def od(r:Int)(es:List Ed)(Ps:List PB):List PB:=zE (Ps.flatMap (gD r es))
theorem al0(es:List Ed)(r:Int)(v:aN)(w:aM)(hR:iL w v es)(hl:es.length<=402)(hs:∀e∈es,gz e)(hne:∀e∈es,e.1≠e.2):
  ak 68 #[v,az .u8 r] w λe w'=>∃lv,e=aL lv/\∃Ps l w1 bs,l.map Ge.aX=Ge.iZ es/\(∀n∈l,Ge.Can n)/\pW es l Ps/\aj w w1/\BS w1 lv bs (od r es Ps) w'/\bs.length<=85000000:=by
 refine alS es r v w hR hl hs hne (λlv w'=>∃Ps l w1 bs,l.map Ge.aX=Ge.iZ es/\(∀n∈l,Ge.Can n)/\pW es l Ps/\aj w w1/\BS w1 lv bs (od r es Ps) w'/\bs.length<=85000000) ?_
 intro Ps l lg lh ud w1 lv bs wr hb kE hbl;have hv:∀x∈Ps.flatMap (gD r es),dX x:=λx hx=>by
  obtain⟨p,hp,xB⟩:=qq.1 hx;exact Sy (ud.v p hp) xB
 refine(alZ w1 lv bs _ wr kE hv hbl).mono ?_;rintro e w' ⟨rfl,bs',h1,h2⟩;exact⟨rfl,Ps,l,w1,bs',lg,lh,ud,hb,h1,aa⟩
structure LD(x:PB)(l:Ge.Ln):Prop where
 fl:qP x.wa x.wb x.sh l
 b1:l.1.natAbs<=100
 b2:l.2.1.natAbs<=100
 b3:l.2.2.natAbs<=10000
 par:l.1*(cZ x.f x.t).2.1=l.2.1*(cZ x.f x.t).1
 pos:0<l.1*(cZ x.f x.t).1+l.2.1*(cZ x.f x.t).2.1
 Sz:l.1*x.f.2.1-l.2.1*x.f.1=l.2.2*x.f.2.2
 al1:l.1*x.t.2.1-l.2.1*x.t.1=l.2.2*x.t.2.2
theorem LD.pS(h:LD x l):sm l.1/\sm l.2.1/\sm l.2.2:=by
 have:=h.b1;have:=h.b2;have:=h.b3;unfold sm;omega
theorem al2(f t:Ge.Nd):cZ t f=(-(cZ f t).1, -(cZ f t).2.1,0):=by
 unfold cZ;simp only[agB,wj];omega
theorem LD.rev(h:LD x l):LD x.rev (Ge.D9 l):=by
 have e:cZ x.rev.f x.rev.t=(-(cZ x.f x.t).1, -(cZ x.f x.t).2.1,0):=al2 _ _;refine⟨h.fl.neg,?_,?_,?_,?_,?_,?_,?_⟩
 .show(-l.1).natAbs<=100;rw[C0];exact h.b1
 .show(-l.2.1).natAbs<=100;rw[C0];exact h.b2
 .show(-l.2.2).natAbs<=10000;rw[C0];exact h.b3
 .rw[e];show -l.1* -(cZ x.f x.t).2.1= -l.2.1* -(cZ x.f x.t).1;rw[Ar,Ar];exact h.par
 .rw[e];show 0< -l.1* -(cZ x.f x.t).1+ -l.2.1* -(cZ x.f x.t).2.1;rw[Ar,Ar];exact h.pos
 .show -l.1*x.t.2.1- -l.2.1*x.t.1= -l.2.2*x.t.2.2;have:=h.al1;rw[jq,jq,jq];omega
 .show -l.1*x.f.2.1- -l.2.1*x.f.1= -l.2.2*x.f.2.2;have:=h.Sz;rw[jq,jq,jq];omega
theorem al3{es:List Ed}{l:List Ge.Nd}{Ps:List PB}(hne:∀e∈es,e.1≠e.2)(hs:∀e∈es,gz e)(h:pW es l Ps)(hl:l.map Ge.aX=Ge.iZ es)(p:PB)(hp:p∈Ps):∃k,LD p k:=by
 obtain⟨e,he,hfl,hq⟩:=h.ap.mem p hp;have hv:=h.v p hp;have hm:=Mf hq;have f1:=(iz.1 hm.1).2;have f2:=(iz.1 hm.2).2;have l1:=Mh hv.cf.pos f1;have l2:=Mh hv.ct.pos f2;have hlt:=Mw h hl p hp;have kA:=hs e he;have hr:=aaS (hne e he);have hd:rising (cZ p.f p.t).1 (cZ p.f p.t).2.1:=aaT hv.cf hv.ct hlt;have hc:=aaU l1 l2;have hc':(Ge.jb (Ge.dB e)).1*(cZ p.f p.t).2.1=(Ge.jb (Ge.dB e)).2.1*(cZ p.f p.t).1:=by
  unfold Ge.jb;split
  .show -(Ge.dB e).1*_= -(Ge.dB e).2.1*_;rw[jq,jq,hc]
  .exact hc
 have hb:(Ge.dB e).1.natAbs<=100/\(Ge.dB e).2.1.natAbs<=100/\(Ge.dB e).2.2.natAbs<=10000:=by
  obtain⟨a,b,c,d⟩:=kA;unfold small at a b c d;have m1: -5000<=(e.2.1-e.1.1)*e.1.2/\(e.2.1-e.1.1)*e.1.2<=5000:=pN (a:=100) (b:=50) aa aa
  have m2: -5000<=(e.2.2-e.1.2)*e.1.1/\(e.2.2-e.1.2)*e.1.1<=5000:=pN (a:=100) (b:=50) aa aa
  unfold Ge.dB;simp only;omega
 have t1:(Ge.dB e).1*p.f.2.1-(Ge.dB e).2.1*p.f.1=(Ge.dB e).2.2*p.f.2.2:=by unfold lf at l1;unfold Ge.dB;simp only;omega
 have t2:(Ge.dB e).1*p.t.2.1-(Ge.dB e).2.1*p.t.1=(Ge.dB e).2.2*p.t.2.2:=by unfold lf at l2;unfold Ge.dB;simp only;omega
 refine⟨Ge.jb (Ge.dB e),hfl,?_,?_,?_,hc',RQ hr hd hc',?_,?_⟩
 .unfold Ge.jb;split
  .show(-(Ge.dB e).1).natAbs<=100;rw[C0];exact hb.1
  .exact hb.1
 .unfold Ge.jb;split
  .show(-(Ge.dB e).2.1).natAbs<=100;rw[C0];exact hb.2.1
  .exact hb.2.1
 .unfold Ge.jb;split
  .show(-(Ge.dB e).2.2).natAbs<=10000;rw[C0];exact hb.2.2
  .exact hb.2.2
 .unfold Ge.jb;split
  .show -(Ge.dB e).1*_- -(Ge.dB e).2.1*_= -(Ge.dB e).2.2*_;rw[jq,jq,jq];omega
  .exact t1
 .unfold Ge.jb;split
  .show -(Ge.dB e).1*_- -(Ge.dB e).2.1*_= -(Ge.dB e).2.2*_;rw[jq,jq,jq];omega
  .exact t2
def gq(x y:PB):Int:=((cZ x.f x.t).1*(cZ y.f y.t).2.1-(cZ x.f x.t).2.1*(cZ y.f y.t).1).sign
theorem fW{a b c d:Int}(h:0<a*c+b*d):0<c*c+d*d:=by
 have k1:0<=c*c:=by
  rcases JC 0 c with h|h
  .exact jo h h
  .exact uz h h
 have k2:0<=d*d:=by
  rcases JC 0 d with h|h
  .exact jo h h
  .exact uz h h
 have hz:c≠0\/d≠0:=by
  by_cases hc:c=0
  .refine aT λhd=>?_
   rw[hc,hd,C5,C5] at h;omega
  .exact aU hc
 rcases hz with hz|hz
 .have:0<c*c:=by
   rcases fX c 0 with h1|h1|h1
   .exact Vy h1 h1
   .exact absurd h1 hz
   .exact bJ h1 h1
  omega
 .have:0<d*d:=by
   rcases fX d 0 with h1|h1|h1
   .exact Vy h1 h1
   .exact absurd h1 hz
   .exact bJ h1 h1
  omega
theorem Ia(hx:LD x l)(hy:LD y m):(l.1*m.2.1-l.2.1*m.1).sign=gq x y:=by
 have h1:=Mg (x:=m.2.1) (y:= -m.1) hx.par hx.pos (fW hx.pos);have h2:=Mg (x:=(cZ x.f x.t).2.1) (y:= -(cZ x.f x.t).1) hy.par hy.pos (fW hy.pos);unfold gq;have e1:l.1*m.2.1+l.2.1* -m.1=l.1*m.2.1-l.2.1*m.1:=by rw[vY];omega
 have e2:(cZ x.f x.t).1*m.2.1+(cZ x.f x.t).2.1* -m.1= -(m.1*(cZ x.f x.t).2.1+m.2.1* -(cZ x.f x.t).1):=by grind
 have e3:(cZ y.f y.t).1*(cZ x.f x.t).2.1+(cZ y.f y.t).2.1* -(cZ x.f x.t).1= -((cZ x.f x.t).1*(cZ y.f y.t).2.1-(cZ x.f x.t).2.1*(cZ y.f y.t).1):=by grind
 rw[e1,e2,VK] at h1;rw[e3,VK] at h2;rw[h1,h2,Int.neg_neg]
theorem al4(x:PB)(n:Ge.Nd)(hx:dX x)(hn:eI n.1 n.2.1 n.2.2)(hc:Ge.Can n)(b:Nat)(w:aM)(h1:jy w b x):
    ak 254 #[aH (some ⟨b,0,none⟩),ja n] w λr w'=>r=aL (az aJ (cE x.f n))/\Below w.heap.size w w':=by
  have HC:Hid (∀w,ak 125 #[aC #[aA aK (aO aK x.f.1) (aO aK x.f.2.1),az aJ x.f.2.2],aC #[aA aK (aO aK n.1) (aO aK n.2.1),az aJ n.2.2]] w λr w'=>r=aL (az aJ (cE x.f n))/\Below w.heap.size w w'/\w.drawn<=w'.drawn):=λw=>GY x.f n hx.f.bu hn hx.cf hc w
  have a2:=h1.c2;have a3:=h1.c3;have hzb:b<w.heap.size:=lt_of_cell a2;clear h1 hx;unfold ja;generalize aO aK x.f.1=X1 at*;generalize aO aK x.f.2.1=X2 at*;generalize aO aK n.1=Y1 at*;generalize aO aK n.2.1=Y2 at*;generalize cE x.f n=R at*;generalize x.f.2.2=X3 at*;generalize n.2.2=Y3 at*;have r2:=(ko w (.cells #[aA aK Y1 Y2,az aJ Y3] 83) hzb (k:=2)).trans a2;have r3:=(ko w (.cells #[aA aK Y1 Y2,az aJ Y3] 83) hzb (k:=3)).trans a3;have hE:=heap_alloc_new w (.cells #[aA aK Y1 Y2,az aJ Y3] 83);have hb0:Below w.heap.size w (w.alloc (.cells #[aA aK Y1 Y2,az aJ Y3] 83)):=(Below.refl _ _).alloc (aY _) _;have hsz:w.heap.size+1=(w.alloc (.cells #[aA aK Y1 Y2,az aJ Y3] 83)).heap.size:=af
  go_enter func254,ntmps254
  go_wp2_with fail
  generalize w.alloc (.cells #[aA aK Y1 Y2,az aJ Y3] 83)=W at*;generalize hB:w.heap.size=B at*;have r4:=cH hE;have r5:=cD hE;have hzW:b<W.heap.size:=aa
  have SA:B<W.heap.size:=aa
  first
    | (refine(HC.out _).mono ?_
       rintro e w5 ⟨rfl,bg,H7⟩;have aW:=hb0.trans (bg.mono hb0.size)
       go_wp2_with fail
       go_ret
       exact⟨rfl,by rw[hB];exact aW⟩)
    | (go_region_held3 (λw'=>w'.cell? ⟨b,2,none⟩=some (aA aK X1 X2)/\w'.cell? ⟨b,3,none⟩=some (az aJ X3)/\w'.cell? ⟨B,0,none⟩=some (aA aK Y1 Y2)/\w'.cell? ⟨B,1,none⟩=some (az aJ Y3)) (go_keep) (first
        | (go_at_call 125;refine(HC.out _).mono ?_;rintro e w5 ⟨rfl,bg,H7⟩;have e0:=aS bg r2 hzW;have e1:=aS bg r3 hzW;have e2:=aS bg r4 SA;have e3:=(aS bg r5 SA)))
       all_goals
         have aW:=hb0.drew.trans (bg.mono (fh SA));clear bg H7
         go_wp2_with fail
         go_ret
         exact⟨rfl,by rw[hB];exact aW⟩)
theorem al5(a1 a2 b1 b2 im:Nat)(R:Int)(b c:Nat)(w:aM)(h1:w.cell? ⟨b,0,none⟩=some (aA aK a1 a2))(h2:w.cell? ⟨c,0,none⟩=some (aA aK b1 b2))
  (HL:Hid (∀w,ak 101 #[aA aK a1 a2,aA aK b1 b2] w λe w'=>e=aL (aB aK im)/\w'=w))
  (HC:Hid (∀w,ak 183 #[aB aK im,aB aK 0] w λr w'=>r=aL (az aJ R)/\w'=w)):
  ak 256 #[aH (some ⟨b,0,none⟩),aH (some ⟨c,0,none⟩)] w λr w'=>r=aL (az aJ R)/\aj w w':=by
 go_enter func256,ntmps256
 go_wp2_with fail
 have hzb:b<w.heap.size:=lt_of_cell h1;have mZ:c<w.heap.size:=lt_of_cell h2
 go_region_held3 (λw'=>w'.cell? ⟨b,0,none⟩=some (aA aK a1 a2)/\w'.cell? ⟨c,0,none⟩=some (aA aK b1 b2)) (go_keep) (first
   |(go_at_call 101;refine(HL.out _).mono ?_;rintro e w5 ⟨rfl,rG⟩;subst rG)
   |(go_at_call 183;refine(HC.out _).mono ?_;rintro e w6 ⟨rfl,LA⟩;subst LA))
 all_goals
  go_wp2_with fail
  go_ret
  exact⟨rfl,(Below.refl _ _).drew⟩
theorem Ib(hx:LD x l)(hy:LD y m):∃im,Fl im (l.1*m.2.1-l.2.1*m.1)/\∀w,ak 101 #[aA aK x.wa x.wb,aA aK y.wa y.wb] w λe w'=>e=aL (aB aK im)/\w'=w:=
 Gi hx.fl.a hx.fl.b hy.fl.a hy.fl.b hx.pS.1 hx.pS.2.1 hy.pS.1 hy.pS.2.1
theorem abE(x y:PB)(hx:LD x l)(hy:LD y m)(b c:Nat)(w:aM)(h1:jy w b x)(h2:jy w c y):
  ak 256 #[aH (some ⟨b,0,none⟩),aH (some ⟨c,0,none⟩)] w λr w'=>r=aL (az aJ (gq x y))/\aj w w':=by
 obtain⟨im,f1,hl⟩:=Ib hx hy;have hc:=λw=>Bo f1 mF w
 rw[CR,Ia hx hy] at hc;exact al5 _ _ _ _ im _ b c w h1.c0 h2.c0 hl hc
theorem abF(x:Int)(w:aM):ak 290 #[az aJ x] w λr w'=>r=aL (aD false)/\w'=w:=by
 go_enter func290,ntmps290
 go_wp2_with fail
 go_ret
 exact⟨af,rfl⟩
theorem al6(x y:Int)(w:aM):ak 255 #[az aJ x,az aJ y] w λr w'=>r=aL (az aJ (x-y).sign)/\w'=w:=by
 have H1:Hid (∀w,ak 290 #[az aJ x] w λr w'=>r=aL (aD false)/\w'=w):=λw=>abF x w
 have H2:Hid (∀w,ak 290 #[az aJ y] w λr w'=>r=aL (aD false)/\w'=w):=λw=>abF y w
 obtain⟨s,hs⟩:∃s,(x-y).sign=s:=⟨_,rfl⟩;rw[hs];rcases fX x y with h|h|h
 .have e:s= -1:=by rw[<-hs];exact Af aa
  subst e;clear hs
  go_enter func255,ntmps255
  go_wp2_with fail
  refine(H1.out _).mono ?_;rintro e w1 ⟨rfl,rfl⟩
  go_wp2_with fail
  refine(H2.out _).mono ?_;rintro e w2 ⟨rfl,rfl⟩
  go_wp2_with fail
  go_ret
  exact⟨rfl,rfl⟩
 .have e:s=0:=by rw[<-hs,h,agt];rfl
  subst e;have q1:decide (x<y)=false:=by simp;omega
  have q2:decide (y<x)=false:=by simp;omega
  clear hs h
  go_enter func255,ntmps255
  go_wp2_with fail
  refine(H1.out _).mono ?_;rintro e w1 ⟨rfl,rfl⟩
  go_wp2_with fail
  refine(H2.out _).mono ?_;rintro e w2 ⟨rfl,rfl⟩
  go_wp2_with fail
  go_ret
  exact⟨rfl,rfl⟩
 .have e:s=1:=by rw[<-hs];exact oJ aa
  subst e;have q1:decide (x<y)=false:=by simp;omega
  clear hs
  go_enter func255,ntmps255
  go_wp2_with fail
  refine(H1.out _).mono ?_;rintro e w1 ⟨rfl,rfl⟩
  go_wp2_with fail
  refine(H2.out _).mono ?_;rintro e w2 ⟨rfl,rfl⟩
  go_wp2_with fail
  go_ret
  exact⟨rfl,rfl⟩
def ug(s a b:PB):Int:=if(gq s b-gq s a).sign=0 then gq a b else(gq s b-gq s a).sign
theorem al7(a1 a2 b1 b2 im:Nat)(HA HB P Q' R:Int)(s b c:Nat)(w:aM)(_hs:s<w.heap.size)(h1:w.cell? ⟨b,0,none⟩=some (aA aK a1 a2))(h2:w.cell? ⟨c,0,none⟩=some (aA aK b1 b2))
  (Hb:Hid (∀w',aj w w'->ak 256 #[aH (some ⟨s,0,none⟩),aH (some ⟨c,0,none⟩)] w' λr w''=>r=aL (az aJ HB)/\aj w' w''))
  (Ha:Hid (∀w',aj w w'->ak 256 #[aH (some ⟨s,0,none⟩),aH (some ⟨b,0,none⟩)] w' λr w''=>r=aL (az aJ HA)/\aj w' w''))
  (HI:Hid (∀w,ak 255 #[az aJ HB,az aJ HA] w λr w'=>r=aL (az aJ P)/\w'=w))
  (HL:Hid (∀w,ak 101 #[aA aK a1 a2,aA aK b1 b2] w λe w'=>e=aL (aB aK im)/\w'=w))
  (HC:Hid (∀w,ak 183 #[aB aK im,aB aK 0] w λr w'=>r=aL (az aJ Q')/\w'=w))
  (HO:Hid (∀b cap w,w.cell? ⟨b,0,none⟩=some (az aJ P)->w.cell? ⟨b,1,none⟩=some (az aJ Q')->ak 182 #[aG (some ⟨b,0,none⟩) 2 cap] w λr w'=>r=aL (az aJ R)/\w'=w)):
  ak 211 #[aH (some ⟨s,0,none⟩),aH (some ⟨b,0,none⟩),aH (some ⟨c,0,none⟩)] w λr w'=>r=aL (az aJ R)/\aj w w':=by
 go_enter func211,ntmps211
 go_wp2_with fail
 have hzb:b<w.heap.size:=lt_of_cell h1;have mZ:c<w.heap.size:=lt_of_cell h2;have qW:aj w w.drew:=(Below.refl _ _).drew
 go_region_held3 (λw'=>w'.cell? ⟨b,0,none⟩=some (aA aK a1 a2)/\w'.cell? ⟨c,0,none⟩=some (aA aK b1 b2)) (go_keep) (first
   |(go_at_call_of 256 (Value.pointer (some ⟨c,0,none⟩));refine(Hb.out _ qW).mono ?_;rintro e w5 ⟨rfl,bg⟩;have oa:aj w w5:=qW.trans bg;have e0:=aS oa h1 hzb;have e1:=(aS oa h2 mZ))
   |(go_at_call_of 256 (Value.pointer (some ⟨b,0,none⟩));refine(Ha.out _ oa).mono ?_;rintro e w6 ⟨rfl,bp⟩;have zA:aj w w6:=oa.trans (bp.mono oa.size);have e2:=aS zA h1 hzb;have e3:=(aS zA h2 mZ))
   |(go_at_call 255;refine(HI.out _).mono ?_;rintro e w7 ⟨rfl,mI⟩;subst mI)
   |(go_at_call 101;refine(HL.out _).mono ?_;rintro e w7 ⟨rfl,mI⟩;subst mI)
   |(go_at_call 183;refine(HC.out _).mono ?_;rintro e w7 ⟨rfl,mI⟩;subst mI)
   |(go_at_call 182;refine(HO.out _ _ _ (cell_of (heap_alloc_new _ _) 0) (cell_of (heap_alloc_new _ _) 1)).mono ?_;rintro e w8 ⟨rfl,tJ⟩;have SB:aj w w8:=(by(rw[tJ];exact zA.alloc zA.size _));have e4:=aS SB h1 hzb;have e5:=aS SB h2 mZ;clear tJ))
 all_goals
  go_wp2_with fail
  go_ret
  exact⟨rfl,SB⟩
theorem jy.below(h:jy w b x)(hb:aj w w'):jy w' b x:=by
 have hz:b<w.heap.size:=lt_of_cell h.c0;exact⟨(aS hb h.c0 hz),(aS hb h.c1 hz),(aS hb h.c2 hz),(aS hb h.c3 hz),(aS hb h.c4 hz),(aS hb h.c5 hz)⟩
theorem al8(x y z:PB){k:Ge.Ln}(hx:LD x l)(hy:LD y m)(hz:LD z k)(s b c:Nat)(w:aM)(h0:jy w s x)(h1:jy w b y)(h2:jy w c z):
  ak 211 #[aH (some ⟨s,0,none⟩),aH (some ⟨b,0,none⟩),aH (some ⟨c,0,none⟩)] w λr w'=>r=aL (az aJ (ug x y z))/\aj w w':=by
 obtain⟨im,f1,hl⟩:=Ib hy hz;have hc:=λw=>Bo f1 mF w
 rw[CR,Ia hy hz] at hc;exact al7 _ _ _ _ im (gq x y) (gq x z) _ _ _ s b c w (lt_of_cell h0.c0) h1.c0 h2.c0 (λw' hb=>abE x z hx hz s c w' (h0.below hb) (h2.below hb)) (λw' hb=>abE x y hx hy s b w' (h0.below hb) (h1.below hb)) (λw=>al6 _ _ w) hl hc (λb cap w h0 h1=>LM _ _ b cap w h0 h1)
def cL(cf:Nat->Nat->Int):List Nat->Nat->Nat
 |[],m=>m
 |b::r,m=>cL cf r (if cf b m<0 then b else m)
theorem ME(cf:Nat->Nat->Int):∀(l:List Nat)(m b:Nat),cL cf (l++[b]) m=if cf b (cL cf l m)<0 then b else cL cf l m
 |[],m,b=>rfl
 |a::l,m,b=>by
  show cL cf (l++[b]) _=_;rw[ME cf l];rfl
theorem zG(cf:Nat->Nat->Int):∀(l:List Nat)(m:Nat),cL cf l m=m\/cL cf l m∈l
 |[],m=>aU rfl
 |a::l,m=>by
  show cL cf l (if cf a m<0 then a else m)=m\/_∈a::l
  rcases zG cf l (if cf a m<0 then a else m) with h|h
  .by_cases hc:cf a m<0
   .rw[aV hc] at h;exact aT (by show cL cf l _∈a::l;rw[aV hc,h];simp)
   .rw[aQ hc] at h;exact aU (by rw[aQ hc];exact h)
  .exact aT (bX _ h)
theorem al9(cf:Nat->Nat->Int)(a:Nat)(r:List Nat)(g lo cap s:Nat)(w:aM)(hn:r.length<=85000000)
  (HV:Hid (∀(i:Nat) b,(a::r)[i]?=some b->w.cell? ⟨g,lo+i,none⟩=some (aH (some ⟨b,0,none⟩))))
  (HC:Hid (∀b∈a::r,∀c∈a::r,∀w',aj w w'->ak 211 #[aH (some ⟨s,0,none⟩),aH (some ⟨b,0,none⟩),aH (some ⟨c,0,none⟩)] w' λr w''=>r=aL (az aJ (cf b c))/\aj w' w'')):
  ak 171 #[aG (some ⟨g,lo,none⟩) (r.length+1) cap,.func (.func 211) #[aH (some ⟨s,0,none⟩)] #[]] w λe w'=>e=aL (aH (some ⟨cL cf r a,0,none⟩))/\aj w w':=by
 have c0:=HV.out 0 a rfl;rw[rA] at c0;have eK:g<w.heap.size:=lt_of_cell c0
 go_enter func171,ntmps171
 go_wp2_with fail
 go_loopg [5,6] r.length (λm mv iv wr=>∃k:Nat,k+m=r.length/\iv=az aJ (k+1:Nat)/\mv=aH (some ⟨cL cf (r.take k) a,0,none⟩)/\Hid (aj w wr))
 case atStart=>exact⟨0,aa,rfl,rfl,Below.refl _ _⟩
 case round=>
  obtain⟨k,hkn,rfl,rfl,HB⟩:=hrel;by_cases hlt:k<r.length
  .obtain⟨b,hb⟩:∃b,r[k]?=some b:=⟨_,bo hlt⟩;have c1:=(HB.out.cell (p:=⟨g,lo+(k+1),none⟩) eK).trans (HV.out (k+1) b (by simpa using hb))
   have kU:b∈a::r:=bX _ (bT hb);have hmm:cL cf (r.take k) a∈a::r:=by
    rcases zG cf (r.take k) a with h|h
    .rw[h];simp
    .exact bX _ (rB h)
   have jm:Hid (ak 211 #[aH (some ⟨s,0,none⟩),aH (some ⟨b,0,none⟩),aH (some ⟨cL cf (r.take k) a,0,none⟩)] wr λr' w''=>r'=aL (az aJ (cf b (cL cf (r.take k) a)))/\aj wr w''):=HC.out b kU _ hmm wr HB.out
   have iQ:Hid (cL cf (r.take (k+1)) a=if cf b (cL cf (r.take k) a)<0 then b else cL cf (r.take k) a):=by
    have htk:r.take (k+1)=r.take k++[b]:=by rw[jF,hb];rfl
    show cL cf (r.take (k+1)) a=_;rw[htk,ME]
   have gH:((k:Int)+1)<((r.length:Int)+1):=aa
   have hgr:g<wr.heap.size:=bW eK HB.out.size;clear c0 hb kU hmm;generalize cL cf (r.take k) a=M at*
   go_wp2_with fail
   refine jm.out.mono ?_;rintro e w5 ⟨rfl,bg⟩;have gJ:Hid (aj w w5):=HB.out.trans (bg.mono HB.out.size);have c5:=aS bg c1 hgr;clear jm bg c1;generalize cf b M=V at*;by_cases hV:V<0
   .have HM:Hid (cL cf (r.take (k+1)) a=b):=by rw[iQ.out,aV hV];rfl
    go_wp2_with fail
    go_roundg (gk-1)
    case measure=>omega
    case rel=>exact⟨k+1,aa,ai,by rw[HM.out],gJ⟩
   .have HM:Hid (cL cf (r.take (k+1)) a=M):=by rw[iQ.out,aQ hV];rfl
    have SC:decide (V<0)=false:=fY hV
    go_wp2_with fail
    go_roundg (gk-1)
    case measure=>omega
    case rel=>exact⟨k+1,aa,ai,by rw[HM.out],gJ⟩
  .have hk:k=r.length:=aa
   subst hk;rw[fO];clear HC HV
   go_wp2_with fail
   go_ret
   exact⟨rfl,HB.out⟩
structure RB(w:aM)(g:Nat)(bs:List Nat)(Xs:List PB):Prop where
 len:bs.length=Xs.length
 row:∀(i:Nat) b,bs[i]?=some b->w.cell? ⟨g,i,none⟩=some (aH (some ⟨b,0,none⟩))
 side:∀(i:Nat) b x,bs[i]?=some b->Xs[i]?=some x->jy w b x
theorem RB.below(h:RB w g bs Xs)(hb:aj w w'):RB w' g bs Xs:=
 ⟨h.len,λi b h1=>(hb.cell (p:=⟨g,i,none⟩) (lt_of_cell (h.row i b h1))).trans (h.row i b h1),λi b x h1 h2=>(h.side i b x h1 h2).below hb⟩
theorem ama(bs:List Nat)(Xs:List PB)(n:Ge.Nd)(g cap:Nat)(w:aM)(N1 N2:Nat)(N3:Int)(c:Nat)(hR:RB w g bs Xs)(hl:bs.length<=85000000)(hcl:c<=bs.length)
  (hc:∀i x,Xs[i]?=some x->(i<c↔cE x.f n<0))
  (HC:Hid (∀b x w',jy w' b x->x∈Xs->ak 254 #[aH (some ⟨b,0,none⟩),aC #[aA aK N1 N2,az aJ N3]] w' λr w''=>r=aL (az aJ (cE x.f n))/\aj w' w'')):
  ak 253 #[aG (some ⟨g,0,none⟩) bs.length cap,aC #[aA aK N1 N2,az aJ N3],.func (.func 254) #[] #[]] w λe w'=>∃f,e=aL (aI #[az aJ c,aD f])/\aj w w':=by
 have HR:Hid (RB w g bs Xs):=hR;have vv:Hid (∀i x,Xs[i]?=some x->(i<c↔cE x.f n<0)):=hc;clear hR hc
 go_enter func253,ntmps253
 go_wp2_with fail
 have cK:Hid (aj w (w.alloc (.cells #[aA aK N1 N2,az aJ N3] 83))/\(w.alloc (.cells #[aA aK N1 N2,az aJ N3] 83)).heap[w.heap.size]?=some (.cells #[aA aK N1 N2,az aJ N3] 83 (0,0))):=⟨aw _ _,heap_alloc_new _ _⟩;generalize w.alloc (.cells #[aA aK N1 N2,az aJ N3] 83)=W0 at*
 go_loopg [9,10] bs.length (λm iv jv wr=>∃i j:Nat,i<=c/\c<=j/\j<=bs.length/\j-i<=m/\iv=az aJ i/\jv=az aJ j/\Hid (aj w wr/\wr.heap[w.heap.size]?=some (.cells #[aA aK N1 N2,az aJ N3] 83 (0,0))))
 case atStart=>exact⟨0,bs.length,aa,hcl,aY _,aa,rfl,rfl,cK⟩
 case round=>
  obtain⟨i,j,h1,h2,h3,h4,rfl,rfl,HB⟩:=hrel;clear cK;obtain⟨aW,hT⟩:=HB.out;have t0:=cH hT;have t1:=cD hT;have nr:w.heap.size<wr.heap.size:=lt_of_heap hT;by_cases hlt:i<j
  .obtain⟨H,hH⟩:∃H,(i+j)/2=H:=⟨_,rfl⟩;have hHl:H<bs.length:=aa
   obtain⟨b,hb⟩:∃b,bs[H]?=some b:=⟨_,bo hHl⟩;obtain⟨x,hx⟩:∃x,Xs[H]?=some x:=⟨_,bo (by rw[<-HR.out.len];exact hHl)⟩
   have r0:=(aW.cell (p:=⟨g,H,none⟩) (lt_of_cell (HR.out.row H b hb))).trans (HR.out.row H b hb);have jm:Hid (∀w',aj w w'->ak 254 #[aH (some ⟨b,0,none⟩),aC #[aA aK N1 N2,az aJ N3]] w' λr w''=>r=aL (az aJ (cE x.f n))/\aj w' w''):=λw' hb'=>HC.out b x w' ((HR.out.side H b x hb hx).below hb') (bT hx)
   have vp:Hid (H<c↔cE x.f n<0):=vv.out H x hx;have hij:(i:Int)<(j:Int):=aa
   have hw1:IntKind.i64.wrap ((i:Int)+(j:Int))=(i:Int)+(j:Int):=by rw[IntKind.wrap_i64];omega
   have hw2:IntKind.u64.wrap ((i:Int)+(j:Int))=(i:Int)+(j:Int):=by simp[IntKind.wrap,IntKind.bits,IntKind.signed];omega
   have hHi:(H:Int)<(bs.length:Int):=aa
   have hmid:((i:Int)+(j:Int))/2=(H:Int):=aa
   have hH0:(0:Int)<=(H:Int):=aa
   have HHE:Hid (i<=H/\H<j):=by
    show i<=H/\H<j;omega
   have hgr:g<wr.heap.size:=lt_of_cell r0;have qW:aj w wr.drew:=aW.drew;clear hb hx hH;generalize cE x.f n=V at*
   go_wp2_with fail
   go_region_held3 (λw'=>w'.cell? ⟨w.heap.size,0,none⟩=some (aA aK N1 N2)/\w'.cell? ⟨w.heap.size,1,none⟩=some (az aJ N3)/\w'.cell? ⟨g,H,none⟩=some (aH (some ⟨b,0,none⟩))) (go_keep) (first
    |(go_at_call 254;refine(jm.out _ qW).mono ?_;rintro e w5 ⟨rfl,bg⟩;have e0:=aS bg t0 nr;have e1:=aS bg t1 nr;have e2:=(aS bg r0 hgr)))
   all_goals
    have gJ:Hid (aj w w5/\w5.heap[w.heap.size]?=some (.cells #[aA aK N1 N2,az aJ N3] 83 (0,0))):=⟨qW.trans (bg.mono qW.size),(bg.block _ nr).trans hT⟩;clear bg jm e0 e1 e2;by_cases hV:V<0
    .have hVc:H<c:=vp.out.2 hV
     go_wp2_with fail
     go_roundg (j-(H+1))
     case measure=>have:=HHE.out;omega
     case rel=>exact⟨H+1,j,aa,h2,h3,aY _,ai,rfl,gJ⟩
    .have hVc:¬H<c:=λh=>hV (vp.out.1 h)
     have SC:decide (V<0)=false:=fY hV
     go_wp2_with fail
     go_roundg (H-i)
     case measure=>have:=HHE.out;omega
     case rel=>exact⟨i,H,h1,aa,aa,aY _,rfl,rfl,gJ⟩
  .have hic:i=c:=aa
   subst hic;by_cases hin:i<bs.length
   .obtain⟨b,hb⟩:∃b,bs[i]?=some b:=⟨_,bo hin⟩;obtain⟨x,hx⟩:∃x,Xs[i]?=some x:=⟨_,bo (by rw[<-HR.out.len];exact hin)⟩
    have r0:=(aW.cell (p:=⟨g,i,none⟩) (lt_of_cell (HR.out.row i b hb))).trans (HR.out.row i b hb);have jm:Hid (∀w',aj w w'->ak 254 #[aH (some ⟨b,0,none⟩),aC #[aA aK N1 N2,az aJ N3]] w' λr w''=>r=aL (az aJ (cE x.f n))/\aj w' w''):=λw' hb'=>HC.out b x w' ((HR.out.side i b x hb hx).below hb') (bT hx)
    have Ic:(i:Int)<(bs.length:Int):=aa
    have hgr:g<wr.heap.size:=lt_of_cell r0;clear hb hx HR HC vv;generalize cE x.f n=V at*;have qW:aj w wr.drew:=aW.drew
    go_wp2_with fail
    go_region_held3 (λw'=>w'.cell? ⟨w.heap.size,0,none⟩=some (aA aK N1 N2)/\w'.cell? ⟨w.heap.size,1,none⟩=some (az aJ N3)/\w'.cell? ⟨g,i,none⟩=some (aH (some ⟨b,0,none⟩))) (go_keep) (first
     |(go_at_call 254;refine(jm.out _ qW).mono ?_;rintro e w5 ⟨rfl,bg⟩;have e0:=aS bg t0 nr;have e1:=aS bg t1 nr;have e2:=(aS bg r0 hgr)))
    all_goals
     have gJ:Hid (aj w w5):=qW.trans (bg.mono qW.size);clear bg jm e0 e1 e2
     go_wp2_with fail
     refine bodyPost_ret (v:=aI #[az aJ i,aD (V == 0)]) (by simp[results,results253,go_sem]) rfl ⟨V == 0,rfl,gJ.out⟩
   .have Ic:decide ((i:Int)<(bs.length:Int))=false:=by simp;omega
    clear HR HC vv
    go_wp2_with fail
    refine wp_region_held_drew (S:=(λ_=>True)) ag trivial (λhHeld=>?_)
    iterate 5
     (
      refine lV (oi:={dst:=_,op:=_,type:=_,pos:=_,after:=_,guard:=_}) (v:=?_) rfl rfl (by rfl) hHeld ?_ ?_
      rotate_left
      .intro w' bZ
       go_simp
       try with_reducible rfl
      simp only[Act.put,dR,dS,dD])
    iterate 8
     (
      refine C7 (oi:={dst:=_,op:=_,type:=_,pos:=_,after:=_,guard:=_}) rfl rfl hHeld ?_;simp only[Act.put,dR,dS,dD])
    iterate 3
     (
      refine lV (oi:={dst:=_,op:=_,type:=_,pos:=_,after:=_,guard:=_}) (v:=?_) rfl rfl (by rfl) hHeld ?_ ?_
      rotate_left
      .intro w' bZ
       go_simp
       try with_reducible rfl
      simp only[Act.put,dR,dS,dD])
    refine wpAnyH_done ag ?_ _
    go_wp2_with fail
    refine bodyPost_ret (v:=aI #[az aJ i,aD false]) (by simp[results,results253,go_sem]) rfl ⟨false,rfl,aW.drew⟩
theorem amc(bs:List Nat)(Xs:List PB)(n:Ge.Nd)(g cap:Nat)(w:aM)(c d:Nat)(hR:RB w g bs Xs)(hl:bs.length<=85000000)(hbc:bs.length<=cap)(Ko:c<d)(oZ:d<=bs.length)
  (hc:∀i x,Xs[i]?=some x->(i<c↔cE x.f n<0))(hd:∀i x,Xs[i]?=some x->c<=i->(i<d↔x.f=n))(hv:∀x∈Xs,dX x)(hn:eI n.1 n.2.1 n.2.2)(hcn:Ge.Can n):
  ak 210 #[aG (some ⟨g,0,none⟩) bs.length cap,ja n] w λe w'=>e=aL (aG (some ⟨g,c,none⟩) (d-c) (cap-c))/\aj w w':=by
 have BR:=λw'(hb:aj w w')=>ama bs Xs n g cap w' (aO aK n.1) (aO aK n.2.1) n.2.2 c (hR.below hb) hl aa hc (λb x w'' h1 hx=>al4 x n (hv x hx) hn hcn b w'' h1)
 have HR:Hid (RB w g bs Xs):=hR;have HD:Hid (∀i x,Xs[i]?=some x->c<=i->(i<d↔x.f=n)):=hd;have SD:Hid (∀x∈Xs,∀w,(binOp .eql 83 (aC #[aA aK (aO aK x.f.1) (aO aK x.f.2.1),az aJ x.f.2.2]) (aC #[aA aK (aO aK n.1) (aO aK n.2.1),az aJ n.2.2])).run prog w=.ok (aD (decide (x.f=n))) w):=λx hx w=>Hd x.f n (hv x hx).f.bu hn w
 unfold ja;have zH:Hid (∀w',aj w w'->ak 253 #[aG (some ⟨g,0,none⟩) bs.length cap,aC #[aA aK (aO aK n.1) (aO aK n.2.1),az aJ n.2.2],.func (.func 254) #[] #[]] w' λe w''=>∃f,e=aL (aI #[az aJ c,aD f])/\aj w' w''):=BR
 clear BR hR hc hd hv hn hcn;generalize aO aK n.1=N1 at*;generalize aO aK n.2.1=N2 at*;generalize En:n.2.2=N3 at*;have hb0:aj w (w.alloc (.cells #[aA aK N1 N2,az aJ N3] 83)):=aw _ _;have hT0:=heap_alloc_new w (.cells #[aA aK N1 N2,az aJ N3] 83);have hz:w.heap.size<(w.alloc (.cells #[aA aK N1 N2,az aJ N3] 83)).heap.size:=af
 go_enter func210,ntmps210
 go_wp2_with fail
 generalize w.alloc (.cells #[aA aK N1 N2,az aJ N3] 83)=W0 at*;refine(zH.out _ hb0).mono ?_;rintro e w1 ⟨f,rfl,hb1⟩;have cK:Hid (aj w w1/\w1.heap[w.heap.size]?=some (.cells #[aA aK N1 N2,az aJ N3] 83 (0,0))):=⟨hb0.trans (hb1.mono hb0.size),(hb1.block _ hz).trans hT0⟩;clear hb0 hb1 hT0 zH
 go_wp2_with fail
 go_loopg [7] (d-c) (λm iv wr=>∃k:Nat,c<=k/\k<=d/\d-k<=m/\iv=az aJ k/\Hid (aj w wr/\wr.heap[w.heap.size]?=some (.cells #[aA aK N1 N2,az aJ N3] 83 (0,0))))
 case atStart=>exact⟨c,aY _,fh Ko,aY _,rfl,cK⟩
 case round=>
  obtain⟨k,h1,h2,h3,rfl,HB⟩:=hrel;clear cK;obtain⟨aW,hT⟩:=HB.out;have t0:=cH hT;have t1:=cD hT;by_cases hin:k<bs.length
  .obtain⟨b,hb⟩:∃b,bs[k]?=some b:=⟨_,bo hin⟩;obtain⟨x,hx⟩:∃x,Xs[k]?=some x:=⟨_,bo (by rw[<-HR.out.len];exact hin)⟩
   have r0:=(aW.cell (p:=⟨g,k,none⟩) (lt_of_cell (HR.out.row k b hb))).trans (HR.out.row k b hb);have vA:=(HR.out.side k b x hb hx).below aW;have s2:=vA.c2;have s3:=vA.c3;have hop:=SD.out x (bT hx);have vp:Hid (k<d↔x.f=n):=HD.out k x hx h1;have Ic:(k:Int)<(bs.length:Int):=aa
   clear hb hx vA HR HD SD;generalize aO aK x.f.1=X1 at*;generalize aO aK x.f.2.1=X2 at*;generalize D7:x.f.2.2=X3 at*;clear D7 En;by_cases hkd:k<d
   .have Ie:decide (x.f=n)=true:=dO (vp.out.1 hkd);rw[Ie] at hop;clear Ie vp
    go_wp2_with fail
    go_quiet (fail)
    go_wp2_with fail
    go_roundg (d-(k+1))
    case measure=>omega
    case rel=>exact⟨k+1,aa,aa,aY _,ai,DR aW _,hT⟩
   .have Ie:decide (x.f=n)=false:=fY λh=>hkd (vp.out.2 h)
    have GC:k=d:=aa
    rw[Ie] at hop;clear Ie vp;subst GC
    go_wp2_with fail
    go_quiet (fail)
    go_wp2_with fail
    go_ret
    exact⟨rfl,DR aW _⟩
  .have Ic:decide ((k:Int)<(bs.length:Int))=false:=by simp;omega
   have GC:k=d:=aa
   subst GC;clear HR HD SD
   go_wp2_with fail
   go_quiet (fail)
   go_wp2_with fail
   go_ret
   exact⟨rfl,DR aW _⟩
def pb0:PB:=⟨0,0,0,(0,0,0),(0,0,0)⟩
def xi(Xs:List PB)(i:Nat):PB:=Xs.getD i pb0
def bx(bs:List Nat)(i:Nat):Nat:=bs.getD i 0
theorem vB(h:Xs[i]?=some x):xi Xs i=x:=by
 unfold xi;rw[nN,h];rfl
theorem xC(h:i<Xs.length):Xs[i]?=some (xi Xs i):=by
 rw[bo h,vB (bo h)]
theorem Ig(h:bs[i]?=some b):bx bs i=b:=by
 unfold bx;rw[nN,h];rfl
theorem zI(h:i<bs.length):bs[i]?=some (bx bs i):=by
 rw[bo h,Ig (bo h)]
theorem rZ(h:i<bs.length):bx bs i∈bs:=bT (zI h)
theorem iH(h:i<Xs.length):xi Xs i∈Xs:=bT (xC h)
theorem og(hn:bs.Nodup)(h:i<bs.length):bs.idxOf (bx bs i)=i:=by
 have e:bx bs i=bs[i]:=Ig (bo h);rw[e];exact agP hn i h
structure BD(Xs:List PB):Prop where
 v:∀x∈Xs,dX x
 ld:∀x∈Xs,∃l,LD x l
 qU:Xs.Pairwise λa b=>¬cE b.f a.f<0
 len:Xs.length<=85000000
theorem SE{α:Type}(p:α->Bool):∀(l:List α),l.Pairwise (λa b=>p b=true->p a=true)->∀(i:Nat) x,l[i]?=some x->(i<(l.filter p).length↔p x=true)
 |[],_,i,x,h=>by simp at h
 |a::l,hp,0,x,h=>by
  have hx:a=x:=by simpa using h
  subst hx;by_cases ha:p a=true
  .simp[ha]
  .have:(a::l).filter p=[]:=List.filter_eq_nil_iff.2 λy hy=>by
    rcases bU.1 hy with rfl|hy
    .exact ha
    .exact λhpy=>ha ((ik.1 hp).1 y hy hpy)
   rw[this];simp[ha]
 |a::l,hp,i+1,x,h=>by
  have hx:l[i]?=some x:=by simpa using h
  have ih:=SE p l (ik.1 hp).2 i x hx;by_cases ha:p a=true
  .rw[Ax ha,dw,Nat.add_lt_add_iff_right];exact ih
  .have hpx:¬p x=true:=λhpx=>ha ((ik.1 hp).1 x (bT hx) hpx)
   rw[wu ha];constructor
   .intro h2;exact absurd (ih.1 aa) hpx
   .intro h2;exact absurd h2 hpx
def jz(Xs:List PB)(n:Ge.Nd):Nat:=(Xs.filter λx=>decide (cE x.f n<0)).length
def nu(Xs:List PB)(n:Ge.Nd):Nat:=(Xs.filter λx=>decide (cE x.f n<=0)).length
theorem EC{a b:Ge.Nd}:cE a b<0↔Ge.lt (Ge.aX a) (Ge.aX b):=by unfold cE Ge.lt;exact JD
theorem amf{a b c:Ge.Nd}(ha:Ge.Can a)(hb:Ge.Can b)(hc:Ge.Can c)(h1:¬cE b a<0)(h2:cE b c<0):cE a c<0:=by
 by_cases he:a=b
 .rw[he];exact h2
 .exact Ge.lt_trans (Ge.dW ha) (Ge.dW hb) (Ge.dW hc) (Ge.Ea ha hb h1 he) h2
theorem SF(a b:Ge.Nd):cE b a= -cE a b:=Ge.KU _ _
theorem MF(hB:BD Xs){n:Ge.Nd}(hn:Ge.Can n)(i:Nat)(x:PB)(h:Xs[i]?=some x):i<jz Xs n↔cE x.f n<0:=by
 have hp:Xs.Pairwise λa b=>decide (cE b.f n<0)=true->decide (cE a.f n<0)=true:=by
  refine wz (λ{a b} ha hb hab=>?_) hB.qU
  simp only[yF];exact λh2=>amf (hB.v a ha).cf (hB.v b hb).cf hn hab h2
 have:=SE _ Xs hp i x h;simpa[jz] using this
theorem abJ(hB:BD Xs){n:Ge.Nd}(hn:Ge.Can n)(i:Nat)(x:PB)(h:Xs[i]?=some x):i<nu Xs n↔cE x.f n<=0:=by
 have hp:Xs.Pairwise λa b=>decide (cE b.f n<=0)=true->decide (cE a.f n<=0)=true:=by
  refine wz (λ{a b} ha hb hab=>?_) hB.qU
  simp only[yF];intro h2;apply Fh.1;intro h3;have h4:cE n a.f<0:=by rw[SF a.f n];omega
  have h5:cE n b.f<0:=by
   by_cases he:a.f=b.f
   .rw[<-he];exact h4
   .exact Ge.lt_trans (Ge.dW hn) (Ge.dW (hB.v a ha).cf) (Ge.dW (hB.v b hb).cf) h4 (Ge.Ea (hB.v a ha).cf (hB.v b hb).cf hab he)
  rw[SF b.f n] at h5;omega
 have:=SE _ Xs hp i x h;simpa[nu] using this
theorem zJ(a:Ge.Nd):cE a a=0:=Ge.Bb _
theorem MG(hB:BD Xs){n:Ge.Nd}(hn:Ge.Can n)(i:Nat)(x:PB)(h:Xs[i]?=some x)(h1:jz Xs n<=i):i<nu Xs n↔x.f=n:=by
 have a:=MF hB hn i x h;rw[abJ hB hn i x h];constructor
 .intro h2;exact Ge.xe (hB.v x (bT h)).cf hn (by show cE x.f n=0;omega)
 .intro h2;rw[h2,zJ];omega
theorem SH(Xs:List PB)(n:Ge.Nd):nu Xs n<=Xs.length:=JR _ _
theorem SJ(hB:BD Xs){n:Ge.Nd}(hn:Ge.Can n)(h:∃x∈Xs,x.f=n):jz Xs n<nu Xs n:=by
 obtain⟨x,hx,he⟩:=h;obtain⟨i,hi,hxi⟩:=kO.1 hx;have hg:Xs[i]?=some x:=by rw[bo hi,hxi]
 have h1:=MF hB hn i x hg;have h2:=abJ hB hn i x hg;rw[he,zJ] at h1 h2;have h3:¬i<jz Xs n:=λh=>by have:=h1.1 h;omega
 have h4:i<nu Xs n:=h2.2 aa
 omega
def dC(Xs:List PB)(i:Nat):Nat:=
 cL (λj k=>ug (xi Xs i) (xi Xs j) (xi Xs k)) (List.range' (jz Xs (xi Xs i).t+1) (nu Xs (xi Xs i).t-jz Xs (xi Xs i).t-1)) (jz Xs (xi Xs i).t)
theorem Ih{cf cg:Nat->Nat->Int}{f:Nat->Nat}:∀(l:List Nat)(m:Nat),(∀j∈m::l,∀k∈m::l,cf (f j) (f k)=cg j k)->cL cf (l.map f) (f m)=f (cL cg l m)
 |[],m,_=>rfl
 |b::l,m,h=>by
  show cL cf (l.map f) (if cf (f b) (f m)<0 then f b else f m)=f (cL cg l (if cg b m<0 then b else m))
  rw[h b af m af]
  by_cases hc:cg b m<0
  .rw[aV hc,aV hc];exact Ih l b λj hj k hk=>h j (bX _ hj) k (bX _ hk)
  .rw[aQ hc,aQ hc];refine Ih l m λj hj k hk=>h j ?_ k ?_
   .rcases bU.1 hj with h|h
    .rw[h];simp
    .simp[h]
   .rcases bU.1 hk with h|h
    .rw[h];simp
    .simp[h]
theorem abK(h:jz Xs (xi Xs i).t<nu Xs (xi Xs i).t):jz Xs (xi Xs i).t<=dC Xs i/\dC Xs i<nu Xs (xi Xs i).t:=by
 unfold dC;rcases zG (λj k=>ug (xi Xs i) (xi Xs j) (xi Xs k)) (List.range' (jz Xs (xi Xs i).t+1) (nu Xs (xi Xs i).t-jz Xs (xi Xs i).t-1)) (jz Xs (xi Xs i).t) with e|e
 .rw[e];omega
 .have:=JL.1 e;omega
theorem amh(s R g c d n cap:Nat)(T1 T2:Nat)(T3:Int)(w:aM)(a4:w.cell? ⟨s,4,none⟩=some (aA aK T1 T2))(a5:w.cell? ⟨s,5,none⟩=some (az aJ T3))
  (HL:Hid (ak 210 #[aG (some ⟨g,0,none⟩) n cap,aC #[aA aK T1 T2,az aJ T3]] w λe w'=>e=aL (aG (some ⟨g,c,none⟩) (d-c) (cap-c))/\aj w w'))
  (HM:Hid (∀w',aj w w'->ak 171 #[aG (some ⟨g,c,none⟩) (d-c) (cap-c),.func (.func 211) #[aH (some ⟨s,0,none⟩)] #[]] w' λe w''=>e=aL (aH (some ⟨R,0,none⟩))/\aj w' w'')):
  ak 165 #[aG (some ⟨g,0,none⟩) n cap,aH (some ⟨s,0,none⟩)] w λe w'=>e=aL (aH (some ⟨R,0,none⟩))/\aj w w':=by
 go_enter func165,ntmps165
 go_wp2_with fail
 refine HL.out.mono ?_;rintro e w1 ⟨rfl,hb1⟩
 go_wp2_with fail
 refine(HM.out w1 hb1).mono ?_;rintro e w2 ⟨rfl,hb2⟩
 go_wp2_with fail
 go_ret
 exact⟨rfl,hb1.trans (hb2.mono hb1.size)⟩
theorem RB.at(h:RB w g bs Xs)(hi:i<Xs.length):jy w (bx bs i) (xi Xs i):=
 h.side i _ _ (zI (by rw[h.len];exact hi)) (xC hi)
theorem RB.cellAt(h:RB w g bs Xs)(hi:i<Xs.length):w.cell? ⟨g,i,none⟩=some (aH (some ⟨bx bs i,0,none⟩)):=
 h.row i _ (zI (by rw[h.len];exact hi))
theorem ami(bs:List Nat)(Xs:List PB)(hB:BD Xs)(hnd:bs.Nodup)(g cap i:Nat)(hi:i<Xs.length)(w:aM)(hR:RB w g bs Xs)(hbc:bs.length<=cap)(hne:∃x∈Xs,x.f=(xi Xs i).t):
  ak 165 #[aG (some ⟨g,0,none⟩) bs.length cap,aH (some ⟨bx bs i,0,none⟩)] w λe w'=>e=aL (aH (some ⟨bx bs (dC Xs i),0,none⟩))/\aj w w':=by
 have hx:=iH hi;have MH:=(hB.v _ hx).ct;have hlt:=SJ hB MH hne;have xD:=SH Xs (xi Xs i).t;have hbl:bs.length<=85000000:=by rw[hR.len];exact hB.len
 have hlen:=hR.len;have hs:=hR.at hi;refine amh (bx bs i) (bx bs (dC Xs i)) g (jz Xs (xi Xs i).t) (nu Xs (xi Xs i).t) bs.length cap _ _ _ w hs.c4 hs.c5 (amc bs Xs (xi Xs i).t g cap w _ _ hR hbl hbc hlt aa (MF hB MH) (λj x h1 h2=>MG hB MH j x h1 h2) hB.v (hB.v _ hx).t.bu MH) ?_
 refine λw' hb=>?_
 have hR':=hR.below hb;generalize hc:jz Xs (xi Xs i).t=c at*;generalize hd:nu Xs (xi Xs i).t=d at*;have hm:=al9 (λb b'=>ug (xi Xs i) (xi Xs (bs.idxOf b)) (xi Xs (bs.idxOf b'))) (bx bs c) ((List.range' (c+1) (d-c-1)).map (bx bs)) g c (cap-c) (bx bs i) w' (by simp;omega)
  (λk b hk=>by
   have amj:bx bs c::(List.range' (c+1) (d-c-1)).map (bx bs)=(List.range' c (d-c)).map (bx bs):=by
    have e:d-c=(d-c-1)+1:=aa
    rw[e,List.range'_succ];rfl
   rw[amj] at hk;have hkl:k<d-c:=by
    have:=(cG.1 hk).1;simpa using this
   rw[iI,List.getElem?_range' hkl] at hk;have hb':bx bs (c+k)=b:=by simpa using hk
   rw[<-hb'];exact hR'.cellAt aa)
  (λb hb1 b' hb2 w'' hw=>by
   have key:∀b,b∈bx bs c::(List.range' (c+1) (d-c-1)).map (bx bs)->∃k,k<Xs.length/\b=bx bs k:=by
    intro b hb;rcases bU.1 hb with h|h
    .exact⟨c,aa,h⟩
    .obtain⟨k,hk,rfl⟩:=bQ.1 h;have:=JL.1 hk;exact⟨k,aa,rfl⟩
   obtain⟨k1,h1,rfl⟩:=key b hb1;obtain⟨k2,h2,rfl⟩:=key b' hb2;have ED:=hR'.below hw;rw[og hnd aa,og hnd aa]
   obtain⟨l,hl⟩:=hB.ld _ hx;obtain⟨l1,Bc⟩:=hB.ld _ (iH h1);obtain⟨l2,hl2⟩:=hB.ld _ (iH h2);exact al8 _ _ _ hl Bc hl2 _ _ _ w'' (ED.at hi) (ED.at h1) (ED.at h2))
 have amk:((List.range' (c+1) (d-c-1)).map (bx bs)).length+1=d-c:=by simp;omega
 have hmin:cL (λb b'=>ug (xi Xs i) (xi Xs (bs.idxOf b)) (xi Xs (bs.idxOf b'))) ((List.range' (c+1) (d-c-1)).map (bx bs)) (bx bs c)=bx bs (dC Xs i):=by
  unfold dC;rw[hc,hd];refine Ih _ _ λj hj k hk=>?_
  have key:∀j,j∈c::List.range' (c+1) (d-c-1)->j<bs.length:=by
   intro j hj;rcases bU.1 hj with h|h
   .omega
   .have:=JL.1 h;omega
  simp only[og hnd (key j hj),og hnd (key k hk)]
 rw[hmin] at hm;have aml:(((List.range' (c+1) (d-c-1)).map (bx bs)).length:Nat)+1=d-c:=amk;rw[aml] at hm;exact hm
namespace Ga
open Ge
theorem amm{rg:List (List Pt)}{l:List Nd}(hN:cS (aR rg) l){bu:Int->Bool}{n m c:Nd}(hout:bu (PP (aR rg) n)=false)(h:Sd (aR rg) l bu m n)(hc:Sd (aR rg) l bu n c)
  (hm:∀c',Sd (aR rg) l bu n c'->¬tC (wv m n) (wv n c') (wv n c)<0):bf (wv n c) (wv n m)=true:=by
 obtain⟨n1,_,hn⟩:=gS hN h.pc;obtain⟨n3,_,_⟩:=gS hN hc.pc;have m1:wv n m≠(0,0):=by rw[fT m n];exact kR n1
 have h1:=(h.BG hN).1;obtain⟨z,hz,dV⟩:=Pk _ (wv n m) m1 (aY _) hout h1;obtain⟨c',hc',hsm⟩:=Mm hN hn hz;obtain⟨n4,_,_⟩:=gS hN hc'.pc;have Hy:bf (wv n c') (wv n m)=true:=by rw[RY hsm];exact dV
 have t:=js n3 m1;rw[h.rV hN hc] at t;cases k:bf (wv n c) (wv n m)
 .exfalso;rw[k] at t;have k':bf (wv n m) (wv n c)=true:=by revert t;cases bf (wv n m) (wv n c)<;>decide
  have:=(FU m1 n4 n3 (h.rV hN hc') (h.rV hN hc)).2 (nR.2 (aT (aU ⟨Hy,k'⟩)));rw[<-fT] at this;exact hm c' hc' this
 .rfl
theorem amn{rg:List (List Pt)}{l:List Nd}(hN:cS (aR rg) l){bu:Int->Bool}{n m c k:Nd}(hout:bu (PP (aR rg) n)=false)(h:Sd (aR rg) l bu m n)(hr:bV (wv n m))(hc:Sd (aR rg) l bu n c)
  (hm:∀c',Sd (aR rg) l bu n c'->¬tC (wv m n) (wv n c') (wv n c)<0)(hk:Sd (aR rg) l bu n k)(hle:bf (wv n c) (wv n k)=false):0<cr (wv m n) (wv n k):=by
 have h1:=amm hN hout h hc hm;obtain⟨n1,_,_⟩:=gS hN h.pc;obtain⟨n3,_,_⟩:=gS hN hc.pc;obtain⟨n4,_,_⟩:=gS hN hk.pc;have m1:wv n m≠(0,0):=by rw[fT m n];exact kR n1
 have t:=js n3 n4;rw[hle] at t;have h2:bf (wv n k) (wv n m)=true:=by
  cases hs:bh (wv n c) (wv n k)
  .rw[hs] at t;have:bf (wv n k) (wv n c)=true:=by revert t;cases bf (wv n k) (wv n c)<;>decide
   exact iV n4 n3 m1 this h1
  .rw[<-RY hs];exact h1
 have:=((J4 hr _).1 h2).2;rw[fT n m,gu];omega
theorem amo{a x y z:Pt}(ha:a≠(0,0))(hx:x≠(0,0))(hy:y≠(0,0))(hz:z≠(0,0))(h1:cw a x y=true)(h2:cw a y z=true):cw a x z=true:=by
 rw[nR] at*;have oh:bf y a=true->bf a y=true->False:=λp q=>by
  rw[Ka hy ha p] at q;cases q
 rcases h1 with⟨p1,p2,p3⟩|⟨p1,p2⟩|⟨p1,p2,p3⟩<;>rcases h2 with⟨q1,q2,q3⟩|⟨q1,q2⟩|⟨q1,q2,q3⟩
 .exact aU ⟨p1,q2,iV hz hy hx q3 p3⟩
 .exact aT (aU ⟨p1,q2⟩)
 .exact(oh p2 q1).elim
 .exact(oh q1 p2).elim
 .exact(oh q1 p2).elim
 .exact aT (aU ⟨p1,q2⟩)
 .exact(oh q1 p2).elim
 .exact(oh q1 p2).elim
 .exact aT (aT ⟨p1,q2,iV hz hy hx q3 p3⟩)
theorem amq{n m:N3}(hn:0<n.2.2)(hm:0<m.2.2)(e1:n.1*m.2.2=m.1*n.2.2)(e2:n.2.1*m.2.2=m.2.1*n.2.2)(u v:Pt):right (rl n u) (rl n v)=right (rl m u) (rl m v):=by
 have k:∀p,sc m.2.2 (rl n p)=sc n.2.2 (rl m p):=λp=>by
  obtain⟨e1,e2⟩:=RX e1 e2 p;unfold sc;exact eB e1 e2
 rw[<-C9 hm (rl n u) (rl n v),k,k,C9 hn]
end Ga
theorem vC(f t:Ge.Nd):(cZ f t).1=(Ga.wv f t).1/\(cZ f t).2.1=(Ga.wv f t).2:=by
 unfold cZ Ga.wv;exact⟨by simp only;grind,by simp only;grind⟩
theorem zK(x y:PB):gq x y=(Ge.cr (Ga.wv x.f x.t) (Ga.wv y.f y.t)).sign:=by
 unfold gq Ge.cr;rw[(vC x.f x.t).1,(vC x.f x.t).2,(vC y.f y.t).1,(vC y.f y.t).2]
theorem MJ(s a b:PB):ug s a b=Ga.tC (Ga.wv s.f s.t) (Ga.wv a.f a.t) (Ga.wv b.f b.t):=by
 unfold ug Ga.tC;rw[zK,zK,zK]
theorem amr(es:List Ed){f t:Ge.Nd}(hf:0<f.2.2)(ht:0<t.2.2):pY es f t=Ga.RR es f t/\rT es f t=Ga.LL es f t:=by
 obtain⟨c,q⟩:=Ge.RO (f.1+t.1) (f.2.1+t.2.1) (d:=f.2.2+t.2.2) aa
 have hq:0<(Ga.cC f t).2.2:=by show 0<f.2.2+t.2.2;omega
 have e1:(dZ f t).1*(Ga.cC f t).2.2=(Ga.cC f t).1*(dZ f t).2.2:=by
  have k:=Ge.D6 (a:=(dZ f t).1) (c:=f.1+t.1) c.pos (show 0<f.2.2+t.2.2 by omega)
  have h':Ge.bC (dZ f t).1 (dZ f t).2.2=Ge.bC (f.1+t.1) (f.2.2+t.2.2):=aZ Prod.fst q;have k':Ge.fc (Ge.bC (dZ f t).1 (dZ f t).2.2) (Ge.bC (f.1+t.1) (f.2.2+t.2.2))=((dZ f t).1*(f.2.2+t.2.2)-(f.1+t.1)*(dZ f t).2.2).sign:=k;rw[h',Ge.Dz] at k';have:=yC.1 k'.symm;show(dZ f t).1*(f.2.2+t.2.2)=(f.1+t.1)*(dZ f t).2.2;omega
 have e2:(dZ f t).2.1*(Ga.cC f t).2.2=(Ga.cC f t).2.1*(dZ f t).2.2:=by
  have k:=Ge.D6 (a:=(dZ f t).2.1) (c:=f.2.1+t.2.1) c.pos (show 0<f.2.2+t.2.2 by omega)
  have h':Ge.bC (dZ f t).2.1 (dZ f t).2.2=Ge.bC (f.2.1+t.2.1) (f.2.2+t.2.2):=aZ Prod.snd q;have k':Ge.fc (Ge.bC (dZ f t).2.1 (dZ f t).2.2) (Ge.bC (f.2.1+t.2.1) (f.2.2+t.2.2))=((dZ f t).2.1*(f.2.2+t.2.2)-(f.2.1+t.2.1)*(dZ f t).2.2).sign:=k;rw[h',Ge.Dz] at k';have:=yC.1 k'.symm;show(dZ f t).2.1*(f.2.2+t.2.2)=(f.2.1+t.2.1)*(dZ f t).2.2;omega
 have hpos:0<(dZ f t).2.2:=c.pos;have r:pY es f t=Ga.RR es f t:=by
  exact Ga.nO (F:=Ge.fr ((dZ f t).1,(dZ f t).2.1) (dZ f t).2.2) (G:=λu v=>Ge.right (Ga.rl (Ga.cC f t) u) (Ga.rl (Ga.cC f t) v)) λe _=>Ga.amq hpos hq e1 e2 e.1 e.2
 refine⟨r,?_⟩;have k:Ge.total (Ge.fa (dZ f t) (cZ f t)) es=Ge.total (Ga.fb (Ga.cC f t) (Ga.wv f t)) es:=by
  refine Ga.nO λe _=>?_
  unfold Ge.fa Ga.fb;have ho:Ge.fo ((dZ f t).1,(dZ f t).2.1) (dZ f t).2.2 (e.1,e.2)=Ge.on (Ga.rl (Ga.cC f t) e.1) (Ga.rl (Ga.cC f t) e.2):=by
   show Ge.on (Ga.rl (dZ f t) e.1) (Ga.rl (dZ f t) e.2)=_;cases h1:Ge.on (Ga.rl (Ga.cC f t) e.1) (Ga.rl (Ga.cC f t) e.2)
   .cases h2:Ge.on (Ga.rl (dZ f t) e.1) (Ga.rl (dZ f t) e.2)
    .rfl
    .rw[Ga.Mi hq hpos e1.symm e2.symm h2] at h1;cases h1
   .exact Ga.Mi hpos hq e1 e2 h1
  rw[ho,(vC f t).1,(vC f t).2]
 show pY es f t+Ge.total (Ge.fa (dZ f t) (cZ f t)) es=_;rw[r,k];rfl
end
section
open Go.RowKit
open Ge
structure SX(rg:List (List Pt))(l:List Nd)(r:Int)(Xs:List PB):Prop where
 nl:Ga.cS (aR rg) l
 mem:∀x∈Xs,Ga.Sd (aR rg) l (takes r) x.f x.t
 all:∀a b,Ga.Sd (aR rg) l (takes r) a b->∃x∈Xs,x.f=a/\x.t=b
 EE:∀i j,i<Xs.length->j<Xs.length->(xi Xs i).f=(xi Xs j).f->(xi Xs i).t=(xi Xs j).t->i=j
theorem MK{r:Int}{es:List Ed}{p x:PB}(hx:x∈gD r es p):(x=p/\takes r (rT es p.f p.t)=true/\takes r (pY es p.f p.t)=false)\/(x=p.rev/\takes r (pY es p.f p.t)=true/\takes r (rT es p.f p.t)=false):=by
 unfold gD at hx;split at hx
 .rename_i h
  exact aU ⟨by simpa using hx,h⟩
 .split at hx
  .rename_i h
   exact aT ⟨by simpa using hx,h⟩
  .simp at hx
theorem ML{rg:List (List Pt)}{l:List Nd}{r:Int}{Ps:List PB}(hl:l.map aX=iZ (aR rg))(hc:∀n∈l,Ge.Can n)(h:pW (aR rg) l Ps):SX rg l r (od r (aR rg) Ps):=by
 have hN:Ga.cS (aR rg) l:=⟨hl,hc,λe he=>KJ he⟩
 have hv:∀x∈Ps.flatMap (gD r (aR rg)),dX x:=λx hx=>by
  obtain⟨p,hp,xB⟩:=qq.1 hx;exact Sy (h.v p hp) xB
 obtain⟨hperm,_⟩:=abB (Ps.flatMap (gD r (aR rg))) hv;have hpc:∀p∈Ps,Ga.dF (aR rg) l p.f p.t:=λp hp=>by
  obtain⟨e,he,_,hq⟩:=h.ap.mem p hp;exact⟨e,he,hq⟩
 have hts:∀p∈Ps,pY (aR rg) p.f p.t=Ga.RR (aR rg) p.f p.t/\rT (aR rg) p.f p.t=Ga.LL (aR rg) p.f p.t:=λp hp=>amr _ (h.v p hp).cf.pos (h.v p hp).ct.pos
 refine⟨hN,λx hx=>?_,λa b hab=>?_,λi j hi hj hf ht=>?_⟩
 .obtain⟨p,hp,xB⟩:=qq.1 ((hperm.mem_iff).1 hx);obtain⟨t1,t2⟩:=hts p hp;rcases MK xB with⟨rfl,h1,h2⟩|⟨rfl,h1,h2⟩
  .rw[t2] at h1;rw[t1] at h2;exact aU ⟨hpc _ hp,h1,h2⟩
  .rw[t1] at h1;rw[t2] at h2;exact aT ⟨hpc _ hp,h1,h2⟩
 .rcases hab with⟨⟨e,he,hq⟩,h1,h2⟩|⟨⟨e,he,hq⟩,h1,h2⟩
  .obtain⟨p,hp,mE⟩:=h.ap.all e he _ hq;have e1:p.f=a:=aZ Prod.fst mE;have e2:p.t=b:=aZ Prod.snd mE;obtain⟨t1,t2⟩:=hts p hp;rw[e1,e2] at t1 t2;refine⟨p,(hperm.mem_iff).2 (qq.2 ⟨p,hp,?_⟩),e1,e2⟩;unfold gD;rw[e1,e2,t1,t2,aV ⟨h1,h2⟩];simp
  .obtain⟨p,hp,mE⟩:=h.ap.all e he _ hq;have e1:p.f=b:=aZ Prod.fst mE;have e2:p.t=a:=aZ Prod.snd mE;obtain⟨t1,t2⟩:=hts p hp;rw[e1,e2] at t1 t2;refine⟨p.rev,(hperm.mem_iff).2 (qq.2 ⟨p,hp,?_⟩),e2,e1⟩;unfold gD;rw[e1,e2,t1,t2,aQ (by rw[h2];simp),aV ⟨h1,h2⟩]
   simp
 .have hp0:(Ps.flatMap (gD r (aR rg))).Pairwise λx y=>¬(x.f=y.f/\x.t=y.t):=by
   rw[List.pairwise_flatMap];refine⟨λp hp=>?_,?_⟩
   .unfold gD;split
    .exact asD _ _
    .split
     .exact asD _ _
     .exact List.Pairwise.nil
   .refine wz (λ{p q} hp hq hlt x hx y hy=>?_) h.qU
    have lp:=Mw h hl p hp;have lq:=Mw h hl q hq;have asym:∀{u v:Nd},Ge.Can u->Ge.Can v->lt (aX u) (aX v)->¬lt (aX v) (aX u):=λhu hv a b=>lt_irrefl _ (lt_trans (dW hu) (dW hv) (dW hu) a b)
    have hne:¬(p.f=q.f/\p.t=q.t):=λ⟨a,b⟩=>by
     have h1:=aaO (h.v p hp) (h.v q hq) (h.v q hq) a b;have h2:=h1.1 hlt;have h3:¬kD q q:=by
      unfold kD Ej;rw[zJ,zJ];simp
     exact h3 h2
    rintro⟨e1,e2⟩;rcases MK hx with⟨rfl,_⟩|⟨rfl,_⟩<;>rcases MK hy with⟨rfl,_⟩|⟨rfl,_⟩
    .exact hne ⟨e1,e2⟩
    .have lY:x.f=q.t:=e1;have e2':x.t=q.f:=e2;rw[lY,e2'] at lp;exact asym (h.v q hq).cf (h.v q hq).ct lq lp
    .have lY:p.t=y.f:=e1;have e2':p.f=y.t:=e2;rw[lY,e2'] at lp;exact asym (h.v _ hq).cf (h.v _ hq).ct lq lp
    .have lY:p.t=q.t:=e1;have e2':p.f=q.f:=e2;exact hne ⟨e2',lY⟩
  have hp1:(od r (aR rg) Ps).Pairwise λx y=>¬(x.f=y.f/\x.t=y.t):=(hperm.pairwise_iff (λ{x y} hxy=>λ⟨a,b⟩=>hxy ⟨a.symm,b.symm⟩)).2 hp0
  have gx:∀{k:Nat}(hk:k<(od r (aR rg) Ps).length),xi (od r (aR rg) Ps) k=(od r (aR rg) Ps)[k]:=λhk=>vB (bo hk)
  rw[gx hi,gx hj] at hf ht;rcases CS i j with k|k|k
  .exact absurd ⟨hf,ht⟩ (mn.1 hp1 i j hi hj k)
  .exact k
  .exact absurd ⟨hf.symm,ht.symm⟩ (mn.1 hp1 j i hj hi k)
theorem SK{cf:Nat->Nat->Int}:∀(l:List Nat)(m:Nat),(m::l).Nodup->(∀a∈m::l,∀b∈m::l,∀c∈m::l,cf a b<0->cf b c<0->cf a c<0)->(∀a∈m::l,¬cf a a<0)->(∀a∈m::l,∀b∈m::l,a≠b->cf a b<0\/cf b a<0)->∀k∈m::l,¬cf k (cL cf l m)<0
 |[],m,_,_,hi,_,k,hk=>by
  have:k=m:=by simpa using hk
  rw[this];exact hi m af
 |b::l,m,hn,ht,hi,hw,k,hk=>by
  have hb:b∈m::b::l:=af
  have hm:m∈m::b::l:=af
  have kU:m≠b:=λe=>by
   rw[e] at hn;simp at hn
  show ¬cf k (cL cf l (if cf b m<0 then b else m))<0
  have hres:∀m'∈m::b::l,cL cf l m'∈m::b::l:=λm' hm'=>by
   rcases zG cf l m' with e|e
   .rw[e];exact hm'
   .exact bX _ (bX _ e)
  by_cases hc:cf b m<0
  .rw[aV hc];have sub:∀x,x∈b::l->x∈m::b::l:=λx hx=>bX _ hx
   have ih:=SK l b (JV.1 hn).2 (λa ha c hc' d hd=>ht a (sub a ha) c (sub c hc') d (sub d hd)) (λa ha=>hi a (sub a ha)) (λa ha c hc'=>hw a (sub a ha) c (sub c hc'))
   rcases bU.1 hk with e|hk
   .rw[e];intro h;exact ih b af (ht b hb m hm _ (hres b hb) hc h)
   .exact ih k hk
  .rw[aQ hc];have hcm:cf m b<0:=(hw m hm b hb kU).resolve_right hc;have sub:∀x,x∈m::l->x∈m::b::l:=λx hx=>by
    rcases bU.1 hx with e|hx
    .rw[e];simp
    .simp[hx]
   have hn':(m::l).Nodup:=by
    rw[JV] at hn⊢;exact⟨λh=>hn.1 (bX _ h),(JV.1 hn.2).2⟩
   have ih:=SK l m hn' (λa ha c hc' d hd=>ht a (sub a ha) c (sub c hc') d (sub d hd)) (λa ha=>hi a (sub a ha)) (λa ha c hc'=>hw a (sub a ha) c (sub c hc'))
   rcases bU.1 hk with e|hk
   .rw[e];exact ih m af
   .rcases bU.1 hk with e|hk
    .rw[e];intro h;exact ih m af (ht m hm b hb _ (hres m hm) hcm h)
    .exact ih k (bX _ hk)
section
variable{rg:List (List Pt)}{l:List Nd}{r:Int}{Xs:List PB}
theorem SX.sd(h:SX rg l r Xs){i:Nat}(hi:i<Xs.length):Ga.Sd (aR rg) l (takes r) (xi Xs i).f (xi Xs i).t:=h.mem _ (iH hi)
theorem SX.find(h:SX rg l r Xs){a b:Nd}(hs:Ga.Sd (aR rg) l (takes r) a b):∃i,i<Xs.length/\(xi Xs i).f=a/\(xi Xs i).t=b:=by
 obtain⟨x,hx,e1,e2⟩:=h.all a b hs;obtain⟨i,hi,rfl⟩:=kO.1 hx;exact⟨i,hi,by rw[vB (bo hi)];exact e1,by rw[vB (bo hi)];exact e2⟩
theorem SX.go(h:SX rg l r Xs)(i:Nat)(hi:i<Xs.length):∃x∈Xs,x.f=(xi Xs i).t:=by
 obtain⟨c,hc⟩:=(h.sd hi).next h.nl
 obtain⟨x,hx,e,_⟩:=h.all _ _ hc;exact⟨x,hx,e⟩
theorem SX.next(h:SX rg l r Xs)(hB:BD Xs){i:Nat}(hi:i<Xs.length):dC Xs i<Xs.length/\(xi Xs (dC Xs i)).f=(xi Xs i).t/\∀j,j<Xs.length->(xi Xs j).f=(xi Xs i).t->¬ug (xi Xs i) (xi Xs j) (xi Xs (dC Xs i))<0:=by
 have lh:=(hB.v _ (iH hi)).ct;have hlt:=SJ hB lh (h.go i hi);obtain⟨h1,h2⟩:=abK hlt;have hle:=SH Xs (xi Xs i).t;have hlen:dC Xs i<Xs.length:=aa
 have hf:(xi Xs (dC Xs i)).f=(xi Xs i).t:=(MG hB lh _ _ (xC hlen) h1).1 h2;refine⟨hlen,hf,λj hj hfj=>?_⟩
 have BW:∀k,k∈jz Xs (xi Xs i).t::List.range' (jz Xs (xi Xs i).t+1) (nu Xs (xi Xs i).t-jz Xs (xi Xs i).t-1)↔jz Xs (xi Xs i).t<=k/\k<nu Xs (xi Xs i).t:=λk=>by
  rw[bU,JL];omega
 have vD:∀k,jz Xs (xi Xs i).t<=k->k<nu Xs (xi Xs i).t->k<Xs.length/\(xi Xs k).f=(xi Xs i).t:=λk k1 k2=>by
  have hk:k<Xs.length:=aa
  exact⟨hk,(MG hB lh _ _ (xC hk) k1).1 k2⟩
 have hjm:jz Xs (xi Xs i).t<=j/\j<nu Xs (xi Xs i).t:=by
  have a:=MF hB lh j _ (xC hj);have hge:jz Xs (xi Xs i).t<=j:=by
   apply Nat.not_lt.1;intro hk;have:=a.1 hk;rw[hfj,zJ] at this;omega
  exact⟨hge,(MG hB lh j _ (xC hj) hge).2 hfj⟩
 have zL:=h.sd hi;have facts:∀k,k<Xs.length->(xi Xs k).f=(xi Xs i).t->Ga.wv (xi Xs i).t (xi Xs k).t≠(0,0)/\Ga.bh (Ga.wv (xi Xs i).t (xi Xs k).t) (Ga.wv (xi Xs i).t (xi Xs i).f)=false:=λk hk zM=>by
  have hsk:=h.sd hk;rw[zM] at hsk;exact⟨(Ga.gS h.nl hsk.pc).1,zL.rV h.nl hsk⟩
 have ha:Ga.wv (xi Xs i).t (xi Xs i).f≠(0,0):=by rw[Ga.fT];exact Ga.kR (Ga.gS h.nl zL.pc).1
 have hcw:∀j k,j<Xs.length->(xi Xs j).f=(xi Xs i).t->k<Xs.length->(xi Xs k).f=(xi Xs i).t->(ug (xi Xs i) (xi Xs j) (xi Xs k)<0↔Ga.cw (Ga.wv (xi Xs i).t (xi Xs i).f) (Ga.wv (xi Xs i).t (xi Xs j).t) (Ga.wv (xi Xs i).t (xi Xs k).t)=true):=λj k hj SL hk zM=>by
  have:=Ga.FU ha (facts j hj SL).1 (facts k hk zM).1 (facts j hj SL).2 (facts k hk zM).2;rw[<-this,MJ,SL,zM,<-Ga.fT]
 have key:=SK (cf:=λj k=>ug (xi Xs i) (xi Xs j) (xi Xs k)) (List.range' (jz Xs (xi Xs i).t+1) (nu Xs (xi Xs i).t-jz Xs (xi Xs i).t-1)) (jz Xs (xi Xs i).t) (by
   rw[JV];refine⟨λhm=>?_,List.nodup_range' ..⟩
   have:=JL.1 hm;omega) (λa ha' b hb c hc h1 h2=>by
   obtain⟨a1,a2⟩:=(BW a).1 ha';obtain⟨b1,b2⟩:=(BW b).1 hb;obtain⟨c1,c2⟩:=(BW c).1 hc;obtain⟨a3,a4⟩:=vD a a1 a2;obtain⟨b3,b4⟩:=vD b b1 b2;obtain⟨c3,c4⟩:=vD c c1 c2;refine(hcw a c a3 a4 c3 c4).2 ?_;exact Ga.amo ha (facts a a3 a4).1 (facts b b3 b4).1 (facts c c3 c4).1 ((hcw a b a3 a4 b3 b4).1 h1) ((hcw b c b3 b4 c3 c4).1 h2)) (λa ha' hk=>by
   obtain⟨a1,a2⟩:=(BW a).1 ha';obtain⟨a3,a4⟩:=vD a a1 a2;have:=Ga.nR.1 ((hcw a a a3 a4 a3 a4).1 hk);rw[Ga.tA] at this;have oh:=Ga.Ka (facts a a3 a4).1 ha;rcases this with⟨_,_,h'⟩|⟨h',h''⟩|⟨_,_,h'⟩
   .cases h'
   .rw[oh h'] at h'';cases h''
   .cases h') (λa ha' b hb hne=>by
   obtain⟨a1,a2⟩:=(BW a).1 ha';obtain⟨b1,b2⟩:=(BW b).1 hb;obtain⟨a3,a4⟩:=vD a a1 a2;obtain⟨b3,b4⟩:=vD b b1 b2;obtain⟨na,sa⟩:=facts a a3 a4;obtain⟨nb,sb⟩:=facts b b3 b4;have hs:Ga.bh (Ga.wv (xi Xs i).t (xi Xs a).t) (Ga.wv (xi Xs i).t (xi Xs b).t)=false:=by
    cases hk:Ga.bh (Ga.wv (xi Xs i).t (xi Xs a).t) (Ga.wv (xi Xs i).t (xi Xs b).t)
    .rfl
    .exfalso;have sda:=h.sd a3;have sdb:=h.sd b3;rw[a4] at sda;rw[b4] at sdb;have:=Ga.BH h.nl sda.pc sdb.pc hk;exact hne (h.EE a b a3 b3 (a4.trans b4.symm) this)
   have t1:=Ga.js na ha;have t2:=Ga.js nb ha;have t3:=Ga.js na nb;rw[sa] at t1;rw[sb] at t2;rw[hs] at t3;rw[hcw a b a3 a4 b3 b4,hcw b a b3 b4 a3 a4];unfold Ga.cw;revert t1 t2 t3;generalize Ga.bf (Ga.wv (xi Xs i).t (xi Xs a).t) (Ga.wv (xi Xs i).t (xi Xs i).f)=p1;generalize Ga.bf (Ga.wv (xi Xs i).t (xi Xs i).f) (Ga.wv (xi Xs i).t (xi Xs a).t)=p2;generalize Ga.bf (Ga.wv (xi Xs i).t (xi Xs b).t) (Ga.wv (xi Xs i).t (xi Xs i).f)=p3;generalize Ga.bf (Ga.wv (xi Xs i).t (xi Xs i).f) (Ga.wv (xi Xs i).t (xi Xs b).t)=p4;generalize Ga.bf (Ga.wv (xi Xs i).t (xi Xs a).t) (Ga.wv (xi Xs i).t (xi Xs b).t)=p5;generalize Ga.bf (Ga.wv (xi Xs i).t (xi Xs b).t) (Ga.wv (xi Xs i).t (xi Xs a).t)=p6;revert p1 p2 p3 p4 p5 p6;decide) j ((BW j).2 hjm)
 exact key
theorem SX.inj(h:SX rg l r Xs)(hB:BD Xs){i j:Nat}(hi:i<Xs.length)(hj:j<Xs.length)(he:dC Xs i=dC Xs j):i=j:=by
 obtain⟨i1,i2,i3⟩:=h.next hB hi
 obtain⟨j1,j2,j3⟩:=h.next hB hj
 rw[<-he] at j1 j2 j3;have hij:(xi Xs i).t=(xi Xs j).t:=i2.symm.trans j2;have si:=h.sd hi;have sj:=h.sd hj;have sn:=h.sd i1;rw[<-hij] at sj;rw[i2] at sn;have conv:∀k,k<Xs.length->(∀j,j<Xs.length->(xi Xs j).f=(xi Xs k).t->¬ug (xi Xs k) (xi Xs j) (xi Xs (dC Xs i))<0)->(xi Xs k).t=(xi Xs i).t->∀c',Ga.Sd (aR rg) l (takes r) (xi Xs i).t c'->¬Ga.tC (Ga.wv (xi Xs k).f (xi Xs i).t) (Ga.wv (xi Xs i).t c') (Ga.wv (xi Xs i).t (xi Xs (dC Xs i)).t)<0:=λk _ hm MM c' hc'=>by
  obtain⟨q,hq,q1,q2⟩:=h.find hc';have:=hm q hq (by rw[q1,MM])
  rw[MJ,q1,q2,i2,MM] at this;exact this
 have hf:=Ga.alu h.nl si sj sn (conv i hi i3 rfl) (conv j hj j3 hij.symm);exact h.EE i j hi hj hf hij
end
end
namespace Gb
open Ge Ga
variable{n:N3}{a u v b:Pt}
theorem ams{a' l z:Pt}(ha:a≠(0,0))(ha':a'≠(0,0))(hl:l≠(0,0))(hz:z≠(0,0))(h1:cw a a' l=true)(h2:cw a' z l=true):cw a z l=true:=by
 have oh:∀{x y:Pt},x≠(0,0)->y≠(0,0)->bf x y=true->bf y x=true->False:=λhx hy p q=>by
  have:=Ka hx hy p;rw[q] at this;cases this
 rw[nR] at h1 h2⊢;rcases h1 with⟨p1,p2,p3⟩|⟨p1,p2⟩|⟨p1,p2,p3⟩<;>rcases h2 with⟨q1,q2,q3⟩|⟨q1,q2⟩|⟨q1,q2,q3⟩
 .exact aU ⟨iV hz ha' ha q1 p1,p2,q3⟩
 .exact absurd p3 (λk=>oh hl ha' k q2)
 .exact absurd p3 (λk=>oh hl ha' k q2)
 .exact absurd (iV ha' ha hl p1 p2) (λk=>oh ha' hl k q2)
 .exact aT (aU ⟨iV hz ha' ha q1 p1,p2⟩)
 .exact aT (aT ⟨iV ha hl hz p2 q3,p2,q3⟩)
 .exact aT (aT ⟨iV ha hl hz p2 q3,p2,q3⟩)
 .exact absurd p3 (λk=>oh hl ha' k q2)
 .exact absurd p3 (λk=>oh hl ha' k q2)
section
variable{es:List (Pt×Pt)}{l:List Nd}
theorem cS.ok(hN:cS es l):0<aP l/\∀n∈l,OK (aP l) n:=
 ⟨aba λn hn=>(hN.can n hn).pos,λn hn=>⟨(hN.can n hn).pos,abb hn⟩⟩
theorem SM(hN:cS es l){a b:Nd}(ha:a∈l)(hb:b∈l)(h:wv a b=(0,0)):a=b:=by
 rcases Ry (hN.can a ha) (hN.can b hb) with k|k|k
 .have:=(oc (hN.can a ha) (hN.can b hb)).1 k;exact absurd h (mB this)
 .exact k
 .have:=(oc (hN.can b hb) (hN.can a ha)).1 k;rw[fT a b,h] at this;exact absurd rfl (mB this)
theorem qX(hN:cS es l){a b:Nd}(ha:a∈l)(hb:b∈l)(h:PM (aP l) a=PM (aP l) b):a=b:=
 SM hN ha hb ((iP (cS.ok hN).1 ((cS.ok hN).2 a ha) ((cS.ok hN).2 b hb)).zero.1 (mQ.2 h))
theorem SN(hN:cS es l){a f t:Nd}(ha:a∈l)(h:dF es l f t\/dF es l t f)(ho:on (dr (PM (aP l) a,PM (aP l) f)) (dr (PM (aP l) a,PM (aP l) t))=true):a=f\/a=t:=by
 have key:∀{f t:Nd},dF es l f t->on (dr (PM (aP l) a,PM (aP l) f)) (dr (PM (aP l) a,PM (aP l) t))=true->a=f\/a=t:=by
  intro f t h ho;obtain⟨hM,hO⟩:=cS.ok hN;obtain⟨hf,ht,hr⟩:=h.facts hN;have p1:=iP hM (hO a ha) (hO f hf);have p2:=iP hM (hO a ha) (hO t ht);have p0:=iP hM (hO f hf) (hO t ht);have q1:=iP hM (hO f hf) (hO a ha);have q2:=iP hM (hO a ha) (hO t ht);rw[mP] at ho;apply mj;intro hne;have hx:dr (PM (aP l) a,PM (aP l) f)≠(0,0):=λe=>hne (aU (SM hN ha hf (p1.zero.1 e)))
  have hy:dr (PM (aP l) a,PM (aP l) t)≠(0,0):=λe=>hne (aT (SM hN ha ht (p2.zero.1 e)))
  have dx:=Ga.fW hx;have dy:=Ga.fW hy;refine h.gap hN ha ⟨rU hr ((p0.cr q1).2.2.1 ?_) ((p0.dt q1).1.1 ?_),rU hr ((p0.cr q2).2.2.1 ?_) ((p0.dt q2).1.1 ?_)⟩
  .generalize PM (aP l) a=A at*;generalize PM (aP l) f=F at*;generalize PM (aP l) t=T at*;have:cr (dr (F,T)) (dr (F,A))=cr (dr (A,F)) (dr (A,T)):=by unfold cr dr;grind
   omega
  .generalize PM (aP l) a=A at*;generalize PM (aP l) f=F at*;generalize PM (aP l) t=T at*;have:dt (dr (F,T)) (dr (F,A))=dt (dr (A,F)) (dr (A,F))-dt (dr (A,F)) (dr (A,T)):=by unfold dt dr;grind
   omega
  .generalize PM (aP l) a=A at*;generalize PM (aP l) f=F at*;generalize PM (aP l) t=T at*;have:cr (dr (F,T)) (dr (A,T))= -cr (dr (A,F)) (dr (A,T)):=by unfold cr dr;grind
   omega
  .generalize PM (aP l) a=A at*;generalize PM (aP l) f=F at*;generalize PM (aP l) t=T at*;have:dt (dr (F,T)) (dr (A,T))=dt (dr (A,T)) (dr (A,T))-dt (dr (A,F)) (dr (A,T)):=by unfold dt dr;grind
   omega
 rcases h with h|h
 .exact key h ho
 .rw[AG] at ho;exact(key h ho).symm
end
def ph(M:Int)(x:PB):Sg:=(PM M x.f,PM M x.t)
def sS(M:Int)(Xs:List PB):List Sg:=Xs.map (ph M)
def jZ(M:Int)(Xs:List PB)(s:Sg):Sg:=match(List.range Xs.length).find? (λi=>decide (ph M (xi Xs i)=s)) with
 |some i=>ph M (xi Xs (dC Xs i))
 |none=>s
section
variable{rg:List (List Pt)}{l:List Nd}{r:Int}{Xs:List PB}
theorem SX.EF(h:SX rg l r Xs){i j:Nat}(hi:i<Xs.length)(hj:j<Xs.length)(e:ph (aP l) (xi Xs i)=ph (aP l) (xi Xs j)):i=j:=by
 obtain⟨_,a1,a2⟩:=gS h.nl (h.sd hi).pc;obtain⟨_,b1,b2⟩:=gS h.nl (h.sd hj).pc;exact h.EE i j hi hj (qX h.nl a1 b1 (aZ Prod.fst e)) (qX h.nl a2 b2 (aZ Prod.snd e))
theorem kI(M:Int){s:Sg}(hs:s∈sS M Xs):∃i,i<Xs.length/\s=ph M (xi Xs i):=by
 obtain⟨x,hx,rfl⟩:=bQ.1 hs;obtain⟨i,hi,e⟩:=kO.1 hx;exact⟨i,hi,by rw[<-e];unfold xi;rw[nN,bo hi];rfl⟩
theorem Ii(M:Int){i:Nat}(hi:i<Xs.length):ph M (xi Xs i)∈sS M Xs:=bQ.2 ⟨_,iH hi,rfl⟩
theorem BX(h:SX rg l r Xs){i:Nat}(hi:i<Xs.length):jZ (aP l) Xs (ph (aP l) (xi Xs i))=ph (aP l) (xi Xs (dC Xs i)):=by
 unfold jZ;cases hf:(List.range Xs.length).find? (λj=>decide (ph (aP l) (xi Xs j)=ph (aP l) (xi Xs i))) with
 |none=>
  have:=List.find?_eq_none.1 hf i (sU.2 hi);simp at this
 |some j=>
  have hj:=sU.1 (List.mem_of_find?_eq_some hf);have e:=List.find?_some hf;simp only;rw[SX.EF h hj hi (fV e)]
theorem SX.wd(h:SX rg l r Xs)(hB:BD Xs):Wd (sS (aP l) Xs) (jZ (aP l) Xs):=by
 have hN:=h.nl;obtain⟨hM,hO⟩:=cS.ok hN;have ml:∀{i},i<Xs.length->(xi Xs i).f∈l/\(xi Xs i).t∈l:=λhi=>(gS hN (h.sd hi).pc).2
 have wn:∀{i},i<Xs.length->wv (xi Xs i).f (xi Xs i).t≠(0,0):=λhi=>(gS hN (h.sd hi).pc).1
 have pd:∀{i},i<Xs.length->Pm (dr (ph (aP l) (xi Xs i))) (wv (xi Xs i).f (xi Xs i).t):=λhi=>iP hM (hO _ (ml hi).1) (hO _ (ml hi).2)
 have nb:∀{i j},i<Xs.length->j<Xs.length->(xi Xs j).f=(xi Xs i).t->bh (wv (xi Xs j).f (xi Xs j).t) (neg (wv (xi Xs i).f (xi Xs i).t))=false:=λ{i j} hi hj e=>by
  have h1:=h.sd hi;have h2:=h.sd hj;rw[e] at h2⊢;have:=h1.rV hN h2;rw[fT (xi Xs i).f] at this;exact this
 have W1:∀{i j},i<Xs.length->j<Xs.length->(xi Xs j).f=(xi Xs i).t->cw (neg (wv (xi Xs i).f (xi Xs i).t)) (wv (xi Xs j).f (xi Xs j).t) (wv (xi Xs (dC Xs i)).f (xi Xs (dC Xs i)).t)=false:=λ{i j} hi hj e=>by
  obtain⟨n1,n2,n3⟩:=h.next hB hi
  have k:=n3 j hj e;rw[MJ] at k;have t:=FU (a:=neg (wv (xi Xs i).f (xi Xs i).t)) (kR (wn hi)) (wn hj) (wn n1) (nb hi hj e) (nb hi n1 n2);rw[neg_neg] at t;cases q:cw (neg (wv (xi Xs i).f (xi Xs i).t)) (wv (xi Xs j).f (xi Xs j).t) (wv (xi Xs (dC Xs i)).f (xi Xs (dC Xs i)).t)
  .rfl
  .exact absurd (t.2 q) k
 refine⟨λs hs e=>?_,λs hs u hu=>?_,λs hs u hu ho=>?_,λs hs u hu ho=>?_,λs hs u hu e k=>?_,λs hs u hu e k=>?_,λs hs u hu e=>?_,λs hs=>?_,λs hs u hu e=>?_,λs hs u hu e=>?_,λs hs u hu e=>?_⟩
 .obtain⟨i,hi,rfl⟩:=kI _ hs;exact wn hi ((pd hi).zero.1 (mQ.2 e))
 .obtain⟨i,hi,rfl⟩:=kI _ hs;obtain⟨j,hj,rfl⟩:=kI _ hu;rw[(pd hi).bV];rcases(h.sd hi).pc with q|q
  .exact⟨λ_=>Sc hM hO hN q (h.sd hj).pc,λk=>absurd (q.facts hN).2.2 k⟩
  .have hr:=(q.facts hN).2.2;refine⟨λk=>?_,λ_=>Sc hM hO hN q (h.sd hj).pc⟩
   rw[fT (xi Xs i).f] at hr;exact absurd hr (λw=>H6 k w)
 .obtain⟨i,hi,rfl⟩:=kI _ hs;obtain⟨j,hj,rfl⟩:=kI _ hu;rcases SN hN (ml hi).1 (h.sd hj).pc ho with q|q
  .exact aU (aZ (PM (aP l)) q)
  .exact aT (aZ (PM (aP l)) q)
 .obtain⟨i,hi,rfl⟩:=kI _ hs;obtain⟨j,hj,rfl⟩:=kI _ hu;rcases SN hN (ml hi).2 (h.sd hj).pc ho with q|q
  .exact aU (aZ (PM (aP l)) q)
  .exact aT (aZ (PM (aP l)) q)
 .obtain⟨i,hi,rfl⟩:=kI _ hs;obtain⟨j,hj,rfl⟩:=kI _ hu;have ef:(xi Xs i).f=(xi Xs j).f:=qX hN (ml hi).1 (ml hj).1 e;rw[(pd hi).bh (pd hj)] at k;have h2:=(h.sd hj).pc;rw[<-ef] at k h2;have et:=BH hN (h.sd hi).pc h2 k;exact aZ (λi=>ph (aP l) (xi Xs i)) (h.EE i j hi hj ef et)
 .obtain⟨i,hi,rfl⟩:=kI _ hs;obtain⟨j,hj,rfl⟩:=kI _ hu;have et:(xi Xs i).t=(xi Xs j).t:=qX hN (ml hi).2 (ml hj).2 e;rw[(pd hi).bh (pd hj)] at k;have h2:=(h.sd hj).pc.symm;rw[<-et] at k h2;have k2:bh (wv (xi Xs i).t (xi Xs i).f) (wv (xi Xs i).t (xi Xs j).f)=true:=by
   rw[fT (xi Xs i).f,fT (xi Xs j).f,dP,gu,gF,sZ,mD];rw[dP] at k;omega
  have ef:=BH hN (h.sd hi).pc.symm h2 k2;exact aZ (λi=>ph (aP l) (xi Xs i)) (h.EE i j hi hj ef et)
 .obtain⟨i,hi,rfl⟩:=kI _ hs;obtain⟨j,hj,rfl⟩:=kI _ hu;have ef:(xi Xs i).f=(xi Xs j).t:=qX hN (ml hi).1 (ml hj).2 e;rw[(pd hi).bh (pd hj).neg];exact nb hj hi ef
 .obtain⟨i,hi,rfl⟩:=kI _ hs;rw[BX h hi];obtain⟨n1,n2,_⟩:=h.next hB hi
  exact⟨Ii _ n1,aZ (PM (aP l)) n2⟩
 .obtain⟨i,hi,rfl⟩:=kI _ hs;obtain⟨j,hj,rfl⟩:=kI _ hu;rw[BX h hi,BX h hj] at e;exact aZ (λi=>ph (aP l) (xi Xs i)) (h.inj hB hi hj (SX.EF h (h.next hB hi).1 (h.next hB hj).1 e))
 .obtain⟨i,hi,rfl⟩:=kI _ hs;obtain⟨j,hj,rfl⟩:=kI _ hu;have ef:(xi Xs j).f=(xi Xs i).t:=qX hN (ml hj).1 (ml hi).2 e;rw[BX h hi,(pd hi).neg.cw (pd hj) (pd (h.next hB hi).1)]
  exact W1 hi hj ef
 .obtain⟨i,hi,rfl⟩:=kI _ hs;obtain⟨j,hj,rfl⟩:=kI _ hu;have et:(xi Xs j).t=(xi Xs i).t:=qX hN (ml hj).2 (ml hi).2 e;obtain⟨n1,n2,_⟩:=h.next hB hi
  rw[BX h hi,(pd hi).neg.cw (pd hj).neg (pd n1)];have abO:=kR (wn hi);have abP:=kR (wn hj);cases q:cw (neg (wv (xi Xs i).f (xi Xs i).t)) (neg (wv (xi Xs j).f (xi Xs j).t)) (wv (xi Xs (dC Xs i)).f (xi Xs (dC Xs i)).t)
  .rfl
  .exfalso;by_cases hij:i=j
   .subst hij;rw[nR,tA] at q;simp at q
   have hsm:bh (neg (wv (xi Xs i).f (xi Xs i).t)) (neg (wv (xi Xs j).f (xi Xs j).t))=false:=by
    cases k:bh (neg (wv (xi Xs i).f (xi Xs i).t)) (neg (wv (xi Xs j).f (xi Xs j).t))
    .rfl
    .rw[<-fT,<-fT] at k;have h2:=(h.sd hj).pc.symm;rw[et] at k h2;exact absurd (h.EE i j hi hj (BH hN (h.sd hi).pc.symm h2 k) et.symm) hij
   have a1:=(h.sd hi).BG hN;have a2:=(h.sd hj).BG hN;rw[et] at a2;have e1:wv (xi Xs i).t (xi Xs j).f=neg (wv (xi Xs j).f (xi Xs j).t):=by rw[<-et];exact fT _ _
   rw[fT (xi Xs i).f] at a1;rw[e1] at a2;obtain⟨z,hz,mZ⟩:=WB abO abP hsm a1.1 a1.2 a2.1 a2.2 (wn n1) (nb hi n1 n2) (nb hj n1 (n2.trans et.symm));obtain⟨m,hm,SP⟩:=Mm hN (ml hi).2 hz;obtain⟨v,hv,v1,v2⟩:=h.find hm;have hw1:=W1 hi hv v1;have hvn:=wn hv;have e2:wv (xi Xs i).t m=wv (xi Xs v).f (xi Xs v).t:=by rw[v1,v2]
   rw[e2] at SP;rcases mZ with k|k
   .rw[Mn (F5 SP)] at k;rw[hw1] at k;cases k
   .rw[Mn (F5 SP)] at k;have:=ams abO abP (wn n1) hvn q k;rw[hw1] at this;cases this
end
def om(M:Int)(es:List (Pt×Pt)):List (Pt×Pt):=es.map λe=>(cz M e.1,cz M e.2)
theorem amu{M:Int}(hM:0<M)(h:cz M u=cz M v):u=v:=by
 unfold cz at h;have x1:=aZ Prod.fst h;have x2:=aZ Prod.snd h;simp only at x1 x2;exact eB (Ao aa x1) (Ao aa x2)
theorem amv{M:Int}(hM:0<M)(g:List Pt):fZ (g.map (cz M))=om M (fZ g):=by
 have e:closing (g.map (cz M))=om M (closing g):=by
  cases g with
  |nil=>rfl
  |cons a r=>
   unfold om closing;show(cz M a::r.map (cz M)).zip (r.map (cz M)++[cz M a])=_;have e1:cz M a::r.map (cz M)=(a::r).map (cz M):=rfl;have e2:r.map (cz M)++[cz M a]=(r++[a]).map (cz M):=af
   rw[e1,e2,List.zip_map];rfl
 unfold fZ;rw[e];unfold om;rw[List.filter_map];congr 1;refine List.filter_congr λx _=>?_
 simp only[Function.comp_apply];refine decide_eq_decide.2 ⟨λh k=>h (by rw[k]),λh k=>h (amu hM k)⟩
theorem EG{M:Int}(hM:0<M)(rg:List (List Pt)):aR (rg.map (·.map (cz M)))=om M (aR rg):=by
 induction rg with
 |nil=>rfl
 |cons g rg ih=>
  have e1:aR ((g::rg).map (·.map (cz M)))=fZ (g.map (cz M))++aR (rg.map (·.map (cz M))):=by simp[aR]
  have e2:aR (g::rg)=fZ g++aR rg:=by simp[aR]
  rw[e1,e2,amv hM,ih];unfold om;rw[jC]
theorem abQ{u' v':Pt}(h:Pm u u')(k:Pm v v'):right u v=right u' v':=by
 have c:=h.cr k;obtain⟨p,q,hp,hq,e1,_⟩:=h;obtain⟨p',q',hp',hq',lY,_⟩:=k;have a:=jl hp hq e1;have b:=jl hp' hq' lY;unfold right;by_cases h1:u.1<=0/\0<v.1/\0<cr u v
 .rw[aV h1,aV aa]
 .rw[aQ h1,aQ (by omega:¬(u'.1<=0/\0<v'.1/\0<cr u' v'))]
  by_cases h2:0<u.1/\v.1<=0/\cr u v<0
  .rw[aV h2,aV aa]
  .rw[aQ h2,aQ aa]
theorem SQ(F:Pt->Pt->Int)(g:Pt×Pt->Pt×Pt)(es:List (Pt×Pt)):total F (es.map g)=total (λu v=>F (g (u,v)).1 (g (u,v)).2) es:=by
 unfold total;rw[iC];rfl
section
variable{M:Int}
theorem vE(hM:0<M){a:Nd}(ha:OK M a)(u:Pt):Pm (rl (n1 (PM M a)) (cz M u)) (rl a u):=by
 obtain⟨k,hk,ek⟩:=Mp hM ha;rw[fk,ek];exact xz hk _
theorem abR(hM:0<M){a:Nd}(ha:OK M a)(es:List (Pt×Pt)):PP (om M es) (n1 (PM M a))=PP es a:=by
 unfold PP om;rw[SQ];exact nO λe _=>abQ (vE hM ha e.1) (vE hM ha e.2)
theorem abS(hM:0<M){a:Nd}(ha:OK M a)(es:List (Pt×Pt)){Q Q':Pt->Bool}(hQ:∀z z',Pm z z'->Q z=Q' z'):AS (om M es) (n1 (PM M a)) Q=AS es a Q':=by
 unfold AS om;rw[SQ];refine nO λe _=>?_
 have h1:=vE hM ha e.1;have h2:=vE hM ha e.2;unfold Ga.arm;rw[h1.on h2,hQ _ _ h1,hQ _ _ h2]
theorem amw{z z':Pt}(h:Pm z z'):nz z=nz z':=by
 unfold nz;exact decide_eq_decide.2 (not_congr h.zero)
theorem amx(hM:0<M){a:Nd}(ha:OK M a)(es:List (Pt×Pt)){d d':Pt}(hd:Pm d d'):eD (om M es) (n1 (PM M a)) d=eD es a d'/\fS (om M es) (n1 (PM M a)) d=fS es a d':=by
 have e1:eD (om M es) (n1 (PM M a)) d=eD es a d':=by
  unfold eD;rw[abR hM ha,abS hM ha es (Q':=λz=>nz z&&bf z d')]
  intro z z' hz;rw[amw hz,hz.bf hd]
 refine⟨e1,?_⟩;unfold fS;rw[e1,abS hM ha es (Q':=λz=>bh z d')]
 intro z z' hz;exact hz.bh hd
end
section
variable{rg:List (List Pt)}{l:List Nd}
theorem MN(hN:cS (aR rg) l){f t:Nd}(h:dF (aR rg) l f t):uI (aR (rg.map (·.map (cz (aP l))))) (n1 (PM (aP l) f)) (n1 (PM (aP l) t)):=by
 obtain⟨hM,hO⟩:=cS.ok hN;obtain⟨hf,ht,hr⟩:=h.facts hN;have hP:=h.oP hN;have p0:=iP hM (hO f hf) (hO t ht);rw[EG hM];have mem:∀e∈om (aP l) (aR rg),∃e0∈aR rg,e=(cz (aP l) e0.1,cz (aP l) e0.2):=λe he=>by
  obtain⟨e0,h0,rfl⟩:=bQ.1 he;exact⟨e0,h0,rfl⟩
 have cc:∀z:Pt,oO f t (wv f t) z->oO (n1 (PM (aP l) f)) (n1 (PM (aP l) t)) (dr (PM (aP l) f,PM (aP l) t)) (cz (aP l) z):=λz hz hl=>by
  have q1:=vE hM (hO f hf) z;have q2:=vE hM (hO t ht) z;have:=hz ((p0.cr q1).2.2.1 hl);have a:=(p0.dt q1).1;have b:=(p0.dt q2).2.1;omega
 refine⟨by show(0:Int)<1;decide,by show(0:Int)<1;decide,by rw[lX];exact p0.bV.2 hr,λe he=>?_,λe he=>?_⟩
 .obtain⟨e0,h0,rfl⟩:=mem e he;rw[lX];exact abd hM (hO f hf) (hO t ht) (hP.s e0 h0)
 .obtain⟨e0,h0,rfl⟩:=mem e he;rw[lX];exact⟨cc _ (hP.c e0 h0).1,cc _ (hP.c e0 h0).2⟩
theorem SR(hN:cS (aR rg) l){f t:Nd}(h:dF (aR rg) l f t):
  RR (aR (rg.map (·.map (cz (aP l))))) (n1 (PM (aP l) f)) (n1 (PM (aP l) t))=RR (aR rg) f t/\LL (aR (rg.map (·.map (cz (aP l))))) (n1 (PM (aP l) f)) (n1 (PM (aP l) t))=LL (aR rg) f t:=by
 obtain⟨hM,hO⟩:=cS.ok hN;obtain⟨hf,ht,_⟩:=h.facts hN;have a:=wH (MN hN h);have b:=wH (h.oP hN);have c:=amx hM (hO f hf) (aR rg) (iP hM (hO f hf) (hO t ht));rw[EG hM] at a⊢;rw[lX,c.1,c.2] at a;exact⟨a.1.trans b.1.symm,a.2.trans b.2.symm⟩
end
theorem Ij{α:Type}(w:α->Int)(p q:α->Bool):∀(l:List α),cU w p (l.filter q)=cU w (λx=>q x&&p x) l
 |[]=>rfl
 |x::l=>by
  have ih:=Ij w p q l;rw[ua];cases h:q x
  .rw[wu (by simp[h]),ih]
   simp
  .rw[Ax h,ua,ih];simp
theorem SS{α:Type}(w:α->Int){p q:α->Bool}:∀{l:List α},(∀x∈l,w x≠0->p x=q x)->cU w p l=cU w q l
 |[],_=>rfl
 |x::l,h=>by
  rw[ua,ua,SS w λy hy=>h y (bX _ hy)]
  congr 1;by_cases hw:w x=0
  .rw[hw];split<;>split<;>rfl
  .rw[h x af hw]
def fE(n:N3)(a b:Pt):Prop:=(rl n a).1<=0/\0<(rl n b).1
theorem EH(h:fE n a b):kW n (a,b)=(rl n b).1-(rl n a).1/\kY n (a,b)= -cr (rl n a) (rl n b)/\kS n (a,b)=(rl n b).2-(rl n a).2/\kW n (b,a)=(rl n b).1-(rl n a).1/\kY n (b,a)= -cr (rl n a) (rl n b)/\kS n (b,a)=(rl n b).2-(rl n a).2:=by
 have h':¬((rl n b).1<=0/\0<(rl n a).1):=λk=>by unfold fE at h;omega
 refine⟨aV h,aV h,aV h,?_,?_,?_⟩
 .exact(aQ h').trans (aV h)
 .exact(aQ h').trans (aV h)
 .exact(aQ h').trans (aV h)
theorem abT{e:Pt×Pt}(h:wt n e≠0):fE n e.1 e.2\/fE n e.2 e.1:=by
 by_cases h1:(rl n e.1).1<=0/\0<(rl n e.2).1
 .exact aU h1
 .by_cases h2:(rl n e.2).1<=0/\0<(rl n e.1).1
  .exact aT h2
  .exact absurd ((aQ h1).trans (aQ h2)) h
theorem abU{e:Pt×Pt}(h:kY n e<0):fE n e.1 e.2\/fE n e.2 e.1:=by
 by_cases h1:(rl n e.1).1<=0/\0<(rl n e.2).1
 .exact aU h1
 .by_cases h2:(rl n e.2).1<=0/\0<(rl n e.1).1
  .exact aT h2
  .have:kY n e=0:=(aQ h1).trans (aQ h2);omega
theorem Ik(n:N3)(e:Pt×Pt):kW n (rv e)=kW n e/\kY n (rv e)=kY n e/\kS n (rv e)=kS n e:=by
 by_cases h1:fE n e.1 e.2
 .obtain⟨a,b,c,d,e1,f⟩:=EH h1;exact⟨d.trans a.symm,e1.trans b.symm,f.trans c.symm⟩
 .by_cases h2:fE n e.2 e.1
  .obtain⟨a,b,c,d,e1,f⟩:=EH h2;exact⟨a.trans d.symm,b.trans e1.symm,c.trans f.symm⟩
  .exact⟨((aQ h2).trans (aQ h1)).trans ((aQ h1).trans (aQ h2)).symm,((aQ h2).trans (aQ h1)).trans ((aQ h1).trans (aQ h2)).symm,((aQ h2).trans (aQ h1)).trans ((aQ h1).trans (aQ h2)).symm⟩
theorem zN(n:N3)(e e':Pt×Pt):bH n (rv e) e'=bH n e e'/\bH n e' (rv e)=bH n e' e:=by
 unfold bH;rw[(Ik n e).1,(Ik n e).2.1,(Ik n e).2.2];exact⟨rfl,rfl⟩
theorem MO{x y:Pt×Pt}(hy:kY n y<0)(h:bH n y x=false):kY n x<0:=by
 have h':¬_:=λk=>by rw[BK.2 k] at h;cases h
 have px:=rW n x;have py:=rW n y;have q1:=(Ga.neg_mul (z:=kY n y) px).2 hy;have q2:=Ga.neg_mul (z:=kY n x) py;rw[fg] at q1 q2;exact q2.1 aa
theorem abV{f t:Pt}(h:fE n a b)(k:fE n f t)(la:cr (dr (f,t)) (dr (f,a))=0)(lb:cr (dr (f,t)) (dr (f,b))=0)(_hn:0<n.2.2):bH n (a,b) (f,t)=false/\bH n (f,t) (a,b)=false:=by
 obtain⟨a1,a2,a3,_⟩:=EH h;obtain⟨b1,b2,b3,_⟩:=EH k;have e:∀u v:Pt,((rl n v).1-(rl n u).1=n.2.2*(dr (u,v)).1)/\((rl n v).2-(rl n u).2=n.2.2*(dr (u,v)).2):=λu v=>by
  unfold rl rel dr;simp only;constructor<;>grind
 have s1:cr (dr (f,t)) (dr (a,b))=0:=by
  have:cr (dr (f,t)) (dr (a,b))=cr (dr (f,t)) (dr (f,b))-cr (dr (f,t)) (dr (f,a)):=by unfold cr dr;grind
  omega
 have hS:kS n (a,b)*kW n (f,t)=kS n (f,t)*kW n (a,b):=by
  rw[a1,a3,b1,b3,(e a b).1,(e a b).2,(e f t).1,(e f t).2];unfold cr at s1;have:n.2.2*(dr (a,b)).2*(n.2.2*(dr (f,t)).1)-n.2.2*(dr (f,t)).2*(n.2.2*(dr (a,b)).1)=n.2.2*n.2.2*((dr (f,t)).1*(dr (a,b)).2-(dr (f,t)).2*(dr (a,b)).1):=by grind
  rw[s1] at this;omega
 have hY:kY n (a,b)*kW n (f,t)=kY n (f,t)*kW n (a,b):=by
  rw[a1,a2,b1,b2,(e a b).1,(e f t).1];have c1:cr (rl n a) (rl n b)=n.2.2*cr (rl n a) (dr (a,b)):=by
   have:cr (rl n a) (rl n b)=(rl n a).1*((rl n b).2-(rl n a).2)-(rl n a).2*((rl n b).1-(rl n a).1):=by unfold cr;grind
   rw[this,(e a b).1,(e a b).2];unfold cr;grind
  have c2:cr (rl n f) (rl n t)=n.2.2*cr (rl n f) (dr (f,t)):=by
   have:cr (rl n f) (rl n t)=(rl n f).1*((rl n t).2-(rl n f).2)-(rl n f).2*((rl n t).1-(rl n f).1):=by unfold cr;grind
   rw[this,(e f t).1,(e f t).2];unfold cr;grind
  have c3:cr (rl n a) (dr (f,t))=cr (rl n f) (dr (f,t)):=by
   have:cr (rl n a) (dr (f,t))-cr (rl n f) (dr (f,t))=((rl n a).1-(rl n f).1)*(dr (f,t)).2-((rl n a).2-(rl n f).2)*(dr (f,t)).1:=by unfold cr;grind
   rw[(e f a).1,(e f a).2] at this;have w:n.2.2*(dr (f,a)).1*(dr (f,t)).2-n.2.2*(dr (f,a)).2*(dr (f,t)).1= -(n.2.2*cr (dr (f,t)) (dr (f,a))):=by unfold cr;grind
   rw[w,la] at this;simp at this;omega
  have c4:cr (rl n a) (dr (a,b))*(dr (f,t)).1=cr (rl n a) (dr (f,t))*(dr (a,b)).1:=by
   have:cr (rl n a) (dr (a,b))*(dr (f,t)).1-cr (rl n a) (dr (f,t))*(dr (a,b)).1=(rl n a).1*cr (dr (f,t)) (dr (a,b)):=by unfold cr;grind
   rw[s1] at this;simp at this;omega
  rw[c1,c2];have x1: -(n.2.2*cr (rl n a) (dr (a,b)))*(n.2.2*(dr (f,t)).1)= -(n.2.2*n.2.2*(cr (rl n a) (dr (a,b))*(dr (f,t)).1)):=by grind
  have x2: -(n.2.2*cr (rl n f) (dr (f,t)))*(n.2.2*(dr (a,b)).1)= -(n.2.2*n.2.2*(cr (rl n f) (dr (f,t))*(dr (a,b)).1)):=by grind
  rw[x1,x2,c4,c3]
 unfold bH;rw[hS,hY];simp
theorem MQ{x y z:Pt×Pt}(h1:bH n x y=false)(h2:bH n y x=false):bH n z x=bH n z y/\bH n x z=bH n y z:=by
 have a:=BM n;constructor
 .refine lF.2 ⟨λk=>?_,λk=>?_⟩
  .rcases a z x y k with q|q
   .rw[h2] at q;cases q
   .exact q
  .rcases a z y x k with q|q
   .rw[h1] at q;cases q
   .exact q
 .refine lF.2 ⟨λk=>?_,λk=>?_⟩
  .rcases a x z y k with q|q
   .exact q
   .rw[h1] at q;cases q
  .rcases a y z x k with q|q
   .exact q
   .rw[h2] at q;cases q
theorem hts{rg:List (List Pt)}(hn:0<n.2.2)(h:fE n a b)(hP:uI (aR rg) (n1 a) (n1 b)):
  RR (aR rg) (n1 a) (n1 b)=cU (wt n) (λe=>bH n e (a,b)) (aR rg)/\LL (aR rg) (n1 a) (n1 b)=cU (wt n) (λe=> !bH n (a,b) e) (aR rg):=by
 obtain⟨k1,k2,k3,_⟩:=EH h;have hw:∀z:Pt,(wv n (n1 z)).1=(rl n z).1:=λz=>by unfold wv rl rel n1;simp
 have hD:0<(wv (n1 a) (n1 b)).1:=by
  rw[lX];have:(rl n b).1-(rl n a).1=n.2.2*(dr (a,b)).1:=by unfold rl rel dr;simp only;grind
  unfold fE at h;exact(bO hn).1 aa
 have hZ:=abj (a:=a) (b:=b) hn (show(0:Int)<1 by decide) (show(0:Int)<1 by decide) h.1 h.2 (by rw[hw];exact h.1) (by rw[hw];exact h.2) hD (by unfold lam;rw[fk,(mQ (s:=(a,a))).2 rfl];exact(Dd _).2.1) (by unfold lam;rw[fk,lX];unfold cr;grind)
 rw[<-k1,<-k2,<-k3] at hZ;obtain⟨r1,r2⟩:=abp (e0:=(a,b)) hn hP hZ (by rw[hw];exact h.1) (by rw[hw];exact h.2)
 refine⟨r1,?_⟩;have e:LL (aR rg) (n1 a) (n1 b)=RR (aR rg) (n1 a) (n1 b)+total (fb (cC (n1 a) (n1 b)) (wv (n1 a) (n1 b))) (aR rg):=rfl;rw[e,r1,r2];refine(xA _ λx _=>?_).symm
 cases q1:bH n x (a,b)<;>cases q2:bH n (a,b) x
 .rfl
 .rfl
 .rfl
 .have:=zB n _ _ _ q1 q2;rw[ub] at this;cases this
section
variable{rg:List (List Pt)}{l:List Nd}
theorem amy(hN:cS (aR rg) l){bu:Int->Bool}{n:Nd}(hn:n∈l)(hin:bu (PP (aR rg) n)=true){a b:Nd}(hs:Sd (aR rg) l bu a b)(hc:fE (n1 (PM (aP l) n)) (PM (aP l) b) (PM (aP l) a))(hy:kY (n1 (PM (aP l) n)) (PM (aP l) b,PM (aP l) a)<0):
  ∃f t,Sd (aR rg) l bu f t/\fE (n1 (PM (aP l) n)) (PM (aP l) f) (PM (aP l) t)/\kY (n1 (PM (aP l) n)) (PM (aP l) f,PM (aP l) t)<0/\bH (n1 (PM (aP l) n)) (PM (aP l) b,PM (aP l) a) (PM (aP l) f,PM (aP l) t)=true:=by
 obtain⟨hM,hO⟩:=cS.ok hN;have vF:0<(n1 (PM (aP l) n)).2.2:=by show(0:Int)<1;decide
 have Il:∀{x y:Nd},x∈l->y∈l->(fE (n1 (PM (aP l) n)) (PM (aP l) x) (PM (aP l) y)↔(wv n x).1<=0/\0<(wv n y).1):=λ{x y} hx hy=>by
  obtain⟨p,q,hp,hq,e1,_⟩:=iP hM (hO n hn) (hO x hx);obtain⟨p',q',hp',hq',lY,_⟩:=iP hM (hO n hn) (hO y hy);have g1:=jl hp hq e1;have g2:=jl hp' hq' lY;unfold fE;rw[fk,fk];omega
 have hpc:dF (aR rg) l b a/\bu (LL (aR rg) b a)=false:=by
  obtain⟨_,hal,hbl⟩:=gS hN hs.pc;have hw:=(Il hbl hal).1 hc;rcases hs with⟨q,_⟩|⟨q,q1,q2⟩
  .exfalso;have hr:=(q.facts hN).2.2;have ca:=(hN.can a hal).pos;have cb:=(hN.can b hbl).pos;obtain⟨m1,_⟩:=BN n a b;have cn:=(hN.can n hn).pos;have h1:n.2.2*(wv a b).1<0:=by
    have x1:=JZ hw.1 ca;have x2:=bJ hw.2 cb;rw[fg] at x1 x2;omega
   have:=(Ga.neg_mul (z:=(wv a b).1) cn).1 h1;have:=yK hr;omega
  .exact⟨q,q2⟩
 obtain⟨hpc,hout⟩:=hpc;obtain⟨e1,e2⟩:=SR hN hpc;obtain⟨r1,r2⟩:=hts vF hc (MN hN hpc);rw[<-e2,r2] at hout;rw[<-abR hM (hO n hn),<-EG hM,Sm] at hin;generalize hE:aR (rg.map (·.map (cz (aP l))))=E at*
 generalize hNn:n1 (PM (aP l) n)=N at*;generalize hV:((PM (aP l) b,PM (aP l) a):Pt×Pt)=V at*;have k1:cU (wt N) (λe=>decide (kY N e<0)) E=cU (wt N) (λe=> !bH N V e) E+cU (wt N) (λe=>decide (kY N e<0)) (E.filter λe=>bH N V e):=by
  rw[Ij];refine xA _ λx _=>?_
  cases q:bH N V x
  .rw[dO (MO hy q)];rfl
  .cases decide (kY N x<0)<;>rfl
 rw[k1] at hin;obtain⟨z,hz,hT,hb,ha⟩:=abf (zB N) (ub N) (BM N) (wt N) (λk=>bu (cU (wt N) (λe=> !bH N V e) E+k)) (by simpa using hout) (E.filter λe=>bH N V e) _ (λe=>decide (kY N e<0)) (λx y hy hyx=>dO (MO (fV hy) hyx)) (aY _) hin
 obtain⟨hzE,SU⟩:=iz.1 hz;have hT':=fV hT;have k2:cU (wt N) (λe=>bH N e z) E=cU (wt N) (λe=> !bH N V e) E+cU (wt N) (λe=>bH N e z) (E.filter λe=>bH N V e):=by
  rw[Ij];refine xA _ λx _=>?_
  cases q:bH N V x
  .rcases BM N V z x SU with w|w
   .rw[w];rfl
   .rw[w] at q;cases q
  .cases bH N x z<;>rfl
 have k3:cU (wt N) (λe=> !bH N e z&& !bH N z e) (E.filter λe=>bH N V e)=cU (wt N) (λe=> !bH N e z&& !bH N z e) E:=by
  rw[Ij];refine Ms _ λx _=>?_
  cases q:bH N V x
  .rcases BM N V z x SU with w|w
   .rw[w];rfl
   .rw[w] at q;cases q
  .rfl
 rw[<-k2] at hb;rw[k3,<-Int.add_assoc,<-k2] at ha;have wJ:z∈om (aP l) (aR rg):=by rw[<-EG hM,hE];exact hzE
 obtain⟨z0,hz0,hzz⟩:=bQ.1 wJ;have SV:∀u v:Pt,fE N (cz (aP l) u) (cz (aP l) v)↔(rl n u).1<=0/\0<(rl n v).1:=λu v=>by
  obtain⟨p,q,hp,hq,e1,_⟩:=vE hM (hO n hn) u;obtain⟨p',q',hp',hq',lY,_⟩:=vE hM (hO n hn) v;have g1:=jl hp hq e1;have g2:=jl hp' hq' lY;unfold fE;rw[<-hNn];omega
 obtain⟨u,v,Im,Io⟩:∃u v,((u=z0.1/\v=z0.2)\/(u=z0.2/\v=z0.1))/\fE N (cz (aP l) u) (cz (aP l) v):=by
  rcases abU hT' with q|q
  .rw[<-hzz] at q;exact⟨z0.1,z0.2,aU ⟨rfl,rfl⟩,q⟩
  .rw[<-hzz] at q;exact⟨z0.2,z0.1,aT ⟨rfl,rfl⟩,q⟩
 have Ip:=(SV u v).1 Io;obtain⟨f,t,hft,g1,g2,g3,la,lb⟩:=abh hN hn hz0 Im Ip.1 Ip.2;obtain⟨hfl,htl,_⟩:=hft.facts hN;have vD:fE N (PM (aP l) f) (PM (aP l) t):=by rw[<-hNn] at*;exact(Il hfl htl).2 ⟨g1,g2⟩
 have p0:=iP hM (hO f hfl) (hO t htl);have rC:∀w,lam (wv f t) f w=0->cr (dr (PM (aP l) f,PM (aP l) t)) (dr (PM (aP l) f,cz (aP l) w))=0:=λw hw=>by
  have:=vE hM (hO f hfl) w;rw[fk] at this;exact(p0.cr this).2.2.2 hw
 obtain⟨s1,s2⟩:=abV Io vD (rC u la) (rC v lb) vF;have hzl:bH N z (PM (aP l) f,PM (aP l) t)=false/\bH N (PM (aP l) f,PM (aP l) t) z=false:=by
  rcases Im with⟨rfl,rfl⟩|⟨rfl,rfl⟩
  .rw[<-hzz];exact⟨s1,s2⟩
  .have e:z=rv (cz (aP l) z0.2,cz (aP l) z0.1):=by rw[<-hzz];rfl
   rw[e,(zN N _ _).1,(zN N _ _).2];exact⟨s1,s2⟩
 have hP:=MN hN hft;obtain⟨i1,i2⟩:=SR hN hft;obtain⟨j1,j2⟩:=hts vF vD (by rw[hE] at hP⊢;exact hP)
 rw[hE] at i1 i2 j1 j2;have cg:∀x,bH N x (PM (aP l) f,PM (aP l) t)=bH N x z/\bH N (PM (aP l) f,PM (aP l) t) x=bH N z x:=λx=>⟨(MQ hzl.1 hzl.2).1.symm,(MQ hzl.1 hzl.2).2.symm⟩
 refine⟨f,t,aU ⟨hft,?_,?_⟩,vD,MO hT' hzl.1,?_⟩
 .rw[<-i2,j2];have:cU (wt N) (λe=> !bH N (PM (aP l) f,PM (aP l) t) e) E=cU (wt N) (λe=>bH N e z) E+cU (wt N) (λe=> !bH N e z&& !bH N z e) E:=by
   refine xA _ λx _=>?_
   rw[(cg x).2];cases q1:bH N x z<;>cases q2:bH N z x
   .rfl
   .rfl
   .rfl
   .have:=zB N _ _ _ q1 q2;rw[ub] at this;cases this
  rw[this];exact ha
 .rw[<-i1,j1,Ms _ λx _=>(cg x).1]
  exact hb
 .rw[(cg V).1];exact SU
end
end Gb
end Go.Proofs.YtkjhhooecopolaaGreatDoor

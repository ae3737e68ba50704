import Derived.Test.YtkjhhooecopolaaGreatDoorSz08
set_option maxRecDepth 100000
set_option maxHeartbeats 4000000
namespace Go.Proofs.YtkjhhooecopolaaGreatDoor
open Tryz
open Value renaming int->az,complex->aA,float->aB,agg->aC,bool->aD,string->aF,slice->aG,pointer->aH,tuple->aI
open IntKind renaming i64->aJ
open FloatKind renaming f64->aK
open Ending renaming returned->aL
open Go renaming World->aM,Value->aN,floatOfInt->aO
section
open Go.RowKit
variable{l m:Ge.Ln}{bs:List Nat}{Xs:List PB}{i g b:Nat}{x y:PB}{α:Type}{wr w w':aM}
def vT(Xs:List PB)(i j:Fin Xs.length):Int:=cE Xs[i].f Xs[j].f
def qm(Xs:List PB)(h:0<Xs.length):Array (Fin Xs.length):=
 haveI:Inhabited (Fin Xs.length):=⟨⟨0,h⟩⟩
 Sort.pdq (ltOf (vT Xs)) (Array.ofFn id) 0 Xs.length (Lib.bitLen Xs.length) true true
def zL(Xs:List PB):List PB:=if h:0<Xs.length then(qm Xs h).toList.map (λi=>Xs[i]) else[]
theorem MT{i j:Fin Xs.length}:ltOf (vT Xs) i j=true↔Ge.lt (Ge.aU Xs[i].f) (Ge.aU Xs[j].f):=by
 unfold ltOf vT cE Ge.lt;exact uV
theorem Iq{i j:Fin Xs.length}:ltOf (vT Xs) i j=false↔¬Ge.lt (Ge.aU Xs[i].f) (Ge.aU Xs[j].f):=by
 rw[<-MT];simp
theorem abU(hv:∀x∈Xs,eB x):Sort.SWO (ltOf (vT Xs)):=by
 have hc:∀i:Fin Xs.length,Ge.Can Xs[i].f:=λi=>(hv _ (iw i.2)).cf
 exact{
  irrefl:=λx=>Iq.2 (Ge.lt_irrefl _)
  trans:=λx y z h1 h2=>MT.2 (Ge.lt_trans (Ge.eA (hc x)) (Ge.eA (hc y)) (Ge.eA (hc z)) (MT.1 h1) (MT.1 h2))
  ntrans:=λx y z h1 h2=>Iq.2 λh=>Iq.1 h1 (Ge.lt_le_trans (hc x) (hc z) (hc y) h (Iq.1 h2))}
def zM(bs:List Nat)(n:Nat)(h:bs.length=n)(i:Fin n):aN:=aH (some ⟨bs[i]'(by rw[h];exact i.2),0,none⟩)
theorem abV[Inhabited α](enc:α->aN)(d':Array α)(n:Nat)(os:Array Obj){cur:Array aN}{t:TypeId}{fr:Nat×Nat}(hb:wr.heap[g]?=some (.cells cur t fr)):
  (sortWorld enc wr g 0 n d' os).heap[g]?=some (.cells (Sort.putCells enc 0 d' cur) t fr):=by
 have hg:=lt_of_heap hb;show((wr.heap.modify g (Sort.onCells (Sort.putCells enc 0 d')))++os)[g]?=_;rw[Ka (by simpa using hg),Db,aV rfl,hb]
 rfl
theorem Ir[Inhabited α](enc:α->aN)(d':Array α)(n:Nat)(os:Array Obj){k:Nat}(hk:k<wr.heap.size)(hne:g≠k):
  (sortWorld enc wr g 0 n d' os).heap[k]?=wr.heap[k]?:=by
 show((wr.heap.modify g (Sort.onCells (Sort.putCells enc 0 d')))++os)[k]?=_;rw[Ka (by simpa using hk),Db,aP hne]
theorem S4[Inhabited α](enc:α->aN)(d':Array α)(n:Nat)(os:Array Obj)(wr:aM)(g:Nat):wr.heap.size<=(sortWorld enc wr g 0 n d' os).heap.size:=by
 show _<=((wr.heap.modify g (Sort.onCells (Sort.putCells enc 0 d')))++os).size;rw[ahn,aho];omega
theorem abW[Inhabited α](enc:α->aN)(d:Array α)(c:Array aN)(h:d.size<=c.size):(Sort.putCells enc 0 d c).toList.take d.size=d.toList.map enc:=by
 apply FJ;intro t;rw[lH];by_cases ht:t<d.size
 .have h1:t<c.size:=aa
  rw[aV ht,jW,iy,jW];unfold Sort.putCells;rw[atw,pU h1,pU ht];simp[ht]
 .rw[aP ht,yK (by simp;omega)]
theorem amB{w1:aM}{cap:Nat}(h:BS w1 (aG (some ⟨g,0,none⟩) bs.length cap) bs Xs wr)(hv:∀x∈Xs,eB x)[Inhabited (Fin Xs.length)]:
  CmpLays1 prog 109 #[] (zM bs Xs.length h.len) (vT Xs) g 0 Xs.length wr:=by
 intro m os dk hdk x y;have at':∀i:Fin Xs.length,jB (sortWorld (zM bs Xs.length h.len) wr g 0 m dk os) (bs[i]'(by rw[h.len];exact i.2)) Xs[i]:=λi=>by
  have hib:i.1<bs.length:=by rw[h.len];exact i.2
  have hl:=(h.lies i.1 _ _ (bo hib) (bo i.2)).2;have hne:=h.ne (bs[i]'hib) (iw hib);refine jB.of (wk:=false) (ow:=none) ((Ir _ dk m os (lt_of_heap hl) (λe=>hne (aZ some e))).trans hl)
 exact(S3 Xs[x] Xs[y] (hv _ (iw x.2)) (hv _ (iw y.2)) _ _ _ (at' x) (at' y)).mono λ_ _⟨h1,h2,h3⟩=>⟨h1,Mp h2 h3⟩
theorem MU(a:Array α){n:Nat}(h:a.size=n):a.extract 0 n=a:=by subst h;exact Po
theorem abX(Xs:List PB)(hv:∀x∈Xs,eB x)(h:0<Xs.length):(qm Xs h).size=Xs.length/\(qm Xs h).toList.Perm (Array.ofFn (id:Fin Xs.length->Fin Xs.length)).toList/\
  ∀i j(hi:i<(qm Xs h).size)(hj:j<(qm Xs h).size),i<j->¬Ge.lt (Ge.aU Xs[(qm Xs h)[j]].f) (Ge.aU Xs[(qm Xs h)[i]].f):=by
 letI:Inhabited (Fin Xs.length):=⟨⟨0,h⟩⟩
 have hs:(Array.ofFn (id:Fin Xs.length->Fin Xs.length)).size=Xs.length:=WB;have key:=Sort.pdq_sorts (ltOf (vT Xs)) (abU hv) (Array.ofFn id) 0 Xs.length (Lib.bitLen Xs.length) true true (iW _) (by rw[hs];exact aY _) (aS rfl)
 have e:qm Xs h=Sort.pdq (ltOf (vT Xs)) (Array.ofFn id) 0 Xs.length (Lib.bitLen Xs.length) true true:=rfl;rw[<-e] at key;obtain⟨⟨p1,_,p3⟩,p4⟩:=key;have hd:(qm Xs h).size=Xs.length:=by rw[p1,hs]
 rw[MU _ hd,MU _ hs] at p3;refine⟨hd,p3,λi j hi hj hij=>?_⟩
 have hx:=p4 i j (iW _) hij aa
 rw[jl (qm Xs h) i hi,jl (qm Xs h) j hj] at hx;exact Iq.1 hx
theorem abY(Xs:List PB)(hv:∀x∈Xs,eB x):(zL Xs).Perm Xs/\(zL Xs).Pairwise (λx y=>¬Ge.lt (Ge.aU y.f) (Ge.aU x.f)):=by
 unfold zL;by_cases h:0<Xs.length
 .rw[yN h];obtain⟨hd,p3,p4⟩:=abX Xs hv h;refine⟨?_,?_⟩
  .have k:=p3.map (λi:Fin Xs.length=>Xs[i])
   have e3:(Array.ofFn (id:Fin Xs.length->Fin Xs.length)).toList.map (λi:Fin Xs.length=>Xs[i])=Xs:=by
    apply AO
    .simp
    .intro i h1 h2;simp
   rw[e3] at k;exact k
  .rw[lF,lW];intro i j hi hj hij;exact p4 i j (by simpa using hi) (by simpa using hj) hij
 .rw[FV h];have:Xs=[]:=iX.1 aa
  subst this;exact⟨Kb _,List.Pairwise.nil⟩
theorem amD(g cap n:Nat)(wr:aM)(Q:aM->Prop)(hn:n<=85000000)
  (HP:Hid (ak 163 #[aG (some ⟨g,0,none⟩) n cap,az aJ (0:Nat),az aJ n,az aJ (Lib.bitLen n:Nat),.func (.func 109) #[] #[]] wr λe w'=>e=aL (aI #[])/\Q w')):
  ak 108 #[aG (some ⟨g,0,none⟩) n cap,.func (.func 109) #[] #[]] wr λe w'=>e=aL (aI #[])/\Q w':=by
 have HL:Hid (ak 164 #[az .u64 (n:Int)] wr λe w'=>e=aL (az aJ (Lib.bitLen n:Nat))/\w'=wr):=by
  have h:=Tryz.bits_Len (n:Int) wr aa aa
  rwa[J4] at h
 have hwr:IntKind.u64.wrap (n:Int)=n:=by simp[IntKind.wrap,IntKind.bits,IntKind.signed];omega
 generalize Lib.bitLen n=BL at*
 go_enter func108,ntmps108
 go_wp2_with fail
 refine HL.out.mono ?_;rintro r w1 ⟨rfl,rfl⟩
 go_wp2_with fail
 refine HP.out.mono ?_;rintro r w2 ⟨rfl,hQ⟩;have HQ:Hid (Q w2):=hQ;clear hQ HP
 go_wp2_with fail
 go_end0
 exact⟨rfl,HQ.out⟩
theorem abZ(p:Option Addr)(cap:Nat)(wr:aM):
  ak 108 #[aG p 0 cap,.func (.func 109) #[] #[]] wr λe w'=>e=aL (aI #[])/\w'=wr:=by
 have HL:Hid (ak 164 #[az .u64 0] wr λe w'=>e=aL (az aJ (Lib.bitLen 0:Nat))/\w'=wr):=Tryz.bits_Len 0 wr aa aa
 have HP:Hid (∀lim:Int,ak 163 #[aG p 0 cap,az aJ 0,az aJ 0,az aJ lim,.func (.func 109) #[] #[]] wr λe w'=>e=aL (aI #[])/\w'=wr):=λlim=>AnyF.pdqsortCmpFunc_none {Tryz.pdqSd with} p cap lim _ wr
 generalize Lib.bitLen 0=BL at*
 go_enter func108,ntmps108
 go_wp2_with fail
 refine HL.out.mono ?_;rintro r w2 ⟨rfl,rfl⟩
 go_wp2_with fail
 refine(HP.out _).mono ?_;rintro r w3 ⟨rfl,rfl⟩
 go_wp2_with fail
 go_end0
 exact⟨rfl,rfl⟩
theorem amE(w1:aM)(lv:aN)(bs:List Nat)(Xs:List PB)(wr:aM)(h:BS w1 lv bs Xs wr)(hv:∀x∈Xs,eB x)(hl:bs.length<=85000000):
  ak 108 #[lv,.func (.func 109) #[] #[]] wr λe w'=>e=aL (aI #[])/\∃bs',BS w1 lv bs' (zL Xs) w'/\bs'.length=bs.length:=by
 obtain⟨hlen,xL⟩:=h.own;rcases xL with⟨rfl,h0⟩|⟨g,cap,cur,rfl,hg,hblk,hnc,hcm,hcs,htk⟩
 .have hb0:bs=[]:=iX.1 h0;have uA:Xs=[]:=iX.1 (by rw[<-h.len];exact h0)
  subst hb0;subst uA;refine(abZ none 0 wr).mono ?_;rintro r w' ⟨rfl,rfl⟩;exact⟨rfl,[],h,rfl⟩
 .by_cases hn:0<Xs.length
  .letI:Inhabited (Fin Xs.length):=⟨⟨0,hn⟩⟩
   have hgl:g<wr.heap.size:=lt_of_heap hblk;have hs:(Array.ofFn (id:Fin Xs.length->Fin Xs.length)).size=Xs.length:=WB;have henc:(Array.ofFn (id:Fin Xs.length->Fin Xs.length)).toList.map (zM bs Xs.length h.len)=bC bs:=by
    apply AO
    .simp[bC,h.len]
    .intro i h1 h2;simp[bC,zM]
   have hH:Sort.Holds (zM bs Xs.length h.len) wr g 0 (Array.ofFn id):=by
    intro j hj;have hj':j<bs.length:=by rw[h.len,<-hs];exact hj
    have e1:(cur.toList.take (bs.length*1))[j]?=((Array.ofFn (id:Fin Xs.length->Fin Xs.length)).toList.map (zM bs Xs.length h.len))[j]?:=by rw[htk,henc]
    rw[lH,aV aa,jW,iy,jW,pU hj] at e1
    refine⟨?_,bK hblk _⟩;rw[jH];unfold World.cell?;rw[hblk,jl (Array.ofFn (id:Fin Xs.length->Fin Xs.length)) j hj];exact e1
   have eg:∀args w,(callFunc 109 args).run prog w=.ok (.enter 109 args) w:=enters_of func109 ag rfl
   have zC:=amB h hv;have hcon:=Any.pdqsortCmpFunc_all Tryz.pdqSd (zM bs Xs.length h.len) (vT Xs) 109 #[] (abU hv) g 0 cap (Array.ofFn id) wr eg (by rw[hs];exact zC) ⟨λ_=>rfl,hH,hgl⟩ (Xs.length+1) 0 Xs.length (Lib.bitLen Xs.length) (Array.ofFn id) wr aa rfl (SW.start hH) (iW _) (by rw[hs];exact aY _) (by rw[hs,<-h.len];omega) (Nat.lt_of_le_of_lt (Lib.bitLen_le Xs.length 62 aa (by have:=h.len;omega)) aa) (aS rfl)
   rw[hs] at hcon;rw[h.len];refine amD g cap Xs.length wr (λw'=>∃bs',BS w1 (aG (some ⟨g,0,none⟩) Xs.length cap) bs' (zL Xs) w'/\bs'.length=Xs.length) (by rw[<-h.len];exact hl) (hcon.mono ?_)
   rintro r w' ⟨rfl,m,os,rfl⟩;refine⟨rfl,?_⟩;have e:Sort.pdq (ltOf (vT Xs)) (Array.ofFn id) 0 Xs.length (Lib.bitLen Xs.length) true true=qm Xs hn:=rfl;rw[e];have hsp:=abX Xs hv hn;have hd:=hsp.1;have p3:=hsp.2.1;clear hsp hcon e;have eX:zL Xs=(qm Xs hn).toList.map (λi=>Xs[i]):=by unfold zL;rw[yN hn]
   rw[eX];clear eX;obtain⟨d',hd'⟩:∃d',d'=qm Xs hn:=⟨_,rfl⟩;rw[<-hd'] at hd p3⊢;have uB:∀i:Fin Xs.length,i.1<bs.length:=λi=>by rw[h.len];exact i.2
   have hpb:(d'.toList.map (λi:Fin Xs.length=>bs[i.1]'(uB i))).Perm bs:=by
    have k:=p3.map (λi:Fin Xs.length=>bs[i.1]'(uB i))
    have e3:(Array.ofFn (id:Fin Xs.length->Fin Xs.length)).toList.map (λi:Fin Xs.length=>bs[i.1]'(uB i))=bs:=by
     apply AO
     .simp[h.len]
     .intro i h1 h2;simp
    rw[e3] at k;exact k
   refine⟨d'.toList.map (λi:Fin Xs.length=>bs[i.1]'(uB i)),⟨⟨by simp[bC],aR ⟨g,cap,_,by simp[hd],hg,abV _ d' m os hblk,by simp[hd,<-h.len,hnc],hcm,?_,?_⟩⟩,af,λi b x h1 h2=>?_,λb hb=>?_,?_,?_⟩,by simp[hd]⟩
   .unfold Sort.putCells;rw[Ww];exact hcs
   .have e1:(d'.toList.map (λi:Fin Xs.length=>bs[i.1]'(uB i))).length*1=d'.size:=af
    rw[e1,abW _ _ _ (by rw[hcs,hd,<-h.len];omega)]
    simp[bC,zM]
   .rw[iy] at h1 h2;cases hj:d'.toList[i]? with
    |none=>rw[hj] at h1;cases h1
    |some j=>
     rw[hj] at h1 h2;have hb:bs[j.1]'(uB j)=b:=by simpa using h1
     have hx:Xs[j]=x:=by simpa using h2
     obtain⟨k1,k2⟩:=h.lies j.1 b x (by rw[bo (uB j),hb]) (by rw[bo j.2];exact aZ some hx)
     have hne:=h.ne b (by rw[<-hb];exact iw _)
     exact⟨k1,(Ir _ d' m os (lt_of_heap k2) (λe=>hne (aZ some e))).trans k2⟩
   .have:=h.ne b (hpb.mem_iff.1 hb);exact this
   .exact hpb.nodup_iff.2 h.nd
   .exact h.below.trans ⟨rfl,rfl,rfl,S4 _ d' m os wr g,λk hk=>Ir _ d' m os (bW hk h.below.size) aa⟩
  .have uA:Xs=[]:=iX.1 aa
   have hb0:bs=[]:=iX.1 (by rw[h.len];omega)
   subst hb0;subst uA;refine(abZ (some ⟨g,0,none⟩) cap wr).mono ?_;rintro r w' ⟨rfl,rfl⟩;exact⟨rfl,[],h,rfl⟩
theorem eB.rev(h:eB x):eB x.rev:=⟨h.t,h.f,h.ct,h.cf⟩
theorem S5{r:Int}{es:List Ed}{p:PB}(h:eB p)(hx:x∈gL r es p):eB x:=by
 unfold gL at hx;split at hx
 .rw[dB.1 hx];exact h
 .split at hx
  .rw[dB.1 hx];exact h.rev
  .simp at hx
def oG(r:Int)(es:List Ed)(Ps:List PB):List PB:=zL (Ps.flatMap (gL r es))
theorem amF(es:List Ed)(r:Int)(v:aN)(w:aM)(hR:jL w v es)(hl:es.length<=402)(hs:∀e∈es,gS e)(hne:∀e∈es,e.1≠e.2):
  ak 68 #[v,az .u8 r] w λe w'=>∃lv,e=aL lv/\∃Ps l w1 bs,l.map Ge.aU=Ge.ja es/\(∀n∈l,Ge.Can n)/\qi es l Ps/\aj w w1/\BS w1 lv bs (oG r es Ps) w'/\bs.length<=85000000:=by
 refine amx es r v w hR hl hs hne (λlv w'=>∃Ps l w1 bs,l.map Ge.aU=Ge.ja es/\(∀n∈l,Ge.Can n)/\qi es l Ps/\aj w w1/\BS w1 lv bs (oG r es Ps) w'/\bs.length<=85000000) ?_
 intro Ps l kU lQ uz w1 lv bs wr hb lg hbl;have hv:∀x∈Ps.flatMap (gL r es),eB x:=λx hx=>by
  obtain⟨p,hp,xN⟩:=oW.1 hx;exact S5 (uz.v p hp) xN
 refine(amE w1 lv bs _ wr lg hv hbl).mono ?_;rintro e w' ⟨rfl,bs',h1,h2⟩;exact⟨rfl,Ps,l,w1,bs',kU,lQ,uz,hb,h1,aa⟩
structure LD(x:PB)(l:Ge.Ln):Prop where
 fl:qZ x.wa x.wb x.sh l
 b1:l.1.natAbs<=100
 b2:l.2.1.natAbs<=100
 b3:l.2.2.natAbs<=10000
 par:l.1*(df x.f x.t).2.1=l.2.1*(df x.f x.t).1
 pos:0<l.1*(df x.f x.t).1+l.2.1*(df x.f x.t).2.1
 S6:l.1*x.f.2.1-l.2.1*x.f.1=l.2.2*x.f.2.2
 amG:l.1*x.t.2.1-l.2.1*x.t.1=l.2.2*x.t.2.2
theorem LD.qg(h:LD x l):sm l.1/\sm l.2.1/\sm l.2.2:=by
 have:=h.b1;have:=h.b2;have:=h.b3;unfold sm;omega
theorem amH(f t:Ge.Nd):df t f=(-(df f t).1, -(df f t).2.1,0):=by
 unfold df;simp only[ahg,wN];omega
theorem LD.rev(h:LD x l):LD x.rev (Ge.El l):=by
 have e:df x.rev.f x.rev.t=(-(df x.f x.t).1, -(df x.f x.t).2.1,0):=amH _ _;refine⟨h.fl.neg,?_,?_,?_,?_,?_,?_,?_⟩
 .show(-l.1).natAbs<=100;rw[Df];exact h.b1
 .show(-l.2.1).natAbs<=100;rw[Df];exact h.b2
 .show(-l.2.2).natAbs<=10000;rw[Df];exact h.b3
 .rw[e];show -l.1* -(df x.f x.t).2.1= -l.2.1* -(df x.f x.t).1;rw[AH,AH];exact h.par
 .rw[e];show 0< -l.1* -(df x.f x.t).1+ -l.2.1* -(df x.f x.t).2.1;rw[AH,AH];exact h.pos
 .show -l.1*x.t.2.1- -l.2.1*x.t.1= -l.2.2*x.t.2.2;have:=h.amG;rw[js,js,js];omega
 .show -l.1*x.f.2.1- -l.2.1*x.f.1= -l.2.2*x.f.2.2;have:=h.S6;rw[js,js,js];omega
theorem amI{es:List Ed}{l:List Ge.Nd}{Ps:List PB}(hne:∀e∈es,e.1≠e.2)(hs:∀e∈es,gS e)(h:qi es l Ps)(hl:l.map Ge.aU=Ge.ja es)(p:PB)(hp:p∈Ps):∃k,LD p k:=by
 obtain⟨e,he,hfl,hq⟩:=h.ap.mem p hp;have hv:=h.v p hp;have hm:=Mx hq;have f1:=(jr.1 hm.1).2;have f2:=(jr.1 hm.2).2;have l1:=Ca hv.cf.pos f1;have l2:=Ca hv.ct.pos f2;have hlt:=MN h hl p hp;have mK:=hs e he;have hr:=abb (hne e he);have hd:rising (df p.f p.t).1 (df p.f p.t).2.1:=abc hv.cf hv.ct hlt;have hc:=abd l1 l2;have hc':(Ge.jc (Ge.dK e)).1*(df p.f p.t).2.1=(Ge.jc (Ge.dK e)).2.1*(df p.f p.t).1:=by
  unfold Ge.jc;split
  .show -(Ge.dK e).1*_= -(Ge.dK e).2.1*_;rw[js,js,hc]
  .exact hc
 have hb:(Ge.dK e).1.natAbs<=100/\(Ge.dK e).2.1.natAbs<=100/\(Ge.dK e).2.2.natAbs<=10000:=by
  obtain⟨a,b,c,d⟩:=mK;unfold small at a b c d;have m1: -5000<=(e.2.1-e.1.1)*e.1.2/\(e.2.1-e.1.1)*e.1.2<=5000:=qc (a:=100) (b:=50) aa aa
  have m2: -5000<=(e.2.2-e.1.2)*e.1.1/\(e.2.2-e.1.2)*e.1.1<=5000:=qc (a:=100) (b:=50) aa aa
  unfold Ge.dK;simp only;omega
 have t1:(Ge.dK e).1*p.f.2.1-(Ge.dK e).2.1*p.f.1=(Ge.dK e).2.2*p.f.2.2:=by unfold lf at l1;unfold Ge.dK;simp only;omega
 have t2:(Ge.dK e).1*p.t.2.1-(Ge.dK e).2.1*p.t.1=(Ge.dK e).2.2*p.t.2.2:=by unfold lf at l2;unfold Ge.dK;simp only;omega
 refine⟨Ge.jc (Ge.dK e),hfl,?_,?_,?_,hc',Sv hr hd hc',?_,?_⟩
 .unfold Ge.jc;split
  .show(-(Ge.dK e).1).natAbs<=100;rw[Df];exact hb.1
  .exact hb.1
 .unfold Ge.jc;split
  .show(-(Ge.dK e).2.1).natAbs<=100;rw[Df];exact hb.2.1
  .exact hb.2.1
 .unfold Ge.jc;split
  .show(-(Ge.dK e).2.2).natAbs<=10000;rw[Df];exact hb.2.2
  .exact hb.2.2
 .unfold Ge.jc;split
  .show -(Ge.dK e).1*_- -(Ge.dK e).2.1*_= -(Ge.dK e).2.2*_;rw[js,js,js];omega
  .exact t1
 .unfold Ge.jc;split
  .show -(Ge.dK e).1*_- -(Ge.dK e).2.1*_= -(Ge.dK e).2.2*_;rw[js,js,js];omega
  .exact t2
def gA(x y:PB):Int:=((df x.f x.t).1*(df y.f y.t).2.1-(df x.f x.t).2.1*(df y.f y.t).1).sign
theorem dC{a b c d:Int}(h:0<a*c+b*d):0<c*c+d*d:=by
 have k1:0<=c*c:=by
  rcases Aq 0 c with h|h
  .exact jF h h
  .exact uQ h h
 have k2:0<=d*d:=by
  rcases Aq 0 d with h|h
  .exact jF h h
  .exact uQ h h
 have hz:c≠0\/d≠0:=by
  by_cases hc:c=0
  .refine aR λhd=>?_
   rw[hc,hd,Dk,Dk] at h;omega
  .exact aS hc
 rcases hz with hz|hz
 .have:0<c*c:=by
   rcases gf c 0 with h1|h1|h1
   .exact JW h1 h1
   .exact absurd h1 hz
   .exact bJ h1 h1
  omega
 .have:0<d*d:=by
   rcases gf d 0 with h1|h1|h1
   .exact JW h1 h1
   .exact absurd h1 hz
   .exact bJ h1 h1
  omega
theorem Iu(hx:LD x l)(hy:LD y m):(l.1*m.2.1-l.2.1*m.1).sign=gA x y:=by
 have h1:=My (x:=m.2.1) (y:= -m.1) hx.par hx.pos (dC hx.pos);have h2:=My (x:=(df x.f x.t).2.1) (y:= -(df x.f x.t).1) hy.par hy.pos (dC hy.pos);unfold gA;have e1:l.1*m.2.1+l.2.1* -m.1=l.1*m.2.1-l.2.1*m.1:=by rw[Ao];omega
 have e2:(df x.f x.t).1*m.2.1+(df x.f x.t).2.1* -m.1= -(m.1*(df x.f x.t).2.1+m.2.1* -(df x.f x.t).1):=by grind
 have e3:(df y.f y.t).1*(df x.f x.t).2.1+(df y.f y.t).2.1* -(df x.f x.t).1= -((df x.f x.t).1*(df y.f y.t).2.1-(df x.f x.t).2.1*(df y.f y.t).1):=by grind
 rw[e1,e2,Wo] at h1;rw[e3,Wo] at h2;rw[h1,h2,Int.neg_neg]
theorem amJ(x:PB)(n:Ge.Nd)(hx:eB x)(hn:fC n.1 n.2.1 n.2.2)(hc:Ge.Can n)(b:Nat)(w:aM)(h1:jB w b x):
    ak 254 #[aH (some ⟨b,0,none⟩),jb n] w λr w'=>r=aL (az aJ (cE x.f n))/\Below w.heap.size w w':=by
  have HC:Hid (∀w,ak 125 #[aC #[aA aK (aO aK x.f.1) (aO aK x.f.2.1),az aJ x.f.2.2],aC #[aA aK (aO aK n.1) (aO aK n.2.1),az aJ n.2.2]] w λr w'=>r=aL (az aJ (cE x.f n))/\Below w.heap.size w w'/\w.drawn<=w'.drawn):=λw=>Hd x.f n hx.f.bw hn hx.cf hc w
  have a2:=h1.c2;have a3:=h1.c3;have hzb:b<w.heap.size:=lt_of_cell a2;clear h1 hx;unfold jb;generalize aO aK x.f.1=X1 at*;generalize aO aK x.f.2.1=X2 at*;generalize aO aK n.1=Y1 at*;generalize aO aK n.2.1=Y2 at*;generalize cE x.f n=R at*;generalize x.f.2.2=X3 at*;generalize n.2.2=Y3 at*;have r2:=(kP w (.cells #[aA aK Y1 Y2,az aJ Y3] 83) hzb (k:=2)).trans a2;have r3:=(kP w (.cells #[aA aK Y1 Y2,az aJ Y3] 83) hzb (k:=3)).trans a3;have hE:=heap_alloc_new w (.cells #[aA aK Y1 Y2,az aJ Y3] 83);have hb0:Below w.heap.size w (w.alloc (.cells #[aA aK Y1 Y2,az aJ Y3] 83)):=(Below.refl _ _).alloc (aY _) _;have hsz:w.heap.size+1=(w.alloc (.cells #[aA aK Y1 Y2,az aJ Y3] 83)).heap.size:=af
  go_enter func254,ntmps254
  go_wp2_with fail
  generalize w.alloc (.cells #[aA aK Y1 Y2,az aJ Y3] 83)=W at*;generalize hB:w.heap.size=B at*;have r4:=cL hE;have r5:=cK hE;have hzW:b<W.heap.size:=aa
  have S7:B<W.heap.size:=aa
  first
    | (refine(HC.out _).mono ?_
       rintro e w5 ⟨rfl,bh,Ip⟩;have aX:=hb0.trans (bh.mono hb0.size)
       go_wp2_with fail
       go_ret
       exact⟨rfl,by rw[hB];exact aX⟩)
    | (go_region_held3 (λw'=>w'.cell? ⟨b,2,none⟩=some (aA aK X1 X2)/\w'.cell? ⟨b,3,none⟩=some (az aJ X3)/\w'.cell? ⟨B,0,none⟩=some (aA aK Y1 Y2)/\w'.cell? ⟨B,1,none⟩=some (az aJ Y3)) (go_keep) (first
        | (go_at_call 125;refine(HC.out _).mono ?_;rintro e w5 ⟨rfl,bh,Ip⟩;have e0:=aQ bh r2 hzW;have e1:=aQ bh r3 hzW;have e2:=aQ bh r4 S7;have e3:=(aQ bh r5 S7)))
       all_goals
         have aX:=hb0.drew.trans (bh.mono (fF S7));clear bh Ip
         go_wp2_with fail
         go_ret
         exact⟨rfl,by rw[hB];exact aX⟩)
theorem amK(a1 a2 b1 b2 im:Nat)(R:Int)(b c:Nat)(w:aM)(h1:w.cell? ⟨b,0,none⟩=some (aA aK a1 a2))(h2:w.cell? ⟨c,0,none⟩=some (aA aK b1 b2))
  (HL:Hid (∀w,ak 101 #[aA aK a1 a2,aA aK b1 b2] w λe w'=>e=aL (aB aK im)/\w'=w))
  (HC:Hid (∀w,ak 183 #[aB aK im,aB aK 0] w λr w'=>r=aL (az aJ R)/\w'=w)):
  ak 256 #[aH (some ⟨b,0,none⟩),aH (some ⟨c,0,none⟩)] w λr w'=>r=aL (az aJ R)/\aj w w':=by
 go_enter func256,ntmps256
 go_wp2_with fail
 have hzb:b<w.heap.size:=lt_of_cell h1;have nL:c<w.heap.size:=lt_of_cell h2
 go_region_held3 (λw'=>w'.cell? ⟨b,0,none⟩=some (aA aK a1 a2)/\w'.cell? ⟨c,0,none⟩=some (aA aK b1 b2)) (go_keep) (first
   |(go_at_call 101;refine(HL.out _).mono ?_;rintro e w5 ⟨rfl,rY⟩;subst rY)
   |(go_at_call 183;refine(HC.out _).mono ?_;rintro e w6 ⟨rfl,LW⟩;subst LW))
 all_goals
  go_wp2_with fail
  go_ret
  exact⟨rfl,(Below.refl _ _).drew⟩
theorem Iw(hx:LD x l)(hy:LD y m):∃im,Fl im (l.1*m.2.1-l.2.1*m.1)/\∀w,ak 101 #[aA aK x.wa x.wb,aA aK y.wa y.wb] w λe w'=>e=aL (aB aK im)/\w'=w:=
 GC hx.fl.a hx.fl.b hy.fl.a hy.fl.b hx.qg.1 hx.qg.2.1 hy.qg.1 hy.qg.2.1
theorem ab1(x y:PB)(hx:LD x l)(hy:LD y m)(b c:Nat)(w:aM)(h1:jB w b x)(h2:jB w c y):
  ak 256 #[aH (some ⟨b,0,none⟩),aH (some ⟨c,0,none⟩)] w λr w'=>r=aL (az aJ (gA x y))/\aj w w':=by
 obtain⟨im,f1,hl⟩:=Iw hx hy;have hc:=λw=>BK f1 mV w
 rw[C9,Iu hx hy] at hc;exact amK _ _ _ _ im _ b c w h1.c0 h2.c0 hl hc
theorem ab2(x:Int)(w:aM):ak 290 #[az aJ x] w λr w'=>r=aL (aD false)/\w'=w:=by
 go_enter func290,ntmps290
 go_wp2_with fail
 go_ret
 exact⟨af,rfl⟩
theorem amL(x y:Int)(w:aM):ak 255 #[az aJ x,az aJ y] w λr w'=>r=aL (az aJ (x-y).sign)/\w'=w:=by
 have H1:Hid (∀w,ak 290 #[az aJ x] w λr w'=>r=aL (aD false)/\w'=w):=λw=>ab2 x w
 have H2:Hid (∀w,ak 290 #[az aJ y] w λr w'=>r=aL (aD false)/\w'=w):=λw=>ab2 y w
 obtain⟨s,hs⟩:∃s,(x-y).sign=s:=⟨_,rfl⟩;rw[hs];rcases gf x y with h|h|h
 .have e:s= -1:=by rw[<-hs];exact yI aa
  subst e;clear hs
  go_enter func255,ntmps255
  go_wp2_with fail
  refine(H1.out _).mono ?_;rintro e w1 ⟨rfl,rfl⟩
  go_wp2_with fail
  refine(H2.out _).mono ?_;rintro e w2 ⟨rfl,rfl⟩
  go_wp2_with fail
  go_ret
  exact⟨rfl,rfl⟩
 .have e:s=0:=by rw[<-hs,h,ag8];rfl
  subst e;have q1:decide (x<y)=false:=by simp;omega
  have q2:decide (y<x)=false:=by simp;omega
  clear hs h
  go_enter func255,ntmps255
  go_wp2_with fail
  refine(H1.out _).mono ?_;rintro e w1 ⟨rfl,rfl⟩
  go_wp2_with fail
  refine(H2.out _).mono ?_;rintro e w2 ⟨rfl,rfl⟩
  go_wp2_with fail
  go_ret
  exact⟨rfl,rfl⟩
 .have e:s=1:=by rw[<-hs];exact nV aa
  subst e;have q1:decide (x<y)=false:=by simp;omega
  clear hs
  go_enter func255,ntmps255
  go_wp2_with fail
  refine(H1.out _).mono ?_;rintro e w1 ⟨rfl,rfl⟩
  go_wp2_with fail
  refine(H2.out _).mono ?_;rintro e w2 ⟨rfl,rfl⟩
  go_wp2_with fail
  go_ret
  exact⟨rfl,rfl⟩
def uC(s a b:PB):Int:=if(gA s b-gA s a).sign=0 then gA a b else(gA s b-gA s a).sign
theorem amM(a1 a2 b1 b2 im:Nat)(HA HB P Q' R:Int)(s b c:Nat)(w:aM)(_hs:s<w.heap.size)(h1:w.cell? ⟨b,0,none⟩=some (aA aK a1 a2))(h2:w.cell? ⟨c,0,none⟩=some (aA aK b1 b2))
  (Hb:Hid (∀w',aj w w'->ak 256 #[aH (some ⟨s,0,none⟩),aH (some ⟨c,0,none⟩)] w' λr w''=>r=aL (az aJ HB)/\aj w' w''))
  (Ha:Hid (∀w',aj w w'->ak 256 #[aH (some ⟨s,0,none⟩),aH (some ⟨b,0,none⟩)] w' λr w''=>r=aL (az aJ HA)/\aj w' w''))
  (HI:Hid (∀w,ak 255 #[az aJ HB,az aJ HA] w λr w'=>r=aL (az aJ P)/\w'=w))
  (HL:Hid (∀w,ak 101 #[aA aK a1 a2,aA aK b1 b2] w λe w'=>e=aL (aB aK im)/\w'=w))
  (HC:Hid (∀w,ak 183 #[aB aK im,aB aK 0] w λr w'=>r=aL (az aJ Q')/\w'=w))
  (HO:Hid (∀b cap w,w.cell? ⟨b,0,none⟩=some (az aJ P)->w.cell? ⟨b,1,none⟩=some (az aJ Q')->ak 182 #[aG (some ⟨b,0,none⟩) 2 cap] w λr w'=>r=aL (az aJ R)/\w'=w)):
  ak 211 #[aH (some ⟨s,0,none⟩),aH (some ⟨b,0,none⟩),aH (some ⟨c,0,none⟩)] w λr w'=>r=aL (az aJ R)/\aj w w':=by
 go_enter func211,ntmps211
 go_wp2_with fail
 have hzb:b<w.heap.size:=lt_of_cell h1;have nL:c<w.heap.size:=lt_of_cell h2;have rq:aj w w.drew:=(Below.refl _ _).drew
 go_region_held3 (λw'=>w'.cell? ⟨b,0,none⟩=some (aA aK a1 a2)/\w'.cell? ⟨c,0,none⟩=some (aA aK b1 b2)) (go_keep) (first
   |(go_at_call_of 256 (Value.pointer (some ⟨c,0,none⟩));refine(Hb.out _ rq).mono ?_;rintro e w5 ⟨rfl,bh⟩;have oF:aj w w5:=rq.trans bh;have e0:=aQ oF h1 hzb;have e1:=(aQ oF h2 nL))
   |(go_at_call_of 256 (Value.pointer (some ⟨b,0,none⟩));refine(Ha.out _ oF).mono ?_;rintro e w6 ⟨rfl,bp⟩;have zI:aj w w6:=oF.trans (bp.mono oF.size);have e2:=aQ zI h1 hzb;have e3:=(aQ zI h2 nL))
   |(go_at_call 255;refine(HI.out _).mono ?_;rintro e w7 ⟨rfl,ni⟩;subst ni)
   |(go_at_call 101;refine(HL.out _).mono ?_;rintro e w7 ⟨rfl,ni⟩;subst ni)
   |(go_at_call 183;refine(HC.out _).mono ?_;rintro e w7 ⟨rfl,ni⟩;subst ni)
   |(go_at_call 182;refine(HO.out _ _ _ (cell_of (heap_alloc_new _ _) 0) (cell_of (heap_alloc_new _ _) 1)).mono ?_;rintro e w8 ⟨rfl,ua⟩;have S9:aj w w8:=(by(rw[ua];exact zI.alloc zI.size _));have e4:=aQ S9 h1 hzb;have e5:=aQ S9 h2 nL;clear ua))
 all_goals
  go_wp2_with fail
  go_ret
  exact⟨rfl,S9⟩
theorem jB.below(h:jB w b x)(hb:aj w w'):jB w' b x:=by
 have hz:b<w.heap.size:=lt_of_cell h.c0;exact⟨(aQ hb h.c0 hz),(aQ hb h.c1 hz),(aQ hb h.c2 hz),(aQ hb h.c3 hz),(aQ hb h.c4 hz),(aQ hb h.c5 hz)⟩
theorem amN(x y z:PB){k:Ge.Ln}(hx:LD x l)(hy:LD y m)(hz:LD z k)(s b c:Nat)(w:aM)(h0:jB w s x)(h1:jB w b y)(h2:jB w c z):
  ak 211 #[aH (some ⟨s,0,none⟩),aH (some ⟨b,0,none⟩),aH (some ⟨c,0,none⟩)] w λr w'=>r=aL (az aJ (uC x y z))/\aj w w':=by
 obtain⟨im,f1,hl⟩:=Iw hy hz;have hc:=λw=>BK f1 mV w
 rw[C9,Iu hy hz] at hc;exact amM _ _ _ _ im (gA x y) (gA x z) _ _ _ s b c w (lt_of_cell h0.c0) h1.c0 h2.c0 (λw' hb=>ab1 x z hx hz s c w' (h0.below hb) (h2.below hb)) (λw' hb=>ab1 x y hx hy s b w' (h0.below hb) (h1.below hb)) (λw=>amL _ _ w) hl hc (λb cap w h0 h1=>L9 _ _ b cap w h0 h1)
def cN(cf:Nat->Nat->Int):List Nat->Nat->Nat
 |[],m=>m
 |b::r,m=>cN cf r (if cf b m<0 then b else m)
theorem MV(cf:Nat->Nat->Int):∀(l:List Nat)(m b:Nat),cN cf (l++[b]) m=if cf b (cN cf l m)<0 then b else cN cf l m
 |[],m,b=>rfl
 |a::l,m,b=>by
  show cN cf (l++[b]) _=_;rw[MV cf l];rfl
theorem zN(cf:Nat->Nat->Int):∀(l:List Nat)(m:Nat),cN cf l m=m\/cN cf l m∈l
 |[],m=>aS rfl
 |a::l,m=>by
  show cN cf l (if cf a m<0 then a else m)=m\/_∈a::l
  rcases zN cf l (if cf a m<0 then a else m) with h|h
  .by_cases hc:cf a m<0
   .rw[aV hc] at h;exact aR (by show cN cf l _∈a::l;rw[aV hc,h];simp)
   .rw[aP hc] at h;exact aS (by rw[aP hc];exact h)
  .exact aR (bV _ h)
theorem amO(cf:Nat->Nat->Int)(a:Nat)(r:List Nat)(g lo cap s:Nat)(w:aM)(hn:r.length<=85000000)
  (HV:Hid (∀(i:Nat) b,(a::r)[i]?=some b->w.cell? ⟨g,lo+i,none⟩=some (aH (some ⟨b,0,none⟩))))
  (HC:Hid (∀b∈a::r,∀c∈a::r,∀w',aj w w'->ak 211 #[aH (some ⟨s,0,none⟩),aH (some ⟨b,0,none⟩),aH (some ⟨c,0,none⟩)] w' λr w''=>r=aL (az aJ (cf b c))/\aj w' w'')):
  ak 171 #[aG (some ⟨g,lo,none⟩) (r.length+1) cap,.func (.func 211) #[aH (some ⟨s,0,none⟩)] #[]] w λe w'=>e=aL (aH (some ⟨cN cf r a,0,none⟩))/\aj w w':=by
 have c0:=HV.out 0 a rfl;rw[rM] at c0;have fh:g<w.heap.size:=lt_of_cell c0
 go_enter func171,ntmps171
 go_wp2_with fail
 go_loopg [5,6] r.length (λm mv iv wr=>∃k:Nat,k+m=r.length/\iv=az aJ (k+1:Nat)/\mv=aH (some ⟨cN cf (r.take k) a,0,none⟩)/\Hid (aj w wr))
 case atStart=>exact⟨0,aa,rfl,rfl,Below.refl _ _⟩
 case round=>
  obtain⟨k,hkn,rfl,rfl,HB⟩:=hrel;by_cases hlt:k<r.length
  .obtain⟨b,hb⟩:∃b,r[k]?=some b:=⟨_,bo hlt⟩;have c1:=(HB.out.cell (p:=⟨g,lo+(k+1),none⟩) fh).trans (HV.out (k+1) b (by simpa using hb))
   have lM:b∈a::r:=bV _ (bA hb);have hmm:cN cf (r.take k) a∈a::r:=by
    rcases zN cf (r.take k) a with h|h
    .rw[h];simp
    .exact bV _ (rN h)
   have jo:Hid (ak 211 #[aH (some ⟨s,0,none⟩),aH (some ⟨b,0,none⟩),aH (some ⟨cN cf (r.take k) a,0,none⟩)] wr λr' w''=>r'=aL (az aJ (cf b (cN cf (r.take k) a)))/\aj wr w''):=HC.out b lM _ hmm wr HB.out
   have iQ:Hid (cN cf (r.take (k+1)) a=if cf b (cN cf (r.take k) a)<0 then b else cN cf (r.take k) a):=by
    have htk:r.take (k+1)=r.take k++[b]:=by rw[ju,hb];rfl
    show cN cf (r.take (k+1)) a=_;rw[htk,MV]
   have ij:((k:Int)+1)<((r.length:Int)+1):=aa
   have hgr:g<wr.heap.size:=bW fh HB.out.size;clear c0 hb lM hmm;generalize cN cf (r.take k) a=M at*
   go_wp2_with fail
   refine jo.out.mono ?_;rintro e w5 ⟨rfl,bh⟩;have gV:Hid (aj w w5):=HB.out.trans (bh.mono HB.out.size);have c5:=aQ bh c1 hgr;clear jo bh c1;generalize cf b M=V at*;by_cases hV:V<0
   .have HM:Hid (cN cf (r.take (k+1)) a=b):=by rw[iQ.out,aV hV];rfl
    go_wp2_with fail
    go_roundg (gk-1)
    case measure=>omega
    case rel=>exact⟨k+1,aa,ai,by rw[HM.out],gV⟩
   .have HM:Hid (cN cf (r.take (k+1)) a=M):=by rw[iQ.out,aP hV];rfl
    have Ta:decide (V<0)=false:=jU hV
    go_wp2_with fail
    go_roundg (gk-1)
    case measure=>omega
    case rel=>exact⟨k+1,aa,ai,by rw[HM.out],gV⟩
  .have hk:k=r.length:=aa
   subst hk;rw[gv];clear HC HV
   go_wp2_with fail
   go_ret
   exact⟨rfl,HB.out⟩
structure RB(w:aM)(g:Nat)(bs:List Nat)(Xs:List PB):Prop where
 len:bs.length=Xs.length
 row:∀(i:Nat) b,bs[i]?=some b->w.cell? ⟨g,i,none⟩=some (aH (some ⟨b,0,none⟩))
 side:∀(i:Nat) b x,bs[i]?=some b->Xs[i]?=some x->jB w b x
theorem RB.below(h:RB w g bs Xs)(hb:aj w w'):RB w' g bs Xs:=
 ⟨h.len,λi b h1=>(hb.cell (p:=⟨g,i,none⟩) (lt_of_cell (h.row i b h1))).trans (h.row i b h1),λi b x h1 h2=>(h.side i b x h1 h2).below hb⟩
theorem amP(bs:List Nat)(Xs:List PB)(n:Ge.Nd)(g cap:Nat)(w:aM)(N1 N2:Nat)(N3:Int)(c:Nat)(hR:RB w g bs Xs)(hl:bs.length<=85000000)(hcl:c<=bs.length)
  (hc:∀i x,Xs[i]?=some x->(i<c↔cE x.f n<0))
  (HC:Hid (∀b x w',jB w' b x->x∈Xs->ak 254 #[aH (some ⟨b,0,none⟩),aC #[aA aK N1 N2,az aJ N3]] w' λr w''=>r=aL (az aJ (cE x.f n))/\aj w' w'')):
  ak 253 #[aG (some ⟨g,0,none⟩) bs.length cap,aC #[aA aK N1 N2,az aJ N3],.func (.func 254) #[] #[]] w λe w'=>∃f,e=aL (aI #[az aJ c,aD f])/\aj w w':=by
 have HR:Hid (RB w g bs Xs):=hR;have vR:Hid (∀i x,Xs[i]?=some x->(i<c↔cE x.f n<0)):=hc;clear hR hc
 go_enter func253,ntmps253
 go_wp2_with fail
 have cQ:Hid (aj w (w.alloc (.cells #[aA aK N1 N2,az aJ N3] 83))/\(w.alloc (.cells #[aA aK N1 N2,az aJ N3] 83)).heap[w.heap.size]?=some (.cells #[aA aK N1 N2,az aJ N3] 83 (0,0))):=⟨aw _ _,heap_alloc_new _ _⟩;generalize w.alloc (.cells #[aA aK N1 N2,az aJ N3] 83)=W0 at*
 go_loopg [9,10] bs.length (λm iv jv wr=>∃i j:Nat,i<=c/\c<=j/\j<=bs.length/\j-i<=m/\iv=az aJ i/\jv=az aJ j/\Hid (aj w wr/\wr.heap[w.heap.size]?=some (.cells #[aA aK N1 N2,az aJ N3] 83 (0,0))))
 case atStart=>exact⟨0,bs.length,aa,hcl,aY _,aa,rfl,rfl,cQ⟩
 case round=>
  obtain⟨i,j,h1,h2,h3,h4,rfl,rfl,HB⟩:=hrel;clear cQ;obtain⟨aX,hT⟩:=HB.out;have t0:=cL hT;have t1:=cK hT;have sO:w.heap.size<wr.heap.size:=lt_of_heap hT;by_cases hlt:i<j
  .obtain⟨H,hH⟩:∃H,(i+j)/2=H:=⟨_,rfl⟩;have hHl:H<bs.length:=aa
   obtain⟨b,hb⟩:∃b,bs[H]?=some b:=⟨_,bo hHl⟩;obtain⟨x,hx⟩:∃x,Xs[H]?=some x:=⟨_,bo (by rw[<-HR.out.len];exact hHl)⟩
   have r0:=(aX.cell (p:=⟨g,H,none⟩) (lt_of_cell (HR.out.row H b hb))).trans (HR.out.row H b hb);have jo:Hid (∀w',aj w w'->ak 254 #[aH (some ⟨b,0,none⟩),aC #[aA aK N1 N2,az aJ N3]] w' λr w''=>r=aL (az aJ (cE x.f n))/\aj w' w''):=λw' hb'=>HC.out b x w' ((HR.out.side H b x hb hx).below hb') (bA hx)
   have vK:Hid (H<c↔cE x.f n<0):=vR.out H x hx;have hij:(i:Int)<(j:Int):=aa
   have hw1:IntKind.i64.wrap ((i:Int)+(j:Int))=(i:Int)+(j:Int):=by rw[IntKind.wrap_i64];omega
   have hw2:IntKind.u64.wrap ((i:Int)+(j:Int))=(i:Int)+(j:Int):=by simp[IntKind.wrap,IntKind.bits,IntKind.signed];omega
   have hHi:(H:Int)<(bs.length:Int):=aa
   have hmid:((i:Int)+(j:Int))/2=(H:Int):=aa
   have hH0:(0:Int)<=(H:Int):=aa
   have HHE:Hid (i<=H/\H<j):=by
    show i<=H/\H<j;omega
   have hgr:g<wr.heap.size:=lt_of_cell r0;have rq:aj w wr.drew:=aX.drew;clear hb hx hH;generalize cE x.f n=V at*
   go_wp2_with fail
   go_region_held3 (λw'=>w'.cell? ⟨w.heap.size,0,none⟩=some (aA aK N1 N2)/\w'.cell? ⟨w.heap.size,1,none⟩=some (az aJ N3)/\w'.cell? ⟨g,H,none⟩=some (aH (some ⟨b,0,none⟩))) (go_keep) (first
    |(go_at_call 254;refine(jo.out _ rq).mono ?_;rintro e w5 ⟨rfl,bh⟩;have e0:=aQ bh t0 sO;have e1:=aQ bh t1 sO;have e2:=(aQ bh r0 hgr)))
   all_goals
    have gV:Hid (aj w w5/\w5.heap[w.heap.size]?=some (.cells #[aA aK N1 N2,az aJ N3] 83 (0,0))):=⟨rq.trans (bh.mono rq.size),(bh.block _ sO).trans hT⟩;clear bh jo e0 e1 e2;by_cases hV:V<0
    .have hVc:H<c:=vK.out.2 hV
     go_wp2_with fail
     go_roundg (j-(H+1))
     case measure=>have:=HHE.out;omega
     case rel=>exact⟨H+1,j,aa,h2,h3,aY _,ai,rfl,gV⟩
    .have hVc:¬H<c:=λh=>hV (vK.out.1 h)
     have Ta:decide (V<0)=false:=jU hV
     go_wp2_with fail
     go_roundg (H-i)
     case measure=>have:=HHE.out;omega
     case rel=>exact⟨i,H,h1,aa,aa,aY _,rfl,rfl,gV⟩
  .have hic:i=c:=aa
   subst hic;by_cases hin:i<bs.length
   .obtain⟨b,hb⟩:∃b,bs[i]?=some b:=⟨_,bo hin⟩;obtain⟨x,hx⟩:∃x,Xs[i]?=some x:=⟨_,bo (by rw[<-HR.out.len];exact hin)⟩
    have r0:=(aX.cell (p:=⟨g,i,none⟩) (lt_of_cell (HR.out.row i b hb))).trans (HR.out.row i b hb);have jo:Hid (∀w',aj w w'->ak 254 #[aH (some ⟨b,0,none⟩),aC #[aA aK N1 N2,az aJ N3]] w' λr w''=>r=aL (az aJ (cE x.f n))/\aj w' w''):=λw' hb'=>HC.out b x w' ((HR.out.side i b x hb hx).below hb') (bA hx)
    have Ix:(i:Int)<(bs.length:Int):=aa
    have hgr:g<wr.heap.size:=lt_of_cell r0;clear hb hx HR HC vR;generalize cE x.f n=V at*;have rq:aj w wr.drew:=aX.drew
    go_wp2_with fail
    go_region_held3 (λw'=>w'.cell? ⟨w.heap.size,0,none⟩=some (aA aK N1 N2)/\w'.cell? ⟨w.heap.size,1,none⟩=some (az aJ N3)/\w'.cell? ⟨g,i,none⟩=some (aH (some ⟨b,0,none⟩))) (go_keep) (first
     |(go_at_call 254;refine(jo.out _ rq).mono ?_;rintro e w5 ⟨rfl,bh⟩;have e0:=aQ bh t0 sO;have e1:=aQ bh t1 sO;have e2:=(aQ bh r0 hgr)))
    all_goals
     have gV:Hid (aj w w5):=rq.trans (bh.mono rq.size);clear bh jo e0 e1 e2
     go_wp2_with fail
     refine bodyPost_ret (v:=aI #[az aJ i,aD (V == 0)]) (by simp[results,results253,go_sem]) rfl ⟨V == 0,rfl,gV.out⟩
   .have Ix:decide ((i:Int)<(bs.length:Int))=false:=by simp;omega
    clear HR HC vR
    go_wp2_with fail
    refine wp_region_held_drew (S:=(λ_=>True)) ag trivial (λhHeld=>?_)
    iterate 5
     (
      refine mB (oi:={dst:=_,op:=_,type:=_,pos:=_,after:=_,guard:=_}) (v:=?_) rfl rfl (by rfl) hHeld ?_ ?_
      rotate_left
      .intro w' bY
       go_simp
       try with_reducible rfl
      simp only[Act.put,dY,dZ,dL])
    iterate 8
     (
      refine Dl (oi:={dst:=_,op:=_,type:=_,pos:=_,after:=_,guard:=_}) rfl rfl hHeld ?_;simp only[Act.put,dY,dZ,dL])
    iterate 3
     (
      refine mB (oi:={dst:=_,op:=_,type:=_,pos:=_,after:=_,guard:=_}) (v:=?_) rfl rfl (by rfl) hHeld ?_ ?_
      rotate_left
      .intro w' bY
       go_simp
       try with_reducible rfl
      simp only[Act.put,dY,dZ,dL])
    refine wpAnyH_done ag ?_ _
    go_wp2_with fail
    refine bodyPost_ret (v:=aI #[az aJ i,aD false]) (by simp[results,results253,go_sem]) rfl ⟨false,rfl,aX.drew⟩
theorem amR(bs:List Nat)(Xs:List PB)(n:Ge.Nd)(g cap:Nat)(w:aM)(c d:Nat)(hR:RB w g bs Xs)(hl:bs.length<=85000000)(hbc:bs.length<=cap)(Bg:c<d)(pB:d<=bs.length)
  (hc:∀i x,Xs[i]?=some x->(i<c↔cE x.f n<0))(hd:∀i x,Xs[i]?=some x->c<=i->(i<d↔x.f=n))(hv:∀x∈Xs,eB x)(hn:fC n.1 n.2.1 n.2.2)(hcn:Ge.Can n):
  ak 210 #[aG (some ⟨g,0,none⟩) bs.length cap,jb n] w λe w'=>e=aL (aG (some ⟨g,c,none⟩) (d-c) (cap-c))/\aj w w':=by
 have Cm:=λw'(hb:aj w w')=>amP bs Xs n g cap w' (aO aK n.1) (aO aK n.2.1) n.2.2 c (hR.below hb) hl aa hc (λb x w'' h1 hx=>amJ x n (hv x hx) hn hcn b w'' h1)
 have HR:Hid (RB w g bs Xs):=hR;have HD:Hid (∀i x,Xs[i]?=some x->c<=i->(i<d↔x.f=n)):=hd;have Tb:Hid (∀x∈Xs,∀w,(binOp .eql 83 (aC #[aA aK (aO aK x.f.1) (aO aK x.f.2.1),az aJ x.f.2.2]) (aC #[aA aK (aO aK n.1) (aO aK n.2.1),az aJ n.2.2])).run prog w=.ok (aD (decide (x.f=n))) w):=λx hx w=>Ho x.f n (hv x hx).f.bw hn w
 unfold jb;have zO:Hid (∀w',aj w w'->ak 253 #[aG (some ⟨g,0,none⟩) bs.length cap,aC #[aA aK (aO aK n.1) (aO aK n.2.1),az aJ n.2.2],.func (.func 254) #[] #[]] w' λe w''=>∃f,e=aL (aI #[az aJ c,aD f])/\aj w' w''):=Cm
 clear Cm hR hc hd hv hn hcn;generalize aO aK n.1=N1 at*;generalize aO aK n.2.1=N2 at*;generalize EC:n.2.2=N3 at*;have hb0:aj w (w.alloc (.cells #[aA aK N1 N2,az aJ N3] 83)):=aw _ _;have hT0:=heap_alloc_new w (.cells #[aA aK N1 N2,az aJ N3] 83);have hz:w.heap.size<(w.alloc (.cells #[aA aK N1 N2,az aJ N3] 83)).heap.size:=af
 go_enter func210,ntmps210
 go_wp2_with fail
 generalize w.alloc (.cells #[aA aK N1 N2,az aJ N3] 83)=W0 at*;refine(zO.out _ hb0).mono ?_;rintro e w1 ⟨f,rfl,hb1⟩;have cQ:Hid (aj w w1/\w1.heap[w.heap.size]?=some (.cells #[aA aK N1 N2,az aJ N3] 83 (0,0))):=⟨hb0.trans (hb1.mono hb0.size),(hb1.block _ hz).trans hT0⟩;clear hb0 hb1 hT0 zO
 go_wp2_with fail
 go_loopg [7] (d-c) (λm iv wr=>∃k:Nat,c<=k/\k<=d/\d-k<=m/\iv=az aJ k/\Hid (aj w wr/\wr.heap[w.heap.size]?=some (.cells #[aA aK N1 N2,az aJ N3] 83 (0,0))))
 case atStart=>exact⟨c,aY _,fF Bg,aY _,rfl,cQ⟩
 case round=>
  obtain⟨k,h1,h2,h3,rfl,HB⟩:=hrel;clear cQ;obtain⟨aX,hT⟩:=HB.out;have t0:=cL hT;have t1:=cK hT;by_cases hin:k<bs.length
  .obtain⟨b,hb⟩:∃b,bs[k]?=some b:=⟨_,bo hin⟩;obtain⟨x,hx⟩:∃x,Xs[k]?=some x:=⟨_,bo (by rw[<-HR.out.len];exact hin)⟩
   have r0:=(aX.cell (p:=⟨g,k,none⟩) (lt_of_cell (HR.out.row k b hb))).trans (HR.out.row k b hb);have Iy:=(HR.out.side k b x hb hx).below aX;have s2:=Iy.c2;have s3:=Iy.c3;have hop:=Tb.out x (bA hx);have vK:Hid (k<d↔x.f=n):=HD.out k x hx h1;have Ix:(k:Int)<(bs.length:Int):=aa
   clear hb hx Iy HR HD Tb;generalize aO aK x.f.1=X1 at*;generalize aO aK x.f.2.1=X2 at*;generalize Ej:x.f.2.2=X3 at*;clear Ej EC;by_cases hkd:k<d
   .have Iz:decide (x.f=n)=true:=iD (vK.out.1 hkd);rw[Iz] at hop;clear Iz vK
    go_wp2_with fail
    go_quiet (fail)
    go_wp2_with fail
    go_roundg (d-(k+1))
    case measure=>omega
    case rel=>exact⟨k+1,aa,aa,aY _,ai,D9 aX _,hT⟩
   .have Iz:decide (x.f=n)=false:=jU λh=>hkd (vK.out.2 h)
    have GQ:k=d:=aa
    rw[Iz] at hop;clear Iz vK;subst GQ
    go_wp2_with fail
    go_quiet (fail)
    go_wp2_with fail
    go_ret
    exact⟨rfl,D9 aX _⟩
  .have Ix:decide ((k:Int)<(bs.length:Int))=false:=by simp;omega
   have GQ:k=d:=aa
   subst GQ;clear HR HD Tb
   go_wp2_with fail
   go_quiet (fail)
   go_wp2_with fail
   go_ret
   exact⟨rfl,D9 aX _⟩
def pb0:PB:=⟨0,0,0,(0,0,0),(0,0,0)⟩
def xi(Xs:List PB)(i:Nat):PB:=Xs.getD i pb0
def bx(bs:List Nat)(i:Nat):Nat:=bs.getD i 0
theorem vU(h:Xs[i]?=some x):xi Xs i=x:=by
 unfold xi;rw[n9,h];rfl
theorem xO(h:i<Xs.length):Xs[i]?=some (xi Xs i):=by
 rw[bo h,vU (bo h)]
theorem IA(h:bs[i]?=some b):bx bs i=b:=by
 unfold bx;rw[n9,h];rfl
theorem zP(h:i<bs.length):bs[i]?=some (bx bs i):=by
 rw[bo h,IA (bo h)]
theorem sQ(h:i<bs.length):bx bs i∈bs:=bA (zP h)
theorem iM(h:i<Xs.length):xi Xs i∈Xs:=bA (xO h)
theorem oH(hn:bs.Nodup)(h:i<bs.length):bs.idxOf (bx bs i)=i:=by
 have e:bx bs i=bs[i]:=IA (bo h);rw[e];exact aht hn i h
structure BD(Xs:List PB):Prop where
 v:∀x∈Xs,eB x
 ld:∀x∈Xs,∃l,LD x l
 rp:Xs.Pairwise λa b=>¬cE b.f a.f<0
 len:Xs.length<=85000000
theorem Tc(p:α->Bool):∀(l:List α),l.Pairwise (λa b=>p b=true->p a=true)->∀(i:Nat) x,l[i]?=some x->(i<(l.filter p).length↔p x=true)
 |[],_,i,x,h=>by simp at h
 |a::l,hp,0,x,h=>by
  have hx:a=x:=by simpa using h
  subst hx;by_cases ha:p a=true
  .simp[ha]
  .have:(a::l).filter p=[]:=List.filter_eq_nil_iff.2 λy hy=>by
    rcases bU.1 hy with rfl|hy
    .exact ha
    .exact λhpy=>ha ((gN.1 hp).1 y hy hpy)
   rw[this];simp[ha]
 |a::l,hp,i+1,x,h=>by
  have hx:l[i]?=some x:=by simpa using h
  have ih:=Tc p l (gN.1 hp).2 i x hx;by_cases ha:p a=true
  .rw[AQ ha,dG,Nat.add_lt_add_iff_right];exact ih
  .have hpx:¬p x=true:=λhpx=>ha ((gN.1 hp).1 x (bA hx) hpx)
   rw[wT ha];constructor
   .intro h2;exact absurd (ih.1 aa) hpx
   .intro h2;exact absurd h2 hpx
def jC(Xs:List PB)(n:Ge.Nd):Nat:=(Xs.filter λx=>decide (cE x.f n<0)).length
def nN(Xs:List PB)(n:Ge.Nd):Nat:=(Xs.filter λx=>decide (cE x.f n<=0)).length
theorem ET{a b:Ge.Nd}:cE a b<0↔Ge.lt (Ge.aU a) (Ge.aU b):=by unfold cE Ge.lt;exact JV
theorem amU{a b c:Ge.Nd}(ha:Ge.Can a)(hb:Ge.Can b)(hc:Ge.Can c)(h1:¬cE b a<0)(h2:cE b c<0):cE a c<0:=by
 by_cases he:a=b
 .rw[he];exact h2
 .exact Ge.lt_trans (Ge.eA ha) (Ge.eA hb) (Ge.eA hc) (Ge.Em ha hb h1 he) h2
theorem Td(a b:Ge.Nd):cE b a= -cE a b:=Ge.Lb _ _
theorem MW(hB:BD Xs){n:Ge.Nd}(hn:Ge.Can n)(i:Nat)(x:PB)(h:Xs[i]?=some x):i<jC Xs n↔cE x.f n<0:=by
 have hp:Xs.Pairwise λa b=>decide (cE b.f n<0)=true->decide (cE a.f n<0)=true:=by
  refine wU (λ{a b} ha hb hab=>?_) hB.rp
  simp only[AL];exact λh2=>amU (hB.v a ha).cf (hB.v b hb).cf hn hab h2
 have:=Tc _ Xs hp i x h;simpa[jC] using this
theorem ab6(hB:BD Xs){n:Ge.Nd}(hn:Ge.Can n)(i:Nat)(x:PB)(h:Xs[i]?=some x):i<nN Xs n↔cE x.f n<=0:=by
 have hp:Xs.Pairwise λa b=>decide (cE b.f n<=0)=true->decide (cE a.f n<=0)=true:=by
  refine wU (λ{a b} ha hb hab=>?_) hB.rp
  simp only[AL];intro h2;apply FE.1;intro h3;have h4:cE n a.f<0:=by rw[Td a.f n];omega
  have h5:cE n b.f<0:=by
   by_cases he:a.f=b.f
   .rw[<-he];exact h4
   .exact Ge.lt_trans (Ge.eA hn) (Ge.eA (hB.v a ha).cf) (Ge.eA (hB.v b hb).cf) h4 (Ge.Em (hB.v a ha).cf (hB.v b hb).cf hab he)
  rw[Td b.f n] at h5;omega
 have:=Tc _ Xs hp i x h;simpa[nN] using this
theorem zQ(a:Ge.Nd):cE a a=0:=Ge.Bp _
theorem MX(hB:BD Xs){n:Ge.Nd}(hn:Ge.Can n)(i:Nat)(x:PB)(h:Xs[i]?=some x)(h1:jC Xs n<=i):i<nN Xs n↔x.f=n:=by
 have a:=MW hB hn i x h;rw[ab6 hB hn i x h];constructor
 .intro h2;exact Ge.xD (hB.v x (bA h)).cf hn (by show cE x.f n=0;omega)
 .intro h2;rw[h2,zQ];omega
theorem Te(Xs:List PB)(n:Ge.Nd):nN Xs n<=Xs.length:=J9 _ _
theorem Tf(hB:BD Xs){n:Ge.Nd}(hn:Ge.Can n)(h:∃x∈Xs,x.f=n):jC Xs n<nN Xs n:=by
 obtain⟨x,hx,he⟩:=h;obtain⟨i,hi,hxi⟩:=jG.1 hx;have hg:Xs[i]?=some x:=by rw[bo hi,hxi]
 have h1:=MW hB hn i x hg;have h2:=ab6 hB hn i x hg;rw[he,zQ] at h1 h2;have h3:¬i<jC Xs n:=λh=>by have:=h1.1 h;omega
 have h4:i<nN Xs n:=h2.2 aa
 omega
def dM(Xs:List PB)(i:Nat):Nat:=
 cN (λj k=>uC (xi Xs i) (xi Xs j) (xi Xs k)) (List.range' (jC Xs (xi Xs i).t+1) (nN Xs (xi Xs i).t-jC Xs (xi Xs i).t-1)) (jC Xs (xi Xs i).t)
theorem IB{cf cg:Nat->Nat->Int}{f:Nat->Nat}:∀(l:List Nat)(m:Nat),(∀j∈m::l,∀k∈m::l,cf (f j) (f k)=cg j k)->cN cf (l.map f) (f m)=f (cN cg l m)
 |[],m,_=>rfl
 |b::l,m,h=>by
  show cN cf (l.map f) (if cf (f b) (f m)<0 then f b else f m)=f (cN cg l (if cg b m<0 then b else m))
  rw[h b af m af]
  by_cases hc:cg b m<0
  .rw[aV hc,aV hc];exact IB l b λj hj k hk=>h j (bV _ hj) k (bV _ hk)
  .rw[aP hc,aP hc];refine IB l m λj hj k hk=>h j ?_ k ?_
   .rcases bU.1 hj with h|h
    .rw[h];simp
    .simp[h]
   .rcases bU.1 hk with h|h
    .rw[h];simp
    .simp[h]
theorem ab7(h:jC Xs (xi Xs i).t<nN Xs (xi Xs i).t):jC Xs (xi Xs i).t<=dM Xs i/\dM Xs i<nN Xs (xi Xs i).t:=by
 unfold dM;rcases zN (λj k=>uC (xi Xs i) (xi Xs j) (xi Xs k)) (List.range' (jC Xs (xi Xs i).t+1) (nN Xs (xi Xs i).t-jC Xs (xi Xs i).t-1)) (jC Xs (xi Xs i).t) with e|e
 .rw[e];omega
 .have:=J3.1 e;omega
theorem amW(s R g c d n cap:Nat)(T1 T2:Nat)(T3:Int)(w:aM)(a4:w.cell? ⟨s,4,none⟩=some (aA aK T1 T2))(a5:w.cell? ⟨s,5,none⟩=some (az aJ T3))
  (HL:Hid (ak 210 #[aG (some ⟨g,0,none⟩) n cap,aC #[aA aK T1 T2,az aJ T3]] w λe w'=>e=aL (aG (some ⟨g,c,none⟩) (d-c) (cap-c))/\aj w w'))
  (HM:Hid (∀w',aj w w'->ak 171 #[aG (some ⟨g,c,none⟩) (d-c) (cap-c),.func (.func 211) #[aH (some ⟨s,0,none⟩)] #[]] w' λe w''=>e=aL (aH (some ⟨R,0,none⟩))/\aj w' w'')):
  ak 165 #[aG (some ⟨g,0,none⟩) n cap,aH (some ⟨s,0,none⟩)] w λe w'=>e=aL (aH (some ⟨R,0,none⟩))/\aj w w':=by
 go_enter func165,ntmps165
 go_wp2_with fail
 refine HL.out.mono ?_;rintro e w1 ⟨rfl,hb1⟩
 go_wp2_with fail
 refine(HM.out w1 hb1).mono ?_;rintro e w2 ⟨rfl,hb2⟩
 go_wp2_with fail
 go_ret
 exact⟨rfl,hb1.trans (hb2.mono hb1.size)⟩
theorem RB.at(h:RB w g bs Xs)(hi:i<Xs.length):jB w (bx bs i) (xi Xs i):=
 h.side i _ _ (zP (by rw[h.len];exact hi)) (xO hi)
theorem RB.cellAt(h:RB w g bs Xs)(hi:i<Xs.length):w.cell? ⟨g,i,none⟩=some (aH (some ⟨bx bs i,0,none⟩)):=
 h.row i _ (zP (by rw[h.len];exact hi))
theorem amX(bs:List Nat)(Xs:List PB)(hB:BD Xs)(hnd:bs.Nodup)(g cap i:Nat)(hi:i<Xs.length)(w:aM)(hR:RB w g bs Xs)(hbc:bs.length<=cap)(hne:∃x∈Xs,x.f=(xi Xs i).t):
  ak 165 #[aG (some ⟨g,0,none⟩) bs.length cap,aH (some ⟨bx bs i,0,none⟩)] w λe w'=>e=aL (aH (some ⟨bx bs (dM Xs i),0,none⟩))/\aj w w':=by
 have hx:=iM hi;have MZ:=(hB.v _ hx).ct;have hlt:=Tf hB MZ hne;have xP:=Te Xs (xi Xs i).t;have hbl:bs.length<=85000000:=by rw[hR.len];exact hB.len
 have hlen:=hR.len;have hs:=hR.at hi;refine amW (bx bs i) (bx bs (dM Xs i)) g (jC Xs (xi Xs i).t) (nN Xs (xi Xs i).t) bs.length cap _ _ _ w hs.c4 hs.c5 (amR bs Xs (xi Xs i).t g cap w _ _ hR hbl hbc hlt aa (MW hB MZ) (λj x h1 h2=>MX hB MZ j x h1 h2) hB.v (hB.v _ hx).t.bw MZ) ?_
 refine λw' hb=>?_
 have hR':=hR.below hb;generalize hc:jC Xs (xi Xs i).t=c at*;generalize hd:nN Xs (xi Xs i).t=d at*;have hm:=amO (λb b'=>uC (xi Xs i) (xi Xs (bs.idxOf b)) (xi Xs (bs.idxOf b'))) (bx bs c) ((List.range' (c+1) (d-c-1)).map (bx bs)) g c (cap-c) (bx bs i) w' (by simp;omega)
  (λk b hk=>by
   have amY:bx bs c::(List.range' (c+1) (d-c-1)).map (bx bs)=(List.range' c (d-c)).map (bx bs):=by
    have e:d-c=(d-c-1)+1:=aa
    rw[e,List.range'_succ];rfl
   rw[amY] at hk;have hkl:k<d-c:=by
    have:=(cG.1 hk).1;simpa using this
   rw[iy,List.getElem?_range' hkl] at hk;have hb':bx bs (c+k)=b:=by simpa using hk
   rw[<-hb'];exact hR'.cellAt aa)
  (λb hb1 b' hb2 w'' hw=>by
   have key:∀b,b∈bx bs c::(List.range' (c+1) (d-c-1)).map (bx bs)->∃k,k<Xs.length/\b=bx bs k:=by
    intro b hb;rcases bU.1 hb with h|h
    .exact⟨c,aa,h⟩
    .obtain⟨k,hk,rfl⟩:=bQ.1 h;have:=J3.1 hk;exact⟨k,aa,rfl⟩
   obtain⟨k1,h1,rfl⟩:=key b hb1;obtain⟨k2,h2,rfl⟩:=key b' hb2;have EU:=hR'.below hw;rw[oH hnd aa,oH hnd aa]
   obtain⟨l,hl⟩:=hB.ld _ hx;obtain⟨l1,Bq⟩:=hB.ld _ (iM h1);obtain⟨l2,hl2⟩:=hB.ld _ (iM h2);exact amN _ _ _ hl Bq hl2 _ _ _ w'' (EU.at hi) (EU.at h1) (EU.at h2))
 have amZ:((List.range' (c+1) (d-c-1)).map (bx bs)).length+1=d-c:=by simp;omega
 have hmin:cN (λb b'=>uC (xi Xs i) (xi Xs (bs.idxOf b)) (xi Xs (bs.idxOf b'))) ((List.range' (c+1) (d-c-1)).map (bx bs)) (bx bs c)=bx bs (dM Xs i):=by
  unfold dM;rw[hc,hd];refine IB _ _ λj hj k hk=>?_
  have key:∀j,j∈c::List.range' (c+1) (d-c-1)->j<bs.length:=by
   intro j hj;rcases bU.1 hj with h|h
   .omega
   .have:=J3.1 h;omega
  simp only[oH hnd (key j hj),oH hnd (key k hk)]
 rw[hmin] at hm;have am0:(((List.range' (c+1) (d-c-1)).map (bx bs)).length:Nat)+1=d-c:=amZ;rw[am0] at hm;exact hm
namespace Ga
open Ge
theorem am1{rg:List (List Pt)}{l:List Nd}(hN:di (aT rg) l){bw:Int->Bool}{n m c:Nd}(hout:bw (PP (aT rg) n)=false)(h:Sd (aT rg) l bw m n)(hc:Sd (aT rg) l bw n c)
  (hm:∀c',Sd (aT rg) l bw n c'->¬tC (wv m n) (wv n c') (wv n c)<0):bf (wv n c) (wv n m)=true:=by
 obtain⟨n1,_,hn⟩:=iP hN h.pc;obtain⟨n3,_,_⟩:=iP hN hc.pc;have m1:wv n m≠(0,0):=by rw[gu m n];exact kE n1
 have h1:=(h.Cf hN).1;obtain⟨z,hz,ez⟩:=Qc _ (wv n m) m1 (aY _) hout h1;obtain⟨c',hc',hsm⟩:=ME hN hn hz;obtain⟨n4,_,_⟩:=iP hN hc'.pc;have Ig:bf (wv n c') (wv n m)=true:=by rw[SB hsm];exact ez
 have t:=jx n3 m1;rw[h.sM hN hc] at t;cases k:bf (wv n c) (wv n m)
 .exfalso;rw[k] at t;have k':bf (wv n m) (wv n c)=true:=by revert t;cases bf (wv n m) (wv n c)<;>decide
  have:=(Gf m1 n4 n3 (h.sM hN hc') (h.sM hN hc)).2 (oc.2 (aR (aS ⟨Ig,k'⟩)));rw[<-gu] at this;exact hm c' hc' this
 .rfl
theorem am2{rg:List (List Pt)}{l:List Nd}(hN:di (aT rg) l){bw:Int->Bool}{n m c k:Nd}(hout:bw (PP (aT rg) n)=false)(h:Sd (aT rg) l bw m n)(hr:bz (wv n m))(hc:Sd (aT rg) l bw n c)
  (hm:∀c',Sd (aT rg) l bw n c'->¬tC (wv m n) (wv n c') (wv n c)<0)(hk:Sd (aT rg) l bw n k)(hle:bf (wv n c) (wv n k)=false):0<cr (wv m n) (wv n k):=by
 have h1:=am1 hN hout h hc hm;obtain⟨n1,_,_⟩:=iP hN h.pc;obtain⟨n3,_,_⟩:=iP hN hc.pc;obtain⟨n4,_,_⟩:=iP hN hk.pc;have m1:wv n m≠(0,0):=by rw[gu m n];exact kE n1
 have t:=jx n3 n4;rw[hle] at t;have h2:bf (wv n k) (wv n m)=true:=by
  cases hs:bg (wv n c) (wv n k)
  .rw[hs] at t;have:bf (wv n k) (wv n c)=true:=by revert t;cases bf (wv n k) (wv n c)<;>decide
   exact iY n4 n3 m1 this h1
  .rw[<-SB hs];exact h1
 have:=((Kl hr _).1 h2).2;rw[gu n m,fU];omega
theorem am3{a x y z:Pt}(ha:a≠(0,0))(hx:x≠(0,0))(hy:y≠(0,0))(hz:z≠(0,0))(h1:cw a x y=true)(h2:cw a y z=true):cw a x z=true:=by
 rw[oc] at*;have oI:bf y a=true->bf a y=true->False:=λp q=>by
  rw[Kr hy ha p] at q;cases q
 rcases h1 with⟨p1,p2,p3⟩|⟨p1,p2⟩|⟨p1,p2,p3⟩<;>rcases h2 with⟨q1,q2,q3⟩|⟨q1,q2⟩|⟨q1,q2,q3⟩
 .exact aS ⟨p1,q2,iY hz hy hx q3 p3⟩
 .exact aR (aS ⟨p1,q2⟩)
 .exact(oI p2 q1).elim
 .exact(oI q1 p2).elim
 .exact(oI q1 p2).elim
 .exact aR (aS ⟨p1,q2⟩)
 .exact(oI q1 p2).elim
 .exact(oI q1 p2).elim
 .exact aR (aR ⟨p1,q2,iY hz hy hx q3 p3⟩)
theorem am4{n m:N3}(hn:0<n.2.2)(hm:0<m.2.2)(e1:n.1*m.2.2=m.1*n.2.2)(e2:n.2.1*m.2.2=m.2.1*n.2.2)(u v:Pt):right (rl n u) (rl n v)=right (rl m u) (rl m v):=by
 have k:∀p,sc m.2.2 (rl n p)=sc n.2.2 (rl m p):=λp=>by
  obtain⟨e1,e2⟩:=Sz e1 e2 p;unfold sc;exact dN e1 e2
 rw[<-Dm hm (rl n u) (rl n v),k,k,Dm hn]
end Ga
theorem vV(f t:Ge.Nd):(df f t).1=(Ga.wv f t).1/\(df f t).2.1=(Ga.wv f t).2:=by
 unfold df Ga.wv;exact⟨by simp only;grind,by simp only;grind⟩
theorem zR(x y:PB):gA x y=(Ge.cr (Ga.wv x.f x.t) (Ga.wv y.f y.t)).sign:=by
 unfold gA Ge.cr;rw[(vV x.f x.t).1,(vV x.f x.t).2,(vV y.f y.t).1,(vV y.f y.t).2]
theorem M0(s a b:PB):uC s a b=Ga.tC (Ga.wv s.f s.t) (Ga.wv a.f a.t) (Ga.wv b.f b.t):=by
 unfold uC Ga.tC;rw[zR,zR,zR]
theorem am5(es:List Ed){f t:Ge.Nd}(hf:0<f.2.2)(ht:0<t.2.2):qj es f t=Ga.RR es f t/\sL es f t=Ga.LL es f t:=by
 obtain⟨c,q⟩:=Ge.Su (f.1+t.1) (f.2.1+t.2.1) (d:=f.2.2+t.2.2) aa
 have hq:0<(Ga.cH f t).2.2:=by show 0<f.2.2+t.2.2;omega
 have e1:(eI f t).1*(Ga.cH f t).2.2=(Ga.cH f t).1*(eI f t).2.2:=by
  have k:=Ge.Ei (a:=(eI f t).1) (c:=f.1+t.1) c.pos (show 0<f.2.2+t.2.2 by omega)
  have h':Ge.bO (eI f t).1 (eI f t).2.2=Ge.bO (f.1+t.1) (f.2.2+t.2.2):=aZ Prod.fst q;have k':Ge.fc (Ge.bO (eI f t).1 (eI f t).2.2) (Ge.bO (f.1+t.1) (f.2.2+t.2.2))=((eI f t).1*(f.2.2+t.2.2)-(f.1+t.1)*(eI f t).2.2).sign:=k;rw[h',Ge.DV] at k';have:=yL.1 k'.symm;show(eI f t).1*(f.2.2+t.2.2)=(f.1+t.1)*(eI f t).2.2;omega
 have e2:(eI f t).2.1*(Ga.cH f t).2.2=(Ga.cH f t).2.1*(eI f t).2.2:=by
  have k:=Ge.Ei (a:=(eI f t).2.1) (c:=f.2.1+t.2.1) c.pos (show 0<f.2.2+t.2.2 by omega)
  have h':Ge.bO (eI f t).2.1 (eI f t).2.2=Ge.bO (f.2.1+t.2.1) (f.2.2+t.2.2):=aZ Prod.snd q;have k':Ge.fc (Ge.bO (eI f t).2.1 (eI f t).2.2) (Ge.bO (f.2.1+t.2.1) (f.2.2+t.2.2))=((eI f t).2.1*(f.2.2+t.2.2)-(f.2.1+t.2.1)*(eI f t).2.2).sign:=k;rw[h',Ge.DV] at k';have:=yL.1 k'.symm;show(eI f t).2.1*(f.2.2+t.2.2)=(f.2.1+t.2.1)*(eI f t).2.2;omega
 have hpos:0<(eI f t).2.2:=c.pos;have r:qj es f t=Ga.RR es f t:=by
  exact Ga.qI (F:=Ge.fr ((eI f t).1,(eI f t).2.1) (eI f t).2.2) (G:=λu v=>Ge.right (Ga.rl (Ga.cH f t) u) (Ga.rl (Ga.cH f t) v)) λe _=>Ga.am4 hpos hq e1 e2 e.1 e.2
 refine⟨r,?_⟩;have k:Ge.total (Ge.fa (eI f t) (df f t)) es=Ge.total (Ga.fb (Ga.cH f t) (Ga.wv f t)) es:=by
  refine Ga.qI λe _=>?_
  unfold Ge.fa Ga.fb;have ho:Ge.fo ((eI f t).1,(eI f t).2.1) (eI f t).2.2 (e.1,e.2)=Ge.on (Ga.rl (Ga.cH f t) e.1) (Ga.rl (Ga.cH f t) e.2):=by
   show Ge.on (Ga.rl (eI f t) e.1) (Ga.rl (eI f t) e.2)=_;cases h1:Ge.on (Ga.rl (Ga.cH f t) e.1) (Ga.rl (Ga.cH f t) e.2)
   .cases h2:Ge.on (Ga.rl (eI f t) e.1) (Ga.rl (eI f t) e.2)
    .rfl
    .rw[Ga.Mz hq hpos e1.symm e2.symm h2] at h1;cases h1
   .exact Ga.Mz hpos hq e1 e2 h1
  rw[ho,(vV f t).1,(vV f t).2]
 show qj es f t+Ge.total (Ge.fa (eI f t) (df f t)) es=_;rw[r,k];rfl
end
section
open Go.RowKit
open Ge
structure SX(rg:List (List Pt))(l:List Nd)(r:Int)(Xs:List PB):Prop where
 nl:Ga.di (aT rg) l
 mem:∀x∈Xs,Ga.Sd (aT rg) l (takes r) x.f x.t
 all:∀a b,Ga.Sd (aT rg) l (takes r) a b->∃x∈Xs,x.f=a/\x.t=b
 EW:∀i j,i<Xs.length->j<Xs.length->(xi Xs i).f=(xi Xs j).f->(xi Xs i).t=(xi Xs j).t->i=j
theorem M3{r:Int}{es:List Ed}{p x:PB}(hx:x∈gL r es p):(x=p/\takes r (sL es p.f p.t)=true/\takes r (qj es p.f p.t)=false)\/(x=p.rev/\takes r (qj es p.f p.t)=true/\takes r (sL es p.f p.t)=false):=by
 unfold gL at hx;split at hx
 .rename_i h
  exact aS ⟨by simpa using hx,h⟩
 .split at hx
  .rename_i h
   exact aR ⟨by simpa using hx,h⟩
  .simp at hx
theorem M4{rg:List (List Pt)}{l:List Nd}{r:Int}{Ps:List PB}(hl:l.map aU=ja (aT rg))(hc:∀n∈l,Ge.Can n)(h:qi (aT rg) l Ps):SX rg l r (oG r (aT rg) Ps):=by
 have hN:Ga.di (aT rg) l:=⟨hl,hc,λe he=>K1 he⟩
 have hv:∀x∈Ps.flatMap (gL r (aT rg)),eB x:=λx hx=>by
  obtain⟨p,hp,xN⟩:=oW.1 hx;exact S5 (h.v p hp) xN
 obtain⟨hperm,_⟩:=abY (Ps.flatMap (gL r (aT rg))) hv;have hpc:∀p∈Ps,Ga.fk (aT rg) l p.f p.t:=λp hp=>by
  obtain⟨e,he,_,hq⟩:=h.ap.mem p hp;exact⟨e,he,hq⟩
 have hts:∀p∈Ps,qj (aT rg) p.f p.t=Ga.RR (aT rg) p.f p.t/\sL (aT rg) p.f p.t=Ga.LL (aT rg) p.f p.t:=λp hp=>am5 _ (h.v p hp).cf.pos (h.v p hp).ct.pos
 refine⟨hN,λx hx=>?_,λa b hab=>?_,λi j hi hj hf ht=>?_⟩
 .obtain⟨p,hp,xN⟩:=oW.1 ((hperm.mem_iff).1 hx);obtain⟨t1,t2⟩:=hts p hp;rcases M3 xN with⟨rfl,h1,h2⟩|⟨rfl,h1,h2⟩
  .rw[t2] at h1;rw[t1] at h2;exact aS ⟨hpc _ hp,h1,h2⟩
  .rw[t1] at h1;rw[t2] at h2;exact aR ⟨hpc _ hp,h1,h2⟩
 .rcases hab with⟨⟨e,he,hq⟩,h1,h2⟩|⟨⟨e,he,hq⟩,h1,h2⟩
  .obtain⟨p,hp,mU⟩:=h.ap.all e he _ hq;have e1:p.f=a:=aZ Prod.fst mU;have e2:p.t=b:=aZ Prod.snd mU;obtain⟨t1,t2⟩:=hts p hp;rw[e1,e2] at t1 t2;refine⟨p,(hperm.mem_iff).2 (oW.2 ⟨p,hp,?_⟩),e1,e2⟩;unfold gL;rw[e1,e2,t1,t2,aV ⟨h1,h2⟩];simp
  .obtain⟨p,hp,mU⟩:=h.ap.all e he _ hq;have e1:p.f=b:=aZ Prod.fst mU;have e2:p.t=a:=aZ Prod.snd mU;obtain⟨t1,t2⟩:=hts p hp;rw[e1,e2] at t1 t2;refine⟨p.rev,(hperm.mem_iff).2 (oW.2 ⟨p,hp,?_⟩),e2,e1⟩;unfold gL;rw[e1,e2,t1,t2,aP (by rw[h2];simp),aV ⟨h1,h2⟩]
   simp
 .have hp0:(Ps.flatMap (gL r (aT rg))).Pairwise λx y=>¬(x.f=y.f/\x.t=y.t):=by
   rw[aty];refine⟨λp hp=>?_,?_⟩
   .unfold gL;split
    .exact atz _ _
    .split
     .exact atz _ _
     .exact List.Pairwise.nil
   .refine wU (λ{p q} hp hq hlt x hx y hy=>?_) h.rp
    have lp:=MN h hl p hp;have lq:=MN h hl q hq;have asym:∀{u v:Nd},Ge.Can u->Ge.Can v->lt (aU u) (aU v)->¬lt (aU v) (aU u):=λhu hv a b=>lt_irrefl _ (lt_trans (eA hu) (eA hv) (eA hu) a b)
    have hne:¬(p.f=q.f/\p.t=q.t):=λ⟨a,b⟩=>by
     have h1:=aa7 (h.v p hp) (h.v q hq) (h.v q hq) a b;have h2:=h1.1 hlt;have h3:¬kV q q:=by
      unfold kV Ew;rw[zQ,zQ];simp
     exact h3 h2
    rintro⟨e1,e2⟩;rcases M3 hx with⟨rfl,_⟩|⟨rfl,_⟩<;>rcases M3 hy with⟨rfl,_⟩|⟨rfl,_⟩
    .exact hne ⟨e1,e2⟩
    .have mF:x.f=q.t:=e1;have e2':x.t=q.f:=e2;rw[mF,e2'] at lp;exact asym (h.v q hq).cf (h.v q hq).ct lq lp
    .have mF:p.t=y.f:=e1;have e2':p.f=y.t:=e2;rw[mF,e2'] at lp;exact asym (h.v _ hq).cf (h.v _ hq).ct lq lp
    .have mF:p.t=q.t:=e1;have e2':p.f=q.f:=e2;exact hne ⟨e2',mF⟩
  have hp1:(oG r (aT rg) Ps).Pairwise λx y=>¬(x.f=y.f/\x.t=y.t):=(hperm.pairwise_iff (λ{x y} hxy=>λ⟨a,b⟩=>hxy ⟨a.symm,b.symm⟩)).2 hp0
  have gx:∀{k:Nat}(hk:k<(oG r (aT rg) Ps).length),xi (oG r (aT rg) Ps) k=(oG r (aT rg) Ps)[k]:=λhk=>vU (bo hk)
  rw[gx hi,gx hj] at hf ht;rcases Aw i j with k|k|k
  .exact absurd ⟨hf,ht⟩ (lW.1 hp1 i j hi hj k)
  .exact k
  .exact absurd ⟨hf.symm,ht.symm⟩ (lW.1 hp1 j i hj hi k)
theorem Th{cf:Nat->Nat->Int}:∀(l:List Nat)(m:Nat),(m::l).Nodup->(∀a∈m::l,∀b∈m::l,∀c∈m::l,cf a b<0->cf b c<0->cf a c<0)->(∀a∈m::l,¬cf a a<0)->(∀a∈m::l,∀b∈m::l,a≠b->cf a b<0\/cf b a<0)->∀k∈m::l,¬cf k (cN cf l m)<0
 |[],m,_,_,hi,_,k,hk=>by
  have:k=m:=by simpa using hk
  rw[this];exact hi m af
 |b::l,m,hn,ht,hi,hw,k,hk=>by
  have hb:b∈m::b::l:=af
  have hm:m∈m::b::l:=af
  have lM:m≠b:=λe=>by
   rw[e] at hn;simp at hn
  show ¬cf k (cN cf l (if cf b m<0 then b else m))<0
  have hres:∀m'∈m::b::l,cN cf l m'∈m::b::l:=λm' hm'=>by
   rcases zN cf l m' with e|e
   .rw[e];exact hm'
   .exact bV _ (bV _ e)
  by_cases hc:cf b m<0
  .rw[aV hc];have sub:∀x,x∈b::l->x∈m::b::l:=λx hx=>bV _ hx
   have ih:=Th l b (Pv.1 hn).2 (λa ha c hc' d hd=>ht a (sub a ha) c (sub c hc') d (sub d hd)) (λa ha=>hi a (sub a ha)) (λa ha c hc'=>hw a (sub a ha) c (sub c hc'))
   rcases bU.1 hk with e|hk
   .rw[e];intro h;exact ih b af (ht b hb m hm _ (hres b hb) hc h)
   .exact ih k hk
  .rw[aP hc];have hcm:cf m b<0:=(hw m hm b hb lM).resolve_right hc;have sub:∀x,x∈m::l->x∈m::b::l:=λx hx=>by
    rcases bU.1 hx with e|hx
    .rw[e];simp
    .simp[hx]
   have hn':(m::l).Nodup:=by
    rw[Pv] at hn⊢;exact⟨λh=>hn.1 (bV _ h),(Pv.1 hn.2).2⟩
   have ih:=Th l m hn' (λa ha c hc' d hd=>ht a (sub a ha) c (sub c hc') d (sub d hd)) (λa ha=>hi a (sub a ha)) (λa ha c hc'=>hw a (sub a ha) c (sub c hc'))
   rcases bU.1 hk with e|hk
   .rw[e];exact ih m af
   .rcases bU.1 hk with e|hk
    .rw[e];intro h;exact ih m af (ht m hm b hb _ (hres m hm) hcm h)
    .exact ih k (bV _ hk)
section
variable{rg:List (List Pt)}{l:List Nd}{r:Int}{Xs:List PB}
theorem SX.sd(h:SX rg l r Xs){i:Nat}(hi:i<Xs.length):Ga.Sd (aT rg) l (takes r) (xi Xs i).f (xi Xs i).t:=h.mem _ (iM hi)
theorem SX.find(h:SX rg l r Xs){a b:Nd}(hs:Ga.Sd (aT rg) l (takes r) a b):∃i,i<Xs.length/\(xi Xs i).f=a/\(xi Xs i).t=b:=by
 obtain⟨x,hx,e1,e2⟩:=h.all a b hs;obtain⟨i,hi,rfl⟩:=jG.1 hx;exact⟨i,hi,by rw[vU (bo hi)];exact e1,by rw[vU (bo hi)];exact e2⟩
theorem SX.go(h:SX rg l r Xs)(i:Nat)(hi:i<Xs.length):∃x∈Xs,x.f=(xi Xs i).t:=by
 obtain⟨c,hc⟩:=(h.sd hi).next h.nl
 obtain⟨x,hx,e,_⟩:=h.all _ _ hc;exact⟨x,hx,e⟩
theorem SX.next(h:SX rg l r Xs)(hB:BD Xs){i:Nat}(hi:i<Xs.length):dM Xs i<Xs.length/\(xi Xs (dM Xs i)).f=(xi Xs i).t/\∀j,j<Xs.length->(xi Xs j).f=(xi Xs i).t->¬uC (xi Xs i) (xi Xs j) (xi Xs (dM Xs i))<0:=by
 have lQ:=(hB.v _ (iM hi)).ct;have hlt:=Tf hB lQ (h.go i hi);obtain⟨h1,h2⟩:=ab7 hlt;have hle:=Te Xs (xi Xs i).t;have hlen:dM Xs i<Xs.length:=aa
 have hf:(xi Xs (dM Xs i)).f=(xi Xs i).t:=(MX hB lQ _ _ (xO hlen) h1).1 h2;refine⟨hlen,hf,λj hj hfj=>?_⟩
 have Co:∀k,k∈jC Xs (xi Xs i).t::List.range' (jC Xs (xi Xs i).t+1) (nN Xs (xi Xs i).t-jC Xs (xi Xs i).t-1)↔jC Xs (xi Xs i).t<=k/\k<nN Xs (xi Xs i).t:=λk=>by
  rw[bU,J3];omega
 have vW:∀k,jC Xs (xi Xs i).t<=k->k<nN Xs (xi Xs i).t->k<Xs.length/\(xi Xs k).f=(xi Xs i).t:=λk k1 k2=>by
  have hk:k<Xs.length:=aa
  exact⟨hk,(MX hB lQ _ _ (xO hk) k1).1 k2⟩
 have hjm:jC Xs (xi Xs i).t<=j/\j<nN Xs (xi Xs i).t:=by
  have a:=MW hB lQ j _ (xO hj);have hge:jC Xs (xi Xs i).t<=j:=by
   apply Nat.not_lt.1;intro hk;have:=a.1 hk;rw[hfj,zQ] at this;omega
  exact⟨hge,(MX hB lQ j _ (xO hj) hge).2 hfj⟩
 have zS:=h.sd hi;have facts:∀k,k<Xs.length->(xi Xs k).f=(xi Xs i).t->Ga.wv (xi Xs i).t (xi Xs k).t≠(0,0)/\Ga.bg (Ga.wv (xi Xs i).t (xi Xs k).t) (Ga.wv (xi Xs i).t (xi Xs i).f)=false:=λk hk zT=>by
  have hsk:=h.sd hk;rw[zT] at hsk;exact⟨(Ga.iP h.nl hsk.pc).1,zS.sM h.nl hsk⟩
 have ha:Ga.wv (xi Xs i).t (xi Xs i).f≠(0,0):=by rw[Ga.gu];exact Ga.kE (Ga.iP h.nl zS.pc).1
 have hcw:∀j k,j<Xs.length->(xi Xs j).f=(xi Xs i).t->k<Xs.length->(xi Xs k).f=(xi Xs i).t->(uC (xi Xs i) (xi Xs j) (xi Xs k)<0↔Ga.cw (Ga.wv (xi Xs i).t (xi Xs i).f) (Ga.wv (xi Xs i).t (xi Xs j).t) (Ga.wv (xi Xs i).t (xi Xs k).t)=true):=λj k hj Ti hk zT=>by
  have:=Ga.Gf ha (facts j hj Ti).1 (facts k hk zT).1 (facts j hj Ti).2 (facts k hk zT).2;rw[<-this,M0,Ti,zT,<-Ga.gu]
 have key:=Th (cf:=λj k=>uC (xi Xs i) (xi Xs j) (xi Xs k)) (List.range' (jC Xs (xi Xs i).t+1) (nN Xs (xi Xs i).t-jC Xs (xi Xs i).t-1)) (jC Xs (xi Xs i).t) (by
   rw[Pv];refine⟨λhm=>?_,List.nodup_range' ..⟩
   have:=J3.1 hm;omega) (λa ha' b hb c hc h1 h2=>by
   obtain⟨a1,a2⟩:=(Co a).1 ha';obtain⟨b1,b2⟩:=(Co b).1 hb;obtain⟨c1,c2⟩:=(Co c).1 hc;obtain⟨a3,a4⟩:=vW a a1 a2;obtain⟨b3,b4⟩:=vW b b1 b2;obtain⟨c3,c4⟩:=vW c c1 c2;refine(hcw a c a3 a4 c3 c4).2 ?_;exact Ga.am3 ha (facts a a3 a4).1 (facts b b3 b4).1 (facts c c3 c4).1 ((hcw a b a3 a4 b3 b4).1 h1) ((hcw b c b3 b4 c3 c4).1 h2)) (λa ha' hk=>by
   obtain⟨a1,a2⟩:=(Co a).1 ha';obtain⟨a3,a4⟩:=vW a a1 a2;have:=Ga.oc.1 ((hcw a a a3 a4 a3 a4).1 hk);rw[Ga.tT] at this;have oI:=Ga.Kr (facts a a3 a4).1 ha;rcases this with⟨_,_,h'⟩|⟨h',h''⟩|⟨_,_,h'⟩
   .cases h'
   .rw[oI h'] at h'';cases h''
   .cases h') (λa ha' b hb hne=>by
   obtain⟨a1,a2⟩:=(Co a).1 ha';obtain⟨b1,b2⟩:=(Co b).1 hb;obtain⟨a3,a4⟩:=vW a a1 a2;obtain⟨b3,b4⟩:=vW b b1 b2;obtain⟨na,sa⟩:=facts a a3 a4;obtain⟨nb,sb⟩:=facts b b3 b4;have hs:Ga.bg (Ga.wv (xi Xs i).t (xi Xs a).t) (Ga.wv (xi Xs i).t (xi Xs b).t)=false:=by
    cases hk:Ga.bg (Ga.wv (xi Xs i).t (xi Xs a).t) (Ga.wv (xi Xs i).t (xi Xs b).t)
    .rfl
    .exfalso;have sda:=h.sd a3;have sdb:=h.sd b3;rw[a4] at sda;rw[b4] at sdb;have:=Ga.Il h.nl sda.pc sdb.pc hk;exact hne (h.EW a b a3 b3 (a4.trans b4.symm) this)
   have t1:=Ga.jx na ha;have t2:=Ga.jx nb ha;have t3:=Ga.jx na nb;rw[sa] at t1;rw[sb] at t2;rw[hs] at t3;rw[hcw a b a3 a4 b3 b4,hcw b a b3 b4 a3 a4];unfold Ga.cw;revert t1 t2 t3;generalize Ga.bf (Ga.wv (xi Xs i).t (xi Xs a).t) (Ga.wv (xi Xs i).t (xi Xs i).f)=p1;generalize Ga.bf (Ga.wv (xi Xs i).t (xi Xs i).f) (Ga.wv (xi Xs i).t (xi Xs a).t)=p2;generalize Ga.bf (Ga.wv (xi Xs i).t (xi Xs b).t) (Ga.wv (xi Xs i).t (xi Xs i).f)=p3;generalize Ga.bf (Ga.wv (xi Xs i).t (xi Xs i).f) (Ga.wv (xi Xs i).t (xi Xs b).t)=p4;generalize Ga.bf (Ga.wv (xi Xs i).t (xi Xs a).t) (Ga.wv (xi Xs i).t (xi Xs b).t)=p5;generalize Ga.bf (Ga.wv (xi Xs i).t (xi Xs b).t) (Ga.wv (xi Xs i).t (xi Xs a).t)=p6;revert p1 p2 p3 p4 p5 p6;decide) j ((Co j).2 hjm)
 exact key
theorem SX.inj(h:SX rg l r Xs)(hB:BD Xs){i j:Nat}(hi:i<Xs.length)(hj:j<Xs.length)(he:dM Xs i=dM Xs j):i=j:=by
 obtain⟨i1,i2,i3⟩:=h.next hB hi
 obtain⟨j1,j2,j3⟩:=h.next hB hj
 rw[<-he] at j1 j2 j3;have hij:(xi Xs i).t=(xi Xs j).t:=i2.symm.trans j2;have si:=h.sd hi;have sj:=h.sd hj;have sn:=h.sd i1;rw[<-hij] at sj;rw[i2] at sn;have conv:∀k,k<Xs.length->(∀j,j<Xs.length->(xi Xs j).f=(xi Xs k).t->¬uC (xi Xs k) (xi Xs j) (xi Xs (dM Xs i))<0)->(xi Xs k).t=(xi Xs i).t->∀c',Ga.Sd (aT rg) l (takes r) (xi Xs i).t c'->¬Ga.tC (Ga.wv (xi Xs k).f (xi Xs i).t) (Ga.wv (xi Xs i).t c') (Ga.wv (xi Xs i).t (xi Xs (dM Xs i)).t)<0:=λk _ hm M5 c' hc'=>by
  obtain⟨q,hq,q1,q2⟩:=h.find hc';have:=hm q hq (by rw[q1,M5])
  rw[M0,q1,q2,i2,M5] at this;exact this
 have hf:=Ga.al3 h.nl si sj sn (conv i hi i3 rfl) (conv j hj j3 hij.symm);exact h.EW i j hi hj hf hij
end
end
namespace Gb
open Ge Ga
variable{u v x y p c e:Pt}
theorem am6{a a' l z:Pt}(ha:a≠(0,0))(ha':a'≠(0,0))(hl:l≠(0,0))(hz:z≠(0,0))(h1:cw a a' l=true)(h2:cw a' z l=true):cw a z l=true:=by
 have oI:∀{x y:Pt},x≠(0,0)->y≠(0,0)->bf x y=true->bf y x=true->False:=λhx hy p q=>by
  have:=Kr hx hy p;rw[q] at this;cases this
 rw[oc] at h1 h2⊢;rcases h1 with⟨p1,p2,p3⟩|⟨p1,p2⟩|⟨p1,p2,p3⟩<;>rcases h2 with⟨q1,q2,q3⟩|⟨q1,q2⟩|⟨q1,q2,q3⟩
 .exact aS ⟨iY hz ha' ha q1 p1,p2,q3⟩
 .exact absurd p3 (λk=>oI hl ha' k q2)
 .exact absurd p3 (λk=>oI hl ha' k q2)
 .exact absurd (iY ha' ha hl p1 p2) (λk=>oI ha' hl k q2)
 .exact aR (aS ⟨iY hz ha' ha q1 p1,p2⟩)
 .exact aR (aR ⟨iY ha hl hz p2 q3,p2,q3⟩)
 .exact aR (aR ⟨iY ha hl hz p2 q3,p2,q3⟩)
 .exact absurd p3 (λk=>oI hl ha' k q2)
 .exact absurd p3 (λk=>oI hl ha' k q2)
section
variable{es:List (Pt×Pt)}{l:List Nd}
theorem di.ok(hN:di es l):0<aW l/\∀n∈l,OK (aW l) n:=
 ⟨abx λn hn=>(hN.can n hn).pos,λn hn=>⟨(hN.can n hn).pos,aby hn⟩⟩
theorem Tj(hN:di es l){a b:Nd}(ha:a∈l)(hb:b∈l)(h:wv a b=(0,0)):a=b:=by
 rcases Sl (hN.can a ha) (hN.can b hb) with k|k|k
 .have:=(pA (hN.can a ha) (hN.can b hb)).1 k;exact absurd h (mR this)
 .exact k
 .have:=(pA (hN.can b hb) (hN.can a ha)).1 k;rw[gu a b,h] at this;exact absurd rfl (mR this)
theorem vX(hN:di es l){a b:Nd}(ha:a∈l)(hb:b∈l)(h:PM (aW l) a=PM (aW l) b):a=b:=
 Tj hN ha hb ((kZ (di.ok hN).1 ((di.ok hN).2 a ha) ((di.ok hN).2 b hb)).zero.1 (lZ.2 h))
theorem acb(hN:di es l){a f t:Nd}(ha:a∈l)(h:fk es l f t\/fk es l t f)(ho:on (dr (PM (aW l) a,PM (aW l) f)) (dr (PM (aW l) a,PM (aW l) t))=true):a=f\/a=t:=by
 have key:∀{f t:Nd},fk es l f t->on (dr (PM (aW l) a,PM (aW l) f)) (dr (PM (aW l) a,PM (aW l) t))=true->a=f\/a=t:=by
  intro f t h ho;obtain⟨hM,hO⟩:=di.ok hN;obtain⟨hf,ht,hr⟩:=h.facts hN;have p1:=kZ hM (hO a ha) (hO f hf);have p2:=kZ hM (hO a ha) (hO t ht);have p0:=kZ hM (hO f hf) (hO t ht);have q1:=kZ hM (hO f hf) (hO a ha);have q2:=kZ hM (hO a ha) (hO t ht);rw[jX] at ho;apply iV;intro hne;have hx:dr (PM (aW l) a,PM (aW l) f)≠(0,0):=λe=>hne (aS (Tj hN ha hf (p1.zero.1 e)))
  have hy:dr (PM (aW l) a,PM (aW l) t)≠(0,0):=λe=>hne (aR (Tj hN ha ht (p2.zero.1 e)))
  have dx:=Ga.dC hx;have dy:=Ga.dC hy;refine h.gap hN ha ⟨ql hr ((p0.cr q1).2.2.1 ?_) ((p0.dt q1).1.1 ?_),ql hr ((p0.cr q2).2.2.1 ?_) ((p0.dt q2).1.1 ?_)⟩
  .generalize PM (aW l) a=A at*;generalize PM (aW l) f=F at*;generalize PM (aW l) t=T at*;have:cr (dr (F,T)) (dr (F,A))=cr (dr (A,F)) (dr (A,T)):=by unfold cr dr;grind
   omega
  .generalize PM (aW l) a=A at*;generalize PM (aW l) f=F at*;generalize PM (aW l) t=T at*;have:dt (dr (F,T)) (dr (F,A))=dt (dr (A,F)) (dr (A,F))-dt (dr (A,F)) (dr (A,T)):=by unfold dt dr;grind
   omega
  .generalize PM (aW l) a=A at*;generalize PM (aW l) f=F at*;generalize PM (aW l) t=T at*;have:cr (dr (F,T)) (dr (A,T))= -cr (dr (A,F)) (dr (A,T)):=by unfold cr dr;grind
   omega
  .generalize PM (aW l) a=A at*;generalize PM (aW l) f=F at*;generalize PM (aW l) t=T at*;have:dt (dr (F,T)) (dr (A,T))=dt (dr (A,T)) (dr (A,T))-dt (dr (A,F)) (dr (A,T)):=by unfold dt dr;grind
   omega
 rcases h with h|h
 .exact key h ho
 .rw[uZ] at ho;exact(key h ho).symm
end
def ph(M:Int)(x:PB):Sg:=(PM M x.f,PM M x.t)
def sS(M:Int)(Xs:List PB):List Sg:=Xs.map (ph M)
def lh(M:Int)(Xs:List PB)(s:Sg):Sg:=match(List.range Xs.length).find? (λi=>decide (ph M (xi Xs i)=s)) with
 |some i=>ph M (xi Xs (dM Xs i))
 |none=>s
section
variable{rg:List (List Pt)}{l:List Nd}{r:Int}{Xs:List PB}
theorem SX.EX(h:SX rg l r Xs){i j:Nat}(hi:i<Xs.length)(hj:j<Xs.length)(e:ph (aW l) (xi Xs i)=ph (aW l) (xi Xs j)):i=j:=by
 obtain⟨_,a1,a2⟩:=iP h.nl (h.sd hi).pc;obtain⟨_,b1,b2⟩:=iP h.nl (h.sd hj).pc;exact h.EW i j hi hj (vX h.nl a1 b1 (aZ Prod.fst e)) (vX h.nl a2 b2 (aZ Prod.snd e))
theorem lj(M:Int){s:Sg}(hs:s∈sS M Xs):∃i,i<Xs.length/\s=ph M (xi Xs i):=by
 obtain⟨x,hx,rfl⟩:=bQ.1 hs;obtain⟨i,hi,e⟩:=jG.1 hx;exact⟨i,hi,by rw[<-e];unfold xi;rw[n9,bo hi];rfl⟩
theorem IC(M:Int){i:Nat}(hi:i<Xs.length):ph M (xi Xs i)∈sS M Xs:=bQ.2 ⟨_,iM hi,rfl⟩
theorem Cq(h:SX rg l r Xs){i:Nat}(hi:i<Xs.length):lh (aW l) Xs (ph (aW l) (xi Xs i))=ph (aW l) (xi Xs (dM Xs i)):=by
 unfold lh;cases hf:(List.range Xs.length).find? (λj=>decide (ph (aW l) (xi Xs j)=ph (aW l) (xi Xs i))) with
 |none=>
  have:=List.find?_eq_none.1 hf i (tN.2 hi);simp at this
 |some j=>
  have hj:=tN.1 (List.mem_of_find?_eq_some hf);have e:=List.find?_some hf;simp only;rw[SX.EX h hj hi (ia e)]
theorem SX.wd(h:SX rg l r Xs)(hB:BD Xs):Wd (sS (aW l) Xs) (lh (aW l) Xs):=by
 have hN:=h.nl;obtain⟨hM,hO⟩:=di.ok hN;have ml:∀{i},i<Xs.length->(xi Xs i).f∈l/\(xi Xs i).t∈l:=λhi=>(iP hN (h.sd hi).pc).2
 have wn:∀{i},i<Xs.length->wv (xi Xs i).f (xi Xs i).t≠(0,0):=λhi=>(iP hN (h.sd hi).pc).1
 have pd:∀{i},i<Xs.length->Pm (dr (ph (aW l) (xi Xs i))) (wv (xi Xs i).f (xi Xs i).t):=λhi=>kZ hM (hO _ (ml hi).1) (hO _ (ml hi).2)
 have nb:∀{i j},i<Xs.length->j<Xs.length->(xi Xs j).f=(xi Xs i).t->bg (wv (xi Xs j).f (xi Xs j).t) (neg (wv (xi Xs i).f (xi Xs i).t))=false:=λ{i j} hi hj e=>by
  have h1:=h.sd hi;have h2:=h.sd hj;rw[e] at h2⊢;have:=h1.sM hN h2;rw[gu (xi Xs i).f] at this;exact this
 have W1:∀{i j},i<Xs.length->j<Xs.length->(xi Xs j).f=(xi Xs i).t->cw (neg (wv (xi Xs i).f (xi Xs i).t)) (wv (xi Xs j).f (xi Xs j).t) (wv (xi Xs (dM Xs i)).f (xi Xs (dM Xs i)).t)=false:=λ{i j} hi hj e=>by
  obtain⟨n1,n2,n3⟩:=h.next hB hi
  have k:=n3 j hj e;rw[M0] at k;have t:=Gf (a:=neg (wv (xi Xs i).f (xi Xs i).t)) (kE (wn hi)) (wn hj) (wn n1) (nb hi hj e) (nb hi n1 n2);rw[neg_neg] at t;cases q:cw (neg (wv (xi Xs i).f (xi Xs i).t)) (wv (xi Xs j).f (xi Xs j).t) (wv (xi Xs (dM Xs i)).f (xi Xs (dM Xs i)).t)
  .rfl
  .exact absurd (t.2 q) k
 refine⟨λs hs e=>?_,λs hs u hu=>?_,λs hs u hu ho=>?_,λs hs u hu ho=>?_,λs hs u hu e k=>?_,λs hs u hu e k=>?_,λs hs u hu e=>?_,λs hs=>?_,λs hs u hu e=>?_,λs hs u hu e=>?_,λs hs u hu e=>?_⟩
 .obtain⟨i,hi,rfl⟩:=lj _ hs;exact wn hi ((pd hi).zero.1 (lZ.2 e))
 .obtain⟨i,hi,rfl⟩:=lj _ hs;obtain⟨j,hj,rfl⟩:=lj _ hu;rw[(pd hi).bz];rcases(h.sd hi).pc with q|q
  .exact⟨λ_=>abC hM hO hN q (h.sd hj).pc,λk=>absurd (q.facts hN).2.2 k⟩
  .have hr:=(q.facts hN).2.2;refine⟨λk=>?_,λ_=>abC hM hO hN q (h.sd hj).pc⟩
   rw[gu (xi Xs i).f] at hr;exact absurd hr (λw=>MD k w)
 .obtain⟨i,hi,rfl⟩:=lj _ hs;obtain⟨j,hj,rfl⟩:=lj _ hu;rcases acb hN (ml hi).1 (h.sd hj).pc ho with q|q
  .exact aS (aZ (PM (aW l)) q)
  .exact aR (aZ (PM (aW l)) q)
 .obtain⟨i,hi,rfl⟩:=lj _ hs;obtain⟨j,hj,rfl⟩:=lj _ hu;rcases acb hN (ml hi).2 (h.sd hj).pc ho with q|q
  .exact aS (aZ (PM (aW l)) q)
  .exact aR (aZ (PM (aW l)) q)
 .obtain⟨i,hi,rfl⟩:=lj _ hs;obtain⟨j,hj,rfl⟩:=lj _ hu;have ef:(xi Xs i).f=(xi Xs j).f:=vX hN (ml hi).1 (ml hj).1 e;rw[(pd hi).bg (pd hj)] at k;have h2:=(h.sd hj).pc;rw[<-ef] at k h2;have et:=Il hN (h.sd hi).pc h2 k;exact aZ (λi=>ph (aW l) (xi Xs i)) (h.EW i j hi hj ef et)
 .obtain⟨i,hi,rfl⟩:=lj _ hs;obtain⟨j,hj,rfl⟩:=lj _ hu;have et:(xi Xs i).t=(xi Xs j).t:=vX hN (ml hi).2 (ml hj).2 e;rw[(pd hi).bg (pd hj)] at k;have h2:=(h.sd hj).pc.symm;rw[<-et] at k h2;have k2:bg (wv (xi Xs i).t (xi Xs i).f) (wv (xi Xs i).t (xi Xs j).f)=true:=by
   rw[gu (xi Xs i).f,gu (xi Xs j).f,dm,fU,fG,pV,kI];rw[dm] at k;omega
  have ef:=Il hN (h.sd hi).pc.symm h2 k2;exact aZ (λi=>ph (aW l) (xi Xs i)) (h.EW i j hi hj ef et)
 .obtain⟨i,hi,rfl⟩:=lj _ hs;obtain⟨j,hj,rfl⟩:=lj _ hu;have ef:(xi Xs i).f=(xi Xs j).t:=vX hN (ml hi).1 (ml hj).2 e;rw[(pd hi).bg (pd hj).neg];exact nb hj hi ef
 .obtain⟨i,hi,rfl⟩:=lj _ hs;rw[Cq h hi];obtain⟨n1,n2,_⟩:=h.next hB hi
  exact⟨IC _ n1,aZ (PM (aW l)) n2⟩
 .obtain⟨i,hi,rfl⟩:=lj _ hs;obtain⟨j,hj,rfl⟩:=lj _ hu;rw[Cq h hi,Cq h hj] at e;exact aZ (λi=>ph (aW l) (xi Xs i)) (h.inj hB hi hj (SX.EX h (h.next hB hi).1 (h.next hB hj).1 e))
 .obtain⟨i,hi,rfl⟩:=lj _ hs;obtain⟨j,hj,rfl⟩:=lj _ hu;have ef:(xi Xs j).f=(xi Xs i).t:=vX hN (ml hj).1 (ml hi).2 e;rw[Cq h hi,(pd hi).neg.cw (pd hj) (pd (h.next hB hi).1)]
  exact W1 hi hj ef
 .obtain⟨i,hi,rfl⟩:=lj _ hs;obtain⟨j,hj,rfl⟩:=lj _ hu;have et:(xi Xs j).t=(xi Xs i).t:=vX hN (ml hj).2 (ml hi).2 e;obtain⟨n1,n2,_⟩:=h.next hB hi
  rw[Cq h hi,(pd hi).neg.cw (pd hj).neg (pd n1)];have acd:=kE (wn hi);have ace:=kE (wn hj);cases q:cw (neg (wv (xi Xs i).f (xi Xs i).t)) (neg (wv (xi Xs j).f (xi Xs j).t)) (wv (xi Xs (dM Xs i)).f (xi Xs (dM Xs i)).t)
  .rfl
  .exfalso;by_cases hij:i=j
   .subst hij;rw[oc,tT] at q;simp at q
   have hsm:bg (neg (wv (xi Xs i).f (xi Xs i).t)) (neg (wv (xi Xs j).f (xi Xs j).t))=false:=by
    cases k:bg (neg (wv (xi Xs i).f (xi Xs i).t)) (neg (wv (xi Xs j).f (xi Xs j).t))
    .rfl
    .rw[<-gu,<-gu] at k;have h2:=(h.sd hj).pc.symm;rw[et] at k h2;exact absurd (h.EW i j hi hj (Il hN (h.sd hi).pc.symm h2 k) et.symm) hij
   have a1:=(h.sd hi).Cf hN;have a2:=(h.sd hj).Cf hN;rw[et] at a2;have e1:wv (xi Xs i).t (xi Xs j).f=neg (wv (xi Xs j).f (xi Xs j).t):=by rw[<-et];exact gu _ _
   rw[gu (xi Xs i).f] at a1;rw[e1] at a2;obtain⟨z,hz,nL⟩:=Xe acd ace hsm a1.1 a1.2 a2.1 a2.2 (wn n1) (nb hi n1 n2) (nb hj n1 (n2.trans et.symm));obtain⟨m,hm,Tm⟩:=ME hN (ml hi).2 hz;obtain⟨v,hv,v1,v2⟩:=h.find hm;have hw1:=W1 hi hv v1;have hvn:=wn hv;have e2:wv (xi Xs i).t m=wv (xi Xs v).f (xi Xs v).t:=by rw[v1,v2]
   rw[e2] at Tm;rcases nL with k|k
   .rw[MF (Bh Tm)] at k;rw[hw1] at k;cases k
   .rw[MF (Bh Tm)] at k;have:=am6 acd ace (wn n1) hvn q k;rw[hw1] at this;cases this
end
def pC(M:Int)(es:List (Pt×Pt)):List (Pt×Pt):=es.map λe=>(cZ M e.1,cZ M e.2)
theorem am8{M:Int}(hM:0<M)(h:cZ M u=cZ M v):u=v:=by
 unfold cZ at h;have x1:=aZ Prod.fst h;have x2:=aZ Prod.snd h;simp only at x1 x2;exact dN (Dh aa x1) (Dh aa x2)
theorem am9{M:Int}(hM:0<M)(g:List Pt):lI (g.map (cZ M))=pC M (lI g):=by
 have e:closing (g.map (cZ M))=pC M (closing g):=by
  cases g with
  |nil=>rfl
  |cons a r=>
   unfold pC closing;show(cZ M a::r.map (cZ M)).zip (r.map (cZ M)++[cZ M a])=_;have e1:cZ M a::r.map (cZ M)=(a::r).map (cZ M):=rfl;have e2:r.map (cZ M)++[cZ M a]=(r++[a]).map (cZ M):=af
   rw[e1,e2,List.zip_map];rfl
 unfold lI;rw[e];unfold pC;rw[List.filter_map];congr 1;refine List.filter_congr λx _=>?_
 simp only[Function.comp_apply];refine decide_eq_decide.2 ⟨λh k=>h (by rw[k]),λh k=>h (am8 hM k)⟩
theorem M6{M:Int}(hM:0<M)(rg:List (List Pt)):aT (rg.map (·.map (cZ M)))=pC M (aT rg):=by
 induction rg with
 |nil=>rfl
 |cons g rg ih=>
  have e1:aT ((g::rg).map (·.map (cZ M)))=lI (g.map (cZ M))++aT (rg.map (·.map (cZ M))):=by simp[aT]
  have e2:aT (g::rg)=lI g++aT rg:=by simp[aT]
  rw[e1,e2,am9 hM,ih];unfold pC;rw[jV]
theorem ana{u' v':Pt}(h:Pm u u')(k:Pm v v'):right u v=right u' v':=by
 have c:=h.cr k;obtain⟨p,q,hp,hq,e1,_⟩:=h;obtain⟨p',q',hp',hq',mF,_⟩:=k;have a:=kX hp hq e1;have b:=kX hp' hq' mF;unfold right;by_cases h1:u.1<=0/\0<v.1/\0<cr u v
 .rw[aV h1,aV aa]
 .rw[aP h1,aP (by omega:¬(u'.1<=0/\0<v'.1/\0<cr u' v'))]
  by_cases h2:0<u.1/\v.1<=0/\cr u v<0
  .rw[aV h2,aV aa]
  .rw[aP h2,aP aa]
theorem acf(F:Pt->Pt->Int)(g:Pt×Pt->Pt×Pt)(es:List (Pt×Pt)):total F (es.map g)=total (λu v=>F (g (u,v)).1 (g (u,v)).2) es:=by
 unfold total;rw[gq];rfl
section
variable{M:Int}
theorem xQ(hM:0<M){a:Nd}(ha:OK M a)(u:Pt):Pm (rl (n1 (PM M a)) (cZ M u)) (rl a u):=by
 obtain⟨k,hk,ek⟩:=MG hM ha;rw[eo,ek];exact Ci hk _
theorem acg(hM:0<M){a:Nd}(ha:OK M a)(es:List (Pt×Pt)):PP (pC M es) (n1 (PM M a))=PP es a:=by
 unfold PP pC;rw[acf];exact qI λe _=>ana (xQ hM ha e.1) (xQ hM ha e.2)
theorem ach(hM:0<M){a:Nd}(ha:OK M a)(es:List (Pt×Pt)){Q Q':Pt->Bool}(hQ:∀z z',Pm z z'->Q z=Q' z'):AS (pC M es) (n1 (PM M a)) Q=AS es a Q':=by
 unfold AS pC;rw[acf];refine qI λe _=>?_
 have h1:=xQ hM ha e.1;have h2:=xQ hM ha e.2;unfold Ga.arm;rw[h1.on h2,hQ _ _ h1,hQ _ _ h2]
theorem anb{z z':Pt}(h:Pm z z'):nz z=nz z':=by
 unfold nz;exact decide_eq_decide.2 (not_congr h.zero)
theorem anc(hM:0<M){a:Nd}(ha:OK M a)(es:List (Pt×Pt)){d d':Pt}(hd:Pm d d'):eO (pC M es) (n1 (PM M a)) d=eO es a d'/\fV (pC M es) (n1 (PM M a)) d=fV es a d':=by
 have e1:eO (pC M es) (n1 (PM M a)) d=eO es a d':=by
  unfold eO;rw[acg hM ha,ach hM ha es (Q':=λz=>nz z&&bf z d')]
  intro z z' hz;rw[anb hz,hz.bf hd]
 refine⟨e1,?_⟩;unfold fV;rw[e1,ach hM ha es (Q':=λz=>bg z d')]
 intro z z' hz;exact hz.bg hd
end
section
variable{rg:List (List Pt)}{l:List Nd}
theorem Tn(hN:di (aT rg) l){f t:Nd}(h:fk (aT rg) l f t):wZ (aT (rg.map (·.map (cZ (aW l))))) (n1 (PM (aW l) f)) (n1 (PM (aW l) t)):=by
 obtain⟨hM,hO⟩:=di.ok hN;obtain⟨hf,ht,hr⟩:=h.facts hN;have hP:=h.qJ hN;have p0:=kZ hM (hO f hf) (hO t ht);rw[M6 hM];have mem:∀e∈pC (aW l) (aT rg),∃e0∈aT rg,e=(cZ (aW l) e0.1,cZ (aW l) e0.2):=λe he=>by
  obtain⟨e0,h0,rfl⟩:=bQ.1 he;exact⟨e0,h0,rfl⟩
 have cc:∀z:Pt,oY f t (wv f t) z->oY (n1 (PM (aW l) f)) (n1 (PM (aW l) t)) (dr (PM (aW l) f,PM (aW l) t)) (cZ (aW l) z):=λz hz hl=>by
  have q1:=xQ hM (hO f hf) z;have q2:=xQ hM (hO t ht) z;have:=hz ((p0.cr q1).2.2.1 hl);have a:=(p0.dt q1).1;have b:=(p0.dt q2).2.1;omega
 refine⟨by show(0:Int)<1;decide,by show(0:Int)<1;decide,by rw[oZ];exact p0.bz.2 hr,λe he=>?_,λe he=>?_⟩
 .obtain⟨e0,h0,rfl⟩:=mem e he;rw[oZ];exact abA hM (hO f hf) (hO t ht) (hP.s e0 h0)
 .obtain⟨e0,h0,rfl⟩:=mem e he;rw[oZ];exact⟨cc _ (hP.c e0 h0).1,cc _ (hP.c e0 h0).2⟩
theorem aci(hN:di (aT rg) l){f t:Nd}(h:fk (aT rg) l f t):
  RR (aT (rg.map (·.map (cZ (aW l))))) (n1 (PM (aW l) f)) (n1 (PM (aW l) t))=RR (aT rg) f t/\LL (aT (rg.map (·.map (cZ (aW l))))) (n1 (PM (aW l) f)) (n1 (PM (aW l) t))=LL (aT rg) f t:=by
 obtain⟨hM,hO⟩:=di.ok hN;obtain⟨hf,ht,_⟩:=h.facts hN;have a:=yY (Tn hN h);have b:=yY (h.qJ hN);have c:=anc hM (hO f hf) (aT rg) (kZ hM (hO f hf) (hO t ht));rw[M6 hM] at a⊢;rw[oZ,c.1,c.2] at a;exact⟨a.1.trans b.1.symm,a.2.trans b.2.symm⟩
end
theorem M7(h:bg x y=true):Pm x y:=by
 obtain⟨h1,h2⟩:=(dm _ _).1 h;have hy:y≠(0,0):=λe=>by rw[e] at h2;unfold dt at h2;simp at h2
 refine⟨dt y y,dt x y,Ga.dC hy,h2,?_,?_⟩
 .unfold cr at h1;unfold dt;have:x.1*y.2=x.2*y.1:=aa
  grind
 .unfold cr at h1;unfold dt;have:x.1*y.2=x.2*y.1:=aa
  grind
theorem ane{m:Pt}:cr u m=cr u (m.1-u.1,m.2-u.2)/\cr u v=cr u (m.1-u.1,m.2-u.2)+cr u (v.1-m.1,v.2-m.2)/\cr m v=cr u (v.1-m.1,v.2-m.2)+cr (m.1-u.1,m.2-u.2) (v.1-m.1,v.2-m.2):=by
 unfold cr;refine⟨?_,?_,?_⟩<;>grind
theorem Tp(n a b:Pt):((dr (n,b)).1-(dr (n,a)).1,(dr (n,b)).2-(dr (n,a)).2)=dr (a,b):=by unfold dr;exact dN (by simp only;omega) (by simp only;omega)
theorem acj{D:Pt}(hD:D≠(0,0))(h1:cr D x=0)(h2:cr D y=0)(h:0<dt D x*dt D y):bg x y=true:=by
 obtain⟨p1,p2⟩:=par hD h1 h2;refine(dm _ _).2 ⟨p1,?_⟩;rw[p2] at h;exact(bT (Ga.dC hD)).1 h
theorem anf{Q:Pt->Bool}(hQ:∀z z',bg z z'=true->Q z=Q z'){n:Pt}(h:bg (dr (p,c)) (dr (c,e))=true):arm Q (n1 n) p c+arm Q (n1 n) c e=arm Q (n1 n) p e:=by
 by_cases hc:c=n
 .subst hc;have h1:rl (n1 c) c=(0,0):=by rw[eo];exact lZ.2 rfl
  have h2:on (rl (n1 c) p) (rl (n1 c) e)=true:=by
   rw[eo,eo];have e1:dr (p,c)=neg (dr (c,p)):=rR (c,p);rw[e1,dm,fU,pV] at h;rw[jX];omega
  unfold arm;rw[h1,pW _ _ (aR rfl),pW _ _ (aS rfl),h2];simp;omega
 have hD:=(SA h).1;have hm0:dr (n,c)≠(0,0):=λq=>hc (lZ.1 q).symm
 have s1:=Tp n p c;have s2:=Tp n c e;unfold arm;rw[eo,eo,eo];generalize hu:dr (n,p)=u at*;generalize hm:dr (n,c)=m at*;generalize hv:dr (n,e)=v at*;rw[<-s1,<-s2] at h;rw[<-s1] at hD;obtain⟨a1,a2,a3⟩:=ane (u:=u) (m:=m) (v:=v);obtain⟨b1,b2⟩:=ux h u;have z:=((dm _ _).1 h).1;have hdt:=((dm _ _).1 h).2;rw[z] at a3;by_cases h0:cr u (m.1-u.1,m.2-u.2)=0
 ·
  obtain⟨D,eD⟩:∃D:Pt,D=(m.1-u.1,m.2-u.2):=⟨_,rfl⟩;rw[<-eD] at hD h0 hdt z;have cu:cr D u=0:=tP h0;have cm:cr D m=0:=by
   have:cr D m=cr D u+cr D D:=by rw[eD];unfold cr;grind
   have:cr D D=0:=by unfold cr;grind
   omega
  have cv:cr D v=0:=by
   have:cr D v=cr D m+cr D (v.1-m.1,v.2-m.2):=by unfold cr;grind
   omega
  have x1:dt D m=dt D u+dt D D:=by rw[eD];unfold dt;grind
  have x2:dt D v=dt D m+dt D (v.1-m.1,v.2-m.2):=by unfold dt;grind
  have x3:=Ga.dC hD;have x4:dt D m≠0:=λw=>hm0 (by
   have:=(par hD cm cm).2;rw[w,AA] at this;apply iV;intro hn;have k:=bJ x3 (Ga.dC hn);omega)
  have o1:=tR hD cu cm;have o2:=tR hD cm cv;have o3:=tR hD cu cv;rcases Wy x4 with w|w
  .have q1:on u m=false:=by
    cases q:on u m
    .rfl
    .exact absurd (o1.1 q) (yX aa w)
   have q2:on m v=on u v:=by
    refine mP.2 ?_;rw[o2,o3];by_cases g:0<=dt D v
    .exact⟨λ_=>uY aa g,λ_=>uY aa g⟩
    .exact⟨λk=>absurd k (yX w aa),λk=>absurd k (yX aa aa)⟩
   have q3:Q u=Q m:=hQ _ _ (acj hD cu cm (JW aa w))
   rw[q1,q2,q3];simp
  .have q1:on m v=false:=by
    cases q:on m v
    .rfl
    .exact absurd (o2.1 q) (AY w aa)
   have q2:on u m=on u v:=by
    refine mP.2 ?_;rw[o1,o3];by_cases g:dt D u<=0
    .exact⟨λ_=>uY g aa,λ_=>uY g aa⟩
    .exact⟨λk=>absurd k (AY aa w),λk=>absurd k (AY aa aa)⟩
   have q3:Q m=Q v:=hQ _ _ (acj hD cm cv (bJ w aa))
   rw[q1,q2,q3];simp
 .have k1:on u m=false:=by unfold on;rw[jU aa];rfl
  have k2:on m v=false:=by unfold on;rw[jU aa];rfl
  have k3:on u v=false:=by unfold on;rw[jU aa];rfl
  rw[k1,k2,k3];rfl
def gp(W:Pt->Bool):Pt->List Sg->Pt->List Sg
 |p,[],e=>[(p,e)]
 |p,s::T,e=>if W s.1 then(p,s.1)::gp W s.1 T e else gp W p T e
def ID(W:Pt->Bool):Sg->List Sg->Prop
 |_,[]=>True
 |b,s::T=>(W s.1=false->bg (dr b) (dr s)=true)/\ID W s T
theorem Tq(W:Pt->Bool):∀(T:List Sg)(p e:Pt),gp W p T e=(p::(T.filter λs=>W s.1).map Prod.fst).zip ((T.filter λs=>W s.1).map Prod.fst++[e])
 |[],p,e=>by simp[gp]
 |s::T,p,e=>by
  unfold gp;cases hW:W s.1
  .rw[aP af,wT (by simp[hW]),Tq W T p e]
  .rw[aV rfl,AQ (by simp[hW]),Tq W T s.1 e]
   rfl
section
variable{M:Int}{V:Pt->Bool}{S S':List Sg}{nx nx':Sg->Sg}
def Cr(P:Sg->Sg->Prop):Sg->List Sg->Prop
 |_,[]=>True
 |b,s::T=>P b s/\Cr P s T
theorem Cr.of{P:Sg->Sg->Prop}:∀{T:List Sg}{b:Sg},(∀(k:Nat) s t,(b::T)[k]?=some s->(b::T)[k+1]?=some t->P s t)->Cr P b T
 |[],_,_=>trivial
 |s::T,b,h=>⟨h 0 b s rfl rfl,Cr.of λk x y hx hy=>h (k+1) x y (by simpa using hx) (by simpa using hy)⟩
end
section
variable{M:Int}{V:Pt->Bool}{S S':List Sg}{nx nx':Sg->Sg}
end
theorem ani(h:bg (dr (p,c)) (dr (c,e))=true)(ho:on (dr (x,p)) (dr (x,e))=true):on (dr (x,p)) (dr (x,c))=true\/on (dr (x,c)) (dr (x,e))=true:=by
 apply iV;intro hn;have Cg:on (dr (x,p)) (dr (x,c))=false:=Bool.eq_false_iff.2 λq=>hn (aS q)
 have Tt:on (dr (x,c)) (dr (x,e))=false:=Bool.eq_false_iff.2 λq=>hn (aR q)
 have u0:dr (x,p)≠(0,0):=λq=>by rw[q,pW _ _ (aS rfl)] at Cg;cases Cg
 have v0:dr (x,e)≠(0,0):=λq=>by rw[q,pW _ _ (aR rfl)] at Tt;cases Tt
 have hp:bg (dr (p,e)) (dr (c,e))=true:=by
  rw[KM p c e];exact KJ h (qK (SA h).2)
 have k:=anf (Q:=λz=>bg z (dr (c,e))) (λz z' q=>by rw[MB z,MB z',SD q]) (n:=x) h
 unfold arm at k;rw[eo,eo,eo,Cg,Tt,ho] at k;obtain⟨o1,o2⟩:=(jX _ _).1 ho;have e1:=Tp x p e;have w1:bg (dr (x,e)) (dr (p,e))=true:=by
  refine(dm _ _).2 ?_;rw[<-e1];have a1:cr (dr (x,e)) ((dr (x,e)).1-(dr (x,p)).1,(dr (x,e)).2-(dr (x,p)).2)=cr (dr (x,p)) (dr (x,e)):=by unfold cr;grind
  have a2:dt (dr (x,e)) ((dr (x,e)).1-(dr (x,p)).1,(dr (x,e)).2-(dr (x,p)).2)=dt (dr (x,e)) (dr (x,e))-dt (dr (x,p)) (dr (x,e)):=by unfold dt;grind
  have:=Ga.dC v0;omega
 have w2:bg (dr (x,p)) (dr (p,e))=false:=by
  cases q:bg (dr (x,p)) (dr (p,e))
  .rfl
  .have q2:=((dm _ _).1 q).2;rw[<-e1] at q2;have a2:dt (dr (x,p)) ((dr (x,e)).1-(dr (x,p)).1,(dr (x,e)).2-(dr (x,p)).2)=dt (dr (x,p)) (dr (x,e))-dt (dr (x,p)) (dr (x,p)):=by unfold dt;grind
   have:=Ga.dC u0;omega
 have k1:=ve w1 hp;have k2:bg (dr (x,p)) (dr (c,e))=false:=by rw[<-SD hp];exact w2
 simp[k1,k2,bb] at k
theorem anj{n:N3}(hn:0<n.2.2)(h:bg (dr (p,c)) (dr (c,e))=true)(ho:on (rl n p) (rl n e)=true):on (rl n p) (rl n c)=true\/on (rl n c) (rl n e)=true:=by
 have z:∀u:Pt,dr ((0,0),u)=u:=λu=>by unfold dr;exact dN af af
 have k:∀a b:Pt,Pm (dr (a,b)) (dr (rl n a,rl n b)):=λa b=>⟨n.2.2,1,hn,ah,by unfold dr rl rel;simp only;rw[wQ];grind,by unfold dr rl rel;simp only;rw[wQ];grind⟩
 have h':bg (dr (rl n p,rl n c)) (dr (rl n c,rl n e))=true:=by rw[<-Pm.bg (k p c) (k c e)];exact h
 have:=ani (x:=(0,0)) h' (by rw[z,z];exact ho)
 rw[z,z,z] at this;exact this
theorem ank{R:List Sg}{s:Sg}(hs:s∈R):(∃t,mL R s t)/\∃t,mL R t s:=by
 obtain⟨i,hi,e⟩:=jG.1 hs;have e':R[i]?=some s:=by rw[bo hi,e]
 have hne:R≠[]:=λq=>by rw[q] at hs;simp at hs
 obtain⟨a,z,ha,hz⟩:=mE hne;constructor
 .by_cases h:i+1<R.length
  .exact⟨R[i+1],aS ⟨i,e',bo h⟩⟩
  .refine⟨a,aR ⟨?_,ha⟩⟩;rw[nX,<-e'];congr 1;omega
 .by_cases h:i=0
  .refine⟨z,aR ⟨hz,?_⟩⟩;rw[wO,<-e',h]
  .obtain⟨j,rfl⟩:∃j,i=j+1:=⟨i-1,aa⟩
   exact⟨R[j],aS ⟨j,bo aa,e'⟩⟩
theorem Tu:∀(T:List Sg)(b:Sg)(k:Nat)(s t:Sg),(b::T)[k]?=some s->(b::T)[k+1]?=some t->cr (dr s) (dr t)≠0->t∈tG b T
 |[],b,k,s,t,_,ht,_=>by simp at ht
 |x::T,b,0,s,t,hs,ht,hc=>by
  obtain rfl:b=s:=by simpa using hs
  obtain rfl:x=t:=by simpa using ht
  show x∈if cr (dr b) (dr x)=0 then tG x T else x::tG x T
  rw[aP hc];simp
 |x::T,b,k+1,s,t,hs,ht,hc=>by
  have:=Tu T x k s t (by simpa using hs) (by simpa using ht) hc
  show t∈if cr (dr b) (dr x)=0 then tG x T else x::tG x T
  split
  .exact this
  .exact bV _ this
theorem mL.cM{R:List Sg}{s t:Sg}(f:mL R s t)(h:cr (dr s) (dr t)≠0):t.1∈cM R:=by
 unfold Gb.cM;refine bQ.2 ⟨t,?_,rfl⟩;rcases f with⟨k,h1,h2⟩|⟨h1,h2⟩
 .exact Tu R _ (k+1) s t (by simpa using h1) (by simpa using h2) h
 .refine Tu R _ 0 s t ?_ ?_ h
  .rw[KN h1];rfl
  .rw[wO] at h2;simpa using h2
theorem Tv:∀(T:List Sg)(b t:Sg),t∈tG b T->t∈T
 |[],_,_,h=>by simp[tG] at h
 |x::T,b,t,h=>by
  have h':t∈if cr (dr b) (dr x)=0 then tG x T else x::tG x T:=h
  split at h'
  .exact bV _ (Tv T x t h')
  .rcases bU.1 h' with q|q
   .rw[q];simp
   .exact bV _ (Tv T x t q)
theorem ack{W:Pt->Bool}:∀(T:List Sg)(b:Sg),(∀(k:Nat) s t,(b::T)[k]?=some s->(b::T)[k+1]?=some t->(W t.1=true↔cr (dr s) (dr t)≠0))->tG b T=T.filter λs=>W s.1
 |[],_,_=>rfl
 |x::T,b,h=>by
  have ih:=ack T x λk s t hs ht=>h (k+1) s t (by simpa using hs) (by simpa using ht)
  have h0:=h 0 b x rfl rfl;show(if cr (dr b) (dr x)=0 then tG x T else x::tG x T)=_
  by_cases q:cr (dr b) (dr x)=0
  .rw[aV q,ih,wT (by rw[h0];simpa using q)]
  .rw[aP q,ih,AQ (by simpa using h0.2 q)]
section
variable{S:List Sg}{nx:Sg->Sg}
theorem gI.fst{R:List Sg}(k:gI S nx R){s t:Sg}(hs:s∈R)(ht:t∈R)(h:s.1=t.1):s=t:=by
 obtain⟨i,hi,e⟩:=jG.1 hs;obtain⟨j,hj,f⟩:=jG.1 ht;have hd:=lW.1 k.o6;rcases Aw i j with q|q|q
 .exact absurd h (by rw[<-e,<-f];exact hd i j hi hj q)
 .subst q;rw[<-e,<-f]
 .exact absurd h.symm (by rw[<-e,<-f];exact hd j i hj hi q)
theorem mL.mem{R:List Sg}{s t:Sg}(f:mL R s t):s∈R/\t∈R:=by
 rcases f with⟨k,h1,h2⟩|⟨h1,h2⟩
 .exact⟨bA h1,bA h2⟩
 .exact⟨rH h1,rQ h2⟩
theorem acm:∀(T:List Sg)(b t:Sg),t∈tG b T->∃k s,(b::T)[k]?=some s/\(b::T)[k+1]?=some t/\cr (dr s) (dr t)≠0
 |[],_,_,h=>by simp[tG] at h
 |x::T,b,t,h=>by
  have h':t∈if cr (dr b) (dr x)=0 then tG x T else x::tG x T:=h
  have rc:t∈tG x T->∃k s,(b::x::T)[k]?=some s/\(b::x::T)[k+1]?=some t/\cr (dr s) (dr t)≠0:=λq=>by
   obtain⟨k,s,q1,q2,q3⟩:=acm T x t q;exact⟨k+1,s,by simpa using q1,by simpa using q2,q3⟩
  by_cases q:cr (dr b) (dr x)=0
  .rw[aV q] at h';exact rc h'
  .rw[aP q] at h';rcases bU.1 h' with w|w
   .subst w;exact⟨0,b,rfl,rfl,q⟩
   .exact rc w
theorem M8{α:Type}{L:List α}(h:L.Nodup){i j:Nat}{x:α}(hi:L[i]?=some x)(hj:L[j]?=some x):i=j:=by
 obtain⟨a,ea⟩:=cG.1 hi;obtain⟨b,eb⟩:=cG.1 hj;have hp:=lW.1 h;rcases Aw i j with q|q|q
 .exact absurd (ea.trans eb.symm) (hp i j a b q)
 .exact q
 .exact absurd (eb.trans ea.symm) (hp j i b a q)
theorem gI.M9{a:Sg}{T:List Sg}(k:gI S nx (a::T))(ha:cr (dr (T.getLastD a)) (dr a)≠0):cM (a::T)=a.1::((T.filter λs=>(cM (a::T)).contains s.1).map Prod.fst)/\(∀(i:Nat) s t,(a::T)[i]?=some s->(a::T)[i+1]?=some t->((cM (a::T)).contains t.1=true↔cr (dr s) (dr t)≠0)):=by
 have hl:(a::T).getLast?=some (T.getLastD a):=by rw[FK,nG]
 have key:∀{s t:Sg},mL (a::T) s t->((cM (a::T)).contains t.1=true↔cr (dr s) (dr t)≠0):=λ{s t} f=>by
  constructor
  .intro h;have h':t.1∈cM (a::T):=by simpa using h
   obtain⟨t',ht',e⟩:=bQ.1 h';have hm:=Tv _ _ _ ht';have et:=k.fst hm f.mem.2 e;subst et;obtain⟨i,s',q1,q2,q3⟩:=acm _ _ _ ht';have f':mL (a::T) s' t':=by
    cases i with
    |zero=>
     have:(a::T).getLastD s0=s':=by simpa using q1
     rw[KN hl] at this;refine aR ⟨by rw[hl,this],?_⟩
     rw[wO];simpa using q2
    |succ i=>exact aS ⟨i,by simpa using q1,by simpa using q2⟩
   have es:s=s':=by
    rcases f with⟨i,g1,g2⟩|⟨g1,g2⟩<;>rcases f' with⟨j,g3,g4⟩|⟨g3,g4⟩
    .have:=M8 k.nd g2 g4;have:i=j:=aa
     subst this;exact jt (g1.symm.trans g3)
    .rw[wO] at g4;have:=M8 k.nd g2 g4;omega
    .rw[wO] at g2;have:=M8 k.nd g2 g4;omega
    .exact jt (g1.symm.trans g3)
   rw[es];exact q3
  .intro h;simpa using f.cM h
 refine⟨?_,λi s t hs ht=>key (aS ⟨i,hs,ht⟩)⟩
 have e1:tG ((a::T).getLastD s0) (a::T)=a::tG a T:=by
  show(if cr (dr ((a::T).getLastD s0)) (dr a)=0 then tG a T else a::tG a T)=_
  rw[KN hl,aP ha]
 have e2:=ack (W:=λp=>(cM (a::T)).contains p) T a λi s t hs ht=>key (aS ⟨i,hs,ht⟩)
 rw[<-e2];show(tG ((a::T).getLastD s0) (a::T)).map Prod.fst=_;rw[e1,gM]
end
end Gb
end Go.Proofs.YtkjhhooecopolaaGreatDoor

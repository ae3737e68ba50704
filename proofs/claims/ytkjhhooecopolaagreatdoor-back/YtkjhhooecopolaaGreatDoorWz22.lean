import Derived.Test.YtkjhhooecopolaaGreatDoorWz21
set_option maxRecDepth 100000
set_option maxHeartbeats 4000000
namespace Go.Proofs.YtkjhhooecopolaaGreatDoor
open Go.RowKit
def sK(Xs:List PB)(i j:Fin Xs.length):Int:=bn Xs[i].f Xs[j].f
def nR(Xs:List PB)(h:0<Xs.length):Array (Fin Xs.length):=
 haveI:Inhabited (Fin Xs.length):=⟨⟨0,h⟩⟩
 Sort.pdq (ltOf (sK Xs)) (Array.ofFn id) 0 Xs.length (Lib.bitLen Xs.length) true true
def wo(Xs:List PB):List PB:=if h:0<Xs.length then(nR Xs h).toList.map (fun i=>Xs[i]) else[]
theorem Jc{Xs:List PB}{i j:Fin Xs.length}:ltOf (sK Xs) i j=true↔Ge.lt (Ge.ax Xs[i].f) (Ge.ax Xs[j].f):=by
 unfold ltOf sK bn Ge.lt;exact pE
theorem D9{Xs:List PB}{i j:Fin Xs.length}:ltOf (sK Xs) i j=false↔¬Ge.lt (Ge.ax Xs[i].f) (Ge.ax Xs[j].f):=by
 rw[<-Jc];simp
theorem Wc{Xs:List PB}(hv:∀x∈Xs,dh x):Sort.SWO (ltOf (sK Xs)):=by
 have hc:∀i:Fin Xs.length,Ge.Can Xs[i].f:=fun i=>(hv _ (gw i.2)).cf
 exact{
  irrefl:=fun x=>D9.2 (Ge.lt_irrefl _)
  trans:=fun x y z h1 h2=>Jc.2 (Ge.lt_trans (Ge.df (hc x)) (Ge.df (hc y)) (Ge.df (hc z)) (Jc.1 h1) (Jc.1 h2))
  ntrans:=fun x y z h1 h2=>D9.2 fun h=>D9.1 h1 (Ge.lt_le_trans (hc x) (hc z) (hc y) h (D9.1 h2))}
def wq(bs:List Nat)(n:Nat)(h:bs.length=n)(i:Fin n):Value:=.pointer (some ⟨bs[i]'(by rw[h];exact i.2),0,none⟩)
theorem We{α:Type}[Inhabited α](enc:α->Value)(d':Array α)(n:Nat)(os:Array Obj){wr:World}{g:Nat}{cur:Array Value}{t:TypeId}{fr:Nat×Nat}(hb:wr.heap[g]?=some (.cells cur t fr)):
  (sortWorld enc wr g 0 n d' os).heap[g]?=some (.cells (Sort.putCells enc 0 d' cur) t fr):=by
 have hg:=lt_of_heap hb;show((wr.heap.modify g (Sort.onCells (Sort.putCells enc 0 d')))++os)[g]?=_;rw[FO (by simpa using hg),yV,aj rfl,hb]
 rfl
theorem Ea{α:Type}[Inhabited α](enc:α->Value)(d':Array α)(n:Nat)(os:Array Obj){wr:World}{g k:Nat}(hk:k<wr.heap.size)(hne:g≠k):
  (sortWorld enc wr g 0 n d' os).heap[k]?=wr.heap[k]?:=by
 show((wr.heap.modify g (Sort.onCells (Sort.putCells enc 0 d')))++os)[k]?=_;rw[FO (by simpa using hk),yV,af hne]
theorem M6{α:Type}[Inhabited α](enc:α->Value)(d':Array α)(n:Nat)(os:Array Obj)(wr:World)(g:Nat):wr.heap.size<=(sortWorld enc wr g 0 n d' os).heap.size:=by
 show _<=((wr.heap.modify g (Sort.onCells (Sort.putCells enc 0 d')))++os).size;rw[abf,abg];omega
theorem Wf{α:Type}[Inhabited α](enc:α->Value)(d:Array α)(c:Array Value)(h:d.size<=c.size):(Sort.putCells enc 0 d c).toList.take d.size=d.toList.map enc:=by
 apply Bw;intro t;rw[kj];by_cases ht:t<d.size
 ·have h1:t<c.size:=by omega
  rw[aj ht,jb,gz,jb];unfold Sort.putCells;rw[amz,nB h1,nB ht];simp[ht]
 ·rw[af ht,wX (by simp;omega)]
theorem agB{w1:World}{g cap:Nat}{bs:List Nat}{Xs:List PB}{wr:World}(h:BS w1 (.slice (some ⟨g,0,none⟩) bs.length cap) bs Xs wr)(hv:∀x∈Xs,dh x)[Inhabited (Fin Xs.length)]:
  CmpLays1 Tryz.prog 109 #[] (wq bs Xs.length h.len) (sK Xs) g 0 Xs.length wr:=by
 intro m os dk hdk x y;have at':∀i:Fin Xs.length,iK (sortWorld (wq bs Xs.length h.len) wr g 0 m dk os) (bs[i]'(by rw[h.len];exact i.2)) Xs[i]:=fun i=>by
  have hib:i.1<bs.length:=by rw[h.len];exact i.2
  have hl:=(h.lies i.1 _ _ (aC hib) (aC i.2)).2;have hne:=h.ne (bs[i]'hib) (gw hib);refine iK.of (wk:=false) (ow:=none) ((Ea _ dk m os (lt_of_heap hl) (fun e=>hne (au some e))).trans hl)
 exact(M5 Xs[x] Xs[y] (hv _ (gw x.2)) (hv _ (gw y.2)) _ _ _ (at' x) (at' y)).mono fun _ _⟨h1,h2,h3⟩=>⟨h1,IB h2 h3⟩
theorem Jd{α:Type}(a:Array α){n:Nat}(h:a.size=n):a.extract 0 n=a:=by subst h;exact KE
theorem Wh(Xs:List PB)(hv:∀x∈Xs,dh x)(h:0<Xs.length):(nR Xs h).size=Xs.length/\(nR Xs h).toList.Perm (Array.ofFn (id:Fin Xs.length->Fin Xs.length)).toList/\
  ∀i j(hi:i<(nR Xs h).size)(hj:j<(nR Xs h).size),i<j->¬Ge.lt (Ge.ax Xs[(nR Xs h)[j]].f) (Ge.ax Xs[(nR Xs h)[i]].f):=by
 letI:Inhabited (Fin Xs.length):=⟨⟨0,h⟩⟩
 have hs:(Array.ofFn (id:Fin Xs.length->Fin Xs.length)).size=Xs.length:=QB;have key:=Sort.pdq_sorts (ltOf (sK Xs)) (Wc hv) (Array.ofFn id) 0 Xs.length (Lib.bitLen Xs.length) true true (iD _) (by rw[hs];exact ay _) (ag rfl)
 have e:nR Xs h=Sort.pdq (ltOf (sK Xs)) (Array.ofFn id) 0 Xs.length (Lib.bitLen Xs.length) true true:=rfl;rw[<-e] at key;obtain⟨⟨p1,_,p3⟩,p4⟩:=key;have hd:(nR Xs h).size=Xs.length:=by rw[p1,hs]
 rw[Jd _ hd,Jd _ hs] at p3;refine⟨hd,p3,fun i j hi hj hij=>?_⟩
 have hx:=p4 i j (iD _) hij (by omega)
 rw[ik (nR Xs h) i hi,ik (nR Xs h) j hj] at hx;exact D9.1 hx
theorem Wi(Xs:List PB)(hv:∀x∈Xs,dh x):(wo Xs).Perm Xs/\(wo Xs).Pairwise (fun x y=>¬Ge.lt (Ge.ax y.f) (Ge.ax x.f)):=by
 unfold wo;by_cases h:0<Xs.length
 ·rw[u7 h];obtain⟨hd,p3,p4⟩:=Wh Xs hv h;refine⟨?_,?_⟩
  ·have k:=p3.map (fun i:Fin Xs.length=>Xs[i])
   have e3:(Array.ofFn (id:Fin Xs.length->Fin Xs.length)).toList.map (fun i:Fin Xs.length=>Xs[i])=Xs:=by
    apply xg
    ·simp
    ·intro i h1 h2;simp
   rw[e3] at k;exact k
  ·rw[lR,kE];intro i j hi hj hij;exact p4 i j (by simpa using hi) (by simpa using hj) hij
 ·rw[BJ h];have:Xs=[]:=gF.1 (by omega)
  subst this;exact⟨FP _,List.Pairwise.nil⟩
theorem agD(g cap n:Nat)(wr:World)(Q:World->Prop)(hn:n<=85000000)
  (HP:Hid (Calls Tryz.prog 163 #[.slice (some ⟨g,0,none⟩) n cap,.int .i64 (0:Nat),.int .i64 n,.int .i64 (Lib.bitLen n:Nat),.func (.func 109) #[] #[]] wr fun e w'=>e=.returned (.tuple #[])/\Q w')):
  Calls Tryz.prog 108 #[.slice (some ⟨g,0,none⟩) n cap,.func (.func 109) #[] #[]] wr fun e w'=>e=.returned (.tuple #[])/\Q w':=by
 have HL:Hid (Calls Tryz.prog 164 #[.int .u64 (n:Int)] wr fun e w'=>e=.returned (.int .i64 (Lib.bitLen n:Nat))/\w'=wr):=by
  have h:=Tryz.bits_Len (n:Int) wr (by omega) (by omega)
  rwa[yT] at h
 have hwr:IntKind.u64.wrap (n:Int)=n:=by simp[IntKind.wrap,IntKind.bits,IntKind.signed];omega
 generalize Lib.bitLen n=BL at*
 go_enter Tryz.func108,Tryz.ntmps108
 go_wp2_with fail
 refine HL.out.mono ?_;rintro r w1 ⟨rfl,rfl⟩
 go_wp2_with fail
 refine HP.out.mono ?_;rintro r w2 ⟨rfl,hQ⟩;have HQ:Hid (Q w2):=hQ;clear hQ HP
 go_wp2_with fail
 go_end0
 exact⟨rfl,HQ.out⟩
theorem Wj(p:Option Addr)(cap:Nat)(wr:World):
  Calls Tryz.prog 108 #[.slice p 0 cap,.func (.func 109) #[] #[]] wr fun e w'=>e=.returned (.tuple #[])/\w'=wr:=by
 have HL:Hid (Calls Tryz.prog 164 #[.int .u64 0] wr fun e w'=>e=.returned (.int .i64 (Lib.bitLen 0:Nat))/\w'=wr):=Tryz.bits_Len 0 wr (by omega) (by omega)
 have HP:Hid (∀lim:Int,Calls Tryz.prog 163 #[.slice p 0 cap,.int .i64 0,.int .i64 0,.int .i64 lim,.func (.func 109) #[] #[]] wr fun e w'=>e=.returned (.tuple #[])/\w'=wr):=fun lim=>AnyF.pdqsortCmpFunc_none {Tryz.pdqSd with} p cap lim _ wr
 generalize Lib.bitLen 0=BL at*
 go_enter Tryz.func108,Tryz.ntmps108
 go_wp2_with fail
 refine HL.out.mono ?_;rintro r w2 ⟨rfl,rfl⟩
 go_wp2_with fail
 refine(HP.out _).mono ?_;rintro r w3 ⟨rfl,rfl⟩
 go_wp2_with fail
 go_end0
 exact⟨rfl,rfl⟩
theorem agE(w1:World)(lv:Value)(bs:List Nat)(Xs:List PB)(wr:World)(h:BS w1 lv bs Xs wr)(hv:∀x∈Xs,dh x)(hl:bs.length<=85000000):
  Calls Tryz.prog 108 #[lv,.func (.func 109) #[] #[]] wr fun e w'=>e=.returned (.tuple #[])/\∃bs',BS w1 lv bs' (wo Xs) w'/\bs'.length=bs.length:=by
 obtain⟨hlen,ux⟩:=h.own;rcases ux with⟨rfl,h0⟩|⟨g,cap,cur,rfl,hg,hblk,hnc,hcm,hcs,htk⟩
 ·have hb0:bs=[]:=gF.1 h0;have Eb:Xs=[]:=gF.1 (by rw[<-h.len];exact h0)
  subst hb0;subst Eb;refine(Wj none 0 wr).mono ?_;rintro r w' ⟨rfl,rfl⟩;exact⟨rfl,[],h,rfl⟩
 ·by_cases hn:0<Xs.length
  ·letI:Inhabited (Fin Xs.length):=⟨⟨0,hn⟩⟩
   have hgl:g<wr.heap.size:=lt_of_heap hblk;have hs:(Array.ofFn (id:Fin Xs.length->Fin Xs.length)).size=Xs.length:=QB;have henc:(Array.ofFn (id:Fin Xs.length->Fin Xs.length)).toList.map (wq bs Xs.length h.len)=aL bs:=by
    apply xg
    ·simp[aL,h.len]
    ·intro i h1 h2;simp[aL,wq]
   have hH:Sort.Holds (wq bs Xs.length h.len) wr g 0 (Array.ofFn id):=by
    intro j hj;have hj':j<bs.length:=by rw[h.len,<-hs];exact hj
    have e1:(cur.toList.take (bs.length*1))[j]?=((Array.ofFn (id:Fin Xs.length->Fin Xs.length)).toList.map (wq bs Xs.length h.len))[j]?:=by rw[htk,henc]
    rw[kj,aj (by omega),jb,gz,jb,nB hj] at e1
    refine⟨?_,bw hblk _⟩;rw[ki];unfold World.cell?;rw[hblk,ik (Array.ofFn (id:Fin Xs.length->Fin Xs.length)) j hj];exact e1
   have eg:∀args w,(callFunc 109 args).run Tryz.prog w=.ok (.enter 109 args) w:=enters_of Tryz.func109 (by kernel_rfl) rfl
   have vO:=agB h hv;have hcon:=Any.pdqsortCmpFunc_all Tryz.pdqSd (wq bs Xs.length h.len) (sK Xs) 109 #[] (Wc hv) g 0 cap (Array.ofFn id) wr eg (by rw[hs];exact vO) ⟨fun _=>rfl,hH,hgl⟩ (Xs.length+1) 0 Xs.length (Lib.bitLen Xs.length) (Array.ofFn id) wr (by omega) rfl (SW.start hH) (iD _) (by rw[hs];exact ay _) (by rw[hs,<-h.len];omega) (Nat.lt_of_le_of_lt (Lib.bitLen_le Xs.length 62 (by omega) (by have:=h.len;omega)) (by omega)) (ag rfl)
   rw[hs] at hcon;rw[h.len];refine agD g cap Xs.length wr (fun w'=>∃bs',BS w1 (.slice (some ⟨g,0,none⟩) Xs.length cap) bs' (wo Xs) w'/\bs'.length=Xs.length) (by rw[<-h.len];exact hl) (hcon.mono ?_)
   rintro r w' ⟨rfl,m,os,rfl⟩;refine⟨rfl,?_⟩;have e:Sort.pdq (ltOf (sK Xs)) (Array.ofFn id) 0 Xs.length (Lib.bitLen Xs.length) true true=nR Xs hn:=rfl;rw[e];have hsp:=Wh Xs hv hn;have hd:=hsp.1;have p3:=hsp.2.1;clear hsp hcon e;have eX:wo Xs=(nR Xs hn).toList.map (fun i=>Xs[i]):=by unfold wo;rw[u7 hn]
   rw[eX];clear eX;obtain⟨d',hd'⟩:∃d',d'=nR Xs hn:=⟨_,rfl⟩;rw[<-hd'] at hd p3⊢;have qO:∀i:Fin Xs.length,i.1<bs.length:=fun i=>by rw[h.len];exact i.2
   have hpb:(d'.toList.map (fun i:Fin Xs.length=>bs[i.1]'(qO i))).Perm bs:=by
    have k:=p3.map (fun i:Fin Xs.length=>bs[i.1]'(qO i))
    have e3:(Array.ofFn (id:Fin Xs.length->Fin Xs.length)).toList.map (fun i:Fin Xs.length=>bs[i.1]'(qO i))=bs:=by
     apply xg
     ·simp[h.len]
     ·intro i h1 h2;simp
    rw[e3] at k;exact k
   refine⟨d'.toList.map (fun i:Fin Xs.length=>bs[i.1]'(qO i)),⟨⟨by simp[aL],ah ⟨g,cap,_,by simp[hd],hg,We _ d' m os hblk,by simp[hd,<-h.len,hnc],hcm,?_,?_⟩⟩,by simp,fun i b x h1 h2=>?_,fun b hb=>?_,?_,?_⟩,by simp[hd]⟩
   ·unfold Sort.putCells;rw[Qx];exact hcs
   ·have e1:(d'.toList.map (fun i:Fin Xs.length=>bs[i.1]'(qO i))).length*1=d'.size:=by simp
    rw[e1,Wf _ _ _ (by rw[hcs,hd,<-h.len];omega)]
    simp[aL,wq]
   ·rw[gz] at h1 h2;cases hj:d'.toList[i]? with
    |none=>rw[hj] at h1;cases h1
    |some j=>
     rw[hj] at h1 h2;have hb:bs[j.1]'(qO j)=b:=by simpa using h1
     have hx:Xs[j]=x:=by simpa using h2
     obtain⟨k1,k2⟩:=h.lies j.1 b x (by rw[aC (qO j),hb]) (by rw[aC j.2];exact au some hx)
     have hne:=h.ne b (by rw[<-hb];exact gw _)
     exact⟨k1,(Ea _ d' m os (lt_of_heap k2) (fun e=>hne (au some e))).trans k2⟩
   ·have:=h.ne b (hpb.mem_iff.1 hb);exact this
   ·exact hpb.nodup_iff.2 h.nd
   ·exact h.below.trans ⟨rfl,rfl,rfl,M6 _ d' m os wr g,fun k hk=>Ea _ d' m os (bu hk h.below.size) (by omega)⟩
  ·have Eb:Xs=[]:=gF.1 (by omega)
   have hb0:bs=[]:=gF.1 (by rw[h.len];omega)
   subst hb0;subst Eb;refine(Wj (some ⟨g,0,none⟩) cap wr).mono ?_;rintro r w' ⟨rfl,rfl⟩;exact⟨rfl,[],h,rfl⟩
theorem dh.rev{x:PB}(h:dh x):dh x.rev:=⟨h.t,h.f,h.ct,h.cf⟩
theorem M7{r:Int}{es:List Ed}{p x:PB}(h:dh p)(hx:x∈fA r es p):dh x:=by
 unfold fA at hx;split at hx
 ·rw[bY.1 hx];exact h
 ·split at hx
  ·rw[bY.1 hx];exact h.rev
  ·simp at hx
def kU(r:Int)(es:List Ed)(Ps:List PB):List PB:=wo (Ps.flatMap (fA r es))
theorem agF(es:List Ed)(r:Int)(v:Value)(w:World)(hR:iW w v es)(hl:es.length<=402)(hs:∀e∈es,eO e)(hne:∀e∈es,e.1≠e.2):
  Calls Tryz.prog 68 #[v,.int .u8 r] w fun e w'=>∃lv,e=.returned lv/\∃Ps l w1 bs,l.map Ge.ax=Ge.gV es/\(∀n∈l,Ge.Can n)/\nO es l Ps/\Below w.heap.size w w1/\BS w1 lv bs (kU r es Ps) w'/\bs.length<=85000000:=by
 refine agx es r v w hR hl hs hne (fun lv w'=>∃Ps l w1 bs,l.map Ge.ax=Ge.gV es/\(∀n∈l,Ge.Can n)/\nO es l Ps/\Below w.heap.size w w1/\BS w1 lv bs (kU r es Ps) w'/\bs.length<=85000000) ?_
 intro Ps l mh fZ qN w1 lv bs wr hb jy hbl;have hv:∀x∈Ps.flatMap (fA r es),dh x:=fun x hx=>by
  obtain⟨p,hp,uB⟩:=nu.1 hx;exact M7 (qN.v p hp) uB
 refine(agE w1 lv bs _ wr jy hv hbl).mono ?_;rintro e w' ⟨rfl,bs',h1,h2⟩;exact⟨rfl,Ps,l,w1,bs',mh,fZ,qN,hb,h1,by omega⟩
structure LD(x:PB)(l:Ge.Ln):Prop where
 fl:oN x.wa x.wb x.sh l
 b1:l.1.natAbs<=100
 b2:l.2.1.natAbs<=100
 b3:l.2.2.natAbs<=10000
 par:l.1*(bU x.f x.t).2.1=l.2.1*(bU x.f x.t).1
 pos:0<l.1*(bU x.f x.t).1+l.2.1*(bU x.f x.t).2.1
 M8:l.1*x.f.2.1-l.2.1*x.f.1=l.2.2*x.f.2.2
 agG:l.1*x.t.2.1-l.2.1*x.t.1=l.2.2*x.t.2.2
theorem LD.nL{x:PB}{l:Ge.Ln}(h:LD x l):sm l.1/\sm l.2.1/\sm l.2.2:=by
 have:=h.b1;have:=h.b2;have:=h.b3;unfold sm;omega
theorem agH(f t:Ge.Nd):bU t f=(-(bU f t).1, -(bU f t).2.1,0):=by
 unfold bU;simp only[aa8,tL];omega
theorem LD.rev{x:PB}{l:Ge.Ln}(h:LD x l):LD x.rev (Ge.zX l):=by
 have e:bU x.rev.f x.rev.t=(-(bU x.f x.t).1, -(bU x.f x.t).2.1,0):=agH _ _;refine⟨h.fl.neg,?_,?_,?_,?_,?_,?_,?_⟩
 ·show(-l.1).natAbs<=100;rw[yX];exact h.b1
 ·show(-l.2.1).natAbs<=100;rw[yX];exact h.b2
 ·show(-l.2.2).natAbs<=10000;rw[yX];exact h.b3
 ·rw[e];show -l.1* -(bU x.f x.t).2.1= -l.2.1* -(bU x.f x.t).1;rw[y7,y7];exact h.par
 ·rw[e];show 0< -l.1* -(bU x.f x.t).1+ -l.2.1* -(bU x.f x.t).2.1;rw[y7,y7];exact h.pos
 ·show -l.1*x.t.2.1- -l.2.1*x.t.1= -l.2.2*x.t.2.2;have:=h.agG;rw[iC,iC,iC];omega
 ·show -l.1*x.f.2.1- -l.2.1*x.f.1= -l.2.2*x.f.2.2;have:=h.M8;rw[iC,iC,iC];omega
theorem agI{es:List Ed}{l:List Ge.Nd}{Ps:List PB}(hne:∀e∈es,e.1≠e.2)(hs:∀e∈es,eO e)(h:nO es l Ps)(hl:l.map Ge.ax=Ge.gV es)(p:PB)(hp:p∈Ps):∃k,LD p k:=by
 obtain⟨e,he,hfl,hq⟩:=h.ap.mem p hp;have hv:=h.v p hp;have hm:=IL hq;have f1:=(eY.1 hm.1).2;have f2:=(eY.1 hm.2).2;have l1:=IP hv.cf.pos f1;have l2:=IP hv.ct.pos f2;have hlt:=I7 h hl p hp;have kq:=hs e he;have hr:=Vw (hne e he);have hd:rising (bU p.f p.t).1 (bU p.f p.t).2.1:=Vx hv.cf hv.ct hlt;have hc:=Vy l1 l2;have hc':(Ge.ia (Ge.cH e)).1*(bU p.f p.t).2.1=(Ge.ia (Ge.cH e)).2.1*(bU p.f p.t).1:=by
  unfold Ge.ia;split
  ·show -(Ge.cH e).1*_= -(Ge.cH e).2.1*_;rw[iC,iC,hc]
  ·exact hc
 have hb:(Ge.cH e).1.natAbs<=100/\(Ge.cH e).2.1.natAbs<=100/\(Ge.cH e).2.2.natAbs<=10000:=by
  obtain⟨a,b,c,d⟩:=kq;unfold small at a b c d;have m1: -5000<=(e.2.1-e.1.1)*e.1.2/\(e.2.1-e.1.1)*e.1.2<=5000:=oH (a:=100) (b:=50) (by omega) (by omega)
  have m2: -5000<=(e.2.2-e.1.2)*e.1.1/\(e.2.2-e.1.2)*e.1.1<=5000:=oH (a:=100) (b:=50) (by omega) (by omega)
  unfold Ge.cH;simp only;omega
 have t1:(Ge.cH e).1*p.f.2.1-(Ge.cH e).2.1*p.f.1=(Ge.cH e).2.2*p.f.2.2:=by unfold lf at l1;unfold Ge.cH;simp only;omega
 have t2:(Ge.cH e).1*p.t.2.1-(Ge.cH e).2.1*p.t.1=(Ge.cH e).2.2*p.t.2.2:=by unfold lf at l2;unfold Ge.cH;simp only;omega
 refine⟨Ge.ia (Ge.cH e),hfl,?_,?_,?_,hc',MH hr hd hc',?_,?_⟩
 ·unfold Ge.ia;split
  ·show(-(Ge.cH e).1).natAbs<=100;rw[yX];exact hb.1
  ·exact hb.1
 ·unfold Ge.ia;split
  ·show(-(Ge.cH e).2.1).natAbs<=100;rw[yX];exact hb.2.1
  ·exact hb.2.1
 ·unfold Ge.ia;split
  ·show(-(Ge.cH e).2.2).natAbs<=10000;rw[yX];exact hb.2.2
  ·exact hb.2.2
 ·unfold Ge.ia;split
  ·show -(Ge.cH e).1*_- -(Ge.cH e).2.1*_= -(Ge.cH e).2.2*_;rw[iC,iC,iC];omega
  ·exact t1
 ·unfold Ge.ia;split
  ·show -(Ge.cH e).1*_- -(Ge.cH e).2.1*_= -(Ge.cH e).2.2*_;rw[iC,iC,iC];omega
  ·exact t2
def eW(x y:PB):Int:=((bU x.f x.t).1*(bU y.f y.t).2.1-(bU x.f x.t).2.1*(bU y.f y.t).1).sign
theorem cP{a b c d:Int}(h:0<a*c+b*d):0<c*c+d*d:=by
 have k1:0<=c*c:=by
  rcases Bq 0 c with h|h
  ·exact iN h h
  ·exact qZ h h
 have k2:0<=d*d:=by
  rcases Bq 0 d with h|h
  ·exact iN h h
  ·exact qZ h h
 have hz:c≠0\/d≠0:=by
  by_cases hc:c=0
  ·refine ah fun hd=>?_
   rw[hc,hd,y8,y8] at h;omega
  ·exact ag hc
 rcases hz with hz|hz
 ·have:0<c*c:=by
   rcases eK c 0 with h1|h1|h1
   ·exact Fx h1 h1
   ·exact absurd h1 hz
   ·exact aR h1 h1
  omega
 ·have:0<d*d:=by
   rcases eK d 0 with h1|h1|h1
   ·exact Fx h1 h1
   ·exact absurd h1 hz
   ·exact aR h1 h1
  omega
theorem Ec{x y:PB}{l m:Ge.Ln}(hx:LD x l)(hy:LD y m):(l.1*m.2.1-l.2.1*m.1).sign=eW x y:=by
 have h1:=IM (x:=m.2.1) (y:= -m.1) hx.par hx.pos (cP hx.pos);have h2:=IM (x:=(bU x.f x.t).2.1) (y:= -(bU x.f x.t).1) hy.par hy.pos (cP hy.pos);unfold eW;have e1:l.1*m.2.1+l.2.1* -m.1=l.1*m.2.1-l.2.1*m.1:=by rw[wU];omega
 have e2:(bU x.f x.t).1*m.2.1+(bU x.f x.t).2.1* -m.1= -(m.1*(bU x.f x.t).2.1+m.2.1* -(bU x.f x.t).1):=by grind
 have e3:(bU y.f y.t).1*(bU x.f x.t).2.1+(bU y.f y.t).2.1* -(bU x.f x.t).1= -((bU x.f x.t).1*(bU y.f y.t).2.1-(bU x.f x.t).2.1*(bU y.f y.t).1):=by grind
 rw[e1,e2,Qr] at h1;rw[e3,Qr] at h2;rw[h1,h2,Int.neg_neg]
theorem agJ(x:PB)(n:Ge.Nd)(hx:dh x)(hn:dM n.1 n.2.1 n.2.2)(hc:Ge.Can n)(b:Nat)(w:World)(h1:iK w b x):
    Calls Tryz.prog 254 #[.pointer (some ⟨b,0,none⟩),gZ n] w fun r w'=>r=.returned (.int .i64 (bn x.f n))/\Below w.heap.size w w':=by
  have HC:Hid (∀w,Calls Tryz.prog 125 #[.agg #[.complex .f64 (floatOfInt .f64 x.f.1) (floatOfInt .f64 x.f.2.1),.int .i64 x.f.2.2],.agg #[.complex .f64 (floatOfInt .f64 n.1) (floatOfInt .f64 n.2.1),.int .i64 n.2.2]] w fun r w'=>r=.returned (.int .i64 (bn x.f n))/\Below w.heap.size w w'/\w.drawn<=w'.drawn):=fun w=>Dd x.f n hx.f.inn hn hx.cf hc w
  have a2:=h1.c2;have a3:=h1.c3;have hzb:b<w.heap.size:=lt_of_cell a2;clear h1 hx;unfold gZ;generalize floatOfInt .f64 x.f.1=X1 at*;generalize floatOfInt .f64 x.f.2.1=X2 at*;generalize floatOfInt .f64 n.1=Y1 at*;generalize floatOfInt .f64 n.2.1=Y2 at*;generalize bn x.f n=R at*;generalize x.f.2.2=X3 at*;generalize n.2.2=Y3 at*;have r2:=(jw w (.cells #[.complex .f64 Y1 Y2,.int .i64 Y3] 83) hzb (k:=2)).trans a2;have r3:=(jw w (.cells #[.complex .f64 Y1 Y2,.int .i64 Y3] 83) hzb (k:=3)).trans a3;have hE:=heap_alloc_new w (.cells #[.complex .f64 Y1 Y2,.int .i64 Y3] 83);have hb0:Below w.heap.size w (w.alloc (.cells #[.complex .f64 Y1 Y2,.int .i64 Y3] 83)):=(Below.refl _ _).alloc (ay _) _;have hsz:w.heap.size+1=(w.alloc (.cells #[.complex .f64 Y1 Y2,.int .i64 Y3] 83)).heap.size:=by simp
  go_enter Tryz.func254,Tryz.ntmps254
  go_wp2_with fail
  generalize w.alloc (.cells #[.complex .f64 Y1 Y2,.int .i64 Y3] 83)=W at*;generalize hB:w.heap.size=B at*;have r4:W.cell? ⟨B,0,none⟩=some (.complex .f64 Y1 Y2):=cell_of hE 0;have r5:W.cell? ⟨B,1,none⟩=some (.int .i64 Y3):=cell_of hE 1;have Wl:b<W.heap.size:=by omega
  have M9:B<W.heap.size:=by omega
  first
    | (refine(HC.out _).mono ?_
       rintro e w5 ⟨rfl,az,D8⟩;have aw:=hb0.trans (az.mono hb0.size)
       go_wp2_with fail
       go_ret
       exact⟨rfl,by rw[hB];exact aw⟩)
    | (go_region_held3 (fun w'=>w'.cell? ⟨b,2,none⟩=some (.complex .f64 X1 X2)/\w'.cell? ⟨b,3,none⟩=some (.int .i64 X3)/\w'.cell? ⟨B,0,none⟩=some (.complex .f64 Y1 Y2)/\w'.cell? ⟨B,1,none⟩=some (.int .i64 Y3)) (go_keep) (first
        | (go_at_call 125;refine(HC.out _).mono ?_;rintro e w5 ⟨rfl,az,D8⟩;have e0:=(az.cell (p:=⟨b,2,none⟩) Wl).trans r2;have e1:=(az.cell (p:=⟨b,3,none⟩) Wl).trans r3;have e2:=(az.cell (p:=⟨B,0,none⟩) M9).trans r4;have e3:=(az.cell (p:=⟨B,1,none⟩) M9).trans r5))
       all_goals
         have aw:=hb0.drew.trans (az.mono (eJ M9));clear az D8
         go_wp2_with fail
         go_ret
         exact⟨rfl,by rw[hB];exact aw⟩)
theorem agK(a1 a2 b1 b2 im:Nat)(R:Int)(b c:Nat)(w:World)(h1:w.cell? ⟨b,0,none⟩=some (.complex .f64 a1 a2))(h2:w.cell? ⟨c,0,none⟩=some (.complex .f64 b1 b2))
  (HL:Hid (∀w,Calls Tryz.prog 101 #[.complex .f64 a1 a2,.complex .f64 b1 b2] w fun e w'=>e=.returned (.float .f64 im)/\w'=w))
  (HC:Hid (∀w,Calls Tryz.prog 183 #[.float .f64 im,.float .f64 0] w fun r w'=>r=.returned (.int .i64 R)/\w'=w)):
  Calls Tryz.prog 256 #[.pointer (some ⟨b,0,none⟩),.pointer (some ⟨c,0,none⟩)] w fun r w'=>r=.returned (.int .i64 R)/\Below w.heap.size w w':=by
 go_enter Tryz.func256,Tryz.ntmps256
 go_wp2_with fail
 have hzb:b<w.heap.size:=lt_of_cell h1;have lD:c<w.heap.size:=lt_of_cell h2
 go_region_held3 (fun w'=>w'.cell? ⟨b,0,none⟩=some (.complex .f64 a1 a2)/\w'.cell? ⟨c,0,none⟩=some (.complex .f64 b1 b2)) (go_keep) (first
   |(go_at_call 101;refine(HL.out _).mono ?_;rintro e w5 ⟨rfl,rQ⟩;subst rQ)
   |(go_at_call 183;refine(HC.out _).mono ?_;rintro e w6 ⟨rfl,H9⟩;subst H9))
 all_goals
  go_wp2_with fail
  go_ret
  exact⟨rfl,(Below.refl _ _).drew⟩
theorem Ee{x y:PB}{l m:Ge.Ln}(hx:LD x l)(hy:LD y m):∃im,Fl im (l.1*m.2.1-l.2.1*m.1)/\∀w,Calls Tryz.prog 101 #[.complex .f64 x.wa x.wb,.complex .f64 y.wa y.wb] w fun e w'=>e=.returned (.float .f64 im)/\w'=w:=
 Cz hx.fl.a hx.fl.b hy.fl.a hy.fl.b hx.nL.1 hx.nL.2.1 hy.nL.1 hy.nL.2.1
theorem Wm(x y:PB){l m:Ge.Ln}(hx:LD x l)(hy:LD y m)(b c:Nat)(w:World)(h1:iK w b x)(h2:iK w c y):
  Calls Tryz.prog 256 #[.pointer (some ⟨b,0,none⟩),.pointer (some ⟨c,0,none⟩)] w fun r w'=>r=.returned (.int .i64 (eW x y))/\Below w.heap.size w w':=by
 obtain⟨im,f1,hl⟩:=Ee hx hy;have hc:=fun w=>xU f1 kM w
 rw[yQ,Ec hx hy] at hc;exact agK _ _ _ _ im _ b c w h1.c0 h2.c0 hl hc
theorem Wn(x:Int)(w:World):Calls Tryz.prog 290 #[.int .i64 x] w fun r w'=>r=.returned (.bool false)/\w'=w:=by
 go_enter Tryz.func290,Tryz.ntmps290
 go_wp2_with fail
 go_ret
 exact⟨by simp,rfl⟩
theorem agL(x y:Int)(w:World):Calls Tryz.prog 255 #[.int .i64 x,.int .i64 y] w fun r w'=>r=.returned (.int .i64 (x-y).sign)/\w'=w:=by
 have H1:Hid (∀w,Calls Tryz.prog 290 #[.int .i64 x] w fun r w'=>r=.returned (.bool false)/\w'=w):=fun w=>Wn x w
 have H2:Hid (∀w,Calls Tryz.prog 290 #[.int .i64 y] w fun r w'=>r=.returned (.bool false)/\w'=w):=fun w=>Wn y w
 obtain⟨s,hs⟩:∃s,(x-y).sign=s:=⟨_,rfl⟩;rw[hs];rcases eK x y with h|h|h
 ·have e:s= -1:=by rw[<-hs];exact Fy (by omega)
  subst e;clear hs
  go_enter Tryz.func255,Tryz.ntmps255
  go_wp2_with fail
  refine(H1.out _).mono ?_;rintro e w1 ⟨rfl,rfl⟩
  go_wp2_with fail
  refine(H2.out _).mono ?_;rintro e w2 ⟨rfl,rfl⟩
  go_wp2_with fail
  go_ret
  exact⟨rfl,rfl⟩
 ·have e:s=0:=by rw[<-hs,h,Int.sub_self];rfl
  subst e;have q1:decide (x<y)=false:=by simp;omega
  have q2:decide (y<x)=false:=by simp;omega
  clear hs h
  go_enter Tryz.func255,Tryz.ntmps255
  go_wp2_with fail
  refine(H1.out _).mono ?_;rintro e w1 ⟨rfl,rfl⟩
  go_wp2_with fail
  refine(H2.out _).mono ?_;rintro e w2 ⟨rfl,rfl⟩
  go_wp2_with fail
  go_ret
  exact⟨rfl,rfl⟩
 ·have e:s=1:=by rw[<-hs];exact pq (by omega)
  subst e;have q1:decide (x<y)=false:=by simp;omega
  clear hs
  go_enter Tryz.func255,Tryz.ntmps255
  go_wp2_with fail
  refine(H1.out _).mono ?_;rintro e w1 ⟨rfl,rfl⟩
  go_wp2_with fail
  refine(H2.out _).mono ?_;rintro e w2 ⟨rfl,rfl⟩
  go_wp2_with fail
  go_ret
  exact⟨rfl,rfl⟩
def qP(s a b:PB):Int:=if(eW s b-eW s a).sign=0 then eW a b else(eW s b-eW s a).sign
theorem agM(a1 a2 b1 b2 im:Nat)(HA HB P Q' R:Int)(s b c:Nat)(w:World)(_hs:s<w.heap.size)(h1:w.cell? ⟨b,0,none⟩=some (.complex .f64 a1 a2))(h2:w.cell? ⟨c,0,none⟩=some (.complex .f64 b1 b2))
  (Hb:Hid (∀w',Below w.heap.size w w'->Calls Tryz.prog 256 #[.pointer (some ⟨s,0,none⟩),.pointer (some ⟨c,0,none⟩)] w' fun r w''=>r=.returned (.int .i64 HB)/\Below w'.heap.size w' w''))
  (Ha:Hid (∀w',Below w.heap.size w w'->Calls Tryz.prog 256 #[.pointer (some ⟨s,0,none⟩),.pointer (some ⟨b,0,none⟩)] w' fun r w''=>r=.returned (.int .i64 HA)/\Below w'.heap.size w' w''))
  (HI:Hid (∀w,Calls Tryz.prog 255 #[.int .i64 HB,.int .i64 HA] w fun r w'=>r=.returned (.int .i64 P)/\w'=w))
  (HL:Hid (∀w,Calls Tryz.prog 101 #[.complex .f64 a1 a2,.complex .f64 b1 b2] w fun e w'=>e=.returned (.float .f64 im)/\w'=w))
  (HC:Hid (∀w,Calls Tryz.prog 183 #[.float .f64 im,.float .f64 0] w fun r w'=>r=.returned (.int .i64 Q')/\w'=w))
  (HO:Hid (∀b cap w,w.cell? ⟨b,0,none⟩=some (.int .i64 P)->w.cell? ⟨b,1,none⟩=some (.int .i64 Q')->Calls Tryz.prog 182 #[.slice (some ⟨b,0,none⟩) 2 cap] w fun r w'=>r=.returned (.int .i64 R)/\w'=w)):
  Calls Tryz.prog 211 #[.pointer (some ⟨s,0,none⟩),.pointer (some ⟨b,0,none⟩),.pointer (some ⟨c,0,none⟩)] w fun r w'=>r=.returned (.int .i64 R)/\Below w.heap.size w w':=by
 go_enter Tryz.func211,Tryz.ntmps211
 go_wp2_with fail
 have hzb:b<w.heap.size:=lt_of_cell h1;have lD:c<w.heap.size:=lt_of_cell h2;have oU:Below w.heap.size w w.drew:=(Below.refl _ _).drew
 go_region_held3 (fun w'=>w'.cell? ⟨b,0,none⟩=some (.complex .f64 a1 a2)/\w'.cell? ⟨c,0,none⟩=some (.complex .f64 b1 b2)) (go_keep) (first
   |(go_at_call_of 256 (Value.pointer (some ⟨c,0,none⟩));refine(Hb.out _ oU).mono ?_;rintro e w5 ⟨rfl,az⟩;have mi:Below w.heap.size w w5:=oU.trans az;have e0:=(mi.cell (p:=⟨b,0,none⟩) hzb).trans h1;have e1:=(mi.cell (p:=⟨c,0,none⟩) lD).trans h2)
   |(go_at_call_of 256 (Value.pointer (some ⟨b,0,none⟩));refine(Ha.out _ mi).mono ?_;rintro e w6 ⟨rfl,aF⟩;have vW:Below w.heap.size w w6:=mi.trans (aF.mono mi.size);have e2:=(vW.cell (p:=⟨b,0,none⟩) hzb).trans h1;have e3:=(vW.cell (p:=⟨c,0,none⟩) lD).trans h2)
   |(go_at_call 255;refine(HI.out _).mono ?_;rintro e w7 ⟨rfl,kO⟩;subst kO)
   |(go_at_call 101;refine(HL.out _).mono ?_;rintro e w7 ⟨rfl,kO⟩;subst kO)
   |(go_at_call 183;refine(HC.out _).mono ?_;rintro e w7 ⟨rfl,kO⟩;subst kO)
   |(go_at_call 182;refine(HO.out _ _ _ (cell_of (heap_alloc_new _ _) 0) (cell_of (heap_alloc_new _ _) 1)).mono ?_;rintro e w8 ⟨rfl,qy⟩;have Na:Below w.heap.size w w8:=(by(rw[qy];exact vW.alloc vW.size _));have e4:=(Na.cell (p:=⟨b,0,none⟩) hzb).trans h1;have e5:=(Na.cell (p:=⟨c,0,none⟩) lD).trans h2;clear qy))
 all_goals
  go_wp2_with fail
  go_ret
  exact⟨rfl,Na⟩
theorem iK.below{w w':World}{b:Nat}{x:PB}(h:iK w b x)(hb:Below w.heap.size w w'):iK w' b x:=by
 have hz:b<w.heap.size:=lt_of_cell h.c0;exact⟨(hb.cell (p:=⟨b,0,none⟩) hz).trans h.c0,(hb.cell (p:=⟨b,1,none⟩) hz).trans h.c1,(hb.cell (p:=⟨b,2,none⟩) hz).trans h.c2,(hb.cell (p:=⟨b,3,none⟩) hz).trans h.c3,(hb.cell (p:=⟨b,4,none⟩) hz).trans h.c4,(hb.cell (p:=⟨b,5,none⟩) hz).trans h.c5⟩
theorem agN(x y z:PB){l m k:Ge.Ln}(hx:LD x l)(hy:LD y m)(hz:LD z k)(s b c:Nat)(w:World)(h0:iK w s x)(h1:iK w b y)(h2:iK w c z):
  Calls Tryz.prog 211 #[.pointer (some ⟨s,0,none⟩),.pointer (some ⟨b,0,none⟩),.pointer (some ⟨c,0,none⟩)] w fun r w'=>r=.returned (.int .i64 (qP x y z))/\Below w.heap.size w w':=by
 obtain⟨im,f1,hl⟩:=Ee hy hz;have hc:=fun w=>xU f1 kM w
 rw[yQ,Ec hy hz] at hc;exact agM _ _ _ _ im (eW x y) (eW x z) _ _ _ s b c w (lt_of_cell h0.c0) h1.c0 h2.c0 (fun w' hb=>Wm x z hx hz s c w' (h0.below hb) (h2.below hb)) (fun w' hb=>Wm x y hx hy s b w' (h0.below hb) (h1.below hb)) (fun w=>agL _ _ w) hl hc (fun b cap w h0 h1=>Ii _ _ b cap w h0 h1)
def bG(cf:Nat->Nat->Int):List Nat->Nat->Nat
 |[],m=>m
 |b::r,m=>bG cf r (if cf b m<0 then b else m)
theorem Je(cf:Nat->Nat->Int):∀(l:List Nat)(m b:Nat),bG cf (l++[b]) m=if cf b (bG cf l m)<0 then b else bG cf l m
 |[],m,b=>rfl
 |a::l,m,b=>by
  show bG cf (l++[b]) _=_;rw[Je cf l];rfl
theorem wu(cf:Nat->Nat->Int):∀(l:List Nat)(m:Nat),bG cf l m=m\/bG cf l m∈l
 |[],m=>ag rfl
 |a::l,m=>by
  show bG cf l (if cf a m<0 then a else m)=m\/_∈a::l
  rcases wu cf l (if cf a m<0 then a else m) with h|h
  ·by_cases hc:cf a m<0
   ·rw[aj hc] at h;exact ah (by show bG cf l _∈a::l;rw[aj hc,h];simp)
   ·rw[af hc] at h;exact ag (by rw[af hc];exact h)
  ·exact ah (aT _ h)
theorem agO(cf:Nat->Nat->Int)(a:Nat)(r:List Nat)(g lo cap s:Nat)(w:World)(hn:r.length<=85000000)
  (HV:Hid (∀(i:Nat) b,(a::r)[i]?=some b->w.cell? ⟨g,lo+i,none⟩=some (.pointer (some ⟨b,0,none⟩))))
  (HC:Hid (∀b∈a::r,∀c∈a::r,∀w',Below w.heap.size w w'->Calls Tryz.prog 211 #[.pointer (some ⟨s,0,none⟩),.pointer (some ⟨b,0,none⟩),.pointer (some ⟨c,0,none⟩)] w' fun r w''=>r=.returned (.int .i64 (cf b c))/\Below w'.heap.size w' w'')):
  Calls Tryz.prog 171 #[.slice (some ⟨g,lo,none⟩) (r.length+1) cap,.func (.func 211) #[.pointer (some ⟨s,0,none⟩)] #[]] w fun e w'=>e=.returned (.pointer (some ⟨bG cf r a,0,none⟩))/\Below w.heap.size w w':=by
 have c0:=HV.out 0 a rfl;rw[pD] at c0;have dH:g<w.heap.size:=lt_of_cell c0
 go_enter Tryz.func171,Tryz.ntmps171
 go_wp2_with fail
 go_loopg [5,6] r.length (fun m mv iv wr=>∃k:Nat,k+m=r.length/\iv=.int .i64 (k+1:Nat)/\mv=.pointer (some ⟨bG cf (r.take k) a,0,none⟩)/\Hid (Below w.heap.size w wr))
 case atStart=>exact⟨0,by omega,rfl,rfl,Below.refl _ _⟩
 case round=>
  obtain⟨k,hkn,rfl,rfl,HB⟩:=hrel;by_cases hlt:k<r.length
  ·obtain⟨b,hb⟩:∃b,r[k]?=some b:=⟨_,aC hlt⟩;have c1:=(HB.out.cell (p:=⟨g,lo+(k+1),none⟩) dH).trans (HV.out (k+1) b (by simpa using hb))
   have jL:b∈a::r:=aT _ (aZ hb);have hmm:bG cf (r.take k) a∈a::r:=by
    rcases wu cf (r.take k) a with h|h
    ·rw[h];simp
    ·exact aT _ (qh h)
   have iz:Hid (Calls Tryz.prog 211 #[.pointer (some ⟨s,0,none⟩),.pointer (some ⟨b,0,none⟩),.pointer (some ⟨bG cf (r.take k) a,0,none⟩)] wr fun r' w''=>r'=.returned (.int .i64 (cf b (bG cf (r.take k) a)))/\Below wr.heap.size wr w''):=HC.out b jL _ hmm wr HB.out
   have gM:Hid (bG cf (r.take (k+1)) a=if cf b (bG cf (r.take k) a)<0 then b else bG cf (r.take k) a):=by
    have htk:r.take (k+1)=r.take k++[b]:=by rw[jF,hb];rfl
    show bG cf (r.take (k+1)) a=_;rw[htk,Je]
   have fN:((k:Int)+1)<((r.length:Int)+1):=by omega
   have hgr:g<wr.heap.size:=bu dH HB.out.size;clear c0 hb jL hmm;generalize bG cf (r.take k) a=M at*
   go_wp2_with fail
   refine iz.out.mono ?_;rintro e w5 ⟨rfl,az⟩;have fF:Hid (Below w.heap.size w w5):=HB.out.trans (az.mono HB.out.size);have c5:=(az.cell (p:=⟨g,lo+(k+1),none⟩) hgr).trans c1;clear iz az c1;generalize cf b M=V at*;by_cases hV:V<0
   ·have HM:Hid (bG cf (r.take (k+1)) a=b):=by rw[gM.out,aj hV];rfl
    go_wp2_with fail
    go_roundg (gk-1)
    case measure=>omega
    case rel=>exact⟨k+1,by omega,by go_num,by rw[HM.out],fF⟩
   ·have HM:Hid (bG cf (r.take (k+1)) a=M):=by rw[gM.out,af hV];rfl
    have Nb:decide (V<0)=false:=gv hV
    go_wp2_with fail
    go_roundg (gk-1)
    case measure=>omega
    case rel=>exact⟨k+1,by omega,by go_num,by rw[HM.out],fF⟩
  ·have hk:k=r.length:=by omega
   subst hk;rw[gm];clear HC HV
   go_wp2_with fail
   go_ret
   exact⟨rfl,HB.out⟩
end Go.Proofs.YtkjhhooecopolaaGreatDoor

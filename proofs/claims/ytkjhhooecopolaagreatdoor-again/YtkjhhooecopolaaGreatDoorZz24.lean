import Derived.Test.YtkjhhooecopolaaGreatDoorZz23
set_option maxRecDepth 100000
set_option maxHeartbeats 4000000
namespace Go.Proofs.YtkjhhooecopolaaGreatDoor
open Go.RowKit
def rp(Xs:List PB)(i j:Fin Xs.length):Int:=aY Xs[i].f Xs[j].f
def mJ(Xs:List PB)(h:0<Xs.length):Array (Fin Xs.length):=
 haveI:Inhabited (Fin Xs.length):=⟨⟨0,h⟩⟩
 Sort.pdq (ltOf (rp Xs)) (Array.ofFn id) 0 Xs.length (Lib.bitLen Xs.length) true true
def uV(Xs:List PB):List PB:=if h:0<Xs.length then(mJ Xs h).toList.map (fun i=>Xs[i]) else[]
theorem Hn{Xs:List PB}{i j:Fin Xs.length}:ltOf (rp Xs) i j=true↔Ge.lt (Ge.au Xs[i].f) (Ge.au Xs[j].f):=by
 unfold ltOf rp aY Ge.lt;exact qp
theorem CT{Xs:List PB}{i j:Fin Xs.length}:ltOf (rp Xs) i j=false↔¬Ge.lt (Ge.au Xs[i].f) (Ge.au Xs[j].f):=by
 rw[<-Hn];simp
theorem Va{Xs:List PB}(hv:∀x∈Xs,cK x):Sort.SWO (ltOf (rp Xs)):=by
 have hc:∀i:Fin Xs.length,Ge.Can Xs[i].f:=fun i=>(hv _ (gF i.2)).cf
 exact{
  irrefl:=fun x=>CT.2 (Ge.lt_irrefl _)
  trans:=fun x y z h1 h2=>Hn.2 (Ge.lt_trans (Ge.cJ (hc x)) (Ge.cJ (hc y)) (Ge.cJ (hc z)) (Hn.1 h1) (Hn.1 h2))
  ntrans:=fun x y z h1 h2=>CT.2 fun h=>CT.1 h1 (Ge.lt_le_trans (hc x) (hc z) (hc y) h (CT.1 h2))}
def uW(bs:List Nat)(n:Nat)(h:bs.length=n)(i:Fin n):Value:=.pointer (some ⟨bs[i]'(by rw[h];exact i.2),0,none⟩)
theorem Vb{α:Type}[Inhabited α](enc:α->Value)(d':Array α)(n:Nat)(os:Array Obj){wr:World}{g:Nat}{cur:Array Value}{t:TypeId}{fr:Nat×Nat}(hb:wr.heap[g]?=some (.cells cur t fr)):
  (sortWorld enc wr g 0 n d' os).heap[g]?=some (.cells (Sort.putCells enc 0 d' cur) t fr):=by
 have hg:=lt_of_heap hb;show((wr.heap.modify g (Sort.onCells (Sort.putCells enc 0 d')))++os)[g]?=_;rw[Eu (by simpa using hg),xN,ah rfl,hb]
 rfl
theorem CU{α:Type}[Inhabited α](enc:α->Value)(d':Array α)(n:Nat)(os:Array Obj){wr:World}{g k:Nat}(hk:k<wr.heap.size)(hne:g≠k):
  (sortWorld enc wr g 0 n d' os).heap[k]?=wr.heap[k]?:=by
 show((wr.heap.modify g (Sort.onCells (Sort.putCells enc 0 d')))++os)[k]?=_;rw[Eu (by simpa using hk),xN,aa hne]
theorem L9{α:Type}[Inhabited α](enc:α->Value)(d':Array α)(n:Nat)(os:Array Obj)(wr:World)(g:Nat):wr.heap.size<=(sortWorld enc wr g 0 n d' os).heap.size:=by
 show _<=((wr.heap.modify g (Sort.onCells (Sort.putCells enc 0 d')))++os).size;rw[ZF,ZG];omega
theorem Vc{α:Type}[Inhabited α](enc:α->Value)(d:Array α)(c:Array Value)(h:d.size<=c.size):(Sort.putCells enc 0 d c).toList.take d.size=d.toList.map enc:=by
 apply zY;intro t;rw[jt];by_cases ht:t<d.size
 ·have h1:t<c.size:=by omega
  rw[ah ht,iu,fR,iu];unfold Sort.putCells;rw[akq,mf h1,mf ht];simp[ht]
 ·rw[aa ht,vC (by simp;omega)]
theorem afb{w1:World}{g cap:Nat}{bs:List Nat}{Xs:List PB}{wr:World}(h:BS w1 (.slice (some ⟨g,0,none⟩) bs.length cap) bs Xs wr)(hv:∀x∈Xs,cK x)[Inhabited (Fin Xs.length)]:
  CmpLays1 Tryz.prog 109 #[] (uW bs Xs.length h.len) (rp Xs) g 0 Xs.length wr:=by
 intro m os dk hdk x y;have at':∀i:Fin Xs.length,ig (sortWorld (uW bs Xs.length h.len) wr g 0 m dk os) (bs[i]'(by rw[h.len];exact i.2)) Xs[i]:=fun i=>by
  have hib:i.1<bs.length:=by rw[h.len];exact i.2
  have hl:=(h.lies i.1 _ _ (aD hib) (aD i.2)).2;have hne:=h.ne (bs[i]'hib) (gF hib);refine ig.of (wk:=false) (ow:=none) ((CU _ dk m os (lt_of_heap hl) (fun e=>hne (aw some e))).trans hl)
 exact(L8 Xs[x] Xs[y] (hv _ (gF x.2)) (hv _ (gF y.2)) _ _ _ (at' x) (at' y)).mono fun _ _⟨h1,h2,h3⟩=>⟨h1,GK h2 h3⟩
theorem Ho{α:Type}(a:Array α){n:Nat}(h:a.size=n):a.extract 0 n=a:=by subst h;exact Jo
theorem Vd(Xs:List PB)(hv:∀x∈Xs,cK x)(h:0<Xs.length):(mJ Xs h).size=Xs.length/\(mJ Xs h).toList.Perm (Array.ofFn (id:Fin Xs.length->Fin Xs.length)).toList/\
  ∀i j(hi:i<(mJ Xs h).size)(hj:j<(mJ Xs h).size),i<j->¬Ge.lt (Ge.au Xs[(mJ Xs h)[j]].f) (Ge.au Xs[(mJ Xs h)[i]].f):=by
 letI:Inhabited (Fin Xs.length):=⟨⟨0,h⟩⟩
 have hs:(Array.ofFn (id:Fin Xs.length->Fin Xs.length)).size=Xs.length:=O4;have key:=Sort.pdq_sorts (ltOf (rp Xs)) (Va hv) (Array.ofFn id) 0 Xs.length (Lib.bitLen Xs.length) true true (iq _) (by rw[hs];exact ax _) (ae rfl)
 have e:mJ Xs h=Sort.pdq (ltOf (rp Xs)) (Array.ofFn id) 0 Xs.length (Lib.bitLen Xs.length) true true:=rfl;rw[<-e] at key;obtain⟨⟨p1,_,p3⟩,p4⟩:=key;have hd:(mJ Xs h).size=Xs.length:=by rw[p1,hs]
 rw[Ho _ hd,Ho _ hs] at p3;refine⟨hd,p3,fun i j hi hj hij=>?_⟩
 have hx:=p4 i j (iq _) hij (by omega)
 rw[gG (mJ Xs h) i hi,gG (mJ Xs h) j hj] at hx;exact CT.1 hx
theorem Ve(Xs:List PB)(hv:∀x∈Xs,cK x):(uV Xs).Perm Xs/\(uV Xs).Pairwise (fun x y=>¬Ge.lt (Ge.au y.f) (Ge.au x.f)):=by
 unfold uV;by_cases h:0<Xs.length
 ·rw[ug h];obtain⟨hd,p3,p4⟩:=Vd Xs hv h;refine⟨?_,?_⟩
  ·have k:=p3.map (fun i:Fin Xs.length=>Xs[i])
   have e3:(Array.ofFn (id:Fin Xs.length->Fin Xs.length)).toList.map (fun i:Fin Xs.length=>Xs[i])=Xs:=by
    apply vK
    ·simp
    ·intro i h1 h2;simp
   rw[e3] at k;exact k
  ·rw[lZ,lF];intro i j hi hj hij;exact p4 i j (by simpa using hi) (by simpa using hj) hij
 ·rw[Aj h];have:Xs=[]:=fK.1 (by omega)
  subst this;exact⟨Jp _,List.Pairwise.nil⟩
theorem afd(g cap n:Nat)(wr:World)(Q:World->Prop)(hn:n<=85000000)
  (HP:Hid (Calls Tryz.prog 163 #[.slice (some ⟨g,0,none⟩) n cap,.int .i64 (0:Nat),.int .i64 n,.int .i64 (Lib.bitLen n:Nat),.func (.func 109) #[] #[]] wr fun e w'=>e=.returned (.tuple #[])/\Q w')):
  Calls Tryz.prog 108 #[.slice (some ⟨g,0,none⟩) n cap,.func (.func 109) #[] #[]] wr fun e w'=>e=.returned (.tuple #[])/\Q w':=by
 have HL:Hid (Calls Tryz.prog 164 #[.int .u64 (n:Int)] wr fun e w'=>e=.returned (.int .i64 (Lib.bitLen n:Nat))/\w'=wr):=by
  have h:=Tryz.bits_Len (n:Int) wr (by omega) (by omega)
  rwa[xL] at h
 have hwr:IntKind.u64.wrap (n:Int)=n:=by simp[IntKind.wrap,IntKind.bits,IntKind.signed];omega
 generalize Lib.bitLen n=BL at*
 go_enter Tryz.func108,Tryz.ntmps108
 go_wp2_with fail
 refine HL.out.mono ?_;rintro r w1 ⟨rfl,rfl⟩
 go_wp2_with fail
 refine HP.out.mono ?_;rintro r w2 ⟨rfl,hQ⟩;have HQ:Hid (Q w2):=hQ;clear hQ HP
 go_wp2_with fail
 go_end0
 exact⟨rfl,HQ.out⟩
theorem Vf(p:Option Addr)(cap:Nat)(wr:World):
  Calls Tryz.prog 108 #[.slice p 0 cap,.func (.func 109) #[] #[]] wr fun e w'=>e=.returned (.tuple #[])/\w'=wr:=by
 have HL:Hid (Calls Tryz.prog 164 #[.int .u64 0] wr fun e w'=>e=.returned (.int .i64 (Lib.bitLen 0:Nat))/\w'=wr):=Tryz.bits_Len 0 wr (by omega) (by omega)
 have HP:Hid (∀lim:Int,Calls Tryz.prog 163 #[.slice p 0 cap,.int .i64 0,.int .i64 0,.int .i64 lim,.func (.func 109) #[] #[]] wr fun e w'=>e=.returned (.tuple #[])/\w'=wr):=fun lim=>AnyF.pdqsortCmpFunc_none {Tryz.pdqSd with} p cap lim _ wr
 generalize Lib.bitLen 0=BL at*
 go_enter Tryz.func108,Tryz.ntmps108
 go_wp2_with fail
 refine HL.out.mono ?_;rintro r w2 ⟨rfl,rfl⟩
 go_wp2_with fail
 refine(HP.out _).mono ?_;rintro r w3 ⟨rfl,rfl⟩
 go_wp2_with fail
 go_end0
 exact⟨rfl,rfl⟩
theorem afe(w1:World)(lv:Value)(bs:List Nat)(Xs:List PB)(wr:World)(h:BS w1 lv bs Xs wr)(hv:∀x∈Xs,cK x)(hl:bs.length<=85000000):
  Calls Tryz.prog 108 #[lv,.func (.func 109) #[] #[]] wr fun e w'=>e=.returned (.tuple #[])/\∃bs',BS w1 lv bs' (uV Xs) w'/\bs'.length=bs.length:=by
 obtain⟨hlen,tD⟩:=h.own;rcases tD with⟨rfl,h0⟩|⟨g,cap,cur,rfl,hg,hblk,hnc,hcm,hcs,htk⟩
 ·have hb0:bs=[]:=fK.1 h0;have CV:Xs=[]:=fK.1 (by rw[<-h.len];exact h0)
  subst hb0;subst CV;refine(Vf none 0 wr).mono ?_;rintro r w' ⟨rfl,rfl⟩;exact⟨rfl,[],h,rfl⟩
 ·by_cases hn:0<Xs.length
  ·letI:Inhabited (Fin Xs.length):=⟨⟨0,hn⟩⟩
   have hgl:g<wr.heap.size:=lt_of_heap hblk;have hs:(Array.ofFn (id:Fin Xs.length->Fin Xs.length)).size=Xs.length:=O4;have henc:(Array.ofFn (id:Fin Xs.length->Fin Xs.length)).toList.map (uW bs Xs.length h.len)=aK bs:=by
    apply vK
    ·simp[aK,h.len]
    ·intro i h1 h2;simp[aK,uW]
   have hH:Sort.Holds (uW bs Xs.length h.len) wr g 0 (Array.ofFn id):=by
    intro j hj;have hj':j<bs.length:=by rw[h.len,<-hs];exact hj
    have e1:(cur.toList.take (bs.length*1))[j]?=((Array.ofFn (id:Fin Xs.length->Fin Xs.length)).toList.map (uW bs Xs.length h.len))[j]?:=by rw[htk,henc]
    rw[jt,ah (by omega),iu,fR,iu,mf hj] at e1
    refine⟨?_,aX hblk _⟩;rw[js];unfold World.cell?;rw[hblk,gG (Array.ofFn (id:Fin Xs.length->Fin Xs.length)) j hj];exact e1
   have eg:∀args w,(callFunc 109 args).run Tryz.prog w=.ok (.enter 109 args) w:=enters_of Tryz.func109 (by kernel_rfl) rfl
   have uJ:=afb h hv;have hcon:=Any.pdqsortCmpFunc_all Tryz.pdqSd (uW bs Xs.length h.len) (rp Xs) 109 #[] (Va hv) g 0 cap (Array.ofFn id) wr eg (by rw[hs];exact uJ) ⟨fun _=>rfl,hH,hgl⟩ (Xs.length+1) 0 Xs.length (Lib.bitLen Xs.length) (Array.ofFn id) wr (by omega) rfl (SW.start hH) (iq _) (by rw[hs];exact ax _) (by rw[hs,<-h.len];omega) (Nat.lt_of_le_of_lt (Lib.bitLen_le Xs.length 62 (by omega) (by have:=h.len;omega)) (by omega)) (ae rfl)
   rw[hs] at hcon;rw[h.len];refine afd g cap Xs.length wr (fun w'=>∃bs',BS w1 (.slice (some ⟨g,0,none⟩) Xs.length cap) bs' (uV Xs) w'/\bs'.length=Xs.length) (by rw[<-h.len];exact hl) (hcon.mono ?_)
   rintro r w' ⟨rfl,m,os,rfl⟩;refine⟨rfl,?_⟩;have e:Sort.pdq (ltOf (rp Xs)) (Array.ofFn id) 0 Xs.length (Lib.bitLen Xs.length) true true=mJ Xs hn:=rfl;rw[e];have hsp:=Vd Xs hv hn;have hd:=hsp.1;have p3:=hsp.2.1;clear hsp hcon e;have eX:uV Xs=(mJ Xs hn).toList.map (fun i=>Xs[i]):=by unfold uV;rw[ug hn]
   rw[eX];clear eX;obtain⟨d',hd'⟩:∃d',d'=mJ Xs hn:=⟨_,rfl⟩;rw[<-hd'] at hd p3⊢;have pT:∀i:Fin Xs.length,i.1<bs.length:=fun i=>by rw[h.len];exact i.2
   have hpb:(d'.toList.map (fun i:Fin Xs.length=>bs[i.1]'(pT i))).Perm bs:=by
    have k:=p3.map (fun i:Fin Xs.length=>bs[i.1]'(pT i))
    have e3:(Array.ofFn (id:Fin Xs.length->Fin Xs.length)).toList.map (fun i:Fin Xs.length=>bs[i.1]'(pT i))=bs:=by
     apply vK
     ·simp[h.len]
     ·intro i h1 h2;simp
    rw[e3] at k;exact k
   refine⟨d'.toList.map (fun i:Fin Xs.length=>bs[i.1]'(pT i)),⟨⟨by simp[aK],af ⟨g,cap,_,by simp[hd],hg,Vb _ d' m os hblk,by simp[hd,<-h.len,hnc],hcm,?_,?_⟩⟩,by simp,fun i b x h1 h2=>?_,fun b hb=>?_,?_,?_⟩,by simp[hd]⟩
   ·unfold Sort.putCells;rw[O2];exact hcs
   ·have e1:(d'.toList.map (fun i:Fin Xs.length=>bs[i.1]'(pT i))).length*1=d'.size:=by simp
    rw[e1,Vc _ _ _ (by rw[hcs,hd,<-h.len];omega)]
    simp[aK,uW]
   ·rw[fR] at h1 h2;cases hj:d'.toList[i]? with
    |none=>rw[hj] at h1;cases h1
    |some j=>
     rw[hj] at h1 h2;have hb:bs[j.1]'(pT j)=b:=by simpa using h1
     have hx:Xs[j]=x:=by simpa using h2
     obtain⟨k1,k2⟩:=h.lies j.1 b x (by rw[aD (pT j),hb]) (by rw[aD j.2];exact aw some hx)
     have hne:=h.ne b (by rw[<-hb];exact gF _)
     exact⟨k1,(CU _ d' m os (lt_of_heap k2) (fun e=>hne (aw some e))).trans k2⟩
   ·have:=h.ne b (hpb.mem_iff.1 hb);exact this
   ·exact hpb.nodup_iff.2 h.nd
   ·exact h.below.trans ⟨rfl,rfl,rfl,L9 _ d' m os wr g,fun k hk=>CU _ d' m os (aZ hk h.below.size) (by omega)⟩
  ·have CV:Xs=[]:=fK.1 (by omega)
   have hb0:bs=[]:=fK.1 (by rw[h.len];omega)
   subst hb0;subst CV;refine(Vf (some ⟨g,0,none⟩) cap wr).mono ?_;rintro r w' ⟨rfl,rfl⟩;exact⟨rfl,[],h,rfl⟩
theorem cK.rev{x:PB}(h:cK x):cK x.rev:=⟨h.t,h.f,h.ct,h.cf⟩
theorem Ma{r:Int}{es:List Ed}{p x:PB}(h:cK p)(hx:x∈eB r es p):cK x:=by
 unfold eB at hx;split at hx
 ·rw[bI.1 hx];exact h
 ·split at hx
  ·rw[bI.1 hx];exact h.rev
  ·simp at hx
def mK(r:Int)(es:List Ed)(Ps:List PB):List PB:=uV (Ps.flatMap (eB r es))
theorem aff(es:List Ed)(r:Int)(v:Value)(w:World)(hR:fG w v es)(hl:es.length<=402)(hs:∀e∈es,dU e)(hne:∀e∈es,e.1≠e.2):
  Calls Tryz.prog 68 #[v,.int .u8 r] w fun e w'=>∃lv,e=.returned lv/\∃Ps l w1 bs,l.map Ge.au=Ge.eO es/\(∀n∈l,Ge.Can n)/\mH es l Ps/\Below w.heap.size w w1/\BS w1 lv bs (mK r es Ps) w'/\bs.length<=85000000:=by
 refine ae7 es r v w hR hl hs hne (fun lv w'=>∃Ps l w1 bs,l.map Ge.au=Ge.eO es/\(∀n∈l,Ge.Can n)/\mH es l Ps/\Below w.heap.size w w1/\BS w1 lv bs (mK r es Ps) w'/\bs.length<=85000000) ?_
 intro Ps l jX jo pS w1 lv bs wr hb jb hbl;have hv:∀x∈Ps.flatMap (eB r es),cK x:=fun x hx=>by
  obtain⟨p,hp,tF⟩:=qf.1 hx;exact Ma (pS.v p hp) tF
 refine(afe w1 lv bs _ wr jb hv hbl).mono ?_;rintro e w' ⟨rfl,bs',h1,h2⟩;exact⟨rfl,Ps,l,w1,bs',jX,jo,pS,hb,h1,by omega⟩
structure LD(x:PB)(l:Ge.Ln):Prop where
 fl:nO x.wa x.wb x.sh l
 b1:l.1.natAbs<=100
 b2:l.2.1.natAbs<=100
 b3:l.2.2.natAbs<=10000
 par:l.1*(bJ x.f x.t).2.1=l.2.1*(bJ x.f x.t).1
 pos:0<l.1*(bJ x.f x.t).1+l.2.1*(bJ x.f x.t).2.1
 Mb:l.1*x.f.2.1-l.2.1*x.f.1=l.2.2*x.f.2.2
 afg:l.1*x.t.2.1-l.2.1*x.t.1=l.2.2*x.t.2.2
theorem LD.mF{x:PB}{l:Ge.Ln}(h:LD x l):sm l.1/\sm l.2.1/\sm l.2.2:=by
 have:=h.b1;have:=h.b2;have:=h.b3;unfold sm;omega
theorem afh(f t:Ge.Nd):bJ t f=(-(bJ f t).1, -(bJ f t).2.1,0):=by
 unfold bJ;simp only[Zy,rR];omega
theorem LD.rev{x:PB}{l:Ge.Ln}(h:LD x l):LD x.rev (Ge.yS l):=by
 have e:bJ x.rev.f x.rev.t=(-(bJ x.f x.t).1, -(bJ x.f x.t).2.1,0):=afh _ _;refine⟨h.fl.neg,?_,?_,?_,?_,?_,?_,?_⟩
 ·show(-l.1).natAbs<=100;rw[xO];exact h.b1
 ·show(-l.2.1).natAbs<=100;rw[xO];exact h.b2
 ·show(-l.2.2).natAbs<=10000;rw[xO];exact h.b3
 ·rw[e];show -l.1* -(bJ x.f x.t).2.1= -l.2.1* -(bJ x.f x.t).1;rw[xR,xR];exact h.par
 ·rw[e];show 0< -l.1* -(bJ x.f x.t).1+ -l.2.1* -(bJ x.f x.t).2.1;rw[xR,xR];exact h.pos
 ·show -l.1*x.t.2.1- -l.2.1*x.t.1= -l.2.2*x.t.2.2;have:=h.afg;rw[gS,gS,gS];omega
 ·show -l.1*x.f.2.1- -l.2.1*x.f.1= -l.2.2*x.f.2.2;have:=h.Mb;rw[gS,gS,gS];omega
theorem afi{es:List Ed}{l:List Ge.Nd}{Ps:List PB}(hne:∀e∈es,e.1≠e.2)(hs:∀e∈es,dU e)(h:mH es l Ps)(hl:l.map Ge.au=Ge.eO es)(p:PB)(hp:p∈Ps):∃k,LD p k:=by
 obtain⟨e,he,hfl,hq⟩:=h.ap.mem p hp;have hv:=h.v p hp;have hm:=GV hq;have f1:=(ik.1 hm.1).2;have f2:=(ik.1 hm.2).2;have l1:=GX hv.cf.pos f1;have l2:=GX hv.ct.pos f2;have hlt:=Hi h hl p hp;have ic:=hs e he;have hr:=Uq (hne e he);have hd:rising (bJ p.f p.t).1 (bJ p.f p.t).2.1:=Ur hv.cf hv.ct hlt;have hc:=Us l1 l2;have hc':(Ge.gq (Ge.bX e)).1*(bJ p.f p.t).2.1=(Ge.gq (Ge.bX e)).2.1*(bJ p.f p.t).1:=by
  unfold Ge.gq;split
  ·show -(Ge.bX e).1*_= -(Ge.bX e).2.1*_;rw[gS,gS,hc]
  ·exact hc
 have hb:(Ge.bX e).1.natAbs<=100/\(Ge.bX e).2.1.natAbs<=100/\(Ge.bX e).2.2.natAbs<=10000:=by
  obtain⟨a,b,c,d⟩:=ic;unfold small at a b c d;have m1: -5000<=(e.2.1-e.1.1)*e.1.2/\(e.2.1-e.1.1)*e.1.2<=5000:=nI (a:=100) (b:=50) (by omega) (by omega)
  have m2: -5000<=(e.2.2-e.1.2)*e.1.1/\(e.2.2-e.1.2)*e.1.1<=5000:=nI (a:=100) (b:=50) (by omega) (by omega)
  unfold Ge.bX;simp only;omega
 have t1:(Ge.bX e).1*p.f.2.1-(Ge.bX e).2.1*p.f.1=(Ge.bX e).2.2*p.f.2.2:=by unfold lf at l1;unfold Ge.bX;simp only;omega
 have t2:(Ge.bX e).1*p.t.2.1-(Ge.bX e).2.1*p.t.1=(Ge.bX e).2.2*p.t.2.2:=by unfold lf at l2;unfold Ge.bX;simp only;omega
 refine⟨Ge.gq (Ge.bX e),hfl,?_,?_,?_,hc',LC hr hd hc',?_,?_⟩
 ·unfold Ge.gq;split
  ·show(-(Ge.bX e).1).natAbs<=100;rw[xO];exact hb.1
  ·exact hb.1
 ·unfold Ge.gq;split
  ·show(-(Ge.bX e).2.1).natAbs<=100;rw[xO];exact hb.2.1
  ·exact hb.2.1
 ·unfold Ge.gq;split
  ·show(-(Ge.bX e).2.2).natAbs<=10000;rw[xO];exact hb.2.2
  ·exact hb.2.2
 ·unfold Ge.gq;split
  ·show -(Ge.bX e).1*_- -(Ge.bX e).2.1*_= -(Ge.bX e).2.2*_;rw[gS,gS,gS];omega
  ·exact t1
 ·unfold Ge.gq;split
  ·show -(Ge.bX e).1*_- -(Ge.bX e).2.1*_= -(Ge.bX e).2.2*_;rw[gS,gS,gS];omega
  ·exact t2
def dX(x y:PB):Int:=((bJ x.f x.t).1*(bJ y.f y.t).2.1-(bJ x.f x.t).2.1*(bJ y.f y.t).1).sign
theorem dO{a b c d:Int}(h:0<a*c+b*d):0<c*c+d*d:=by
 have k1:0<=c*c:=by
  rcases Eb 0 c with h|h
  ·exact iB h h
  ·exact rN h h
 have k2:0<=d*d:=by
  rcases Eb 0 d with h|h
  ·exact iB h h
  ·exact rN h h
 have hz:c≠0\/d≠0:=by
  by_cases hc:c=0
  ·refine af fun hd=>?_
   rw[hc,hd,xS,xS] at h;omega
  ·exact ae hc
 rcases hz with hz|hz
 ·have:0<c*c:=by
   rcases eD c 0 with h1|h1|h1
   ·exact OG h1 h1
   ·exact absurd h1 hz
   ·exact aR h1 h1
  omega
 ·have:0<d*d:=by
   rcases eD d 0 with h1|h1|h1
   ·exact OG h1 h1
   ·exact absurd h1 hz
   ·exact aR h1 h1
  omega
theorem CW{x y:PB}{l m:Ge.Ln}(hx:LD x l)(hy:LD y m):(l.1*m.2.1-l.2.1*m.1).sign=dX x y:=by
 have h1:=GW (x:=m.2.1) (y:= -m.1) hx.par hx.pos (dO hx.pos);have h2:=GW (x:=(bJ x.f x.t).2.1) (y:= -(bJ x.f x.t).1) hy.par hy.pos (dO hy.pos);unfold dX;have e1:l.1*m.2.1+l.2.1* -m.1=l.1*m.2.1-l.2.1*m.1:=by rw[vz];omega
 have e2:(bJ x.f x.t).1*m.2.1+(bJ x.f x.t).2.1* -m.1= -(m.1*(bJ x.f x.t).2.1+m.2.1* -(bJ x.f x.t).1):=by grind
 have e3:(bJ y.f y.t).1*(bJ x.f x.t).2.1+(bJ y.f y.t).2.1* -(bJ x.f x.t).1= -((bJ x.f x.t).1*(bJ y.f y.t).2.1-(bJ x.f x.t).2.1*(bJ y.f y.t).1):=by grind
 rw[e1,e2,OW] at h1;rw[e3,OW] at h2;rw[h1,h2,Int.neg_neg]
theorem afj(x:PB)(n:Ge.Nd)(hx:cK x)(hn:cP n.1 n.2.1 n.2.2)(hc:Ge.Can n)(b:Nat)(w:World)(h1:ig w b x):
    Calls Tryz.prog 254 #[.pointer (some ⟨b,0,none⟩),gm n] w fun r w'=>r=.returned (.int .i64 (aY x.f n))/\Below w.heap.size w w':=by
  have HC:Hid (∀w,Calls Tryz.prog 125 #[.agg #[.complex .f64 (floatOfInt .f64 x.f.1) (floatOfInt .f64 x.f.2.1),.int .i64 x.f.2.2],.agg #[.complex .f64 (floatOfInt .f64 n.1) (floatOfInt .f64 n.2.1),.int .i64 n.2.2]] w fun r w'=>r=.returned (.int .i64 (aY x.f n))/\Below w.heap.size w w'/\w.drawn<=w'.drawn):=fun w=>BO x.f n hx.f.aF hn hx.cf hc w
  have a2:=h1.c2;have a3:=h1.c3;have hzb:b<w.heap.size:=lt_of_cell a2;clear h1 hx;unfold gm;generalize floatOfInt .f64 x.f.1=X1 at*;generalize floatOfInt .f64 x.f.2.1=X2 at*;generalize floatOfInt .f64 n.1=Y1 at*;generalize floatOfInt .f64 n.2.1=Y2 at*;generalize aY x.f n=R at*;generalize x.f.2.2=X3 at*;generalize n.2.2=Y3 at*;have r2:=(iY w (.cells #[.complex .f64 Y1 Y2,.int .i64 Y3] 83) hzb (k:=2)).trans a2;have r3:=(iY w (.cells #[.complex .f64 Y1 Y2,.int .i64 Y3] 83) hzb (k:=3)).trans a3;have hE:=heap_alloc_new w (.cells #[.complex .f64 Y1 Y2,.int .i64 Y3] 83);have hb0:Below w.heap.size w (w.alloc (.cells #[.complex .f64 Y1 Y2,.int .i64 Y3] 83)):=(Below.refl _ _).alloc (ax _) _;have hsz:w.heap.size+1=(w.alloc (.cells #[.complex .f64 Y1 Y2,.int .i64 Y3] 83)).heap.size:=by simp
  go_enter Tryz.func254,Tryz.ntmps254
  go_wp2_with fail
  generalize w.alloc (.cells #[.complex .f64 Y1 Y2,.int .i64 Y3] 83)=W at*;generalize hB:w.heap.size=B at*;have r4:W.cell? ⟨B,0,none⟩=some (.complex .f64 Y1 Y2):=cell_of hE 0;have r5:W.cell? ⟨B,1,none⟩=some (.int .i64 Y3):=cell_of hE 1;have Vg:b<W.heap.size:=by omega
  have Mc:B<W.heap.size:=by omega
  first
    | (refine(HC.out _).mono ?_
       rintro e w5 ⟨rfl,az,CS⟩;have aj:=hb0.trans (az.mono hb0.size)
       go_wp2_with fail
       go_ret
       exact⟨rfl,by rw[hB];exact aj⟩)
    | (go_region_held3 (fun w'=>w'.cell? ⟨b,2,none⟩=some (.complex .f64 X1 X2)/\w'.cell? ⟨b,3,none⟩=some (.int .i64 X3)/\w'.cell? ⟨B,0,none⟩=some (.complex .f64 Y1 Y2)/\w'.cell? ⟨B,1,none⟩=some (.int .i64 Y3)) (go_keep) (first
        | (go_at_call 125;refine(HC.out _).mono ?_;rintro e w5 ⟨rfl,az,CS⟩;have e0:=(az.cell (p:=⟨b,2,none⟩) Vg).trans r2;have e1:=(az.cell (p:=⟨b,3,none⟩) Vg).trans r3;have e2:=(az.cell (p:=⟨B,0,none⟩) Mc).trans r4;have e3:=(az.cell (p:=⟨B,1,none⟩) Mc).trans r5))
       all_goals
         have aj:=hb0.drew.trans (az.mono (dN Mc));clear az CS
         go_wp2_with fail
         go_ret
         exact⟨rfl,by rw[hB];exact aj⟩)
theorem afk(a1 a2 b1 b2 im:Nat)(R:Int)(b c:Nat)(w:World)(h1:w.cell? ⟨b,0,none⟩=some (.complex .f64 a1 a2))(h2:w.cell? ⟨c,0,none⟩=some (.complex .f64 b1 b2))
  (HL:Hid (∀w,Calls Tryz.prog 101 #[.complex .f64 a1 a2,.complex .f64 b1 b2] w fun e w'=>e=.returned (.float .f64 im)/\w'=w))
  (HC:Hid (∀w,Calls Tryz.prog 183 #[.float .f64 im,.float .f64 0] w fun r w'=>r=.returned (.int .i64 R)/\w'=w)):
  Calls Tryz.prog 256 #[.pointer (some ⟨b,0,none⟩),.pointer (some ⟨c,0,none⟩)] w fun r w'=>r=.returned (.int .i64 R)/\Below w.heap.size w w':=by
 go_enter Tryz.func256,Tryz.ntmps256
 go_wp2_with fail
 have hzb:b<w.heap.size:=lt_of_cell h1;have kj:c<w.heap.size:=lt_of_cell h2
 go_region_held3 (fun w'=>w'.cell? ⟨b,0,none⟩=some (.complex .f64 a1 a2)/\w'.cell? ⟨c,0,none⟩=some (.complex .f64 b1 b2)) (go_keep) (first
   |(go_at_call 101;refine(HL.out _).mono ?_;rintro e w5 ⟨rfl,qH⟩;subst qH)
   |(go_at_call 183;refine(HC.out _).mono ?_;rintro e w6 ⟨rfl,Gd⟩;subst Gd))
 all_goals
  go_wp2_with fail
  go_ret
  exact⟨rfl,(Below.refl _ _).drew⟩
theorem CZ{x y:PB}{l m:Ge.Ln}(hx:LD x l)(hy:LD y m):∃im,Fl im (l.1*m.2.1-l.2.1*m.1)/\∀w,Calls Tryz.prog 101 #[.complex .f64 x.wa x.wb,.complex .f64 y.wa y.wb] w fun e w'=>e=.returned (.float .f64 im)/\w'=w:=
 Ba hx.fl.a hx.fl.b hy.fl.a hy.fl.b hx.mF.1 hx.mF.2.1 hy.mF.1 hy.mF.2.1
theorem Vh(x y:PB){l m:Ge.Ln}(hx:LD x l)(hy:LD y m)(b c:Nat)(w:World)(h1:ig w b x)(h2:ig w c y):
  Calls Tryz.prog 256 #[.pointer (some ⟨b,0,none⟩),.pointer (some ⟨c,0,none⟩)] w fun r w'=>r=.returned (.int .i64 (dX x y))/\Below w.heap.size w w':=by
 obtain⟨im,f1,hl⟩:=CZ hx hy;have hc:=fun w=>wO f1 jU w
 rw[xI,CW hx hy] at hc;exact afk _ _ _ _ im _ b c w h1.c0 h2.c0 hl hc
theorem Vi(x:Int)(w:World):Calls Tryz.prog 290 #[.int .i64 x] w fun r w'=>r=.returned (.bool false)/\w'=w:=by
 go_enter Tryz.func290,Tryz.ntmps290
 go_wp2_with fail
 go_ret
 exact⟨by simp,rfl⟩
theorem afl(x y:Int)(w:World):Calls Tryz.prog 255 #[.int .i64 x,.int .i64 y] w fun r w'=>r=.returned (.int .i64 (x-y).sign)/\w'=w:=by
 have H1:Hid (∀w,Calls Tryz.prog 290 #[.int .i64 x] w fun r w'=>r=.returned (.bool false)/\w'=w):=fun w=>Vi x w
 have H2:Hid (∀w,Calls Tryz.prog 290 #[.int .i64 y] w fun r w'=>r=.returned (.bool false)/\w'=w):=fun w=>Vi y w
 obtain⟨s,hs⟩:∃s,(x-y).sign=s:=⟨_,rfl⟩;rw[hs];rcases eD x y with h|h|h
 ·have e:s= -1:=by rw[<-hs];exact Ec (by omega)
  subst e;clear hs
  go_enter Tryz.func255,Tryz.ntmps255
  go_wp2_with fail
  refine(H1.out _).mono ?_;rintro e w1 ⟨rfl,rfl⟩
  go_wp2_with fail
  refine(H2.out _).mono ?_;rintro e w2 ⟨rfl,rfl⟩
  go_wp2_with fail
  go_ret
  exact⟨rfl,rfl⟩
 ·have e:s=0:=by rw[<-hs,h,Int.sub_self];rfl
  subst e;have q1:decide (x<y)=false:=by simp;omega
  have q2:decide (y<x)=false:=by simp;omega
  clear hs h
  go_enter Tryz.func255,Tryz.ntmps255
  go_wp2_with fail
  refine(H1.out _).mono ?_;rintro e w1 ⟨rfl,rfl⟩
  go_wp2_with fail
  refine(H2.out _).mono ?_;rintro e w2 ⟨rfl,rfl⟩
  go_wp2_with fail
  go_ret
  exact⟨rfl,rfl⟩
 ·have e:s=1:=by rw[<-hs];exact nX (by omega)
  subst e;have q1:decide (x<y)=false:=by simp;omega
  clear hs
  go_enter Tryz.func255,Tryz.ntmps255
  go_wp2_with fail
  refine(H1.out _).mono ?_;rintro e w1 ⟨rfl,rfl⟩
  go_wp2_with fail
  refine(H2.out _).mono ?_;rintro e w2 ⟨rfl,rfl⟩
  go_wp2_with fail
  go_ret
  exact⟨rfl,rfl⟩
def pU(s a b:PB):Int:=if(dX s b-dX s a).sign=0 then dX a b else(dX s b-dX s a).sign
theorem afm(a1 a2 b1 b2 im:Nat)(HA HB P Q' R:Int)(s b c:Nat)(w:World)(_hs:s<w.heap.size)(h1:w.cell? ⟨b,0,none⟩=some (.complex .f64 a1 a2))(h2:w.cell? ⟨c,0,none⟩=some (.complex .f64 b1 b2))
  (Hb:Hid (∀w',Below w.heap.size w w'->Calls Tryz.prog 256 #[.pointer (some ⟨s,0,none⟩),.pointer (some ⟨c,0,none⟩)] w' fun r w''=>r=.returned (.int .i64 HB)/\Below w'.heap.size w' w''))
  (Ha:Hid (∀w',Below w.heap.size w w'->Calls Tryz.prog 256 #[.pointer (some ⟨s,0,none⟩),.pointer (some ⟨b,0,none⟩)] w' fun r w''=>r=.returned (.int .i64 HA)/\Below w'.heap.size w' w''))
  (HI:Hid (∀w,Calls Tryz.prog 255 #[.int .i64 HB,.int .i64 HA] w fun r w'=>r=.returned (.int .i64 P)/\w'=w))
  (HL:Hid (∀w,Calls Tryz.prog 101 #[.complex .f64 a1 a2,.complex .f64 b1 b2] w fun e w'=>e=.returned (.float .f64 im)/\w'=w))
  (HC:Hid (∀w,Calls Tryz.prog 183 #[.float .f64 im,.float .f64 0] w fun r w'=>r=.returned (.int .i64 Q')/\w'=w))
  (HO:Hid (∀b cap w,w.cell? ⟨b,0,none⟩=some (.int .i64 P)->w.cell? ⟨b,1,none⟩=some (.int .i64 Q')->Calls Tryz.prog 182 #[.slice (some ⟨b,0,none⟩) 2 cap] w fun r w'=>r=.returned (.int .i64 R)/\w'=w)):
  Calls Tryz.prog 211 #[.pointer (some ⟨s,0,none⟩),.pointer (some ⟨b,0,none⟩),.pointer (some ⟨c,0,none⟩)] w fun r w'=>r=.returned (.int .i64 R)/\Below w.heap.size w w':=by
 go_enter Tryz.func211,Tryz.ntmps211
 go_wp2_with fail
 have hzb:b<w.heap.size:=lt_of_cell h1;have kj:c<w.heap.size:=lt_of_cell h2;have nS:Below w.heap.size w w.drew:=(Below.refl _ _).drew
 go_region_held3 (fun w'=>w'.cell? ⟨b,0,none⟩=some (.complex .f64 a1 a2)/\w'.cell? ⟨c,0,none⟩=some (.complex .f64 b1 b2)) (go_keep) (first
   |(go_at_call_of 256 (Value.pointer (some ⟨c,0,none⟩));refine(Hb.out _ nS).mono ?_;rintro e w5 ⟨rfl,az⟩;have kX:Below w.heap.size w w5:=nS.trans az;have e0:=(kX.cell (p:=⟨b,0,none⟩) hzb).trans h1;have e1:=(kX.cell (p:=⟨c,0,none⟩) kj).trans h2)
   |(go_at_call_of 256 (Value.pointer (some ⟨b,0,none⟩));refine(Ha.out _ kX).mono ?_;rintro e w6 ⟨rfl,aC⟩;have uS:Below w.heap.size w w6:=kX.trans (aC.mono kX.size);have e2:=(uS.cell (p:=⟨b,0,none⟩) hzb).trans h1;have e3:=(uS.cell (p:=⟨c,0,none⟩) kj).trans h2)
   |(go_at_call 255;refine(HI.out _).mono ?_;rintro e w7 ⟨rfl,jB⟩;subst jB)
   |(go_at_call 101;refine(HL.out _).mono ?_;rintro e w7 ⟨rfl,jB⟩;subst jB)
   |(go_at_call 183;refine(HC.out _).mono ?_;rintro e w7 ⟨rfl,jB⟩;subst jB)
   |(go_at_call 182;refine(HO.out _ _ _ (cell_of (heap_alloc_new _ _) 0) (cell_of (heap_alloc_new _ _) 1)).mono ?_;rintro e w8 ⟨rfl,po⟩;have Md:Below w.heap.size w w8:=(by(rw[po];exact uS.alloc uS.size _));have e4:=(Md.cell (p:=⟨b,0,none⟩) hzb).trans h1;have e5:=(Md.cell (p:=⟨c,0,none⟩) kj).trans h2;clear po))
 all_goals
  go_wp2_with fail
  go_ret
  exact⟨rfl,Md⟩
theorem ig.below{w w':World}{b:Nat}{x:PB}(h:ig w b x)(hb:Below w.heap.size w w'):ig w' b x:=by
 have hz:b<w.heap.size:=lt_of_cell h.c0;exact⟨(hb.cell (p:=⟨b,0,none⟩) hz).trans h.c0,(hb.cell (p:=⟨b,1,none⟩) hz).trans h.c1,(hb.cell (p:=⟨b,2,none⟩) hz).trans h.c2,(hb.cell (p:=⟨b,3,none⟩) hz).trans h.c3,(hb.cell (p:=⟨b,4,none⟩) hz).trans h.c4,(hb.cell (p:=⟨b,5,none⟩) hz).trans h.c5⟩
theorem afn(x y z:PB){l m k:Ge.Ln}(hx:LD x l)(hy:LD y m)(hz:LD z k)(s b c:Nat)(w:World)(h0:ig w s x)(h1:ig w b y)(h2:ig w c z):
  Calls Tryz.prog 211 #[.pointer (some ⟨s,0,none⟩),.pointer (some ⟨b,0,none⟩),.pointer (some ⟨c,0,none⟩)] w fun r w'=>r=.returned (.int .i64 (pU x y z))/\Below w.heap.size w w':=by
 obtain⟨im,f1,hl⟩:=CZ hy hz;have hc:=fun w=>wO f1 jU w
 rw[xI,CW hy hz] at hc;exact afm _ _ _ _ im (dX x y) (dX x z) _ _ _ s b c w (lt_of_cell h0.c0) h1.c0 h2.c0 (fun w' hb=>Vh x z hx hz s c w' (h0.below hb) (h2.below hb)) (fun w' hb=>Vh x y hx hy s b w' (h0.below hb) (h1.below hb)) (fun w=>afl _ _ w) hl hc (fun b cap w h0 h1=>Gp _ _ b cap w h0 h1)
def bw(cf:Nat->Nat->Int):List Nat->Nat->Nat
 |[],m=>m
 |b::r,m=>bw cf r (if cf b m<0 then b else m)
theorem Hp(cf:Nat->Nat->Int):∀(l:List Nat)(m b:Nat),bw cf (l++[b]) m=if cf b (bw cf l m)<0 then b else bw cf l m
 |[],m,b=>rfl
 |a::l,m,b=>by
  show bw cf (l++[b]) _=_;rw[Hp cf l];rfl
theorem uX(cf:Nat->Nat->Int):∀(l:List Nat)(m:Nat),bw cf l m=m\/bw cf l m∈l
 |[],m=>ae rfl
 |a::l,m=>by
  show bw cf l (if cf a m<0 then a else m)=m\/_∈a::l
  rcases uX cf l (if cf a m<0 then a else m) with h|h
  ·by_cases hc:cf a m<0
   ·rw[ah hc] at h;exact af (by show bw cf l _∈a::l;rw[ah hc,h];simp)
   ·rw[aa hc] at h;exact ae (by rw[aa hc];exact h)
  ·exact af (bo _ h)
theorem afo(cf:Nat->Nat->Int)(a:Nat)(r:List Nat)(g lo cap s:Nat)(w:World)(hn:r.length<=85000000)
  (HV:Hid (∀(i:Nat) b,(a::r)[i]?=some b->w.cell? ⟨g,lo+i,none⟩=some (.pointer (some ⟨b,0,none⟩))))
  (HC:Hid (∀b∈a::r,∀c∈a::r,∀w',Below w.heap.size w w'->Calls Tryz.prog 211 #[.pointer (some ⟨s,0,none⟩),.pointer (some ⟨b,0,none⟩),.pointer (some ⟨c,0,none⟩)] w' fun r w''=>r=.returned (.int .i64 (cf b c))/\Below w'.heap.size w' w'')):
  Calls Tryz.prog 171 #[.slice (some ⟨g,lo,none⟩) (r.length+1) cap,.func (.func 211) #[.pointer (some ⟨s,0,none⟩)] #[]] w fun e w'=>e=.returned (.pointer (some ⟨bw cf r a,0,none⟩))/\Below w.heap.size w w':=by
 have c0:=HV.out 0 a rfl;rw[oV] at c0;have dh:g<w.heap.size:=lt_of_cell c0
 go_enter Tryz.func171,Tryz.ntmps171
 go_wp2_with fail
 go_loopg [5,6] r.length (fun m mv iv wr=>∃k:Nat,k+m=r.length/\iv=.int .i64 (k+1:Nat)/\mv=.pointer (some ⟨bw cf (r.take k) a,0,none⟩)/\Hid (Below w.heap.size w wr))
 case atStart=>exact⟨0,by omega,rfl,rfl,Below.refl _ _⟩
 case round=>
  obtain⟨k,hkn,rfl,rfl,HB⟩:=hrel;by_cases hlt:k<r.length
  ·obtain⟨b,hb⟩:∃b,r[k]?=some b:=⟨_,aD hlt⟩;have c1:=(HB.out.cell (p:=⟨g,lo+(k+1),none⟩) dh).trans (HV.out (k+1) b (by simpa using hb))
   have jm:b∈a::r:=bo _ (bh hb);have hmm:bw cf (r.take k) a∈a::r:=by
    rcases uX cf (r.take k) a with h|h
    ·rw[h];simp
    ·exact bo _ (rU h)
   have gP:Hid (Calls Tryz.prog 211 #[.pointer (some ⟨s,0,none⟩),.pointer (some ⟨b,0,none⟩),.pointer (some ⟨bw cf (r.take k) a,0,none⟩)] wr fun r' w''=>r'=.returned (.int .i64 (cf b (bw cf (r.take k) a)))/\Below wr.heap.size wr w''):=HC.out b jm _ hmm wr HB.out
   have fX:Hid (bw cf (r.take (k+1)) a=if cf b (bw cf (r.take k) a)<0 then b else bw cf (r.take k) a):=by
    have htk:r.take (k+1)=r.take k++[b]:=by rw[jh,hb];rfl
    show bw cf (r.take (k+1)) a=_;rw[htk,Hp]
   have ez:((k:Int)+1)<((r.length:Int)+1):=by omega
   have hgr:g<wr.heap.size:=aZ dh HB.out.size;clear c0 hb jm hmm;generalize bw cf (r.take k) a=M at*
   go_wp2_with fail
   refine gP.out.mono ?_;rintro e w5 ⟨rfl,az⟩;have eT:Hid (Below w.heap.size w w5):=HB.out.trans (az.mono HB.out.size);have c5:=(az.cell (p:=⟨g,lo+(k+1),none⟩) hgr).trans c1;clear gP az c1;generalize cf b M=V at*;by_cases hV:V<0
   ·have HM:Hid (bw cf (r.take (k+1)) a=b):=by rw[fX.out,ah hV];rfl
    go_wp2_with fail
    go_roundg (gk-1)
    case measure=>omega
    case rel=>exact⟨k+1,by omega,by go_num,by rw[HM.out],eT⟩
   ·have HM:Hid (bw cf (r.take (k+1)) a=M):=by rw[fX.out,aa hV];rfl
    have Me:decide (V<0)=false:=kH hV
    go_wp2_with fail
    go_roundg (gk-1)
    case measure=>omega
    case rel=>exact⟨k+1,by omega,by go_num,by rw[HM.out],eT⟩
  ·have hk:k=r.length:=by omega
   subst hk;rw[fg];clear HC HV
   go_wp2_with fail
   go_ret
   exact⟨rfl,HB.out⟩
end Go.Proofs.YtkjhhooecopolaaGreatDoor

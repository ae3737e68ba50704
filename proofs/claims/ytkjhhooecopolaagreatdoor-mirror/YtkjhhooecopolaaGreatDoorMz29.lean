import Derived.Test.YtkjhhooecopolaaGreatDoorMz28
set_option maxRecDepth 100000
set_option maxHeartbeats 4000000
namespace Go.Proofs.YtkjhhooecopolaaGreatDoor
open Go.RowKit
def tB(Xs:List PB)(i j:Fin Xs.length):Int:=aW Xs[i].f Xs[j].f
def ou(Xs:List PB)(h:0<Xs.length):Array (Fin Xs.length):=
 haveI:Inhabited (Fin Xs.length):=⟨⟨0,h⟩⟩
 Sort.pdq (ltOf (tB Xs)) (Array.ofFn id) 0 Xs.length (Lib.bitLen Xs.length) true true
def wN(Xs:List PB):List PB:=if h:0<Xs.length then(ou Xs h).toList.map (fun i=>Xs[i]) else[]
theorem Jf{Xs:List PB}{i j:Fin Xs.length}:ltOf (tB Xs) i j=true↔Ge.lt (Ge.aj Xs[i].f) (Ge.aj Xs[j].f):=by
 unfold ltOf tB aW Ge.lt;exact decide_eq_true_iff
theorem Eo{Xs:List PB}{i j:Fin Xs.length}:ltOf (tB Xs) i j=false↔¬Ge.lt (Ge.aj Xs[i].f) (Ge.aj Xs[j].f):=by
 rw[<-Jf];simp
theorem XE{Xs:List PB}(hv:∀x∈Xs,cM x):Sort.SWO (ltOf (tB Xs)):=by
 have hc:∀i:Fin Xs.length,Ge.Can Xs[i].f:=fun i=>(hv _ (ie i.2)).cf
 exact{
  irrefl:=fun x=>Eo.2 (Ge.lt_irrefl _)
  trans:=fun x y z h1 h2=>Jf.2 (Ge.lt_trans (Ge.cL (hc x)) (Ge.cL (hc y)) (Ge.cL (hc z)) (Jf.1 h1) (Jf.1 h2))
  ntrans:=fun x y z h1 h2=>Eo.2 fun h=>Eo.1 h1 (Ge.lt_le_trans (hc x) (hc z) (hc y) h (Eo.1 h2))}
def wO(bs:List Nat)(n:Nat)(h:bs.length=n)(i:Fin n):Value:=.pointer (some ⟨bs[i]'(by rw[h];exact i.2),0,none⟩)
theorem XF{α:Type}[Inhabited α](enc:α->Value)(d':Array α)(n:Nat)(os:Array Obj){wr:World}{g:Nat}{cur:Array Value}{t:TypeId}{fr:Nat×Nat}(hb:wr.heap[g]?=some (.cells cur t fr)):
  (sortWorld enc wr g 0 n d' os).heap[g]?=some (.cells (Sort.putCells enc 0 d' cur) t fr):=by
 have hg:=lt_of_heap hb;show((wr.heap.modify g (Sort.onCells (Sort.putCells enc 0 d')))++os)[g]?=_;rw[F7 (by simpa using hg),zi,if_pos rfl,hb]
 rfl
theorem Ep{α:Type}[Inhabited α](enc:α->Value)(d':Array α)(n:Nat)(os:Array Obj){wr:World}{g k:Nat}(hk:k<wr.heap.size)(hne:g≠k):
  (sortWorld enc wr g 0 n d' os).heap[k]?=wr.heap[k]?:=by
 show((wr.heap.modify g (Sort.onCells (Sort.putCells enc 0 d')))++os)[k]?=_;rw[F7 (by simpa using hk),zi,if_neg hne]
theorem NQ{α:Type}[Inhabited α](enc:α->Value)(d':Array α)(n:Nat)(os:Array Obj)(wr:World)(g:Nat):wr.heap.size<=(sortWorld enc wr g 0 n d' os).heap.size:=by
 show _<=((wr.heap.modify g (Sort.onCells (Sort.putCells enc 0 d')))++os).size;rw[acb,acd];omega
theorem XG{α:Type}[Inhabited α](enc:α->Value)(d:Array α)(c:Array Value)(h:d.size<=c.size):(Sort.putCells enc 0 d c).toList.take d.size=d.toList.map enc:=by
 apply BJ;intro t;rw[j6];by_cases ht:t<d.size
 ·have h1:t<c.size:=by omega
  rw[if_pos ht,iQ,gm,iQ];unfold Sort.putCells;rw[ant,nM h1,nM ht];simp[ht]
 ·rw[if_neg ht,xh (by simp;omega)]
theorem ah7{w1:World}{g cap:Nat}{bs:List Nat}{Xs:List PB}{wr:World}(h:BS w1 (.slice (some ⟨g,0,none⟩) bs.length cap) bs Xs wr)(hv:∀x∈Xs,cM x)[Inhabited (Fin Xs.length)]:
  CmpLays1 Tryz.prog 109 #[] (wO bs Xs.length h.len) (tB Xs) g 0 Xs.length wr:=by
 intro m os dk hdk x y;have at':∀i:Fin Xs.length,iE (sortWorld (wO bs Xs.length h.len) wr g 0 m dk os) (bs[i]'(by rw[h.len];exact i.2)) Xs[i]:=fun i=>by
  have hib:i.1<bs.length:=by rw[h.len];exact i.2
  have hl:=(h.lies i.1 _ _ (ay hib) (ay i.2)).2;have hne:=h.ne (bs[i]'hib) (ie hib);refine iE.of (wk:=false) (ow:=none) ((Ep _ dk m os (lt_of_heap hl) (fun e=>hne (congrArg some e))).trans hl)
 exact(NN Xs[x] Xs[y] (hv _ (ie x.2)) (hv _ (ie y.2)) _ _ _ (at' x) (at' y)).mono fun _ _⟨h1,h2,h3⟩=>⟨h1,IG h2 h3⟩
theorem Jg{α:Type}(a:Array α){n:Nat}(h:a.size=n):a.extract 0 n=a:=by subst h;exact KM
theorem XH(Xs:List PB)(hv:∀x∈Xs,cM x)(h:0<Xs.length):(ou Xs h).size=Xs.length/\(ou Xs h).toList.Perm (Array.ofFn (id:Fin Xs.length->Fin Xs.length)).toList/\
  ∀i j(hi:i<(ou Xs h).size)(hj:j<(ou Xs h).size),i<j->¬Ge.lt (Ge.aj Xs[(ou Xs h)[j]].f) (Ge.aj Xs[(ou Xs h)[i]].f):=by
 letI:Inhabited (Fin Xs.length):=⟨⟨0,h⟩⟩
 have hs:(Array.ofFn (id:Fin Xs.length->Fin Xs.length)).size=Xs.length:=Ri;have key:=Sort.pdq_sorts (ltOf (tB Xs)) (XE hv) (Array.ofFn id) 0 Xs.length (Lib.bitLen Xs.length) true true (iz _) (by rw[hs];exact ae _) (Or.inl rfl)
 have e:ou Xs h=Sort.pdq (ltOf (tB Xs)) (Array.ofFn id) 0 Xs.length (Lib.bitLen Xs.length) true true:=rfl;rw[<-e] at key;obtain⟨⟨p1,_,p3⟩,p4⟩:=key;have hd:(ou Xs h).size=Xs.length:=by rw[p1,hs]
 rw[Jg _ hd,Jg _ hs] at p3;refine⟨hd,p3,fun i j hi hj hij=>?_⟩
 have hx:=p4 i j (iz _) hij (by omega)
 rw[getElem!_pos (ou Xs h) i hi,getElem!_pos (ou Xs h) j hj] at hx;exact Eo.1 hx
theorem XI(Xs:List PB)(hv:∀x∈Xs,cM x):(wN Xs).Perm Xs/\(wN Xs).Pairwise (fun x y=>¬Ge.lt (Ge.aj y.f) (Ge.aj x.f)):=by
 unfold wN;by_cases h:0<Xs.length
 ·rw[dif_pos h];obtain⟨hd,p3,p4⟩:=XH Xs hv h;refine⟨?_,?_⟩
  ·have k:=p3.map (fun i:Fin Xs.length=>Xs[i])
   have e3:(Array.ofFn (id:Fin Xs.length->Fin Xs.length)).toList.map (fun i:Fin Xs.length=>Xs[i])=Xs:=by
    apply xx
    ·simp
    ·intro i h1 h2;simp
   rw[e3] at k;exact k
  ·rw[nJ,mM];intro i j hi hj hij;exact p4 i j (by simpa using hi) (by simpa using hj) hij
 ·rw[dif_neg h];have:Xs=[]:=gq.1 (by omega)
  subst this;exact⟨xw _,List.Pairwise.nil⟩
theorem ah9(g cap n:Nat)(wr:World)(Q:World->Prop)(hn:n<=85000000)
  (HP:Hid (Calls Tryz.prog 163 #[.slice (some ⟨g,0,none⟩) n cap,.int .i64 (0:Nat),.int .i64 n,.int .i64 (Lib.bitLen n:Nat),.func (.func 109) #[] #[]] wr fun e w'=>e=.returned (.tuple #[])/\Q w')):
  Calls Tryz.prog 108 #[.slice (some ⟨g,0,none⟩) n cap,.func (.func 109) #[] #[]] wr fun e w'=>e=.returned (.tuple #[])/\Q w':=by
 have HL:Hid (Calls Tryz.prog 164 #[.int .u64 (n:Int)] wr fun e w'=>e=.returned (.int .i64 (Lib.bitLen n:Nat))/\w'=wr):=by
  have h:=Tryz.bits_Len (n:Int) wr (by omega) (by omega)
  rwa[zg] at h
 have hwr:IntKind.u64.wrap (n:Int)=n:=by simp[IntKind.wrap,IntKind.bits,IntKind.signed];omega
 generalize Lib.bitLen n=BL at*
 go_enter Tryz.func108,Tryz.ntmps108
 go_wp2_with fail
 refine HL.out.mono ?_;rintro r w1 ⟨rfl,rfl⟩
 go_wp2_with fail
 refine HP.out.mono ?_;rintro r w2 ⟨rfl,hQ⟩;have HQ:Hid (Q w2):=hQ;clear hQ HP
 go_wp2_with fail
 go_end0
 exact⟨rfl,HQ.out⟩
theorem XJ(p:Option Addr)(cap:Nat)(wr:World):
  Calls Tryz.prog 108 #[.slice p 0 cap,.func (.func 109) #[] #[]] wr fun e w'=>e=.returned (.tuple #[])/\w'=wr:=by
 have HL:Hid (Calls Tryz.prog 164 #[.int .u64 0] wr fun e w'=>e=.returned (.int .i64 (Lib.bitLen 0:Nat))/\w'=wr):=Tryz.bits_Len 0 wr (by omega) (by omega)
 have HP:Hid (∀lim:Int,Calls Tryz.prog 163 #[.slice p 0 cap,.int .i64 0,.int .i64 0,.int .i64 lim,.func (.func 109) #[] #[]] wr fun e w'=>e=.returned (.tuple #[])/\w'=wr):=fun lim=>AnyF.pdqsortCmpFunc_none {Tryz.pdqSd with} p cap lim _ wr
 generalize Lib.bitLen 0=BL at*
 go_enter Tryz.func108,Tryz.ntmps108
 go_wp2_with fail
 refine HL.out.mono ?_;rintro r w2 ⟨rfl,rfl⟩
 go_wp2_with fail
 refine(HP.out _).mono ?_;rintro r w3 ⟨rfl,rfl⟩
 go_wp2_with fail
 go_end0
 exact⟨rfl,rfl⟩
theorem aia(w1:World)(lv:Value)(bs:List Nat)(Xs:List PB)(wr:World)(h:BS w1 lv bs Xs wr)(hv:∀x∈Xs,cM x)(hl:bs.length<=85000000):
  Calls Tryz.prog 108 #[lv,.func (.func 109) #[] #[]] wr fun e w'=>e=.returned (.tuple #[])/\∃bs',BS w1 lv bs' (wN Xs) w'/\bs'.length=bs.length:=by
 obtain⟨hlen,jC⟩:=h.own;rcases jC with⟨rfl,h0⟩|⟨g,cap,cur,rfl,hg,hblk,hnc,hcm,hcs,htk⟩
 ·have hb0:bs=[]:=gq.1 h0;have Er:Xs=[]:=gq.1 (by rw[<-h.len];exact h0)
  subst hb0;subst Er;refine(XJ none 0 wr).mono ?_;rintro r w' ⟨rfl,rfl⟩;exact⟨rfl,[],h,rfl⟩
 ·by_cases hn:0<Xs.length
  ·letI:Inhabited (Fin Xs.length):=⟨⟨0,hn⟩⟩
   have hgl:g<wr.heap.size:=lt_of_heap hblk;have hs:(Array.ofFn (id:Fin Xs.length->Fin Xs.length)).size=Xs.length:=Ri;have henc:(Array.ofFn (id:Fin Xs.length->Fin Xs.length)).toList.map (wO bs Xs.length h.len)=aG bs:=by
    apply xx
    ·simp[aG,h.len]
    ·intro i h1 h2;simp[aG,wO]
   have hH:Sort.Holds (wO bs Xs.length h.len) wr g 0 (Array.ofFn id):=by
    intro j hj;have hj':j<bs.length:=by rw[h.len,<-hs];exact hj
    have e1:(cur.toList.take (bs.length*1))[j]?=((Array.ofFn (id:Fin Xs.length->Fin Xs.length)).toList.map (wO bs Xs.length h.len))[j]?:=by rw[htk,henc]
    rw[j6,if_pos (by omega),iQ,gm,iQ,nM hj] at e1
    refine⟨?_,aB hblk _⟩;rw[jd];unfold World.cell?;rw[hblk,getElem!_pos (Array.ofFn (id:Fin Xs.length->Fin Xs.length)) j hj];exact e1
   have eg:∀args w,(callFunc 109 args).run Tryz.prog w=.ok (.enter 109 args) w:=enters_of Tryz.func109 (by kernel_rfl) rfl
   have wz:=ah7 h hv;have hcon:=Any.pdqsortCmpFunc_all Tryz.pdqSd (wO bs Xs.length h.len) (tB Xs) 109 #[] (XE hv) g 0 cap (Array.ofFn id) wr eg (by rw[hs];exact wz) ⟨fun _=>rfl,hH,hgl⟩ (Xs.length+1) 0 Xs.length (Lib.bitLen Xs.length) (Array.ofFn id) wr (by omega) rfl (SW.start hH) (iz _) (by rw[hs];exact ae _) (by rw[hs,<-h.len];omega) (Nat.lt_of_le_of_lt (Lib.bitLen_le Xs.length 62 (by omega) (by have:=h.len;omega)) (by omega)) (Or.inl rfl)
   rw[hs] at hcon;rw[h.len];refine ah9 g cap Xs.length wr (fun w'=>∃bs',BS w1 (.slice (some ⟨g,0,none⟩) Xs.length cap) bs' (wN Xs) w'/\bs'.length=Xs.length) (by rw[<-h.len];exact hl) (hcon.mono ?_)
   rintro r w' ⟨rfl,m,os,rfl⟩;refine⟨rfl,?_⟩;have e:Sort.pdq (ltOf (tB Xs)) (Array.ofFn id) 0 Xs.length (Lib.bitLen Xs.length) true true=ou Xs hn:=rfl;rw[e];have hsp:=XH Xs hv hn;have hd:=hsp.1;have p3:=hsp.2.1;clear hsp hcon e;have eX:wN Xs=(ou Xs hn).toList.map (fun i=>Xs[i]):=by unfold wN;rw[dif_pos hn]
   rw[eX];clear eX;obtain⟨d',hd'⟩:∃d',d'=ou Xs hn:=⟨_,rfl⟩;rw[<-hd'] at hd p3⊢;have q8:∀i:Fin Xs.length,i.1<bs.length:=fun i=>by rw[h.len];exact i.2
   have hpb:(d'.toList.map (fun i:Fin Xs.length=>bs[i.1]'(q8 i))).Perm bs:=by
    have k:=p3.map (fun i:Fin Xs.length=>bs[i.1]'(q8 i))
    have e3:(Array.ofFn (id:Fin Xs.length->Fin Xs.length)).toList.map (fun i:Fin Xs.length=>bs[i.1]'(q8 i))=bs:=by
     apply xx
     ·simp[h.len]
     ·intro i h1 h2;simp
    rw[e3] at k;exact k
   refine⟨d'.toList.map (fun i:Fin Xs.length=>bs[i.1]'(q8 i)),⟨⟨by simp[aG],Or.inr ⟨g,cap,_,by simp[hd],hg,XF _ d' m os hblk,by simp[hd,<-h.len,hnc],hcm,?_,?_⟩⟩,by simp,fun i b x h1 h2=>?_,fun b hb=>?_,?_,?_⟩,by simp[hd]⟩
   ·unfold Sort.putCells;rw[Re];exact hcs
   ·have e1:(d'.toList.map (fun i:Fin Xs.length=>bs[i.1]'(q8 i))).length*1=d'.size:=by simp
    rw[e1,XG _ _ _ (by rw[hcs,hd,<-h.len];omega)]
    simp[aG,wO]
   ·rw[gm] at h1 h2;cases hj:d'.toList[i]? with
    |none=>rw[hj] at h1;cases h1
    |some j=>
     rw[hj] at h1 h2;have hb:bs[j.1]'(q8 j)=b:=by simpa using h1
     have hx:Xs[j]=x:=by simpa using h2
     obtain⟨k1,k2⟩:=h.lies j.1 b x (by rw[ay (q8 j),hb]) (by rw[ay j.2];exact congrArg some hx)
     have hne:=h.ne b (by rw[<-hb];exact ie _)
     exact⟨k1,(Ep _ d' m os (lt_of_heap k2) (fun e=>hne (congrArg some e))).trans k2⟩
   ·have:=h.ne b (hpb.mem_iff.1 hb);exact this
   ·exact hpb.nodup_iff.2 h.nd
   ·exact h.below.trans ⟨rfl,rfl,rfl,NQ _ d' m os wr g,fun k hk=>Ep _ d' m os (aL hk h.below.size) (by omega)⟩
  ·have Er:Xs=[]:=gq.1 (by omega)
   have hb0:bs=[]:=gq.1 (by rw[h.len];omega)
   subst hb0;subst Er;refine(XJ (some ⟨g,0,none⟩) cap wr).mono ?_;rintro r w' ⟨rfl,rfl⟩;exact⟨rfl,[],h,rfl⟩
theorem cM.rev{x:PB}(h:cM x):cM x.rev:=⟨h.t,h.f,h.ct,h.cf⟩
theorem NR{r:Int}{es:List Ed}{p x:PB}(h:cM p)(hx:x∈fh r es p):cM x:=by
 unfold fh at hx;split at hx
 ·rw[bJ.1 hx];exact h
 ·split at hx
  ·rw[bJ.1 hx];exact h.rev
  ·simp at hx
def ov(r:Int)(es:List Ed)(Ps:List PB):List PB:=wN (Ps.flatMap (fh r es))
theorem aib(es:List Ed)(r:Int)(v:Value)(w:World)(hR:gu w v es)(hl:es.length<=402)(hs:∀e∈es,fg e)(hne:∀e∈es,e.1≠e.2):
  Calls Tryz.prog 68 #[v,.int .u8 r] w fun e w'=>∃lv,e=.returned lv/\∃Ps l w1 bs,l.map Ge.aj=Ge.fX es/\(∀n∈l,Ge.Can n)/\og es l Ps/\Below w.heap.size w w1/\BS w1 lv bs (ov r es Ps) w'/\bs.length<=85000000:=by
 refine ah2 es r v w hR hl hs hne (fun lv w'=>∃Ps l w1 bs,l.map Ge.aj=Ge.fX es/\(∀n∈l,Ge.Can n)/\og es l Ps/\Below w.heap.size w w1/\BS w1 lv bs (ov r es Ps) w'/\bs.length<=85000000) ?_
 intro Ps l mr jF kq w1 lv bs wr hb jq hbl;have hv:∀x∈Ps.flatMap (fh r es),cM x:=fun x hx=>by
  obtain⟨p,hp,uW⟩:=tW.1 hx;exact NR (kq.v p hp) uW
 refine(aia w1 lv bs _ wr jq hv hbl).mono ?_;rintro e w' ⟨rfl,bs',h1,h2⟩;exact⟨rfl,Ps,l,w1,bs',mr,jF,kq,hb,h1,by omega⟩
structure LD(x:PB)(l:Ge.Ln):Prop where
 fl:pE x.wa x.wb x.sh l
 b1:l.1.natAbs<=100
 b2:l.2.1.natAbs<=100
 b3:l.2.2.natAbs<=10000
 par:l.1*(bI x.f x.t).2.1=l.2.1*(bI x.f x.t).1
 pos:0<l.1*(bI x.f x.t).1+l.2.1*(bI x.f x.t).2.1
 NU:l.1*x.f.2.1-l.2.1*x.f.1=l.2.2*x.f.2.2
 aic:l.1*x.t.2.1-l.2.1*x.t.1=l.2.2*x.t.2.2
theorem LD.nZ{x:PB}{l:Ge.Ln}(h:LD x l):sm l.1/\sm l.2.1/\sm l.2.2:=by
 have:=h.b1;have:=h.b2;have:=h.b3;unfold sm;omega
theorem aid(f t:Ge.Nd):bI t f=(-(bI f t).1, -(bI f t).2.1,0):=by
 unfold bI;simp only[ab5,and_true];omega
theorem LD.rev{x:PB}{l:Ge.Ln}(h:LD x l):LD x.rev (Ge.Ax l):=by
 have e:bI x.rev.f x.rev.t=(-(bI x.f x.t).1, -(bI x.f x.t).2.1,0):=aid _ _;refine⟨h.fl.neg,?_,?_,?_,?_,?_,?_,?_⟩
 ·show(-l.1).natAbs<=100;rw[zm];exact h.b1
 ·show(-l.2.1).natAbs<=100;rw[zm];exact h.b2
 ·show(-l.2.2).natAbs<=10000;rw[zm];exact h.b3
 ·rw[e];show -l.1* -(bI x.f x.t).2.1= -l.2.1* -(bI x.f x.t).1;rw[zr,zr];exact h.par
 ·rw[e];show 0< -l.1* -(bI x.f x.t).1+ -l.2.1* -(bI x.f x.t).2.1;rw[zr,zr];exact h.pos
 ·show -l.1*x.t.2.1- -l.2.1*x.t.1= -l.2.2*x.t.2.2;have:=h.aic;rw[iw,iw,iw];omega
 ·show -l.1*x.f.2.1- -l.2.1*x.f.1= -l.2.2*x.f.2.2;have:=h.NU;rw[iw,iw,iw];omega
theorem aie{es:List Ed}{l:List Ge.Nd}{Ps:List PB}(hne:∀e∈es,e.1≠e.2)(hs:∀e∈es,fg e)(h:og es l Ps)(hl:l.map Ge.aj=Ge.fX es)(p:PB)(hp:p∈Ps):∃k,LD p k:=by
 obtain⟨e,he,hfl,hq⟩:=h.ap.mem p hp;have hv:=h.v p hp;have hm:=IU hq;have f1:=(jw.1 hm.1).2;have f2:=(jw.1 hm.2).2;have l1:=IX hv.cf.pos f1;have l2:=IX hv.ct.pos f2;have hlt:=Ja h hl p hp;have jm:=hs e he;have hr:=WM (hne e he);have hd:rising (bI p.f p.t).1 (bI p.f p.t).2.1:=WN hv.cf hv.ct hlt;have hc:=WQ l1 l2;have hc':(Ge.gU (Ge.bY e)).1*(bI p.f p.t).2.1=(Ge.gU (Ge.bY e)).2.1*(bI p.f p.t).1:=by
  unfold Ge.gU;split
  ·show -(Ge.bY e).1*_= -(Ge.bY e).2.1*_;rw[iw,iw,hc]
  ·exact hc
 have hb:(Ge.bY e).1.natAbs<=100/\(Ge.bY e).2.1.natAbs<=100/\(Ge.bY e).2.2.natAbs<=10000:=by
  obtain⟨a,b,c,d⟩:=jm;unfold small at a b c d;have m1: -5000<=(e.2.1-e.1.1)*e.1.2/\(e.2.1-e.1.1)*e.1.2<=5000:=oW (a:=100) (b:=50) (by omega) (by omega)
  have m2: -5000<=(e.2.2-e.1.2)*e.1.1/\(e.2.2-e.1.2)*e.1.1<=5000:=oW (a:=100) (b:=50) (by omega) (by omega)
  unfold Ge.bY;simp only;omega
 have t1:(Ge.bY e).1*p.f.2.1-(Ge.bY e).2.1*p.f.1=(Ge.bY e).2.2*p.f.2.2:=by unfold lf at l1;unfold Ge.bY;simp only;omega
 have t2:(Ge.bY e).1*p.t.2.1-(Ge.bY e).2.1*p.t.1=(Ge.bY e).2.2*p.t.2.2:=by unfold lf at l2;unfold Ge.bY;simp only;omega
 refine⟨Ge.gU (Ge.bY e),hfl,?_,?_,?_,hc',Nl hr hd hc',?_,?_⟩
 ·unfold Ge.gU;split
  ·show(-(Ge.bY e).1).natAbs<=100;rw[zm];exact hb.1
  ·exact hb.1
 ·unfold Ge.gU;split
  ·show(-(Ge.bY e).2.1).natAbs<=100;rw[zm];exact hb.2.1
  ·exact hb.2.1
 ·unfold Ge.gU;split
  ·show(-(Ge.bY e).2.2).natAbs<=10000;rw[zm];exact hb.2.2
  ·exact hb.2.2
 ·unfold Ge.gU;split
  ·show -(Ge.bY e).1*_- -(Ge.bY e).2.1*_= -(Ge.bY e).2.2*_;rw[iw,iw,iw];omega
  ·exact t1
 ·unfold Ge.gU;split
  ·show -(Ge.bY e).1*_- -(Ge.bY e).2.1*_= -(Ge.bY e).2.2*_;rw[iw,iw,iw];omega
  ·exact t2
def eT(x y:PB):Int:=((bI x.f x.t).1*(bI y.f y.t).2.1-(bI x.f x.t).2.1*(bI y.f y.t).1).sign
theorem ez{a b c d:Int}(h:0<a*c+b*d):0<c*c+d*d:=by
 have k1:0<=c*c:=by
  rcases FJ 0 c with h|h
  ·exact iO h h
  ·exact tU h h
 have k2:0<=d*d:=by
  rcases FJ 0 d with h|h
  ·exact iO h h
  ·exact tU h h
 have hz:c≠0\/d≠0:=by
  by_cases hc:c=0
  ·refine Or.inr fun hd=>?_
   rw[hc,hd,zw,zw] at h;omega
  ·exact Or.inl hc
 rcases hz with hz|hz
 ·have:0<c*c:=by
   rcases fk c 0 with h1|h1|h1
   ·exact QT h1 h1
   ·exact absurd h1 hz
   ·exact aP h1 h1
  omega
 ·have:0<d*d:=by
   rcases fk d 0 with h1|h1|h1
   ·exact QT h1 h1
   ·exact absurd h1 hz
   ·exact aP h1 h1
  omega
theorem Es{x y:PB}{l m:Ge.Ln}(hx:LD x l)(hy:LD y m):(l.1*m.2.1-l.2.1*m.1).sign=eT x y:=by
 have h1:=IW (x:=m.2.1) (y:= -m.1) hx.par hx.pos (ez hx.pos);have h2:=IW (x:=(bI x.f x.t).2.1) (y:= -(bI x.f x.t).1) hy.par hy.pos (ez hy.pos);unfold eT;have e1:l.1*m.2.1+l.2.1* -m.1=l.1*m.2.1-l.2.1*m.1:=by rw[xg];omega
 have e2:(bI x.f x.t).1*m.2.1+(bI x.f x.t).2.1* -m.1= -(m.1*(bI x.f x.t).2.1+m.2.1* -(bI x.f x.t).1):=by grind
 have e3:(bI y.f y.t).1*(bI x.f x.t).2.1+(bI y.f y.t).2.1* -(bI x.f x.t).1= -((bI x.f x.t).1*(bI y.f y.t).2.1-(bI x.f x.t).2.1*(bI y.f y.t).1):=by grind
 rw[e1,e2,Q6] at h1;rw[e3,Q6] at h2;rw[h1,h2,Kr]
theorem aif(x:PB)(n:Ge.Nd)(hx:cM x)(hn:dm n.1 n.2.1 n.2.2)(hc:Ge.Can n)(b:Nat)(w:World)(h1:iE w b x):
    Calls Tryz.prog 254 #[.pointer (some ⟨b,0,none⟩),gS n] w fun r w'=>r=.returned (.int .i64 (aW x.f n))/\Below w.heap.size w w':=by
  have HC:Hid (∀w,Calls Tryz.prog 125 #[.agg #[.complex .f64 (floatOfInt .f64 x.f.1) (floatOfInt .f64 x.f.2.1),.int .i64 x.f.2.2],.agg #[.complex .f64 (floatOfInt .f64 n.1) (floatOfInt .f64 n.2.1),.int .i64 n.2.2]] w fun r w'=>r=.returned (.int .i64 (aW x.f n))/\Below w.heap.size w w'/\w.drawn<=w'.drawn):=fun w=>DA x.f n hx.f.az hn hx.cf hc w
  have a2:=h1.c2;have a3:=h1.c3;have hzb:b<w.heap.size:=lt_of_cell a2;clear h1 hx;unfold gS;generalize floatOfInt .f64 x.f.1=X1 at*;generalize floatOfInt .f64 x.f.2.1=X2 at*;generalize floatOfInt .f64 n.1=Y1 at*;generalize floatOfInt .f64 n.2.1=Y2 at*;generalize aW x.f n=R at*;generalize x.f.2.2=X3 at*;generalize n.2.2=Y3 at*;have r2:=(jk w (.cells #[.complex .f64 Y1 Y2,.int .i64 Y3] 83) hzb (k:=2)).trans a2;have r3:=(jk w (.cells #[.complex .f64 Y1 Y2,.int .i64 Y3] 83) hzb (k:=3)).trans a3;have hE:=heap_alloc_new w (.cells #[.complex .f64 Y1 Y2,.int .i64 Y3] 83);have hb0:Below w.heap.size w (w.alloc (.cells #[.complex .f64 Y1 Y2,.int .i64 Y3] 83)):=(Below.refl _ _).alloc (ae _) _;have hsz:w.heap.size+1=(w.alloc (.cells #[.complex .f64 Y1 Y2,.int .i64 Y3] 83)).heap.size:=by simp
  go_enter Tryz.func254,Tryz.ntmps254
  go_wp2_with fail
  generalize w.alloc (.cells #[.complex .f64 Y1 Y2,.int .i64 Y3] 83)=W at*;generalize hB:w.heap.size=B at*;have r4:W.cell? ⟨B,0,none⟩=some (.complex .f64 Y1 Y2):=cell_of hE 0;have r5:W.cell? ⟨B,1,none⟩=some (.int .i64 Y3):=cell_of hE 1;have XK:b<W.heap.size:=by omega
  have NV:B<W.heap.size:=by omega
  first
    | (refine(HC.out _).mono ?_
       rintro e w5 ⟨rfl,ai,En⟩;have ag:=hb0.trans (ai.mono hb0.size)
       go_wp2_with fail
       go_ret
       exact⟨rfl,by rw[hB];exact ag⟩)
    | (go_region_held3 (fun w'=>w'.cell? ⟨b,2,none⟩=some (.complex .f64 X1 X2)/\w'.cell? ⟨b,3,none⟩=some (.int .i64 X3)/\w'.cell? ⟨B,0,none⟩=some (.complex .f64 Y1 Y2)/\w'.cell? ⟨B,1,none⟩=some (.int .i64 Y3)) (go_keep) (first
        | (go_at_call 125;refine(HC.out _).mono ?_;rintro e w5 ⟨rfl,ai,En⟩;have e0:=(ai.cell (p:=⟨b,2,none⟩) XK).trans r2;have e1:=(ai.cell (p:=⟨b,3,none⟩) XK).trans r3;have e2:=(ai.cell (p:=⟨B,0,none⟩) NV).trans r4;have e3:=(ai.cell (p:=⟨B,1,none⟩) NV).trans r5))
       all_goals
         have ag:=hb0.drew.trans (ai.mono (eo NV));clear ai En
         go_wp2_with fail
         go_ret
         exact⟨rfl,by rw[hB];exact ag⟩)
theorem aih(a1 a2 b1 b2 im:Nat)(R:Int)(b c:Nat)(w:World)(h1:w.cell? ⟨b,0,none⟩=some (.complex .f64 a1 a2))(h2:w.cell? ⟨c,0,none⟩=some (.complex .f64 b1 b2))
  (HL:Hid (∀w,Calls Tryz.prog 101 #[.complex .f64 a1 a2,.complex .f64 b1 b2] w fun e w'=>e=.returned (.float .f64 im)/\w'=w))
  (HC:Hid (∀w,Calls Tryz.prog 183 #[.float .f64 im,.float .f64 0] w fun r w'=>r=.returned (.int .i64 R)/\w'=w)):
  Calls Tryz.prog 256 #[.pointer (some ⟨b,0,none⟩),.pointer (some ⟨c,0,none⟩)] w fun r w'=>r=.returned (.int .i64 R)/\Below w.heap.size w w':=by
 go_enter Tryz.func256,Tryz.ntmps256
 go_wp2_with fail
 have hzb:b<w.heap.size:=lt_of_cell h1;have lD:c<w.heap.size:=lt_of_cell h2
 go_region_held3 (fun w'=>w'.cell? ⟨b,0,none⟩=some (.complex .f64 a1 a2)/\w'.cell? ⟨c,0,none⟩=some (.complex .f64 b1 b2)) (go_keep) (first
   |(go_at_call 101;refine(HL.out _).mono ?_;rintro e w5 ⟨rfl,rX⟩;subst rX)
   |(go_at_call 183;refine(HC.out _).mono ?_;rintro e w6 ⟨rfl,Ie⟩;subst Ie))
 all_goals
  go_wp2_with fail
  go_ret
  exact⟨rfl,(Below.refl _ _).drew⟩
theorem Et{x y:PB}{l m:Ge.Ln}(hx:LD x l)(hy:LD y m):∃im,Fl im (l.1*m.2.1-l.2.1*m.1)/\∀w,Calls Tryz.prog 101 #[.complex .f64 x.wa x.wb,.complex .f64 y.wa y.wb] w fun e w'=>e=.returned (.float .f64 im)/\w'=w:=
 CN hx.fl.a hx.fl.b hy.fl.a hy.fl.b hx.nZ.1 hx.nZ.2.1 hy.nZ.1 hy.nZ.2.1
theorem XL(x y:PB){l m:Ge.Ln}(hx:LD x l)(hy:LD y m)(b c:Nat)(w:World)(h1:iE w b x)(h2:iE w c y):
  Calls Tryz.prog 256 #[.pointer (some ⟨b,0,none⟩),.pointer (some ⟨c,0,none⟩)] w fun r w'=>r=.returned (.int .i64 (eT x y))/\Below w.heap.size w w':=by
 obtain⟨im,f1,hl⟩:=Et hx hy;have hc:=fun w=>yr f1 kE w
 rw[za,Es hx hy] at hc;exact aih _ _ _ _ im _ b c w h1.c0 h2.c0 hl hc
theorem XM(x:Int)(w:World):Calls Tryz.prog 290 #[.int .i64 x] w fun r w'=>r=.returned (.bool false)/\w'=w:=by
 go_enter Tryz.func290,Tryz.ntmps290
 go_wp2_with fail
 go_ret
 exact⟨by simp,rfl⟩
theorem aii(x y:Int)(w:World):Calls Tryz.prog 255 #[.int .i64 x,.int .i64 y] w fun r w'=>r=.returned (.int .i64 (x-y).sign)/\w'=w:=by
 have H1:Hid (∀w,Calls Tryz.prog 290 #[.int .i64 x] w fun r w'=>r=.returned (.bool false)/\w'=w):=fun w=>XM x w
 have H2:Hid (∀w,Calls Tryz.prog 290 #[.int .i64 y] w fun r w'=>r=.returned (.bool false)/\w'=w):=fun w=>XM y w
 obtain⟨s,hs⟩:∃s,(x-y).sign=s:=⟨_,rfl⟩;rw[hs];rcases fk x y with h|h|h
 ·have e:s= -1:=by rw[<-hs];exact FL (by omega)
  subst e;clear hs
  go_enter Tryz.func255,Tryz.ntmps255
  go_wp2_with fail
  refine(H1.out _).mono ?_;rintro e w1 ⟨rfl,rfl⟩
  go_wp2_with fail
  refine(H2.out _).mono ?_;rintro e w2 ⟨rfl,rfl⟩
  go_wp2_with fail
  go_ret
  exact⟨rfl,rfl⟩
 ·have e:s=0:=by rw[<-hs,h,Int.sub_self];rfl
  subst e;have q1:decide (x<y)=false:=by simp;omega
  have q2:decide (y<x)=false:=by simp;omega
  clear hs h
  go_enter Tryz.func255,Tryz.ntmps255
  go_wp2_with fail
  refine(H1.out _).mono ?_;rintro e w1 ⟨rfl,rfl⟩
  go_wp2_with fail
  refine(H2.out _).mono ?_;rintro e w2 ⟨rfl,rfl⟩
  go_wp2_with fail
  go_ret
  exact⟨rfl,rfl⟩
 ·have e:s=1:=by rw[<-hs];exact pM (by omega)
  subst e;have q1:decide (x<y)=false:=by simp;omega
  clear hs
  go_enter Tryz.func255,Tryz.ntmps255
  go_wp2_with fail
  refine(H1.out _).mono ?_;rintro e w1 ⟨rfl,rfl⟩
  go_wp2_with fail
  refine(H2.out _).mono ?_;rintro e w2 ⟨rfl,rfl⟩
  go_wp2_with fail
  go_ret
  exact⟨rfl,rfl⟩
def q9(s a b:PB):Int:=if(eT s b-eT s a).sign=0 then eT a b else(eT s b-eT s a).sign
theorem aij(a1 a2 b1 b2 im:Nat)(HA HB P Q' R:Int)(s b c:Nat)(w:World)(_hs:s<w.heap.size)(h1:w.cell? ⟨b,0,none⟩=some (.complex .f64 a1 a2))(h2:w.cell? ⟨c,0,none⟩=some (.complex .f64 b1 b2))
  (Hb:Hid (∀w',Below w.heap.size w w'->Calls Tryz.prog 256 #[.pointer (some ⟨s,0,none⟩),.pointer (some ⟨c,0,none⟩)] w' fun r w''=>r=.returned (.int .i64 HB)/\Below w'.heap.size w' w''))
  (Ha:Hid (∀w',Below w.heap.size w w'->Calls Tryz.prog 256 #[.pointer (some ⟨s,0,none⟩),.pointer (some ⟨b,0,none⟩)] w' fun r w''=>r=.returned (.int .i64 HA)/\Below w'.heap.size w' w''))
  (HI:Hid (∀w,Calls Tryz.prog 255 #[.int .i64 HB,.int .i64 HA] w fun r w'=>r=.returned (.int .i64 P)/\w'=w))
  (HL:Hid (∀w,Calls Tryz.prog 101 #[.complex .f64 a1 a2,.complex .f64 b1 b2] w fun e w'=>e=.returned (.float .f64 im)/\w'=w))
  (HC:Hid (∀w,Calls Tryz.prog 183 #[.float .f64 im,.float .f64 0] w fun r w'=>r=.returned (.int .i64 Q')/\w'=w))
  (HO:Hid (∀b cap w,w.cell? ⟨b,0,none⟩=some (.int .i64 P)->w.cell? ⟨b,1,none⟩=some (.int .i64 Q')->Calls Tryz.prog 182 #[.slice (some ⟨b,0,none⟩) 2 cap] w fun r w'=>r=.returned (.int .i64 R)/\w'=w)):
  Calls Tryz.prog 211 #[.pointer (some ⟨s,0,none⟩),.pointer (some ⟨b,0,none⟩),.pointer (some ⟨c,0,none⟩)] w fun r w'=>r=.returned (.int .i64 R)/\Below w.heap.size w w':=by
 go_enter Tryz.func211,Tryz.ntmps211
 go_wp2_with fail
 have hzb:b<w.heap.size:=lt_of_cell h1;have lD:c<w.heap.size:=lt_of_cell h2;have pH:Below w.heap.size w w.drew:=(Below.refl _ _).drew
 go_region_held3 (fun w'=>w'.cell? ⟨b,0,none⟩=some (.complex .f64 a1 a2)/\w'.cell? ⟨c,0,none⟩=some (.complex .f64 b1 b2)) (go_keep) (first
   |(go_at_call_of 256 (Value.pointer (some ⟨c,0,none⟩));refine(Hb.out _ pH).mono ?_;rintro e w5 ⟨rfl,ai⟩;have mB:Below w.heap.size w w5:=pH.trans ai;have e0:=(mB.cell (p:=⟨b,0,none⟩) hzb).trans h1;have e1:=(mB.cell (p:=⟨c,0,none⟩) lD).trans h2)
   |(go_at_call_of 256 (Value.pointer (some ⟨b,0,none⟩));refine(Ha.out _ mB).mono ?_;rintro e w6 ⟨rfl,ax⟩;have wK:Below w.heap.size w w6:=mB.trans (ax.mono mB.size);have e2:=(wK.cell (p:=⟨b,0,none⟩) hzb).trans h1;have e3:=(wK.cell (p:=⟨c,0,none⟩) lD).trans h2)
   |(go_at_call 255;refine(HI.out _).mono ?_;rintro e w7 ⟨rfl,kN⟩;subst kN)
   |(go_at_call 101;refine(HL.out _).mono ?_;rintro e w7 ⟨rfl,kN⟩;subst kN)
   |(go_at_call 183;refine(HC.out _).mono ?_;rintro e w7 ⟨rfl,kN⟩;subst kN)
   |(go_at_call 182;refine(HO.out _ _ _ (cell_of (heap_alloc_new _ _) 0) (cell_of (heap_alloc_new _ _) 1)).mono ?_;rintro e w8 ⟨rfl,qC⟩;have NW:Below w.heap.size w w8:=(by(rw[qC];exact wK.alloc wK.size _));have e4:=(NW.cell (p:=⟨b,0,none⟩) hzb).trans h1;have e5:=(NW.cell (p:=⟨c,0,none⟩) lD).trans h2;clear qC))
 all_goals
  go_wp2_with fail
  go_ret
  exact⟨rfl,NW⟩
theorem iE.below{w w':World}{b:Nat}{x:PB}(h:iE w b x)(hb:Below w.heap.size w w'):iE w' b x:=by
 have hz:b<w.heap.size:=lt_of_cell h.c0;exact⟨(hb.cell (p:=⟨b,0,none⟩) hz).trans h.c0,(hb.cell (p:=⟨b,1,none⟩) hz).trans h.c1,(hb.cell (p:=⟨b,2,none⟩) hz).trans h.c2,(hb.cell (p:=⟨b,3,none⟩) hz).trans h.c3,(hb.cell (p:=⟨b,4,none⟩) hz).trans h.c4,(hb.cell (p:=⟨b,5,none⟩) hz).trans h.c5⟩
theorem aik(x y z:PB){l m k:Ge.Ln}(hx:LD x l)(hy:LD y m)(hz:LD z k)(s b c:Nat)(w:World)(h0:iE w s x)(h1:iE w b y)(h2:iE w c z):
  Calls Tryz.prog 211 #[.pointer (some ⟨s,0,none⟩),.pointer (some ⟨b,0,none⟩),.pointer (some ⟨c,0,none⟩)] w fun r w'=>r=.returned (.int .i64 (q9 x y z))/\Below w.heap.size w w':=by
 obtain⟨im,f1,hl⟩:=Et hy hz;have hc:=fun w=>yr f1 kE w
 rw[za,Es hy hz] at hc;exact aij _ _ _ _ im (eT x y) (eT x z) _ _ _ s b c w (lt_of_cell h0.c0) h1.c0 h2.c0 (fun w' hb=>XL x z hx hz s c w' (h0.below hb) (h2.below hb)) (fun w' hb=>XL x y hx hy s b w' (h0.below hb) (h1.below hb)) (fun w=>aii _ _ w) hl hc (fun b cap w h0 h1=>Ip _ _ b cap w h0 h1)
def bu(cf:Nat->Nat->Int):List Nat->Nat->Nat
 |[],m=>m
 |b::r,m=>bu cf r (if cf b m<0 then b else m)
theorem Jh(cf:Nat->Nat->Int):∀(l:List Nat)(m b:Nat),bu cf (l++[b]) m=if cf b (bu cf l m)<0 then b else bu cf l m
 |[],m,b=>rfl
 |a::l,m,b=>by
  show bu cf (l++[b]) _=_;rw[Jh cf l];rfl
theorem wP(cf:Nat->Nat->Int):∀(l:List Nat)(m:Nat),bu cf l m=m\/bu cf l m∈l
 |[],m=>Or.inl rfl
 |a::l,m=>by
  show bu cf l (if cf a m<0 then a else m)=m\/_∈a::l
  rcases wP cf l (if cf a m<0 then a else m) with h|h
  ·by_cases hc:cf a m<0
   ·rw[if_pos hc] at h;exact Or.inr (by show bu cf l _∈a::l;rw[if_pos hc,h];simp)
   ·rw[if_neg hc] at h;exact Or.inl (by rw[if_neg hc];exact h)
  ·exact Or.inr (bn _ h)
theorem ail(cf:Nat->Nat->Int)(a:Nat)(r:List Nat)(g lo cap s:Nat)(w:World)(hn:r.length<=85000000)
  (HV:Hid (∀(i:Nat) b,(a::r)[i]?=some b->w.cell? ⟨g,lo+i,none⟩=some (.pointer (some ⟨b,0,none⟩))))
  (HC:Hid (∀b∈a::r,∀c∈a::r,∀w',Below w.heap.size w w'->Calls Tryz.prog 211 #[.pointer (some ⟨s,0,none⟩),.pointer (some ⟨b,0,none⟩),.pointer (some ⟨c,0,none⟩)] w' fun r w''=>r=.returned (.int .i64 (cf b c))/\Below w'.heap.size w' w'')):
  Calls Tryz.prog 171 #[.slice (some ⟨g,lo,none⟩) (r.length+1) cap,.func (.func 211) #[.pointer (some ⟨s,0,none⟩)] #[]] w fun e w'=>e=.returned (.pointer (some ⟨bu cf r a,0,none⟩))/\Below w.heap.size w w':=by
 have c0:=HV.out 0 a rfl;rw[tY] at c0;have dw:g<w.heap.size:=lt_of_cell c0
 go_enter Tryz.func171,Tryz.ntmps171
 go_wp2_with fail
 go_loopg [5,6] r.length (fun m mv iv wr=>∃k:Nat,k+m=r.length/\iv=.int .i64 (k+1:Nat)/\mv=.pointer (some ⟨bu cf (r.take k) a,0,none⟩)/\Hid (Below w.heap.size w wr))
 case atStart=>exact⟨0,by omega,rfl,rfl,Below.refl _ _⟩
 case round=>
  obtain⟨k,hkn,rfl,rfl,HB⟩:=hrel;by_cases hlt:k<r.length
  ·obtain⟨b,hb⟩:∃b,r[k]?=some b:=⟨_,ay hlt⟩;have c1:=(HB.out.cell (p:=⟨g,lo+(k+1),none⟩) dw).trans (HV.out (k+1) b (by simpa using hb))
   have jQ:b∈a::r:=bn _ (aY hb);have hmm:bu cf (r.take k) a∈a::r:=by
    rcases wP cf (r.take k) a with h|h
    ·rw[h];simp
    ·exact bn _ (nL h)
   have ir:Hid (Calls Tryz.prog 211 #[.pointer (some ⟨s,0,none⟩),.pointer (some ⟨b,0,none⟩),.pointer (some ⟨bu cf (r.take k) a,0,none⟩)] wr fun r' w''=>r'=.returned (.int .i64 (cf b (bu cf (r.take k) a)))/\Below wr.heap.size wr w''):=HC.out b jQ _ hmm wr HB.out
   have gG:Hid (bu cf (r.take (k+1)) a=if cf b (bu cf (r.take k) a)<0 then b else bu cf (r.take k) a):=by
    have htk:r.take (k+1)=r.take k++[b]:=by rw[jx,hb];rfl
    show bu cf (r.take (k+1)) a=_;rw[htk,Jh]
   have eD:((k:Int)+1)<((r.length:Int)+1):=by omega
   have hgr:g<wr.heap.size:=aL dw HB.out.size;clear c0 hb jQ hmm;generalize bu cf (r.take k) a=M at*
   go_wp2_with fail
   refine ir.out.mono ?_;rintro e w5 ⟨rfl,ai⟩;have eI:Hid (Below w.heap.size w w5):=HB.out.trans (ai.mono HB.out.size);have c5:=(ai.cell (p:=⟨g,lo+(k+1),none⟩) hgr).trans c1;clear ir ai c1;generalize cf b M=V at*;by_cases hV:V<0
   ·have HM:Hid (bu cf (r.take (k+1)) a=b):=by rw[gG.out,if_pos hV];rfl
    go_wp2_with fail
    go_roundg (gk-1)
    case measure=>omega
    case rel=>exact⟨k+1,by omega,by go_num,by rw[HM.out],eI⟩
   ·have HM:Hid (bu cf (r.take (k+1)) a=M):=by rw[gG.out,if_neg hV];rfl
    have NY:decide (V<0)=false:=decide_eq_false hV
    go_wp2_with fail
    go_roundg (gk-1)
    case measure=>omega
    case rel=>exact⟨k+1,by omega,by go_num,by rw[HM.out],eI⟩
  ·have hk:k=r.length:=by omega
   subst hk;rw[dI];clear HC HV
   go_wp2_with fail
   go_ret
   exact⟨rfl,HB.out⟩
end Go.Proofs.YtkjhhooecopolaaGreatDoor

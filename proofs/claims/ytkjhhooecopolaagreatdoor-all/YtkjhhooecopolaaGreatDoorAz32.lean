import Derived.Test.YtkjhhooecopolaaGreatDoorAz31
set_option maxRecDepth 100000
set_option maxHeartbeats 4000000
namespace Go.Proofs.YtkjhhooecopolaaGreatDoor
open Go.Proofs.Tryz
open Value renaming int->I,complex->A,agg->u,bool->aC,string->aD,slice->D,pointer->aF,tuple->aG
open IntKind renaming i64->J
open FloatKind renaming f64->C
open Ending renaming returned->aJ
open Go renaming World->G,Value->Y,floatOfInt->aM
open Option renaming some->K,none->Z
open Bool renaming true->aP,false->aQ
section
open Go.RowKit Go.Shelf
def qy(Xs:V PB)(r s:V Nat):Int:=eJ (fr Xs r)<|fr Xs s
def abd(Xs:V PB)(p:Pg):Pg:=(p.1,jM (qy Xs) p.2)
def qz(Xs:V PB)(p q:Pg):Int:=qy Xs p.1 q.1
def qB(Xs:V PB)(ps:V Pg):V Pg:=jM (qz Xs)<|ps.map<|abd Xs
theorem DR{Xs:V PB}(c:BD Xs){r:V Nat}(h:RG Xs r):∀a∈fr Xs r,N.Can a:=λa b=>by
 unfold fr at b;obtain⟨i,d,rfl⟩:=bA.1 b;exact(c.v _<|gm<|h.lt i d).cf
theorem RB.low{w w':G}{g base:Nat}{bs:V Nat}{Xs:V PB}(h:RB w g bs Xs)(n:g<base)(f:∀b∈bs,b<base)(l:∀k,k<base->w'.heap[k]?=w.heap[k]?):RB w' g bs Xs:=
 ⟨h.len,λi b e=>(an (a:=⟨g,i,Z⟩)<|l g n).trans<|h.row i b e,λi b x e m=>by
  have c:=l b (f b (bB e));have d:=h.side i b x e m;exact⟨(an (a:=⟨b,0,Z⟩) c).trans d.c0,(an (a:=⟨b,1,Z⟩) c).trans d.c1,(an (a:=⟨b,2,Z⟩) c).trans d.c2,(an (a:=⟨b,3,Z⟩) c).trans d.c3,(an (a:=⟨b,4,Z⟩) c).trans d.c4,(an (a:=⟨b,5,Z⟩) c).trans d.c5⟩⟩
theorem DS{v:Y}{b:Nat}(h:v.ownBlock≠K b):b∉v.ownBlock.toList:=λe=>h<|by grind
theorem PI.sorted{bs:V Nat}{base:Nat}{fD:Y}{PS:V Pg}{PH:V iY}{T:Nat->Tg}{wr w':G}(h:PI bs base fD PS PH T wr){q:Nat}{ph:iY}{ps:Pg}(g:PH[q]?=K ph)(S:PS[q]?=K ps)(a:V Y)(rs:V (V Nat))(B:rs.length=ps.2.length)
  (f:w'.ownsRow base 185 1 ph.hv ph.hvs.length a)(t:∀(i:Nat) u x,a[i]?=K u->rs[i]?=K x->∃j:Nat,ph.hvs[j]?=K u/\ps.2[j]?=K x)(R:Mo ph.hv.ownBlock.toList wr w'):
  PI bs base fD (PS.set q (ps.1,rs)) (PH.set q ⟨ph.pb,ph.sv,ph.hv,a⟩) T w':=by have l:=(bX.1 g).1;have w:q<PS.length:=(by grind);have d:=h.pg q ph ps g S;have o:=apJ d.blk;have s:a.length=ph.hvs.length:=(by rw[f.1];omega);have c:∀b,b<wr.heap.size->T b≠.holes q->w'.heap[b]?=wr.heap[b]?:=λb I Q=>R.block b I<|DS λe=>Q<|d.th b e;have P:(PH.set q ⟨ph.pb,ph.sv,ph.hv,a⟩).map iP=PH.map iP:=(by rw[VT];have:iP ⟨ph.pb,ph.sv,ph.hv,a⟩=(PH.map iP)[q]'(by grind):=(by rw[sO];have:=(bX.1 g).2;rw[this];rfl);rw[this];exact ajw _);refine⟨?_,h.tl,by simp[h.len],λD y z n p=>?_⟩;rw[P,jE];exact bH h.row λk e=>c k (bn h.row k e).2 (by rw[h.tl k e];simp);by_cases m:q=D;subst m;rw[ox l] at n;rw[ox w] at p;injection n with n;injection p with p;subst n p;refine⟨(c _ o (by rw[d.tp];simp)).trans d.blk,d.ge,d.tp,bH d.sh λk e=>c k (bn d.sh k e).2 (by rw[d.ts k e];simp),d.ts,by grind,d.th,by simp only;rw[s,d.hl,B],λi v r F H=>?_⟩;obtain⟨j,L,M⟩:=t i v r F H;obtain⟨A,C⟩:=d.hr j v r L M;exact⟨bH A λk e=>c k (bn A k e).2 (by grind),C⟩;rw[ss m] at n p;refine(h.pg D y z n p).keep (λb _ J Q=>c b J<|λe=>?_)<|λ_ _=>rfl;grind
structure IS(bs:V Nat)(base:Nat)(ph:iY)(ps:Pg)(wr:G):Prop where
 blk:wr.heap[ph.pb]?=K (.cells #[ph.sv,ph.hv] 187 (0,0))
 sh:wr.ownsRow base 175 1 ph.sv ps.1.length (bU<|ps.1.map<|bx bs)
 ho:wr.ownsRow base 185 1 ph.hv ph.hvs.length ph.hvs
 hl:ph.hvs.length=ps.2.length
 hr:∀(i:Nat) v r,ph.hvs[i]?=K v->ps.2[i]?=K r->wr.ownsRow base 175 1 v r.length (bU<|r.map<|bx bs)
structure PO(bs:V Nat)(base:Nat)(fD:Y)(PS:V Pg)(PH:V iY)(wr:G):Prop where
 row:wr.ownsRow base 165 1 fD PH.length (PH.map iP)
 len:PH.length=PS.length
 pg:∀(q:Nat) ph ps,PH[q]?=K ph->PS[q]?=K ps->IS bs base ph ps wr
theorem aeC{α β:Type}(f:α->Option β):∀(d:V α),(∀a∈d,∃b,f a=K b)->∀i:Nat,(d.filterMap f)[i]?=d[i]?.bind f
 |[],_,i=>E
 |a::d,h,i=>by obtain⟨b,c⟩:=h a E;rw[ajy c];cases i with|zero=>simp[c]|succ i=>simp only[EM];exact aeC f d (λa e=>h a<|by simp[e]) i
theorem ST{α β:Type}(f:α->Option β):∀(d:V α),(∀a∈d,∃b,f a=K b)->(d.filterMap f).length=d.length
 |[],_=>rfl
 |a::d,h=>by obtain⟨b,e⟩:=h a E;rw[ajy e,dc,dc,ST f d<|λa c=>h a<|by simp[c]]
section
variable{bs:V Nat}{base:Nat}{PS:V Pg}{PH:V iY}{T:Nat->Tg}{g:Nat}{Xs:V PB}
theorem afU{fD:Y}{wr:G}(Q:BD Xs)(Z:g<base)(S:∀b∈bs,b<base)(h:PI bs base fD PS PH T wr)(W:RB wr g bs Xs){q:Nat}{ph:iY}{ps:Pg}(n:PH[q]?=K ph)(p:PS[q]?=K ps)(o:lk Xs ps)(hl:ps.2.length<=85000000):
  M 173 #[ph.hv,.func (.func 174) #[] #[]] wr λe w'=>e=aJ (aG #[])/\(∃D,PI bs base fD (PS.set q<|abd Xs ps) (PH.set q D) T w')/\Below base wr w':=by have a:=h.pg q ph ps n p;have O:=enters_of func174 z rfl;have:=Q.len;have l:∀v∈ph.hvs,v.oneCell'=aP:=λv hv=>(by obtain⟨i,H⟩:=VX.1 hv;have w:i<ps.2.length:=(by rw[<-a.hl];grind);obtain⟨so,m,c,rfl⟩:=wE (a.hr i v _ H<|be w).1;rfl);have C:=wI (λi:Fin ps.2.length=>fr Xs ps.2[i])<|λi=>DR Q<|o.2 _<|eo i.2;refine(SQ Tryz.sortRg 174 O (qy Xs) ps.2 ph.hvs l a.ho a.hl hl C ?_).mono ?_;intro w' hz r i j u v x y B P E F;obtain⟨L,t1⟩:=a.hr i u x B E;obtain⟨N,t2⟩:=a.hr j v y P F;have J:∀b,b<wr.heap.size->T b=.ring->w'.heap[b]?=wr.heap[b]?:=λb X I=>r b X (λe=>by rw[a.th b e] at I;cases I);have s:=o.2 x<|bB E;have t:=o.2 y<|bB F;have:=el a.ge<|du<|apJ a.blk;have R:=W.low Z S<|λk A=>r k U<|jo a.ho k A;exact SP Q R (bH L λk e=>J k (bn L k e).2<|t1 k e) (bH N λk e=>J k (bn N k e).2<|t2 k e) s.ne t.ne s.lt t.lt (by have:=s.len;omega) (by have:=t.len;omega);rintro e w' ⟨rfl,d,p1,p2,p3,p4,p5,f⟩;refine⟨rfl,⟨_,h.sorted n p _ _ p3 p4 (λi u x B P=>?_) f⟩,f.os,f.tape,f.output,f.size,λk r=>f.block k (by have:=apJ a.blk;have:=a.ge;omega)<|DS<|jo a.ho k r⟩;grind
end
section
variable{bs:V Nat}{base:Nat}{PS:V Pg}{PH:V iY}{T:Nat->Tg}{g:Nat}{Xs:V PB}
theorem afV{fD:Y}{wr:G}(L:BD Xs)(hg:g<base)(Z:∀b∈bs,b<base)(hz0:base<=wr.heap.size)(h:PI bs base fD PS PH T wr)(hR:RB wr g bs Xs)(hd:∀p∈PS,RG Xs p.1)(hl:PS.length<=85000000):
  M 175 #[fD,.func (.func 176) #[] #[]] wr λe w'=>e=aJ (aG #[])/\(∃H,PO bs base fD (jM (qz Xs) PS) H w')/\Below base wr w':=by
 have eg:=enters_of func176 z rfl;have hXl:=L.len;have hlm:(PH.map iP).length=PS.length:=(by rw[eK];exact h.len);have R:∀v∈PH.map iP,v.oneCell'=aP:=λv hv=>(by obtain⟨p,_,rfl⟩:=bA.1 hv;rfl);have hsw:Sort.SWO (ltOf λi j:Fin PS.length=>qz Xs PS[i] PS[j]):=wI (λi:Fin PS.length=>fr Xs PS[i].1)<|λi=>DR L<|hd _<|eo i.2;have S:wr.ownsRow base 165 1 fD (PH.map iP).length (PH.map iP):=(by rw[eK];exact h.row);refine(SQ Tryz.sortPg 176 eg (qz Xs) PS (PH.map iP) R S hlm hl hsw ?_).mono ?_
 .intro w' hz F i j u v x y t A C D;rw[aa9] at t A;obtain⟨p,hp,rfl⟩:=oC.1 t;obtain⟨s,hp',rfl⟩:=oC.1 A;have c:=h.pg i p x hp C;have l:=h.pg j s y hp' D;have m:∀b,b<wr.heap.size->T b≠.rY->w'.heap[b]?=wr.heap[b]?:=λb X ht=>F b X<|λe=>ht<|h.tl b e;have o:=hd x<|bB C;have w:=hd y<|bB D;have O:RB w' g bs Xs:=hR.low hg Z<|λk hkb=>F k U<|jo h.row k hkb;have o1:w'.ownsRow base 175 1 p.sv x.1.length (bU<|x.1.map<|bx bs):=bH c.sh λk e=>m k (bn c.sh k e).2 (by rw[c.ts k e];simp);have o2:w'.ownsRow base 175 1 s.sv y.1.length (bU<|y.1.map<|bx bs):=bH l.sh λk e=>m k (bn l.sh k e).2 (by rw[l.ts k e];simp);have b1:w'.heap[p.pb]?=K (.cells #[p.sv,p.hv] 187 (0,0)):=(m _ (apJ c.blk) (by rw[c.tp];simp)).trans c.blk;have b2:w'.heap[s.pb]?=K (.cells #[s.sv,s.hv] 187 (0,0)):=(m _ (apJ l.blk) (by rw[l.tp];simp)).trans l.blk;obtain⟨g1,c1,e1,_⟩:=lj o1<|fT.2 o.ne;obtain⟨g2,c2,e2,_⟩:=lj o2<|fT.2 w.ne;have hc:∀n,Gr w' n->M 174 #[p.sv,s.sv] n λe w3=>e=aJ (I J<|qz Xs x y)/\Gr n w3:=λn N=>
   SP L (O.below N.1) (bH o1 λk e=>N.1.block k (bn o1 k e).2) (bH o2 λk e=>N.1.block k (bn o2 k e).2) o.ne w.ne o.lt w.lt (by have:=o.len;omega) (by have:=w.len;omega)
  rw[e1,e2] at hc;refine afR p.pb s.pb g1 _ c1 g2 _ c2 w' (qz Xs x y) ?_ ?_ hc;rw[apL b1 0,<-e1];rfl;rw[apL b2 0,<-e2];rfl
 .rintro e w' ⟨rfl,d,p1,p2,p3,p4,p5,B⟩;have hin:∀a∈d,a<PH.length:=λa W=>(by grind);have f1:∀a∈d,∃b,(λi=>PH[i]?) a=K b:=λa W=>⟨_,be<|hin a W⟩;have hdl:d.length=PH.length:=(by rw[p1.length_eq,Kz,h.len]);have Q:(d.filterMap<|λi=>PH[i]?).length=PH.length:=(by rw[ST _ _ f1,hdl]);have hvs:d.filterMap (λi=>(PH.map iP)[i]?)=(d.filterMap<|λi=>PH[i]?).map iP:=(by grind);refine⟨rfl,⟨d.filterMap<|λi=>PH[i]?,?_,by grind,λq ph ps t A=>?_⟩,B.os,B.tape,B.output,B.size,λk F=>B.block k U<|DS<|jo h.row k F⟩;grind
  .have P:((d.filterMap<|λi=>PH[i]?).map iP)[q]?=K (iP ph):=by grind
   rw[<-hvs] at P;obtain⟨j,_,j1,_,j2⟩:=p5 q _ ps P A;rw[aeC _ _ f1,j1] at t;have hj:=t;have c:=h.pg j ph ps hj j2;have m:∀b,b<wr.heap.size->T b≠.rY->w'.heap[b]?=wr.heap[b]?:=λb X ht=>B.block b X<|DS λe=>ht<|h.tl b e;exact⟨(m _ (apJ c.blk) (by rw[c.tp];simp)).trans c.blk,bH c.sh λk e=>m k (bn c.sh k e).2 (by rw[c.ts k e];simp),bH c.ho λk e=>m k (bn c.ho k e).2 (by rw[c.th k e];simp),c.hl,λi v r C D=>by
    obtain⟨k1,k2⟩:=c.hr i v r C D;exact bH k1 λk e=>m k (bn k1 k e).2 (by grind)⟩
theorem afW{fD:Y}{wr:G}(O:BD Xs)(z:g<base)(t:∀b∈bs,b<base)(L:base<=wr.heap.size)(h:PI bs base fD PS PH T wr)(hR:RB wr g bs Xs)(hd:∀p∈PS,lk Xs p)(hl:PS.length<=85000000)(hh:∀p∈PS,p.2.length<=85000000):
  M 116 #[fD] wr λe w'=>e=aJ (aG #[])/\(∃a,PO bs base fD (qB Xs PS) a w')/\RB w' g bs Xs/\Below base wr w':=by obtain⟨hlen,P⟩:=id h.row;rcases P with⟨rfl,N⟩|⟨A,cap,cur,rfl,xN,hblk,hnc,hcm,hcs,htk⟩;have F:PH=[]:=gL.1 N;have n:PS=[]:=gL.1 (by rw[<-h.len];exact N);subst F;subst n;refine(SR wr).mono ?_;rintro e w' ⟨rfl,rfl⟩;exact⟨rfl,⟨[],⟨h.row,rfl,λq ph ps hq=>by grind⟩⟩,hR,Below.refl _ _⟩;refine afS A PH.length cap (λk w'=>k<=PH.length/\∃f a,PI bs base (D (K ⟨A,0,Z⟩) PH.length cap) f a T w'/\a.length=PH.length/\(∀i:Nat,f[i]?=if i<k then PS[i]?.map (abd Xs) else PS[i]?)/\RB w' g bs Xs/\Below base wr w') _ wr (by rw[h.len];exact hl) (λk w1 C hk=>?_) (λw1 C=>?_) ⟨iq _,PS,PH,h,rfl,λi=>E,hR,Below.refl _ _⟩;obtain⟨_,f,a,l,B,n,r,d⟩:=C;have u:k<a.length:=(by omega);obtain⟨ph,R⟩:∃ph,a[k]?=K ph:=⟨_,be u⟩;have Q:k<PS.length:=(by rw[<-h.len];exact hk);have w:f[k]?=K PS[k]:=(by grind);have W:=l.pg k ph _ R w;have v:=eo Q;obtain⟨so,m,c,hv⟩:=wE W.ho;have hcell:w1.cell? ⟨A,k,Z⟩=K (aF<|K ⟨ph.pb,0,Z⟩):=(by obtain⟨gT,cT,x,_,_,_,f1⟩:=lj l.row U;injection x with x;injection x with x;injection x with x;subst x;exact f1 k _ (by rw[aa9,R];rfl));refine⟨ph.pb,so,m,c,hcell,by rw[apL W.blk 1,<-hv];rfl,?_⟩;rw[<-hv];refine(afU O z t l r R w (hd _ v)<|hh _ v).mono ?_;rintro e w' ⟨rfl,⟨SK,S⟩,s⟩;refine⟨rfl,U,_,_,S,by grind,λi=>?_,r.low z t s.block,d.trans s⟩;grind;obtain⟨_,f,a,l,B,n,r,d⟩:=C;have j:f=PS.map (abd Xs):=(by apply sJ;intro i;rw[n i,aa9];split;rfl;rename_i I;rw[sK (by rw[<-h.len];omega)];rfl);subst j;refine(afV O z t (el L d.size) l r (λp hp=>?_) (by grind)).mono ?_;obtain⟨p0,J,rfl⟩:=bA.1 hp;exact(hd p0 J).1;rintro e w' ⟨rfl,H,s⟩;exact⟨rfl,H,r.low z t s.block,d.trans s⟩
end
end
section
open Go.RowKit
theorem SU{w wr:G}{lv:Y}{xs:V ByteArray}(a:ByteArray)(h:SI w lv xs wr)(B:xs.length<=100000000)(b:(Lib.join (xs.map (·.data.toList)) a.data.toList).length<=140737488355328):
  M 103 #[lv,aD a] wr (ai (aD ⟨(Lib.join (xs.map (·.data.toList)) a.data.toList).toArray⟩) wr):=by rcases h.1.2 with⟨l,n⟩|⟨g,cap,m,l,_,f,p,_,_,s⟩;have v:xs=[]:=gL.1 n;subst v;rw[l];exact(Tryz.strings_Join_none Z 0 a wr).mono λe w'⟨q,t⟩=>⟨q,t▸Below.refl _ _⟩;rw[l];have k:g<wr.heap.size:=(by grind);refine Tryz.strings_Join g 0 cap xs a wr (λj x r=>?_) k U p b;have c:(xs.map aD)[j]?=K (aD x):=(by simp[r]);rw[ir,Bm f j,<-iD];grind
theorem afX(l:V N.Nd)(v:Y)(w:G)(hR:js w v l)(hG:Gl w)(hn:∀n∈l,eM n.1 n.2.1 n.2.2)(hl:l.length<=90000000):
  M 71 #[v] w (ai (aD ⟨(Pl.df Pl.fC<|l.map N.T).toArray⟩) w):=by
 obtain⟨so,cap,rfl⟩:=Cu hR;have O:H (js w (D so l.length cap) l):=hR;have Q:H (∀n∈l,∀w1,Gl w1->M 122 #[u #[A C (aM C n.1) (aM C n.2.1),I J n.2.2]] w1 (ai (aD ⟨(Pl.fC<|N.T n).toArray⟩) w1)):=λn h w1 g1=>aa1 n (hn n h) w1 g1;have HJ:H (∀y wr,SI w y (lJ l) wr->M 103 #[y,aD ⟨#[44,32]⟩] wr (ai (aD ⟨(Pl.df Pl.fC<|l.map N.T).toArray⟩) wr)):=λy wr h=>by
  have e:Lib.join ((lJ l).map (·.data.toList)) (⟨#[44,32]⟩:ByteArray).data.toList=Pl.df Pl.fC (l.map N.T):=(by rw[aa2];exact NW Pl.fC _)
  have j:=Pl.AZ Pl.fC 101 (l.map N.T) (λq hq=>by
   obtain⟨n,hm,rfl⟩:=bA.1 hq;exact GG (hn n hm))
  rw[eK] at j;have:=SU ⟨#[44,32]⟩ h (by simp[lJ];omega) (by rw[e];omega);rw[e] at this;exact this
 clear hR;generalize Pl.df Pl.fC (l.map N.T)=RT at*;go_enter func71,ntmps71;go_wp2_with fail;have P:H (SI w (D Z 0 0) [] w):=⟨ak _ _ _ _,Below.refl _ _⟩;go_loopg [3,8] l.length (λm y iv wr=>∃i:Nat,i+m=l.length/\iv=I J i/\H (SI w y (lJ<|l.take i) wr));(case atStart=>exact⟨0,U,rfl,P⟩);case round=>obtain⟨i,him,rfl,B⟩:=hrel;have a:=B.o.2;clear P;by_cases s:i<l.length;(.obtain⟨n,F⟩:∃g,l[i]?=K g:=⟨_,be s⟩;obtain⟨b,rfl,hb,c0,c1⟩:=Cv O.o F;have r0:=aR a c0 hb;have r1:=aR a c1 hb;have HT:H (lJ (l.take<|i+1)=lJ (l.take i)++[⟨(Pl.fC<|N.T n).toArray⟩]):=(by have e:=aq1 s;have hn':l[i]=n:=(by have:=be s;rw[F] at this;injection this with this;exact this.symm);rw[<-e,hn'];show lJ (l.take i++[n])=_;simp[lJ]);have HW:=Q.o n<|bB F;have hxl:(lJ<|l.take i).length<=90000000:=(by simp[lJ];omega);have iH:(i:Int)<(l.length:Int):=U;have hbr:=bg hb a.size;have W:Gl wr:=hG.below a hG.sz;have R:=hid HW;generalize Pl.fC (N.T n)=X at*;generalize aM C n.1=N1 at*;generalize aM C n.2.1=N2 at*;generalize lJ (l.take i)=L at*;clear F c0 c1 Q O HW;go_wp2_with (simp only[fW];go_simp);refine(R.o _<|W.alloc _).mono ?_;rintro e w5 ⟨rfl,p⟩;obtain⟨r,_⟩:=B.o;have f:=a.alloc a.size<|.cells #[A C N1 N2,I J n.2.2] 83;have c:=f.trans<|p.mono f.size;have t:w5.ownsRow w.heap.size 9 1 u3 L.length (L.map aD):=bH r λk x=>(p.block k (by have:=(bn r k x).2;simp;omega)).trans<|ad _ _ _ (bn r k x).2;have hs5:=c.size;clear r B;go_wp2_with (at_builtin;refine ii rfl GF underlying164 (aao t) (aa _ _) ?_;intro g' S w6 o d Mn);have Q:H (SI w (D (K ⟨g',0,Z⟩) (L.length+1) S) (lJ<|l.take<|i+1) w6):=(by rw[HT.o];refine⟨?_,(c.alloc c.size _).grown d aq<|λk x=>(bn t k x).1⟩;rw[bG,abb];exact o);clear o d t R HT;go_roundg (gk-1);(case measure=>omega);case rel=>exact⟨i+1,U,af,Q⟩);have x:i=l.length:=U;subst x;have z:=B.o;rw[dV] at z;clear B O Q;go_wp2_with fail;refine(HJ.o _ _ z).mono ?_;rintro e w5 ⟨rfl,p⟩;go_wp2_with fail;go_ret;exact⟨rfl,z.2.trans<|p.mono z.2.size⟩
def jp(Xs:V PB)(r:V Nat):V UInt8:=40::(Pl.df Pl.fC ((fr Xs r++(fr Xs r).take 1).map N.T)++[41])
def NJ(w:G)(a:Y)(l:V N.Nd)(wr:G):Prop:=wr.ownsRow w.heap.size 83 2 a l.length (ez l)/\ag w wr
theorem afY(bs:V Nat)(Xs:V PB)(r:V Nat)(g1 c1:Nat)(w:G)(hl:r.length<=85000000)(hne:0<r.length)(hG:Gl w)
  (HV:H (∀(i:Nat) a,r[i]?=K a->w.cell? ⟨g1,i,Z⟩=K (aF<|K ⟨bx bs a,0,Z⟩)/\w.cell? ⟨bx bs a,2,Z⟩=K (A C (aM C (xi Xs a).f.1)<|aM C (xi Xs a).f.2.1)/\w.cell? ⟨bx bs a,3,Z⟩=K (I J (xi Xs a).f.2.2)))
  (o:H (∀n∈fr Xs r,eM n.1 n.2.1 n.2.2)):
  M 153 #[D (K ⟨g1,0,Z⟩) r.length c1] w (ai (aD ⟨(jp Xs r).toArray⟩) w):=by
 have z:H (NJ w (D Z 0 0) (fr Xs<|r.take 0) w):=⟨ak _ _ _ _,Below.refl _ _⟩;go_enter func153,ntmps153;go_wp2_with fail;go_loopg [3,8] r.length (λm lv iv wr=>∃k:Nat,k+m=r.length/\iv=I J k/\H (NJ w lv (fr Xs<|r.take k) wr));case atStart=>exact⟨0,U,rfl,z⟩
 case round=>
  obtain⟨k,hkn,rfl,y⟩:=hrel;have c:=y.o.2;clear z;by_cases hlt:k<r.length;.obtain⟨a,ha⟩:∃a,r[k]?=K a:=⟨_,be hlt⟩;obtain⟨v0,v2,v3⟩:=HV.o k a ha;have r0:=aR c v0<|apK v0;have r2:=aR c v2<|apK v2;have r3:=aR c v3<|apK v3;have iH:(k:Int)<(r.length:Int):=U;have W:fr Xs (r.take<|k+1)=fr Xs (r.take k)++[(xi Xs a).f]:=(by unfold fr;rw[fg,ha];simp);have HT:=hid W;have hxl:(fr Xs<|r.take k).length<=85000000:=(by simp[fr];omega);have u:H (gH (xi Xs a).f=[A C (aM C (xi Xs a).f.1) (aM C (xi Xs a).f.2.1),I J (xi Xs a).f.2.2]):=rfl;clear W v0 v2 v3 ha;generalize(xi Xs a).f=b at*;generalize aM C b.1=N1 at*;generalize aM C b.2.1=N2 at*;generalize b.2.2=N3 at*;generalize fr Xs (r.take k)=A1 at*;obtain⟨P,_⟩:=y.o;have hs5:=c.size;clear y HV o;go_wp2_with (first |(simp only[fW];go_simp)|(at_builtin;refine ii rfl Cw underlying138 (aao P) (aa _ _) ?_;intro g' s w6 B d Mn));have HN':H (NJ w (D (K ⟨g',0,Z⟩) (A1.length+1) s) (fr Xs<|r.take<|k+1) w6):=(by rw[HT.o];refine⟨?_,(c.alloc c.size _).grown d aq<|λk Y=>(bn P k Y).1⟩;rw[bG,GE,u.o];exact B);clear B d P HT u;go_roundg (gk-1);(case measure=>omega);case rel=>exact⟨k+1,U,af,HN'⟩
  .have Y:k=r.length:=U;subst Y;have HF:=y.o;rw[dV] at HF;clear y HV;obtain⟨g,t⟩:∃a,(fr Xs r)[0]?=K a:=⟨_,be (by simp[fr];exact hne)⟩;have p:(fr Xs r).length=r.length:=(by simp[fr]);have Q:(fr Xs r).take 1=[g]:=(by have:=fg (l:=fr Xs r) (i:=0);rw[t] at this;simpa using this)
   have HW:H (∀v w1,js w1 v (fr Xs r++[g])->Gl w1->M 71 #[v] w1 (ai (aD ⟨(Pl.df Pl.fC<|(fr Xs r++[g]).map N.T).toArray⟩) w1)):=λv w1 h1 h2=>afX _ v w1 h1 h2 (λn x=>by
    rcases dm.1 x with x|x
    .exact o.o n x
    .rw[cI] at x;rw[x];exact o.o g (bB t)) (by rw[bG,p];simp;omega)
   have O:jp Xs r=40::(Pl.df Pl.fC ((fr Xs r++[g]).map N.T)++[41]):=by unfold jp;rw[Q]
   have HRT:=hid O;have Ia:(Pl.df Pl.fC<|(fr Xs r++[g]).map N.T).length<=140737488355328:=by
    have:=Pl.AZ Pl.fC 101 ((fr Xs r++[g]).map N.T) (λq hq=>by
     obtain⟨n,hm,rfl⟩:=bA.1 hq;refine GG ?_;rcases dm.1 hm with x|x
     .exact o.o n x
     .rw[cI] at x;rw[x];exact o.o g (bB t))
    rw[eK,bG,p,E9] at this;omega
   generalize Pl.df Pl.fC ((fr Xs r++[g]).map N.T)=TX at*;have hs1:¬9223372036854775807<1+TX.length:=U;have hs2:¬9223372036854775807<1+TX.length+1:=U;clear Q o O;generalize fr Xs r=F at*;obtain⟨P,_⟩:=HF;rw[p] at P;have j:js wr u3 F:=(by have:=mQ P<|iq _;rw[<-p] at this;exact this);obtain⟨so3,amg,hu3⟩:=Cu j;subst hu3;obtain⟨g3,hso,hlt',c0,c1'⟩:=Cv j t;subst hso;rw[p] at P;have u:H (gH g=[A C (aM C g.1) (aM C g.2.1),I J g.2.2]):=rfl;generalize aM C g.1=N1 at*;generalize aM C g.2.1=N2 at*;generalize Hc:g.2.2=N3 at*;clear j t;have hs5:=c.size;have hGr:Gl wr:=hG.below c hG.sz;rw[p];go_wp2_with (first |(simp only;go_simp)|(at_builtin;refine ii rfl Cw underlying138 (aao P) (aa _ _) ?_;intro g' s w6 B d Mn));have S:ag w w6:=(c.alloc c.size _).grown d aq<|λk Y=>(bn P k Y).1;have hr6:js w6 (D (K ⟨g',0,Z⟩) (r.length+1) s) (F++[g]):=(by unfold js;rw[bG,GE,u.o,p];exact mQ B<|iq _);have L:=hid<|HW.o _ _ hr6<|hG.below S hG.sz;have R:=hid S;clear hr6 B d P HW u S c0 c1' c hGr;go_wp2_with fail;refine L.o.mono ?_;rintro e w7 ⟨rfl,X⟩;have HB7:=hid<|R.o.trans<|X.mono R.o.size;clear L R X;go_wp2_with fail;go_ret;exact⟨by rw[HRT.o];simp[ByteArray.mk_append_mk],HB7.o⟩
def ba(t:V UInt8):ByteArray:=⟨t.toArray⟩
def qC(a:V UInt8)(b:V (V UInt8)):V UInt8:=40::(Lib.join (a::b) [44,32]++[41])
theorem SZ(l:V (V UInt8)):(l.map ba).map (·.data.toList)=l:=by rw[eS];(conv=>rhs;rw[<-List.map_id l]);rfl
theorem S0{w wr:G}{lv:Y}{l:V (V UInt8)}(h:SI w lv (l.map ba) wr)(b:l.length<=90000000)(a:(Lib.join l [44,32]).length<=140737488355328):
  M 103 #[lv,aD ⟨#[44,32]⟩] wr (ai (aD ⟨(Lib.join l [44,32]).toArray⟩) wr):=by have:=SU ⟨#[44,32]⟩ h (by grind) (by rw[SZ];exact a);rw[SZ] at this;omega
theorem af4(pb gs ns cs:Nat)(so:Option Addr)(c:Nat)(f:V UInt8)(d:V (V UInt8))(w:G)(hl:d.length<=85000000)(S:(Lib.join (f::d) [44,32]).length<=140737488355328)(O:Gl w)
  (C:w.cell? ⟨pb,0,Z⟩=K (D (K ⟨gs,0,Z⟩) ns cs))(L:w.cell? ⟨pb,1,Z⟩=K (D so d.length c))
  (A:H (∀w1,ag w w1->Gl w1->M 153 #[D (K ⟨gs,0,Z⟩) ns cs] w1 (ai (aD<|ba f) w1)))
  (y:H (∀(k:Nat) t,d[k]?=K t->∃b gk nk N,so=K ⟨b,0,Z⟩/\w.cell? ⟨b,k,Z⟩=K (D (K ⟨gk,0,Z⟩) nk N)/\∀w1,ag w w1->Gl w1->M 153 #[D (K ⟨gk,0,Z⟩) nk N] w1 (ai (aD<|ba t) w1))):
  M 102 #[aF (K ⟨pb,0,Z⟩)] w (ai (aD<|ba<|qC f d) w):=by have Y:=apK C;have x:=hid<|A.o w (Below.refl _ _) O;go_enter func102,ntmps102;go_wp2_with fail;refine x.o.mono ?_;rintro e w1 ⟨rfl,n⟩;have q:=n.alloc n.size<|.cells #[aD (ba f)] 9;have d1:=aR q L Y;have v:H (SI w (D (K ⟨w1.heap.size,0,Z⟩) 1 1) ((f::d.take 0).map ba)<|w1.alloc<|.cells #[aD (ba f)] 9):=⟨⟨rfl,F ⟨w1.heap.size,1, #[aD (ba f)],rfl,n.size,aa w1 _,aX _,ar,rfl,rfl⟩⟩,q⟩;clear n x;go_wp2_with fail;go_loopg [3,17] d.length (λm lv iv wr=>∃k:Nat,k+m=d.length/\iv=I J k/\H (SI w lv ((f::d.take k).map ba) wr));(case atStart=>exact⟨0,U,rfl,v⟩);case round=>obtain⟨k,hkn,rfl,s⟩:=hrel;have a:=s.o.2;clear v d1 q;by_cases T:k<d.length;(.obtain⟨t,ht⟩:∃t,d[k]?=K t:=⟨_,be T⟩;obtain⟨b,gk',nk,N,rfl,v0,hc⟩:=y.o k t ht;have:=aR a v0<|apK v0;have:(k:Int)<(d.length:Int):=U;have HC:=hid<|hc wr a<|O.below a O.sz;have P:(f::d.take (k+1)).map ba=(f::d.take k).map ba++[ba t]:=(by rw[fg,ht];simp);have HT:=hid P;have:((f::d.take k).map ba).length<=85000001:=aq;obtain⟨W,_⟩:=s.o;clear P v0 ht hc s y A C L;generalize(f::d.take k).map ba=A1 at*;generalize ba t=X at*;go_wp2_with fail;refine HC.o.mono ?_;rintro e w5 ⟨rfl,p⟩;have g:=a.trans<|p.mono a.size;have r:=bH W λk R=>p.block k (bn W k R).2;have:=g.size;clear W HC p a;go_wp2_with (at_builtin;refine ii rfl GF underlying164 (aao r) (aa _ _) ?_;intro g' B w6 i l Mn);have HN:H (SI w (D (K ⟨g',0,Z⟩) (A1.length+1) B) ((f::d.take (k+1)).map ba) w6):=(by rw[HT.o];refine⟨?_,(g.alloc g.size _).grown l aq<|λk R=>(bn r k R).1⟩;rw[bG,abb];exact i);clear i l r HT;go_roundg (gk-1);(case measure=>omega);case rel=>exact⟨k+1,U,af,HN⟩);have R:k=d.length:=U;subst R;have u:=s.o;rw[dV] at u;have HJ:H (M 103 #[u3,aD ⟨#[44,32]⟩] wr (ai (aD ⟨(Lib.join (f::d) [44,32]).toArray⟩) wr)):=S0 u aq S;have z:H (qC f d=40::(Lib.join (f::d) [44,32]++[41])):=rfl;generalize Lib.join (f::d) [44,32]=TX at*;have:¬9223372036854775807<1+TX.length:=U;have:¬9223372036854775807<1+TX.length+1:=U;have j:=hid a;clear s y A C L u a;go_wp2_with fail;refine HJ.o.mono ?_;rintro e w7 ⟨rfl,Q⟩;have o:=hid<|j.o.trans<|Q.mono j.o.size;clear HJ Q j;go_wp2_with fail;go_ret;exact⟨by rw[z.o];simp[ba,ByteArray.mk_append_mk],o.o⟩
def r8:V UInt8:=[77,85,76,84,73,80,79,76,89,71,79,78,32,40]
def S3:V UInt8:=[77,85,76,84,73,80,79,76,89,71,79,78,32,69,77,80,84,89]
def wJ(a:V (V UInt8)):V UInt8:=if a=[] then S3 else r8++(Lib.join a [44,32]++[41])
theorem S4(so:Option Addr)(c:Nat)(d:V (V UInt8))(w:G)(hl:d.length<=85000000)(R:(Lib.join d [44,32]).length<=140737488355328)
  (i:H (∀(k:Nat) t,d[k]?=K t->∃b F,so=K ⟨b,0,Z⟩/\w.cell? ⟨b,k,Z⟩=K (aF<|K ⟨F,0,Z⟩)/\∀w1,ag w w1->M 102 #[aF (K ⟨F,0,Z⟩)] w1 (ai (aD<|ba t) w1))):
  M 67 #[D so d.length c] w (ai (aD<|ba<|wJ d) w):=by by_cases n:d=[];subst n;clear i;go_enter func67,ntmps67;go_wp2_with fail;go_ret;exact⟨rfl,Below.refl _ _⟩;.have p:H (d≠[]):=n;have:¬d.length=0:=λe=>n<|gL.1 e;have:((d.length:Int) == 0)=aQ:=(by rw[ou];omega);clear n;have v:H (SI w (D Z 0 0) ((d.take 0).map ba) w):=⟨ak _ _ _ _,Below.refl _ _⟩;go_enter func67,ntmps67;go_wp2_with fail;go_loopg [3,11] d.length (λm lv iv wr=>∃k:Nat,k+m=d.length/\iv=I J k/\H (SI w lv ((d.take k).map ba) wr));(case atStart=>exact⟨0,U,rfl,v⟩);case round=>obtain⟨k,hkn,rfl,s⟩:=hrel;have f:=s.o.2;clear v;by_cases z:k<d.length;(.obtain⟨t,C⟩:∃t,d[k]?=K t:=⟨_,be z⟩;obtain⟨b,F,rfl,v0,W⟩:=i.o k t C;have:=aR f v0<|apK v0;have:(k:Int)<(d.length:Int):=U;have L:=hid<|W wr f;have B:(d.take<|k+1).map ba=(d.take k).map ba++[ba t]:=(by rw[fg,C];simp);have O:=hid B;have:((d.take k).map ba).length<=85000001:=aq;obtain⟨A,_⟩:=s.o;clear B v0 C W s i p;generalize(d.take k).map ba=A1 at*;generalize ba t=a at*;go_wp2_with fail;refine L.o.mono ?_;rintro e w5 ⟨rfl,q⟩;have g:=f.trans<|q.mono f.size;have r:=bH A λk Q=>q.block k (bn A k Q).2;have:=g.size;clear A L q f;go_wp2_with (at_builtin;refine ii rfl GF underlying164 (aao r) (aa _ _) ?_;intro g' x w6 S l Y);have HN:H (SI w (D (K ⟨g',0,Z⟩) (A1.length+1) x) ((d.take<|k+1).map ba) w6):=(by rw[O.o];refine⟨?_,(g.alloc g.size _).grown l aq<|λk Q=>(bn r k Q).1⟩;rw[bG,abb];exact S);clear S l r O;go_roundg (gk-1);(case measure=>omega);case rel=>exact⟨k+1,U,af,HN⟩);have Q:k=d.length:=U;subst Q;have u:=s.o;rw[dV] at u;have N:=hid<|S0 u U R;have y:H (wJ d=r8++(Lib.join d [44,32]++[41])):=X p.o;generalize Lib.join d [44,32]=T at*;have:¬9223372036854775807<14+T.length:=U;have:¬9223372036854775807<14+T.length+1:=U;have j:=hid f;clear s i u f p;go_wp2_with fail;refine N.o.mono ?_;rintro e w7 ⟨rfl,P⟩;have o:=hid<|j.o.trans<|P.mono j.o.size;clear N P j;go_wp2_with fail;go_ret;exact⟨by rw[y.o];simp[ba,r8,ByteArray.mk_append_mk],o.o⟩
def jR(Xs:V PB)(p:Pg):V UInt8:=qC (jp Xs p.1)<|p.2.map<|jp Xs
def DT(Xs:V PB)(ps:V Pg):V UInt8:=wJ<|ps.map<|jR Xs
theorem IU:∀l:V (V UInt8),(Lib.join l [44,32]).length<=(l.map λt=>t.length+2).sum
 |[]=>by simp[Lib.join,List.intercalate]
 |[x]=>by simp[Lib.join_one]
 |x::y::r=>by have a:=IU (y::r);have e:Lib.join (x::y::r) [44,32]=x++([44,32]++Lib.join (y::r) [44,32]):=(by simp[Lib.join,List.intercalate]);grind
section
variable{Xs:V PB}
theorem S5(b:BD Xs){r:V Nat}(h:RG Xs r):∀n∈fr Xs r,eM n.1 n.2.1 n.2.2:=λn a=>by
 unfold fr at a;obtain⟨i,c,rfl⟩:=bA.1 a;exact(b.v _<|gm<|h.lt i c).f.bm
theorem S6(e:BD Xs){r:V Nat}(h:RG Xs r):(jp Xs r).length<=208*r.length:=by
 have:0<r.length:=fT.2 h.ne;have b:=S5 e h;have c:=Pl.AZ Pl.fC 101 ((fr Xs r++(fr Xs r).take 1).map N.T) (λq g=>by
  obtain⟨n,f,rfl⟩:=bA.1 g;refine GG ?_;grind)
 have d:(fr Xs r).length=r.length:=by simp[fr]
 rw[eK,bG,fU,d] at c;unfold jp;grind
theorem IW{α:Type}(f g:α->Nat):∀l:V α,(∀x∈l,f x<=g x)->(l.map f).sum<=(l.map g).sum
 |[],_=>E
 |a::l,h=>by have:=h a E;have:=IW f g l λx b=>h x (by simp[b]);grind
theorem IX{α:Type}(c:Nat)(f:α->Nat):∀l:V α,(l.map λx=>c*f x).sum=c*(l.map f).sum
 |[]=>E
 |a::l=>by simp only[gU,uy,IX c f l,Nat.mul_add]
theorem S7(b:BD Xs){p:Pg}(h:lk Xs p):(Lib.join (jp Xs p.1::p.2.map (jp Xs)) [44,32]).length<=210*(p.1.length+eh p.2):=by
 have d:=IU (jp Xs p.1::p.2.map (jp Xs));have:=S6 b h.1;have:0<p.1.length:=fT.2 h.1.ne;rw[gU,uy,eS] at d;have a:=IW ((λt:V UInt8=>t.length+2)∘jp Xs) (λr=>210*r.length) p.2 (λr c=>by
  have:=S6 b (h.2 r c);have:0<r.length:=fT.2 (h.2 r c).ne;grind)
 rw[IX] at a;have e:(p.2.map λr=>r.length).sum=eh p.2:=rfl;grind
theorem af5(a:BD Xs){p:Pg}(h:lk Xs p):(jR Xs p).length+2<=214*(p.1.length+eh p.2):=by have:=S7 a h;have:0<p.1.length:=fT.2 h.1.ne;unfold jR qC;grind
theorem S8(c:BD Xs){ps:V Pg}(h:∀p∈ps,lk Xs p):(Lib.join (ps.map<|jR Xs) [44,32]).length<=214*ia ps:=by have a:=IU<|ps.map<|jR Xs;rw[eS] at a;have b:=IW ((λt:V UInt8=>t.length+2)∘jR Xs) (λp=>214*(p.1.length+eh p.2)) ps<|λp d=>af5 c<|h p d;rw[IX] at b;exact el a b
theorem S9{β:Type}(cf:β->β->Int)(l:V β)(b:Sort.SWO (ltOf λi j:Fin l.length=>cf l[i] l[j])):(jM cf l).Perm l:=by unfold jM;by_cases h:0<l.length;rw[dif_pos h];obtain⟨_,c,_⟩:=IR (λi j:Fin l.length=>cf l[i] l[j]) b h;have k:=c.map (λi:Fin l.length=>l[i]);simp_all;simp_all
theorem Ta(a:BD Xs){p:Pg}(h:lk Xs p):(abd Xs p).2.Perm p.2:=
 S9 _ _ (wI (λi:Fin p.2.length=>fr Xs p.2[i])<|λi=>DR a<|h.2 _<|eo i.2)
theorem Tb(a:BD Xs){p:Pg}(h:lk Xs p):lk Xs (abd Xs p):=⟨h.1,λr b=>h.2 r<|(Ta a h).mem_iff.1 b⟩
theorem IY(a:BD Xs){ps:V Pg}(h:∀p∈ps,lk Xs p):(qB Xs ps).Perm (ps.map<|abd Xs):=
 S9 _ _ (wI (λi:Fin (ps.map<|abd Xs).length=>fr Xs (ps.map<|abd Xs)[i].1) (λi=>by
  have c:=eo (l:=ps.map (abd Xs)) i.2;obtain⟨p,d,e⟩:=bA.1 c;have b:=(Tb a (h p d)).1;rw[e] at b;exact DR a b))
theorem Tc(a:BD Xs){ps:V Pg}(h:∀p∈ps,lk Xs p):∀p∈qB Xs ps,lk Xs p:=λp b=>by
 have:=(IY a h).mem_iff.1 b;obtain⟨q,c,rfl⟩:=bA.1 this;exact Tb a<|h q c
theorem Td(a:BD Xs){ps:V Pg}(h:∀p∈ps,lk Xs p):ia (qB Xs ps)=ia ps:=by have b:ia (qB Xs ps)=ia (ps.map<|abd Xs):=((IY a h).map _).sum_nat;rw[b];unfold ia;rw[eS];congr 1;apply abH;intro p d;have c:eh (abd Xs p).2=eh p.2:=((Ta a<|h p d).map _).sum_nat;show(abd Xs p).1.length+eh (abd Xs p).2=_;rw[c];rfl
end
theorem Te:∀l:V (V Nat),(∀r∈l,0<r.length)->l.length<=eh l
 |[],_=>iq _
 |a::l,h=>by have:=h a E;have:=Te l λr b=>h r (by simp[b]);have e:eh (a::l)=a.length+eh l:=(by simp[eh]);grind
section
variable{bs:V Nat}{Xs:V PB}{g base:Nat}{w:G}
theorem Tf(c:BD Xs)(p:RB w g bs Xs){v:Y}{r:V Nat}(o:w.ownsRow base 175 1 v r.length (bU<|r.map<|bx bs))(h:RG Xs r)(n:Gl w):
  M 153 #[v] w (ai (aD<|ba<|jp Xs r) w):=by have b:0<r.length:=fT.2 h.ne;obtain⟨m,k,rfl,_,_,_,l⟩:=lj o b;have:=h.len;have:=c.len;refine afY bs Xs r m k w U b n (λi a d=>?_)<|S5 c h;have f:=p.at<|h.lt a<|bB d;exact⟨l i _ (by simp[bU,d]),f.c2,f.c3⟩
theorem af6(s:BD Xs)(S:RB w g bs Xs){ph:iY}{p:Pg}(o:IS bs base ph p w)(h:lk Xs p)(A:ia [p]<=Xs.length)(z:Gl w):
  M 102 #[aF (K ⟨ph.pb,0,Z⟩)] w (ai (aD<|ba<|jR Xs p) w):=by have x:0<p.1.length:=fT.2 h.1.ne;have:=s.len;have:p.1.length+eh p.2<=Xs.length:=(by simpa[ia] using A);have:=S7 s h;have:p.2.length<=eh p.2:=Te p.2<|λr n=>fT.2 (h.2 r n).ne;obtain⟨y,cs,Q,_⟩:=lj o.sh x;obtain⟨P,c,R⟩:∃P c,ph.hv=D P (p.2.map<|jp Xs).length c:=(by rw[eK,<-o.hl];rcases o.ho.2 with⟨d,x⟩|⟨b,cap,u,d,_⟩;grind;grind);refine af4 ph.pb y p.1.length cs P c (jp Xs p.1) (p.2.map<|jp Xs) w (by grind) U z ?_ ?_ (λw1 l a=>?_)<|λk t i=>?_;rw[apL o.blk 0,<-Q];rfl;rw[apL o.blk 1,<-R];rfl;rw[<-Q];exact Tf s (S.below l) (bH o.sh λk e=>l.block k (bn o.sh k e).2) h.1 a;rw[aa9] at i;obtain⟨r,n,rfl⟩:=oC.1 i;have B:k<ph.hvs.length:=(by rw[o.hl];grind);obtain⟨v,d⟩:∃v,ph.hvs[k]?=K v:=⟨_,be B⟩;have m:=h.2 r<|bB n;have ow:=o.hr k v r d n;obtain⟨gk,j,rfl,_⟩:=lj ow<|fT.2 m.ne;obtain⟨b,C,q,_,_,_,f⟩:=lj o.ho U;rw[R] at q;injection q with q;exact⟨b,gk,_,j,q,f k _ d,λw1 l a=>Tf s (S.below l) (bH ow λk e=>l.block k (bn ow k e).2) m a⟩
theorem af7{ps:V Pg}{p:Pg}(h:p∈ps):ia [p]<=ia ps:=by induction ps with|nil=>grind|cons a ps b=>rcases bK.1 h with rfl|h;simp[ia];have:=b h;simp only[ia,gU,uy,Kv,List.sum_nil] at this⊢;omega
theorem af8(n:BD Xs)(z:RB w g bs Xs){fD:Y}{PS:V Pg}{PH:V iY}(o:PO bs base fD PS PH w)(h:∀p∈PS,lk Xs p)(C:ia PS<=Xs.length)(A:PS.length<=85000000)(S:Gl w):
  M 67 #[fD] w (ai (aD<|ba<|DT Xs PS) w):=by have:=n.len;have:=S8 n h;obtain⟨P,c,rfl⟩:∃P c,fD=D P (PS.map<|jR Xs).length c:=(by rw[eK,<-o.len];rcases o.row.2 with⟨B,y⟩|⟨b,cap,u,B,_⟩;grind;grind);refine S4 P c (PS.map<|jR Xs) w (by grind) U<|λk t j=>?_;rw[aa9] at j;obtain⟨p,x,rfl⟩:=oC.1 j;have s:k<PH.length:=(by rw[o.len];grind);obtain⟨ph,l⟩:∃ph,PH[k]?=K ph:=⟨_,be s⟩;have a:=bB x;obtain⟨b,F,m,_,_,_,f⟩:=lj o.row U;injection m with m;refine⟨b,ph.pb,m,f k _ (by rw[aa9,l];rfl),λw1 d=>?_⟩;have q:=o.pg k ph p l x;have E:IS bs base ph p w1:=⟨(d.block _<|apJ q.blk).trans q.blk,bH q.sh λk e=>d.block k (bn q.sh k e).2,bH q.ho λk e=>d.block k (bn q.ho k e).2,q.hl,λi v r Q R=>bH (q.hr i v r Q R) λk e=>d.block k (bn (q.hr i v r Q R) k e).2⟩;exact af6 n (z.below d) E (h p a) (el (af7 a) C)<|S.below d S.sz
end
end
section
open Go.RowKit
open N
theorem af9(w:G):
  M 69 #[D Z 0 0] w λe w'=>e=aJ (D Z 0 0)/\w'=w:=by have a:H (M 116 #[D Z 0 0] w λe w'=>e=aJ (aG #[])/\w'=w):=SR w;go_enter func69,ntmps69;go_wp2_with fail;go_loopg [3,13] 0 (λm c b wr=>m=0/\c=D Z 0 0/\b=I J 0/\wr=w);exact⟨rfl,rfl,rfl,rfl⟩;obtain⟨_,rfl,rfl,rfl⟩:=hrel;go_wp2_with fail;refine a.o.mono ?_;rintro e d ⟨rfl,rfl⟩;clear a;go_wp2_with fail;go_ret;exact⟨rfl,rfl⟩
section
variable{rg:V (V O)}{l:V Nd}{r:Int}{Ps:V PB}
theorem zG(B:l.map T=g8 (o rg))(P:∀e∈o rg,cM e)(h:mx (o rg) l Ps)(f:(lg r (o rg) Ps).length<=85000000):BD (lg r (o rg) Ps):=by have n:∀e∈o rg,e.1≠e.2:=λe v=>FX v;have t:∀x∈Ps.flatMap (ga r<|o rg),dR x:=λx g=>(by obtain⟨p,q,c⟩:=lw.1 g;exact Ie (h.v p q) c);obtain⟨hperm,d⟩:=QW (Ps.flatMap<|ga r<|o rg) t;refine⟨λx g=>t x<|hperm.mem_iff.1 g,λx g=>?_,?_,f⟩;obtain⟨p,q,c⟩:=lw.1<|hperm.mem_iff.1 g;obtain⟨k,s⟩:=adN n P h B p q;rcases Dw c with⟨rfl,_⟩|⟨rfl,_⟩;grind;exact⟨_,s.rev⟩;refine d.imp λ{a b} m=>?_;rw[wn];exact m
def r9(Xs:V PB):V UInt8:=DT Xs<|qB Xs (bT Xs Xs.length).ps
theorem aga(X:l.map T=g8 (o rg))(hc:∀n∈l,N.Can n)(hs:∀e∈o rg,cM e)(h:mx (o rg) l Ps){w1 w0:G}{lv:Y}{bs:V Nat}(c:BS w1 lv bs (lg r (o rg) Ps) w0)(H:bs.length<=85000000)(P:Gl w1):
  M 69 #[lv] w0 λe w'=>∃z,e=aJ z/\ag w1 w'/\M 67 #[z] w' (ai (aD<|ba<|r9<|lg r (o rg) Ps) w'):=by
 have y:=zr (r:=r) X hc h;have m:=zG (r:=r) X hs h (by rw[<-c.len];exact H);generalize lg r (o rg) Ps=Xs at*;have q:=c.below;rcases c.own.2 with⟨rfl,W⟩|⟨g,cap,cur,rfl,hg,x,L,hcm,hcs,htk⟩;have hb0:bs=[]:=gL.1 W;have F:Xs=[]:=gL.1 (by rw[<-c.len];exact W);subst F;refine(af9 w0).mono ?_;rintro e w' ⟨rfl,rfl⟩;exact⟨_,rfl,q,S4 Z 0 [] w' E (by simp[Lib.join,List.intercalate]) (λk t K=>by grind)⟩
 .have j:∀b∈bs,b<w0.heap.size:=λb hb=>c.lt hb;have O:SW g bs Xs (λ_=>aQ) (λ_=>Z) w0:=(by refine⟨c.len,c.nd,λI=>c.ne g I rfl,λi v=>?_,λi v=>?_⟩;obtain⟨gT,cT,e,_,_,_,f⟩:=lj c.own U;injection e with e;injection e with e;injection e with e;subst e;exact f i _<|(by simp[bU,rQ v]);exact(c.lies i _ _ (rQ v)<|qu (by rw[<-c.len];exact v)).2);have htot:=y.eh m Xs.length<|aX _;have s:=y.pn m Xs.length<|aX _;have w:=y.pv m Xs.length<|aX _;have hXl:=m.len;have hpl:=w.len;refine afO (cap:=cap) y m j (apJ x) L O (λz w'=>ag w1 w'/\M 67 #[z] w' (ai (aD<|ba<|r9 Xs) w')) ?_;intro lv PH a wr A D hnd d hPl;refine(afW m (apJ x) j d.size A D s U<|λp hp=>?_).mono ?_;obtain⟨i,v⟩:=VX.1 hp;have:=w.hol i p v;omega
  .rintro e w' ⟨rfl,⟨PH',C⟩,Q,S⟩;have R:ag w1 w':=by
    have u:ag w1 wr:=q.trans ⟨d.os,d.tape,d.output,d.size,λk K=>d.block k (bg K q.size) (λhm=>by
     obtain⟨i,v⟩:=VX.1 hm;have J:i<Xs.length:=by rw[<-c.len];grind
     have:=(c.lies i k _ v (qu J)).1;omega)⟩
    exact u.trans<|S.mono q.size
   refine⟨rfl,R,?_⟩;refine af8 m Q C (Tc m s) ?_ ?_<|P.below R P.sz;rw[Td m s];omega;have:=(IY m s).length_eq;grind
end
end
section
open Go.RowKit
theorem agw(s:ByteArray)(r:Int)(w:G)(m:s.size<=maxLen)(c:Gl w)(n:(Pl.err s.data.toList).1≠0):
  M 39 #[aD s,I .u8 r] w (ai (aG #[aD ⟨#[]⟩,I J (Pl.err s.data.toList).1,I J (Pl.err s.data.toList).2]) w):=by have:(((Pl.err s.data.toList).1:Int) != 0)=aP:=(by rw[qL];omega);have f:H (∀w1,Gl w1->M 33 #[aD s] w1 λe w'=>ag w1 w'/\∃b,e=aJ (aG #[aF b,I J (Pl.err s.data.toList).1,I J (Pl.err s.data.toList).2])):=λw1 k=>(by refine(Lo s w1 m k).mono ?_;rintro e w' ⟨l,b,rfl,_⟩;exact⟨l,b,rfl⟩);generalize(Pl.err s.data.toList).1=a at*;generalize(Pl.err s.data.toList).2=g at*;go_enter func39,ntmps39;go_wp2_with fail;refine(f.o _ c).mono ?_;rintro e w1 ⟨d,b,rfl⟩;go_wp2_with fail;refine ab (v:=aG #[aD ⟨#[]⟩,I J a,I J g]) (by simp[results,results39,go_sem]) rfl ⟨rfl,d⟩
theorem Tq(s:ByteArray)(q:s.size<=maxLen)(f:(Pl.err s.data.toList).1=0):∀w1,Gl w1->M 33 #[aD s] w1 λe w'=>ag w1 w'/\∃d rv,e=aJ (aG #[aF (K ⟨d,0,Z⟩),I J 0,I J 0])/\
  w'.cell? ⟨d,6,Z⟩=K rv/\d<w'.heap.size/\yv w' rv (Pl.rings s.data.toList):=λw1 l=>by
 have g:=(tf f).2.1;refine(Lo s w1 q l).mono ?_;rintro e w' ⟨n,x,rfl,h⟩;obtain⟨d,rfl,_,m⟩:=h f;obtain⟨c,t,r,B,rv,v,p,b,k,a⟩:=m;exact⟨n,d,rv,by grind,apL b 6,apJ b,aap a⟩
theorem agx(s:ByteArray)(r:Int)(w:G)(l:s.size<=maxLen)(c:Gl w)(k:(Pl.err s.data.toList).1=0)(m:N.rule r=aQ):
  M 39 #[aD s,I .u8 r] w (ai (aG #[aD ⟨#[]⟩,I J 4,I J 0]) w):=by
 have g:H (∀w1,Gl w1->M 33 #[aD s] w1 λe w'=>ag w1 w'/\∃a rv,e=aJ (aG #[aF (K ⟨a,0,Z⟩),I J 0,I J 0])/\
  w'.cell? ⟨a,6,Z⟩=K rv/\a<w'.heap.size/\yv w' rv (Pl.rings s.data.toList)):=Tq s l k
 have f:H (∀w,M 66 #[I .u8 r] w λe w'=>e=aJ (aC aQ)/\w'=w):=λw=>(by have:=NO r w;rw[m] at this;exact this);go_enter func39,ntmps39;go_wp2_with fail;refine(g.o _ c).mono ?_;rintro e w1 ⟨d,a,rv,rfl,_⟩;have b:=hid d;go_wp2_with fail;refine(f.o _).mono ?_;rintro e n ⟨rfl,rfl⟩;go_wp2_with fail;refine ab (v:=aG #[aD ⟨#[]⟩,I J 4,I J 0]) (by simp[results,results39,go_sem]) rfl ⟨rfl,b.o⟩
def lP(rg:V (V N.O))(r:Int)(b:V UInt8):Prop:=∃a l,l.map N.T=N.g8 (N.o rg)/\(∀n∈l,N.Can n)/\mx (N.o rg) l a/\(lg r (N.o rg) a).length<=85000000/\b=r9 (lg r (N.o rg) a)
theorem agy(s:ByteArray)(r:Int)(w:G)(hm:s.size<=maxLen)(m:Gl w)(O:(Pl.err s.data.toList).1=0)(hr:N.rule r=aP):
  M 39 #[aD s,I .u8 r] w λe w'=>(∃c,e=aJ (aG #[aD (ba c),I J 0,I J 0])/\lP (Pl.rings s.data.toList) r c)/\ag w w':=by
 have HR:H (∀w1,Gl w1->M 33 #[aD s] w1 λe w'=>ag w1 w'/\∃z rv,e=aJ (aG #[aF (K ⟨z,0,Z⟩),I J 0,I J 0])/\
  w'.cell? ⟨z,6,Z⟩=K rv/\z<w'.heap.size/\yv w' rv (Pl.rings s.data.toList)):=Tq s hm O
 have HI:H (∀w,M 66 #[I .u8 r] w λe w'=>e=aJ (aC aP)/\w'=w):=λw=>(by have:=NO r w;rw[hr] at this;exact this);obtain⟨hro,hrl,j,hel⟩:=Gz O;have S:=Pl.No O;have D:=hid<|λv w1 hv=>aau _ v w1 hv hro hrl;have x:H (∀v w1,kG w1 v (N.o<|Pl.rings s.data.toList)->Gl w1->M 68 #[v,I .u8 r] w1 λe w'=>∃y,e=aJ y/\M 69 #[y] w' λe A=>∃u,e=aJ u/\ag w1 A/\M 67 #[u] A λe w3=>(∃c,e=aJ (aD<|ba c)/\lP (Pl.rings s.data.toList) r c)/\ag w1 w3):=λv w1 hv a=>(by refine(adK _ r v w1 hv S j<|λe he=>N.FX he).mono ?_;rintro e w' ⟨y,rfl,Ps,l,wb,bs,i,k,Q,p,B,R⟩;refine⟨y,rfl,?_⟩;refine(aga i k j Q B R<|a.below p a.sz).mono ?_;rintro e A ⟨u,rfl,W,hW⟩;have b:=p.trans<|W.mono p.size;refine⟨u,rfl,b,hW.mono ?_⟩;rintro e w3 ⟨rfl,d⟩;exact⟨⟨_,rfl,Ps,l,i,k,Q,by rw[<-B.len];exact R,rfl⟩,b.trans<|d.mono b.size⟩);have F:H (∃P:V UInt8->Prop,P=lP (Pl.rings s.data.toList) r):=⟨_,rfl⟩;obtain⟨P,hP⟩:=F.o;rw[<-hP] at x;rw[<-hP];generalize Pl.rings s.data.toList=RG at*;generalize N.o RG=ES at*;go_enter func39,ntmps39;go_wp2_with fail;refine(HR.o _ m).mono ?_;rintro e w1 ⟨n,z,rv,rfl,c6,hlt,hrr⟩;have a:=m.below n m.sz;go_wp2_with fail;refine(HI.o _).mono ?_;rintro e A ⟨rfl,rfl⟩;go_wp2_with fail;refine(D.o _ _ hrr).mono ?_;rintro e w3 ⟨ev,rfl,Y,d⟩;have q:=n.trans<|d.mono n.size;have T:=a.below d a.sz;have t:=hid q;have hcall:=x.o _ _ Y T;go_wp2_with fail;refine hcall.mono ?_;rintro e w4 ⟨y,rfl,f⟩;go_wp2_with fail;refine f.mono ?_;rintro e w5 ⟨u,rfl,jS,g⟩;go_wp2_with fail;refine g.mono ?_;rintro e w6 ⟨⟨c,rfl,U⟩,X⟩;have L:H (P c):=U;have C:=hid<|t.o.trans<|X.mono t.o.size;go_wp2_with fail;refine ab (v:=aG #[aD (ba c),I J 0,I J 0]) (by simp[results,results39,go_sem]) rfl ⟨⟨c,rfl,L.o⟩,C.o⟩
end
end Go.Proofs.YtkjhhooecopolaaGreatDoor

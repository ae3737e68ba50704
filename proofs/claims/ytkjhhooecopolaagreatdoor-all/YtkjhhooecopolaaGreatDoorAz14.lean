import Derived.Test.YtkjhhooecopolaaGreatDoorAz13
set_option maxRecDepth 100000
set_option maxHeartbeats 4000000
namespace Go.Proofs.YtkjhhooecopolaaGreatDoor
open Go.Proofs.Tryz
open Value renaming int->I,complex->A,agg->u,string->aD,slice->D,tuple->aG
open IntKind renaming i64->J
open FloatKind renaming f64->C
open Ending renaming returned->aJ
open Go renaming World->G,Value->Y
open Option renaming some->K,none->Z
open Bool renaming true->aP,false->aQ
section
open Go.RowKit
variable{w3 wr:G}
namespace Pl
def yw{α:Type}(b:α->Nat)(a:V Tk->Bool×V Tk×α):Prop:=∀l,(a l).1=aP->b (a l).2.2+(a l).2.1.length<=l.length
def cJ{α:Type}(a:α->Nat)(l:V α):Nat:=(l.map a).sum
theorem Nm{α:Type}(a:α->Nat)(l:V α)(x:α):cJ a (l++[x])=cJ a l+a x:=by simp[cJ]
theorem mk_le(c:Nat)(l:V Tk):(mk c l).2.length<=l.length:=by cases l with|nil=>simp[mk]|cons t r=>have e:mk c (t::r)=if t.k=c then(aP,r) else(aQ,t::r):=rfl;grind
theorem Ck(q:V UInt8)(l:V Tk):(wd q l).2.length<=l.length:=by cases l with|nil=>simp[wd]|cons t r=>have e:wd q (t::r)=if t.k=119/\t.raw=q then(aP,r) else(aQ,t::r):=rfl;grind
theorem Cm{α:Type}{sz:α->Nat}{item:V Tk->Bool×V Tk×α}(d:yw sz item):
  ∀(f:Nat)(l:V Tk)(a:V α),(eW item f l a).1=aP->cJ sz (eW item f l a).2.2+(eW item f l a).2.1.length<=cJ sz a+l.length
 |0,l,a,h=>by cases h
 |f+1,l,a,h=>by unfold eW at h⊢;by_cases b:(item l).1=aP;have:=d l b;rw[y b] at h⊢;by_cases c:(mk 44 (item l).2.1).1=aP;rw[y c] at h⊢;have e:=Cm d f _ _ h;have g:=mk_le 44 (item l).2.1;rw[Nm] at e;omega;rw[X c];have g:=mk_le 41 (item l).2.1;simp only;rw[Nm];omega;grind
theorem aaD:yw (λ_=>1) dW:=λl h=>by
 match l,h with
 |[],h=>cases h
 |[x],h=>cases h
 |x::y::r,h=>
  have e:dW (x::y::r)=if x.k=110 then(if y.k=110 then(aP,r,(x.n,y.n)) else(aQ,y::r,(0,0))) else(aQ,x::y::r,(0,0)):=rfl;grind
theorem aaE:yw (cJ λ_=>1) eY:=λl h=>by
 unfold eY at h⊢;by_cases a:(mk 40 l).1=aP
 .have:=mk_le 40 l;rw[y a] at h⊢;by_cases b:(mk 41 (mk 40 l).2).1=aP
  .have:=mk_le 41 (mk 40 l).2;rw[y b];simp[cJ];omega
  .rw[X b] at h⊢;have:=Cm aaD _ _ _ h;have:cJ (λ_:Int×Int=>1) []=0:=rfl;omega
 grind
theorem Nn:yw (cJ<|cJ λ_=>1) cZ:=λl h=>by
 unfold cZ at h⊢;by_cases a:(wd EMPTY l).1=aP
 .have c:=Ck EMPTY l;rw[y a];simp[cJ];exact c
 .rw[X a] at h⊢;by_cases b:(mk 40 l).1=aP
  .have:=mk_le 40 l;rw[y b] at h⊢;have:=Cm aaE _ _ _ h;have:cJ (cJ λ_=>1) ([]:V (V (Int×Int)))=0:=rfl;omega
  grind
theorem aaF:yw (cJ<|cJ<|cJ λ_=>1) gu:=λl h=>by
 unfold gu at h⊢;by_cases a:(wd EMPTY l).1=aP
 .have c:=Ck EMPTY l;rw[y a];simp[cJ];exact c
 .rw[X a] at h⊢;by_cases b:(mk 40 l).1=aP
  .have:=mk_le 40 l;rw[y b] at h⊢;have:=Cm Nn _ _ _ h;have:cJ (cJ<|cJ λ_=>1) ([]:V (V<|V (Int×Int)))=0:=rfl;omega
  grind
theorem aaG{α:Type}(l:V α):cJ (λ_=>1) l=l.length:=by induction l with|nil=>rfl|cons a l b=>have e:cJ (λ_=>1) (a::l)=1+cJ (λ_=>1) l:=(by simp[cJ]);grind
theorem aaH(rg:V (V (Int×Int))):(N.o rg).length<=cJ (cJ λ_=>1) rg:=by induction rg with|nil=>simp[N.o]|cons g r b=>have e:N.o (g::r)=N.gF g++N.o r:=nn;have:(N.gF g).length<=g.length:=(by rw[<-N.Bp];exact N.Bq g _);have a:cJ (cJ λ_=>1) (g::r)=cJ (λ_=>1) g+cJ (cJ λ_=>1) r:=(by simp[cJ]);rw[e,bG,a,aaG];omega
theorem aaI(ps:V (V<|V (Int×Int))):cJ (cJ λ_=>1) ps.flatten=cJ (cJ<|cJ λ_=>1) ps:=by induction ps with|nil=>rfl|cons p r c=>have a:cJ (cJ λ_=>1) (p++r.flatten)=cJ (cJ λ_=>1) p+cJ (cJ λ_=>1) r.flatten:=(by simp[cJ]);have b:cJ (cJ<|cJ λ_=>1) (p::r)=cJ (cJ λ_=>1) p+cJ (cJ<|cJ λ_=>1) r:=(by simp[cJ]);grind
theorem No{s:V UInt8}(h:(err s).1=0):(N.o<|rings s).length<=402:=by obtain⟨l,_,a,_⟩:=tf h;have:=sU s;have:cJ (cJ<|cJ λ_=>1) (bO<|all s).2.2<=(all s).length:=(by unfold bO at a⊢;by_cases c:(wd ew<|all s).1=aP;rw[y c] at a⊢;have g:=Nn _ a;have d:=Ck ew<|all s;have e:cJ (cJ<|cJ λ_=>1) [(cZ (wd ew<|all s).2).2.2]=cJ (cJ λ_=>1) (cZ (wd ew<|all s).2).2.2:=(by simp[cJ]);grind;rw[X c] at a⊢;by_cases b:(wd fA<|all s).1=aP;rw[y b] at a⊢;have g:=aaF _ a;have d:=Ck fA<|all s;omega;grind);have d:=aaH<|rings s;have:cJ (cJ λ_=>1) (rings s)=cJ (cJ<|cJ λ_=>1) (bO<|all s).2.2:=aaI _;omega
end Pl
namespace N
def nR(b:V Qt)(c:V Qt):V Qt:=c.foldl (λa q=>ins q a) b
def g8(l:V (O×O)):V Qt:=l.foldl (λa e=>nR a<|gz l e) []
theorem amK(c:V Qt):∀a:V Qt,(nR a c).length<=a.length+c.length:=by induction c with|nil=>intro a;simp[nR]|cons q c b=>intro a;have:=b<|ins q a;have:=lI q a;have e:nR a (q::c)=nR (ins q a) c:=rfl;grind
end N
namespace Pl
def afk(s:V UInt8):V UInt8:=if(err s).1=0 then df fC (N.g8<|N.o<|rings s) else[]
end Pl
theorem Np(e:Ed):∀(l:V Ed)(O:V N.Qt),(l.foldl (N.dM e) O).length<=O.length+2*l.length
 |[],O=>E
 |f::l,O=>by have:=Np e l<|N.dM e O f;have:=xT e O f;grind
theorem Nq(l:V Ed)(e:Ed):(N.gz l e).length<=2+2*l.length:=by have:=Np e l<|N.ins (N.pt e.2)<|N.ins (N.pt e.1) [];have a:=N.lI (N.pt e.1) [];have:=N.lI (N.pt e.2)<|N.ins (N.pt e.1) [];simp at a;unfold N.gz;omega
theorem amL{q:N.Qt}(h:cS q):(Pl.fC q).length<=101:=by have:=Nb h.xn h.xd;have:=Nb h.yn h.yd;simp[Pl.fC];omega
def NI(b:G)(c:Y)(a:V N.Qt)(wr:G):Prop:=dq wr c a/\Good a/\ag b wr
theorem NI.below{wr':G}{av:Y}{al:V N.Qt}(h:NI w3 av al wr)(a:ag wr wr'):NI w3 av al wr':=
 ⟨fk kU h.1 a,h.2.1,h.2.2.trans<|a.mono h.2.2.size⟩
theorem aoc{av:Y}{al:V N.Qt}(h:NI w3 av al wr)(p:N.Qt)(d:cS p)(a:N.dD p)(g:al.length<=100000000):
  M 83 #[av,u<|qA p] wr λe w'=>∃b,e=aJ b/\NI w3 b (N.ins p al) w'/\ag wr w':=by refine(XU al p av wr h.1 g h.2.1.bm d h.2.1.red a h.2.1.kF).mono ?_;rintro e w' ⟨b,rfl,f,c⟩;exact⟨b,rfl,⟨f,h.2.1.ins d a,h.2.2.trans<|c.mono h.2.2.size⟩,c⟩
theorem aod(s:ByteArray)(w:G)(hm:s.size<=maxLen)(hG:Gl w):
  M 55 #[aD s] w (ai (aG #[aD ⟨(Pl.afk s.data.toList).toArray⟩,I J (Pl.err s.data.toList).1,I J (Pl.err s.data.toList).2]) w):=by
 by_cases A:(Pl.err s.data.toList).1=0
 .have he2:=(tf A).2.1;have hnt:Pl.afk s.data.toList=Pl.df Pl.fC (N.g8<|N.o<|Pl.rings s.data.toList):=y A;have:=Pl.No A;have ms:=(Gz A).2.2.1;have HR:H (∀w1,M 14 #[aD s] w1 λe w'=>ag w1 w'/\∃W B x pc,e=aJ (aG #[u #[aD W,D B x pc,I J 0],I J 0,I J 0])/\
    kD w' (D B x pc) (Pl.bO (Pl.all s.data.toList)).2.2/\mg (Pl.bO (Pl.all s.data.toList)).2.2):=λw1=>by
   refine(FT s w1 hm).mono ?_;rintro e w' ⟨L,W,B,x,pc,rfl,hr⟩;exact⟨L,W,B,x,pc,by rw[A,he2];rfl,aax A hr⟩
  have HED:H (∀(W:ByteArray)(v:Y) w1,kD w1 v (Pl.bO<|Pl.all s.data.toList).2.2->mg (Pl.bO<|Pl.all s.data.toList).2.2->M 79 #[u #[aD W,v,I J 0]] w1 λe w'=>∃v,e=aJ v/\je w' v (N.o<|Pl.rings s.data.toList)/\ag w1 w'):=λW v w1 C F=>XH _ W v w1 C F;rw[hnt,A,he2];generalize N.o (Pl.rings s.data.toList)=f at*;generalize(Pl.bO<|Pl.all s.data.toList).2.2=PS at*;have HSE:=hid ms;have HGL:H (Gl w):=hG;go_enter func55,ntmps55;go_wp2_with fail;refine(HR.o _).mono ?_;rintro e w1 ⟨Q,W,B,x,pc,rfl,pS,hok⟩;have pU:H (kD (w1.alloc<|.cells #[aD W,D B x pc,I J 0] 29) (D B x pc) PS/\mg PS):=⟨fk AY pS<|aj _ _,hok⟩;have vx:ag w (w1.alloc<|.cells #[aD W,D B x pc,I J 0] 29):=Q.alloc Q.size _;go_wp2_with fail;generalize w1.alloc (.cells #[aD W,D B x pc,I J 0] 29)=w2 at*;refine(HED.o _ _ _ pU.o.1 pU.o.2).mono ?_;rintro e w3 ⟨lv,rfl,hre,hb3⟩;obtain⟨lo,lc,rfl⟩:=uY hre;have HRE:=hid hre;have aV:=hid<|vx.trans<|hb3.mono vx.size;go_wp2_with fail;go_loopg [9,10] f.length (λm av iv wr=>∃i:Nat,i+m=f.length/\iv=I J i/\H (NI w3 av ((f.take i).foldl (λg e=>N.nR g<|N.gz f e) []) wr/\((f.take i).foldl (λg e=>N.nR g<|N.gz f e) []).length<=806*i));(case atStart=>exact⟨0,U,rfl,⟨iF<|ak _ 0 _ _,Yl,Below.refl _ _⟩,E⟩);case round=>obtain⟨i,him,rfl,HN⟩:=hrel;have R:=HN.o.1.2.2;by_cases hlt:i<f.length;(.obtain⟨e,ru⟩:∃e,f[i]?=K e:=⟨_,be hlt⟩;obtain⟨b,rfl,L,c0,c1,c2,c3⟩:=xI HRE.o ru;obtain⟨r0,r1,r2,r3⟩:=ajE R L c0 c1 c2 c3;have:(i:Int)<(f.length:Int):=U;have qj:H (cM e):=HSE.o e<|bB ru;have HT:H ((f.take<|i+1).foldl (λg e=>N.nR g<|N.gz f e) []=N.nR ((f.take i).foldl (λg e=>N.nR g<|N.gz f e) []) (N.gz f e)):=(by obtain⟨C,F⟩:=bX.1 ru;rw[lV C,F,nw];rfl);have:=HN.o.2;have:=Nq f e;have yE:=hid<|YO f e _ wr (tc HRE.o λk cur hc=>R.block k<|apJ hc) U HSE.o qj.o;generalize(f.take i).foldl (λg e=>N.nR g<|N.gz f e) []=AL at*;generalize N.gz f e=n at*;obtain⟨m1,jG⟩:=am gk;go_wp2_with fail;refine yE.o.mono ?_;rintro r w5 ⟨cv,rfl,hcq,hcg,jS⟩;obtain⟨co,cc,rfl⟩:=nQ hcq;have HN5:=hid<|HN.o.1.below jS;have O:H (dq w5 (D co n.length cc) n/\Good n):=⟨hcq,hcg⟩;go_wp2_with fail;go_loopg [9,12] n.length (λm av kv wr=>∃k:Nat,k+m=n.length/\kv=I J k/\H (NI w3 av (N.nR AL<|n.take k) wr/\ag w5 wr));(case atStart=>exact⟨0,U,rfl,HN5.o,Below.refl _ _⟩);case round=>obtain⟨k,tq,rfl,Z⟩:=hrel;have d:=Z.o.2;by_cases j:k<n.length;(.obtain⟨q,z⟩:∃q,n[k]?=K q:=⟨_,be j⟩;obtain⟨b2,rfl,l,c0,c1,c2,c3⟩:=tt O.o.1 z;obtain⟨r0,r1,r2,r3⟩:=ajE d l c0 c1 c2 c3;have ajV:(k:Int)<(n.length:Int):=U;have hl2:=N.amK (n.take k) AL;have:(n.take k).length<=n.length:=aq;have Mg:H (N.nR AL (n.take<|k+1)=N.ins q (N.nR AL<|n.take k)):=(by obtain⟨C,F⟩:=bX.1 z;unfold N.nR H Hid;rw[lV C,F,nw];rfl);have HWI:=hid<|aoc Z.o.1 q (O.o.2.bm q<|bB z) (O.o.2.red q<|bB z) U;go_wp2_with fail;refine HWI.o.mono ?_;rintro r w7 ⟨v7,rfl,h7,S⟩;have HN7:H (NI w3 v7 (N.nR AL<|n.take<|k+1) w7/\ag w5 w7):=⟨by rw[Mg.o];exact h7,d.trans<|S.mono d.size⟩;go_wp2_with fail;go_roundg (gk-1);(case measure=>omega);case rel=>exact⟨k+1,U,af,HN7⟩);.have hk:k=n.length:=U;subst hk;have hl2:=N.amK n AL;have HN7:H (NI w3 u9 ((f.take<|i+1).foldl (λg e=>N.nR g<|N.gz f e) []) wr/\((f.take<|i+1).foldl (λg e=>N.nR g<|N.gz f e) []).length<=806*(i+1)):=(by have h:=Z.o.1;rw[dV] at h;rw[HT.o];exact⟨h,U⟩);go_wp2_with fail;go_roundg (m1-1);(case measure=>omega);case rel=>exact⟨i+1,U,af,HN7⟩);.have hi:i=f.length:=U;subst hi;have t:H (NI w3 u9 (N.g8 f) wr/\(N.g8 f).length<=806*f.length):=(by have h:=HN.o;rw[dV] at h;exact h);clear HN;obtain⟨P,hND⟩:=am<|N.g8 f;have HND:=hid hND;rw[<-hND] at t;clear hND;obtain⟨no,nc,hnv⟩:=nQ t.o.1.1;subst hnv;have:P.length<=400000:=(by have:=t.o.2;omega);have HL:H (∀k,(Pl.df Pl.fC<|P.take k).length<=k*103):=λk=>(by refine el (Pl.AZ Pl.fC 101 (P.take k) λp hp=>amL<|t.o.1.2.1.bm p<|kP hp) ?_;exact Am _ aq);have HGW:H (∀w',ag wr w'->Gl w'/\ag w w'):=λw' hw'=>(by have C:=aV.o.trans<|t.o.1.2.2.mono aV.o.size;have F:=C.trans<|hw'.mono C.size;exact⟨HGL.o.below F HGL.o.sz,F⟩);generalize wr=wB at*;go_wp2_with fail;go_loopg [13,14] P.length (λm tv iv wr=>∃k:Nat,k+m=P.length/\iv=I J k/\tv=aD ⟨(Pl.df Pl.fC<|P.take k).toArray⟩/\H (ag wB wr));(case atStart=>exact⟨0,U,rfl,rfl,Below.refl _ _⟩);case round=>obtain⟨k,tq,rfl,rfl,HBB⟩:=hrel;have d:=HBB.o;by_cases j:k<P.length;(.obtain⟨q,z⟩:∃q,P[k]?=K q:=⟨_,be j⟩;obtain⟨b2,rfl,l,c0,c1,c2,c3⟩:=tt t.o.1.1 z;obtain⟨r0,r1,r2,r3⟩:=ajE d l c0 c1 c2 c3;have ajV:(k:Int)<(P.length:Int):=U;have JI:=hid<|Nf q wr (HGW.o _ d).1<|t.o.1.2.1.bm q<|bB z;have HT:=hid<|alv Pl.fC z;have:=amL<|t.o.1.2.1.bm q<|bB z;have:=HL.o k;generalize Pl.df Pl.fC (P.take k)=c at*;generalize Pl.fC q=X1 at*;clear c0 c1 c2 c3 z;by_cases vY:k=0;(.have hq0:decide (0<(k:Int))=aQ:=aq;have T:H (k=0):=vY;have hq1:decide (0<k)=aQ:=aq;clear vY;have hs1:¬9223372036854775807<c.length+X1.length:=U;go_wp2_with fail;refine JI.o.mono ?_;rintro e w7 ⟨rfl,S⟩;go_wp2_with fail;go_roundg (gk-1);(case measure=>omega);case rel=>refine⟨k+1,U,af,?_,d.trans<|S.mono d.size⟩;rw[HT.o,y T.o];simp[ByteArray.mk_append_mk]);.have hq0:decide (0<(k:Int))=aP:=aq;have T:H (¬k=0):=vY;have hq1:decide (0<k)=aP:=aq;have:¬9223372036854775807<c.length+2:=U;have hs1:¬9223372036854775807<c.length+2+X1.length:=U;go_wp2_with fail;refine JI.o.mono ?_;rintro e w7 ⟨rfl,S⟩;go_wp2_with fail;go_roundg (gk-1);(case measure=>omega);case rel=>refine⟨k+1,U,af,?_,d.trans<|S.mono d.size⟩;rw[HT.o,X T.o];simp[ByteArray.mk_append_mk]);have hk:k=P.length:=U;subst hk;rw[dV];go_wp2_with fail;go_ret3;exact⟨by rw[HND.o];rfl,(HGW.o _ d).2⟩
 have hnt:Pl.afk s.data.toList=[]:=X A;have:(((Pl.err s.data.toList).1:Int) != 0)=aP:=(by rw[qL];omega);have HR:H (∀w1,M 14 #[aD s] w1 λe w'=>ag w1 w'/\∃W B x pc,e=aJ (aG #[u #[aD W,D B x pc,I J 0],I J (Pl.err s.data.toList).1,I J (Pl.err s.data.toList).2])):=λw1=>(by refine(FT s w1 hm).mono ?_;rintro e w' ⟨L,W,B,x,pc,rfl,_⟩;exact⟨L,W,B,x,pc,rfl⟩);rw[hnt];generalize(Pl.err s.data.toList).1=a at*;generalize(Pl.err s.data.toList).2=Pp at*;go_enter func55,ntmps55;go_wp2_with fail;refine(HR.o _).mono ?_;rintro e w1 ⟨Q,W,B,x,pc,rfl⟩;go_wp2_with fail;go_ret3;exact⟨rfl,Q.alloc Q.size _⟩
namespace N
def isNode(l:V (O×O))(q:Qt):Prop:=
 (∃e∈l,q=pt e.1\/q=pt e.2)\/∃e∈l,∃f∈l,cH e f≠0/\q=eF e f/\hq (eF e f) e=aP/\hq (eF e f) f=aP
theorem Nr:∀(c a:V Qt),(∀q∈a,dD q)->(∀q∈c,dD q)->∀r,r∈nR a c↔r∈a\/r∈c
 |[],a,_,_,r=>by simp[nR]
 |q::c,a,b,d,r=>by have f:=d q E;have e:nR a (q::c)=nR (ins q a) c:=rfl;rw[e,Nr c (ins q a) (mh f b) (λx g=>d x<|by simp[g]) r,nO f b r,bK];grind
def adds(e f:O×O)(r:Qt):Prop:=
 (cH e f≠0/\r=eF e f/\hq (eF e f) e=aP/\hq (eF e f) f=aP)\/(cH e f=0/\((r=pt f.1/\hq (pt f.1) e=aP)\/(r=pt f.2/\hq (pt f.2) e=aP)))
theorem Ns{e f:O×O}{o:V Qt}(d:∀q∈o,dD q):(∀q∈dM e o f,dD q)/\∀r,r∈dM e o f↔r∈o\/adds e f r:=by unfold dM adds;by_cases c:cH e f=0;rw[y c];dsimp only;have g:=nO (iw f.1) d;have l:=mh (iw f.1) d;by_cases a:hq (pt f.1) e=aP;rw[y a];have k:=nO (iw f.2) l;by_cases b:hq (pt f.2) e=aP;rw[y b];refine⟨mh (iw f.2) l,λr=>?_⟩;grind;grind;rw[X a];have k:=nO (iw f.2) d;by_cases b:hq (pt f.2) e=aP;rw[y b];refine⟨mh (iw f.2) d,λr=>?_⟩;grind;grind;rw[X c];have g:=nO (BE c) d;by_cases a:(hq (eF e f) e&&hq (eF e f) f)=aP;rw[y a];obtain⟨m,n⟩:=(Bool.and_eq_true_iff).1 a;refine⟨mh (BE c) d,λr=>?_⟩;grind;grind
theorem Nt(e:O×O):∀(l:V (O×O))(o:V Qt),(∀q∈o,dD q)->(∀q∈l.foldl (dM e) o,dD q)/\∀r,r∈l.foldl (dM e) o↔r∈o\/∃f∈l,adds e f r
 |[],o,c=>⟨c,λr=>E⟩
 |f::l,o,c=>by obtain⟨d,k⟩:=Ns (e:=e) (f:=f) c;obtain⟨m,n⟩:=Nt e l (dM e o f) d;grind
theorem vl(l:V (O×O))(e:O×O):(∀q∈gz l e,dD q)/\∀r,r∈gz l e↔r=pt e.1\/r=pt e.2\/∃f∈l,adds e f r:=by have a:∀q∈([]:V Qt),dD q:=λq h=>(by grind);have b:=mh (iw e.1) a;have c:=mh (iw e.2) b;obtain⟨d,g⟩:=Nt e l _ c;refine⟨d,λr=>?_⟩;unfold gz;rw[g,nO (iw e.2) b,nO (iw e.1) a];grind
theorem Nu(L:V (O×O)):∀(l:V (O×O))(a:V Qt),(∀q∈a,dD q)->iG a->
  (∀q∈l.foldl (λa e=>nR a<|gz L e) a,dD q)/\iG (l.foldl (λa e=>nR a<|gz L e) a)/\∀r,r∈l.foldl (λa e=>nR a<|gz L e) a↔r∈a\/∃e∈l,r∈gz L e
 |[],a,h,d=>⟨h,d,λr=>E⟩
 |e::l,a,h,d=>by have b:=(vl L e).1;have s:=Nr (gz L e) a h b;have t:∀q∈nR a (gz L e),dD q:=λq f=>(by grind);have n:iG (nR a<|gz L e):=(by clear s t;generalize gz L e=c at b;induction c generalizing a with|nil=>exact d|cons q c R=>have f:=b q E;exact R (ins q a) (mh f h) (qc f h d)<|λx Q=>b x<|by simp[Q]);obtain⟨v,B,P⟩:=Nu L l (nR a<|gz L e) t n;grind
theorem vm(l:V (O×O)):(∀q∈g8 l,dD q)/\iG (g8 l)/\∀r,r∈g8 l↔isNode l r:=by obtain⟨m,n,p⟩:=Nu l l [] (λq h=>by grind) List.Pairwise.nil;refine⟨m,n,λr=>?_⟩;unfold g8;rw[p];unfold isNode;constructor;rintro(h|⟨e,g,h⟩);grind;rcases((vl l e).2 r).1 h with h|h|⟨f,k,h⟩;grind;grind;rcases h with⟨a,b,c,d⟩|⟨_,⟨h,_⟩|⟨h,_⟩⟩;grind;grind;grind;rintro(⟨e,g,h⟩|⟨e,g,f,k,a,b,c,d⟩);refine F ⟨e,g,((vl l e).2 r).2 ?_⟩;grind;exact F ⟨e,g,((vl l e).2 r).2<|F<|F ⟨f,k,j ⟨a,b,c,d⟩⟩⟩
theorem Nv(e f:O×O):cH f e= -cH e f:=by unfold cH;grind
theorem aaJ{e f:O×O}(h:cH e f≠0):eF f e=eF e f:=by
 have a:cH f e≠0:=by rw[Nv];omega
 unfold eF;have b:mX f e*cH e f=mX e f*cH f e:=by unfold mX mT cH;grind
 have c:mY f e*cH e f=mY e f*cH f e:=by unfold mY mT cH;grind
 rw[q9 a h b,q9 a h c]
end N
end
end Go.Proofs.YtkjhhooecopolaaGreatDoor

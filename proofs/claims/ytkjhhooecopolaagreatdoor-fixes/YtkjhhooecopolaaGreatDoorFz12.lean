import Derived.Test.YtkjhhooecopolaaGreatDoorFz11
import Derived.Test.YtkjhhooecopolaaGreatDoorRows
set_option maxRecDepth 100000
set_option maxHeartbeats 4000000
namespace Go.Proofs.YtkjhhooecopolaaGreatDoor
open Go.Proofs.Tryz
open Value renaming int->I,complex->A,agg->u,string->aD,slice->D
open IntKind renaming i64->J
open FloatKind renaming f64->C
open Go renaming World->G,Value->Y
open Option renaming some->K,none->Z
open Bool renaming true->aP,false->aQ
section
open Go.RowKit
namespace Pl
def yw{α:Type}(b:α->Nat)(a:V Tk->Bool×V Tk×α):Prop:=∀l,(a l).1=aP->b (a l).2.2+(a l).2.1.length<=l.length
def cJ{α:Type}(a:α->Nat)(l:V α):Nat:=(l.map a).sum
theorem Nm{α:Type}(a:α->Nat)(l:V α)(x:α):cJ a (l++[x])=cJ a l+a x:=by simp[cJ]
theorem mk_le(c:Nat)(l:V Tk):(mk c l).2.length<=l.length:=by
 cases l with
 |nil=>simp[mk]
 |cons t r=>
  have e:mk c (t::r)=if t.k=c then(aP,r) else(aQ,t::r):=rfl;rw[e];split<;>simp
theorem Ck(q:V UInt8)(l:V Tk):(wd q l).2.length<=l.length:=by
 cases l with
 |nil=>simp[wd]
 |cons t r=>
  have e:wd q (t::r)=if t.k=119/\t.raw=q then(aP,r) else(aQ,t::r):=rfl;rw[e];split<;>simp
theorem Cm{α:Type}{sz:α->Nat}{item:V Tk->Bool×V Tk×α}(d:yw sz item):
  ∀(f:Nat)(l:V Tk)(a:V α),(eW item f l a).1=aP->cJ sz (eW item f l a).2.2+(eW item f l a).2.1.length<=cJ sz a+l.length
 |0,l,a,h=>by cases h
 |f+1,l,a,h=>by
  unfold eW at h⊢;by_cases b:(item l).1=aP
  .have:=d l b;rw[y b] at h⊢;by_cases c:(mk 44 (item l).2.1).1=aP
   .rw[y c] at h⊢;have e:=Cm d f _ _ h;have g:=mk_le 44 (item l).2.1;rw[Nm] at e;omega
   .rw[X c];have g:=mk_le 41 (item l).2.1;simp only;rw[Nm];omega
  .rw[X b] at h;cases h
theorem aaD:yw (λ_=>1) dW:=λl h=>by
 match l,h with
 |[],h=>cases h
 |[x],h=>cases h
 |x::y::r,h=>
  have e:dW (x::y::r)=if x.k=110 then(if y.k=110 then(aP,r,(x.n,y.n)) else(aQ,y::r,(0,0))) else(aQ,x::y::r,(0,0)):=rfl;rw[e] at h⊢;split
  .split
   .simp;omega
   .simp;omega
  .rename_i a;rw[X a] at h;cases h
theorem aaE:yw (cJ λ_=>1) eY:=λl h=>by
 unfold eY at h⊢;by_cases a:(mk 40 l).1=aP
 .have:=mk_le 40 l;rw[y a] at h⊢;by_cases b:(mk 41 (mk 40 l).2).1=aP
  .have:=mk_le 41 (mk 40 l).2;rw[y b];simp[cJ];omega
  .rw[X b] at h⊢;have:=Cm aaD _ _ _ h;have:cJ (λ_:Int×Int=>1) []=0:=rfl;omega
 .rw[X a] at h;cases h
theorem Nn:yw (cJ<|cJ λ_=>1) cZ:=λl h=>by
 unfold cZ at h⊢;by_cases a:(wd EMPTY l).1=aP
 .have c:=Ck EMPTY l;rw[y a];simp[cJ];exact c
 .rw[X a] at h⊢;by_cases b:(mk 40 l).1=aP
  .have:=mk_le 40 l;rw[y b] at h⊢;have:=Cm aaE _ _ _ h;have:cJ (cJ λ_=>1) ([]:V (V (Int×Int)))=0:=rfl;omega
  .rw[X b] at h;cases h
theorem aaF:yw (cJ<|cJ<|cJ λ_=>1) gu:=λl h=>by
 unfold gu at h⊢;by_cases a:(wd EMPTY l).1=aP
 .have c:=Ck EMPTY l;rw[y a];simp[cJ];exact c
 .rw[X a] at h⊢;by_cases b:(mk 40 l).1=aP
  .have:=mk_le 40 l;rw[y b] at h⊢;have:=Cm Nn _ _ _ h;have:cJ (cJ<|cJ λ_=>1) ([]:V (V<|V (Int×Int)))=0:=rfl;omega
  .rw[X b] at h;cases h
theorem aaG{α:Type}(l:V α):cJ (λ_=>1) l=l.length:=by
 induction l with
 |nil=>rfl
 |cons a l b=>
  have e:cJ (λ_=>1) (a::l)=1+cJ (λ_=>1) l:=by simp[cJ]
  rw[e,b,dc];omega
theorem aaH(rg:V (V (Int×Int))):(N.o rg).length<=cJ (cJ λ_=>1) rg:=by
 induction rg with
 |nil=>simp[N.o]
 |cons g r b=>
  have e:N.o (g::r)=N.gF g++N.o r:=nn;have:(N.gF g).length<=g.length:=by rw[<-N.Bp];exact N.Bq g _
  have a:cJ (cJ λ_=>1) (g::r)=cJ (λ_=>1) g+cJ (cJ λ_=>1) r:=by simp[cJ]
  rw[e,bG,a,aaG];omega
theorem aaI(ps:V (V<|V (Int×Int))):cJ (cJ λ_=>1) ps.flatten=cJ (cJ<|cJ λ_=>1) ps:=by
 induction ps with
 |nil=>rfl
 |cons p r c=>
  have a:cJ (cJ λ_=>1) (p++r.flatten)=cJ (cJ λ_=>1) p+cJ (cJ λ_=>1) r.flatten:=by simp[cJ]
  have b:cJ (cJ<|cJ λ_=>1) (p::r)=cJ (cJ λ_=>1) p+cJ (cJ<|cJ λ_=>1) r:=by simp[cJ]
  rw[um,a,b,c]
theorem No{s:V UInt8}(h:(err s).1=0):(N.o<|rings s).length<=402:=by
 obtain⟨l,_,a,_⟩:=tf h;have:=sU s;have:cJ (cJ<|cJ λ_=>1) (bO<|all s).2.2<=(all s).length:=by
  unfold bO at a⊢;by_cases c:(wd ew<|all s).1=aP
  .rw[y c] at a⊢;have g:=Nn _ a;have d:=Ck ew<|all s;have e:cJ (cJ<|cJ λ_=>1) [(cZ (wd ew<|all s).2).2.2]=cJ (cJ λ_=>1) (cZ (wd ew<|all s).2).2.2:=by simp[cJ]
   simp only;rw[e];omega
  .rw[X c] at a⊢;by_cases b:(wd fA<|all s).1=aP
   .rw[y b] at a⊢;have g:=aaF _ a;have d:=Ck fA<|all s;omega
   .rw[X b] at a;cases a
 have d:=aaH<|rings s;have:cJ (cJ λ_=>1) (rings s)=cJ (cJ<|cJ λ_=>1) (bO<|all s).2.2:=aaI _;have:s.length<=400:=by
  unfold err at h;by_cases f:400<s.length
  .rw[y f] at h;cases h
  .omega
 omega
end Pl
namespace N
def nR(b:V Qt)(c:V Qt):V Qt:=c.foldl (λa q=>ins q a) b
def g8(l:V (O×O)):V Qt:=l.foldl (λa e=>nR a<|gz l e) []
end N
theorem Np(e:Ed):∀(l:V Ed)(O:V N.Qt),(l.foldl (N.dM e) O).length<=O.length+2*l.length
 |[],O=>E
 |f::l,O=>by
  have:=Np e l<|N.dM e O f;have:=xT e O f;rw[ls,dc];omega
theorem Nq(l:V Ed)(e:Ed):(N.gz l e).length<=2+2*l.length:=by
 have:=Np e l<|N.ins (N.pt e.2)<|N.ins (N.pt e.1) [];have a:=N.lI (N.pt e.1) [];have:=N.lI (N.pt e.2)<|N.ins (N.pt e.1) [];simp at a;unfold N.gz;omega
namespace N
def isNode(l:V (O×O))(q:Qt):Prop:=
 (∃e∈l,q=pt e.1\/q=pt e.2)\/∃e∈l,∃f∈l,cH e f≠0/\q=eF e f/\hq (eF e f) e=aP/\hq (eF e f) f=aP
theorem Nr:∀(c a:V Qt),(∀q∈a,dD q)->(∀q∈c,dD q)->∀r,r∈nR a c↔r∈a\/r∈c
 |[],a,_,_,r=>by simp[nR]
 |q::c,a,b,d,r=>by
  have f:=d q E;have e:nR a (q::c)=nR (ins q a) c:=rfl;rw[e,Nr c (ins q a) (mh f b) (λx g=>d x<|by simp[g]) r,nO f b r,bK];constructor
  .rintro((h|h)|h)
   .exact F (j h)
   .exact j h
   .exact F (F h)
  .rintro(h|h|h)
   .exact j (F h)
   .exact j (j h)
   .exact F h
def adds(e f:O×O)(r:Qt):Prop:=
 (cH e f≠0/\r=eF e f/\hq (eF e f) e=aP/\hq (eF e f) f=aP)\/(cH e f=0/\((r=pt f.1/\hq (pt f.1) e=aP)\/(r=pt f.2/\hq (pt f.2) e=aP)))
theorem Ns{e f:O×O}{o:V Qt}(d:∀q∈o,dD q):(∀q∈dM e o f,dD q)/\∀r,r∈dM e o f↔r∈o\/adds e f r:=by
 unfold dM adds;by_cases c:cH e f=0
 .rw[y c];dsimp only;have g:=nO (iw f.1) d;have l:=mh (iw f.1) d;by_cases a:hq (pt f.1) e=aP
  .rw[y a];have k:=nO (iw f.2) l;by_cases b:hq (pt f.2) e=aP
   .rw[y b];refine⟨mh (iw f.2) l,λr=>?_⟩;rw[k,g];simp only[c,a,b,ne_eq,qO,pH,pI,ny,pJ];constructor
    .rintro(h|h|h)
     .exact F (F h)
     .exact F (j h)
     .exact j h
    .rintro(h|h|h)
     .exact F (F h)
     .exact F (j h)
     .exact j h
   .rw[X b];refine⟨l,λr=>?_⟩;rw[g];grind
  .rw[X a];have k:=nO (iw f.2) d;by_cases b:hq (pt f.2) e=aP
   .rw[y b];refine⟨mh (iw f.2) d,λr=>?_⟩;rw[k];grind
   .rw[X b];refine⟨d,λr=>?_⟩;simp[c,a,b]
 .rw[X c];have g:=nO (BE c) d;by_cases a:(hq (eF e f) e&&hq (eF e f) f)=aP
  .rw[y a];obtain⟨m,n⟩:=(Bool.and_eq_true_iff).1 a;refine⟨mh (BE c) d,λr=>?_⟩;rw[g];simp only[c,m,n,ne_eq,sE,pI,ny,pH,sF];exact⟨λh=>h.symm,λh=>h.symm⟩
  .rw[X a];refine⟨d,λr=>?_⟩;constructor
   .exact j
   .rintro(h|⟨_,_,g,k⟩|⟨h,_⟩)
    .exact h
    .exact absurd (by rw[g,k];rfl) a
    .exact absurd h c
theorem Nt(e:O×O):∀(l:V (O×O))(o:V Qt),(∀q∈o,dD q)->(∀q∈l.foldl (dM e) o,dD q)/\∀r,r∈l.foldl (dM e) o↔r∈o\/∃f∈l,adds e f r
 |[],o,c=>⟨c,λr=>E⟩
 |f::l,o,c=>by
  obtain⟨d,k⟩:=Ns (e:=e) (f:=f) c;obtain⟨m,n⟩:=Nt e l (dM e o f) d;refine⟨m,λr=>?_⟩;rw[ls,n,k];constructor
  .rintro((h|h)|⟨g,b,h⟩)
   .exact j h
   .exact F ⟨f,E,h⟩
   .exact F ⟨g,by simp[b],h⟩
  .rintro(h|⟨g,b,h⟩)
   .exact j (j h)
   .rcases bK.1 b with a|a
    .subst a;exact j<|F h
    .exact F ⟨g,a,h⟩
theorem vl(l:V (O×O))(e:O×O):(∀q∈gz l e,dD q)/\∀r,r∈gz l e↔r=pt e.1\/r=pt e.2\/∃f∈l,adds e f r:=by
 have a:∀q∈([]:V Qt),dD q:=λq h=>by simp at h
 have b:=mh (iw e.1) a;have c:=mh (iw e.2) b;obtain⟨d,g⟩:=Nt e l _ c;refine⟨d,λr=>?_⟩;unfold gz;rw[g,nO (iw e.2) b,nO (iw e.1) a];constructor
 .rintro((h|h|h)|h)
  .exact F (j h)
  .exact j h
  .simp at h
  .exact F (F h)
 .rintro(h|h|h)
  .exact j (F<|j h)
  .exact j (j h)
  .exact F h
theorem Nu(L:V (O×O)):∀(l:V (O×O))(a:V Qt),(∀q∈a,dD q)->iG a->
  (∀q∈l.foldl (λa e=>nR a<|gz L e) a,dD q)/\iG (l.foldl (λa e=>nR a<|gz L e) a)/\∀r,r∈l.foldl (λa e=>nR a<|gz L e) a↔r∈a\/∃e∈l,r∈gz L e
 |[],a,h,d=>⟨h,d,λr=>E⟩
 |e::l,a,h,d=>by
  have b:=(vl L e).1;have s:=Nr (gz L e) a h b;have t:∀q∈nR a (gz L e),dD q:=λq f=>by
   rcases(s q).1 f with k|k
   .exact h q k
   .exact b q k
  have n:iG (nR a<|gz L e):=by
   clear s t;generalize gz L e=c at b;induction c generalizing a with
   |nil=>exact d
   |cons q c R=>
    have f:=b q E;exact R (ins q a) (mh f h) (qc f h d)<|λx Q=>b x<|by simp[Q]
  obtain⟨v,B,P⟩:=Nu L l (nR a<|gz L e) t n;refine⟨v,B,λr=>?_⟩;rw[ls,P,s];constructor
  .rintro((k|k)|⟨g,p,k⟩)
   .exact j k
   .exact F ⟨e,E,k⟩
   .exact F ⟨g,by simp[p],k⟩
  .rintro(k|⟨g,p,k⟩)
   .exact j (j k)
   .rcases bK.1 p with m|m
    .subst m;exact j<|F k
    .exact F ⟨g,m,k⟩
theorem vm(l:V (O×O)):(∀q∈g8 l,dD q)/\iG (g8 l)/\∀r,r∈g8 l↔isNode l r:=by
 obtain⟨m,n,p⟩:=Nu l l [] (λq h=>by simp at h) List.Pairwise.nil;refine⟨m,n,λr=>?_⟩;unfold g8;rw[p];unfold isNode;constructor
 .rintro(h|⟨e,g,h⟩)
  .simp at h
  .rcases((vl l e).2 r).1 h with h|h|⟨f,k,h⟩
   .exact j ⟨e,g,j h⟩
   .exact j ⟨e,g,F h⟩
   .rcases h with⟨a,b,c,d⟩|⟨_,⟨h,_⟩|⟨h,_⟩⟩
    .exact F ⟨e,g,f,k,a,b,c,d⟩
    .exact j ⟨f,k,j h⟩
    .exact j ⟨f,k,F h⟩
 .rintro(⟨e,g,h⟩|⟨e,g,f,k,a,b,c,d⟩)
  .refine F ⟨e,g,((vl l e).2 r).2 ?_⟩;rcases h with h|h
   .exact j h
   .exact F (j h)
  .exact F ⟨e,g,((vl l e).2 r).2<|F<|F ⟨f,k,j ⟨a,b,c,d⟩⟩⟩
theorem Nv(e f:O×O):cH f e= -cH e f:=by unfold cH;grind
theorem aaJ{e f:O×O}(h:cH e f≠0):eF f e=eF e f:=by
 have a:cH f e≠0:=by rw[Nv];omega
 unfold eF;have b:mX f e*cH e f=mX e f*cH f e:=by unfold mX mT cH;grind
 have c:mY f e*cH e f=mY e f*cH f e:=by unfold mY mT cH;grind
 rw[q9 a h b,q9 a h c]
end N
def agA(w:G)(v:Y)(a:V (V N.Qt)):Prop:=nJ 92 dq w v a
def zJ(w:G)(v:Y)(ps:V (V<|V N.Qt)):Prop:=nJ 91 agA w v ps
def agC(w:G)(b o:Nat)(a x y d r:Int)(s:ByteArray):Prop:=
 w.cell? ⟨b,o,Z⟩=K (I J a)/\w.cell? ⟨b,o+1,Z⟩=K (I J x)/\w.cell? ⟨b,o+2,Z⟩=K (I J y)/\w.cell? ⟨b,o+3,Z⟩=K (I J d)/\
  w.cell? ⟨b,o+4,Z⟩=K (I .u8 r)/\w.cell? ⟨b,o+5,Z⟩=K (aD s)
def Eb(w:G)(c:Option Addr)(n:Nat):Prop:=
 ∀k,k<n->∃b o a x y d r s,c=K ⟨b,o,Z⟩/\b<w.heap.size/\s.size<=maxLen/\agC w b (o+k*6) a x y d r s
end
section
open Go.RowKit Go.Deep
theorem Tryz.opCells:Tryz.prog.cellsOf 26=6:=z
theorem Tryz.intCells:Tryz.prog.cellsOf 3=1:=z
theorem Tryz.byteCells:Tryz.prog.cellsOf 5=1:=z
theorem Tryz.strCells:Tryz.prog.cellsOf 9=1:=z
section
variable{H:Type}{enc:TypeId×Y->H}{W:G}{spare:Nat->Bool}{held:Bool}
theorem six{α:Type}:∀{l:V α},l.length=6->∃a b c d e f,l=[a,b,c,d,e,f]
 |[a,b,c,d,e,f],_=>⟨a,b,c,d,e,f,rfl⟩
theorem aiR{so:Option Addr}{n cap:Nat}{d:DataW H}{p:V MemPlace}(h:DataW.Trod enc prog W 0 spare held 22 (D so n cap) d p):n<=maxLen/\Eb W so n:=by
 obtain⟨fuel,T⟩:=h;rcases open_slice underlying22 T with⟨f,hx⟩|⟨a,len,x,m,fl,c,Pl,f,hb,hl,hm,q,hx,l⟩
 .simp[Value.cells] at f;obtain⟨rfl,rfl,rfl⟩:=f;exact⟨iq _,λk C=>absurd C<|Nat.not_lt_zero _⟩
 .simp[Value.cells] at f;obtain⟨rfl,rfl,rfl⟩:=f;refine⟨el hl hm,λk C=>?_⟩;have hspot:a.spot=Z:=by
   obtain⟨N,L,_⟩:=l 0 (by rw[q];split<;>omega);rw[Tryz.opCells] at L;obtain⟨_,zl,zc⟩:=World.cells?_some L;obtain⟨q0,q1,q2,q3,q4,q5,rfl⟩:=six zl;simpa[Addr.add] using World.cell?_spot (v:=q0) (zc 0 U)
  obtain⟨M,A,O⟩:=l k (by rw[q];split<;>omega);rw[Tryz.opCells] at A;obtain⟨_,g,hcell⟩:=World.cells?_some A;obtain⟨xs,k',X,hxy,_,r,e⟩:=DataW.trod_struct underlying26 O;obtain⟨b,o,t⟩:=a;obtain rfl:t=Z:=hspot;obtain⟨y0,y1,y2,y3,y4,y5,rfl⟩:=six (r.trans<|by rfl);obtain⟨v0,v1,v2,v3,v4,v5,rfl⟩:=six g
  .clear r g;have i:=e 0 _ rfl;have j:=e 1 _ rfl;have u:=e 2 _ rfl;have w:=e 3 _ rfl;have y:=e 4 _ rfl;have z:=e 5 _ rfl;simp[Tryz.intCells,Tryz.byteCells,Tryz.strCells] at i j u w y z;obtain⟨n0,F,_,_⟩:=agl underlying3 i;obtain⟨n1,I,_,_⟩:=agl underlying3 j;obtain⟨n2,J,_,_⟩:=agl underlying3 u;obtain⟨n3,K,_,_⟩:=agl underlying3 w;obtain⟨n4,i4,_,_⟩:=agl underlying5 y;obtain⟨s,i5,_,hs⟩:=DataW.trod_string underlying9 z;simp only[List.cons.injEq,pI] at F I J K i4 i5;subst F I J K i4 i5;have e0:=hcell 0 U;have B:=hcell 1 U;have P:=hcell 2 U;have Q:=hcell 3 U;have R:=hcell 4 U;have S:=hcell 5 U;simp[Go.WideShapes.add_plain] at e0 B P Q R S;exact⟨b,o,n0,n1,n2,n3,n4,s,rfl,by simpa using aek _ _ e0,hs,e0,B,P,Q,R,S⟩
end
end
section
open Go.ChangeShapes Go.WideShapes Go.ChangeAt Go.RowKit Go.Deep
theorem Vg:Tryz.prog.globalNamed "strconv.ErrSyntax" =some 0:=by kernel_rfl
theorem Vh:Tryz.prog.globalNamed "strconv.ErrRange" =some 1:=by kernel_rfl
theorem Vi:Tryz.prog.globalNamed "internal/strconv.uint64pow10" =some 3:=by kernel_rfl
theorem aiY:Tryz.prog.globalNamed "math/bits.deBruijn32tab" =some 4:=by kernel_rfl
theorem aiZ:Tryz.prog.globalNamed "math/bits.deBruijn64tab" =some 5:=by kernel_rfl
theorem ai0:(Tryz.prog.globals[0]?).map (·.type)=K 199:=z
theorem ai1:(Tryz.prog.globals[1]?).map (·.type)=K 199:=z
theorem ai2:(Tryz.prog.globals[3]?).map (·.type)=K 356:=z
theorem Vj: "*" ++ "errors.errorString" = "*errors.errorString" :=by decide
theorem Vk(u:TypeId)(h:Tryz.prog.typeName? 3 u=some "*errors.errorString"):u=359:=
 typeName_ptr_named (nm:= "errors.errorString") (by rw[Vj];kernel_rfl) (by kernel_rfl) (by decide) u (by rw[Vj];exact h)
theorem cellsE:Tryz.prog.cellsOf 361=1:=z
theorem ai3:Tryz.prog.cellsOf 282=1:=z
theorem ai4:Tryz.prog.cellsOf 356=20:=z
theorem Ad{W:G}{n:String}{g:Nat}{cs:Array Y}(b:Tryz.prog.globalNamed n=K g)(a:W.var? prog n=K cs):g<W.heap.size:=by
 simp only[World.var?,b,Option.bind_some] at a;split at a
 .rename_i h;exact apJ h
 .cases a
theorem ai5{W:G}(h:laidMetH prog Rows.printsRow.laid W):Gl W:=by
 rw[MakeChecks.laidMetH_plain _ _ _ z] at h;have e:=h.tail;have a:=e.tail;have f:=a.tail;have p:=f.tail;obtain⟨j,L,c,_,_,_⟩:=laid_sentinel f Vh ai1 underlying199 Vk underlying359 underlying361 rfl rfl underlying9 cellsE Tryz.strCells;obtain⟨o,M,d,_,_,_⟩:=laid_sentinel p Vg ai0 underlying199 Vk underlying359 underlying361 rfl rfl underlying9 cellsE Tryz.strCells;refine⟨?_,⟨_,_,d⟩,⟨_,_,c⟩,?_⟩
 .obtain⟨ps,⟨A,N,l,u,E,I,t,B,b,q,_⟩,_,_⟩:=e;obtain⟨i,⟨C,O,m,w,F,J,v,P,R,r,_⟩,_,_⟩:=h;obtain⟨g,⟨D,T,n,y,H,K,x,Q,S,s,_⟩,_,_⟩:=a;have:=Ad aiZ b;omega
 .exact Lib.tabIs_of_head (k:=.u64) (zs:=Lib.pow10Tab) Vi ai2 underlying356 underlying282 ai3 ai4 a
theorem ai6(os:Os)(a:Array Y):laidMetH prog Rows.printsRow.laid ((World.doorLaid prog 400 os).forCall (λ_ _=>0) ⟨#[],a,[]⟩).memory:=
 laidMetH_of_parts3 (fuel:=8) (laidMet_of_run' 8 z z) z z
end
end Go.Proofs.YtkjhhooecopolaaGreatDoor

import Derived.Test.YtkjhhooecopolaaGreatDoorAz33
set_option maxRecDepth 100000
set_option maxHeartbeats 4000000
namespace Go.Proofs.YtkjhhooecopolaaGreatDoor
open Go.Proofs.Tryz
open Value renaming int->I,agg->u,bool->aC,string->aD,tuple->aG
open IntKind renaming i64->J
open Ending renaming returned->aJ
open Go renaming World->G,Value->Y
open Option renaming some->K,none->Z
open Bool renaming true->aP,false->aQ
section
open Go.RowKit
namespace Gb
open N W
theorem Tr:∀{l l':V Nd},(∀n∈l,N.Can n)->(∀n∈l',N.Can n)->l.map T=l'.map T->l=l'
 |[],[],_,_,_=>rfl
 |[],_::_,_,_,h=>by simp at h
 |_::_,[],_,_,h=>by simp at h
 |a::c,b::B,f,g,h=>by rw[gU,gU] at h;injection h with k m;have e:a=b:=N.qg (f a E) (g b E) (by rw[k];exact N.tm _);rw[e,Tr (λn d=>f n<|by simp[d]) (λn d=>g n<|by simp[d]) m]
theorem lP.eq{rg qE:V (V O)}{r r':Int}{T T':V UInt8}(x:∀e∈o rg,cM e)(f:∀e∈o qE,cM e)(v:g8 (o rg)=g8 (o qE))(d:∀l,∀a b,Sd (o rg) l (takes r) a b↔Sd (o qE) l (takes r') a b)(h:lP rg r T)(s:lP qE r' T'):T=T':=by obtain⟨P,l,c,k,m,t,rfl⟩:=h;obtain⟨q,l',g,n,p,B,rfl⟩:=s;have e:l=l':=Tr k n (by rw[c,g,v]);subst e;exact agv (zr c k m) (zG c x m t) (zr g n p) (zG g f p B)<|d l
theorem lP.det{rg:V (V O)}{r:Int}{T T':V UInt8}(a:∀e∈o rg,cM e)(h:lP rg r T)(b:lP rg r T'):T=T':=lP.eq a a rfl (λ_ _ _=>Aq) h b
end Gb
end
section
open Go.RowKit
variable{wr w':G}{T P base:Nat}{lv:Y}
def pj(s:V UInt8)(r:Int)(T:V UInt8)(E P:Nat):Prop:=
 ((Pl.err s).1≠0/\T=[]/\E=(Pl.err s).1/\P=(Pl.err s).2)\/((Pl.err s).1=0/\N.rule r=aQ/\T=[]/\E=4/\P=0)\/((Pl.err s).1=0/\N.rule r=aP/\lP (Pl.rings s) r T/\E=0/\P=0)
theorem Ts(s:ByteArray)(r:Int)(w:G)(f:s.size<=maxLen)(d:Gl w):
  M 39 #[aD s,I .u8 r] w λe w'=>(∃T E P,e=aJ (aG #[aD (ba T),I J (E:Nat),I J (P:Nat)])/\pj s.data.toList r T E P)/\ag w w':=by by_cases a:(Pl.err s.data.toList).1=0;cases c:N.rule r;refine(agx s r w f d a c).mono ?_;rintro e w' ⟨rfl,b⟩;exact⟨⟨[],4,0,rfl,F<|j ⟨a,c,rfl,rfl,rfl⟩⟩,b⟩;refine(agy s r w f d a c).mono ?_;rintro e w' ⟨⟨T,rfl,g⟩,b⟩;exact⟨⟨T,0,0,rfl,F<|F ⟨a,c,g,rfl,rfl⟩⟩,b⟩;refine(agw s r w f d a).mono ?_;rintro e w' ⟨rfl,b⟩;exact⟨⟨[],_,_,rfl,j ⟨a,rfl,rfl,rfl⟩⟩,b⟩
theorem pj.small{s:V UInt8}{r:Int}{T:V UInt8}{E:Nat}(h:pj s r T E P):E<=4:=by have:=Xr s;rcases h with⟨_,_,h,_⟩|⟨_,_,_,h,_⟩|⟨_,_,_,h,_⟩<;>omega
theorem pj.eq{s s':V UInt8}{r:Int}{T T':V UInt8}{E E' P':Nat}(h:pj s r T E P)(n:pj s' r T' E' P')(g:Pl.err s=Pl.err s')(p:(Pl.err s).1=0->Pl.rings s=Pl.rings s'):T=T'/\E=E'/\P=P':=by rcases h with⟨a,e,f,k⟩|⟨a,e,f,k,a5⟩|⟨a,e,f,k,a5⟩<;>rcases n with⟨c,b,d,l⟩|⟨c,b,d,l,m⟩|⟨c,b,d,l,m⟩;rw[e,f,k,b,d,l,g];exact⟨rfl,rfl,rfl⟩;rw[g] at a;exact absurd c a;rw[g] at a;exact absurd c a;rw[g] at a;exact absurd a c;rw[f,k,a5,d,l,m];exact⟨rfl,rfl,rfl⟩;rw[e] at b;cases b;rw[g] at a;exact absurd a c;rw[e] at b;cases b;rw[<-p a] at d;exact⟨Gb.lP.det (Gz a).2.2.1 f d,U,U⟩
theorem agB(s:ByteArray)(r:Int)(w:G)(i:s.size<=maxLen)(R:Gl w):
  M 18 #[aD s,I .u8 r] w λe w'=>(∃T a P,e=aJ (u #[aD (ba T),I J (a:Nat),I J (P:Nat)])/\pj s.data.toList r T a P)/\ag w w':=by have n:H (∀w1,Gl w1->M 39 #[aD s,I .u8 r] w1 λe w'=>(∃T a P,e=aJ (aG #[aD (ba T),I J (a:Nat),I J (P:Nat)])/\H (pj s.data.toList r T a P))/\ag w1 w'):=λw1 Q=>Ts s r w1 i Q;have l:H (∀T a P,pj s.data.toList r T a P->a<=4):=λT a P h=>h.small;go_enter func18,ntmps18;go_wp2_with fail;have c:ag w (w.alloc<|.cells #[aD ⟨#[]⟩,I J 0,I J 0] 38):=aj _ _;refine(n.o _<|R.alloc _).mono ?_;rintro e w1 ⟨⟨T,a,g,rfl,m⟩,d⟩;have S:=l.o T a g m.o;have p:=hid<|λw1=>Xq a w1 U U;have b:=(d.block _ E).trans<|aa _ _;have t:=bz b;have x:=bw b;have B:=bQ b;have:=bE b 0;have:=bE b 1;have:=bE b 2;have f:=c.trans<|d.mono c.size;clear b S l n;generalize k:ba T=q;go_wp2_with fail;refine(p.o _).mono ?_;rintro e j ⟨rfl,rfl⟩;go_wp2_with fail;refine ab (v:=u #[aD q,I J a,I J g]) (by simp[results,results18,go_sem,t,x,B]) rfl ⟨⟨T,a,g,by rw[k],m.o⟩,?_⟩;exact((f.setCell (aX _) _).setCell (aX _) _).setCell (aX _) _
theorem zK{w w1 w2:G}{o:Obj}{row:Option Nat}(h:Below base w w1)(a:base<=w1.heap.size)(b:(w1.alloc o).grownBy w2 row)(c:∀k,row=K k->base<=k):Below base w w2:=
 (h.alloc a _).grown b aq c
def gJ{α:Type}(T:Nat)(R:G->Y->α->Prop)(base:Nat)(b:Y)(a:V α)(wr:G):Prop:=
 ∃vs:V Y,vs.length=a.length/\wr.ownsRow base T 1 b a.length vs/\∀(i:Nat) u x,vs[i]?=K u->a[i]?=K x->R wr u x
theorem gJ.rd{α:Type}{R:G->Y->α->Prop}{acc:V α}(h:gJ T R base lv acc wr):nJ T R wr lv acc:=by obtain⟨vs,a,b,c⟩:=h;exact⟨vs,a,iF b,c⟩
theorem gJ.keep{α:Type}{ts:V Nat}{R:G->Y->α->Prop}(e:kR ts R){acc:V α}(h:gJ T R base lv acc wr)(b:ag wr w'):gJ T R base lv acc w':=by obtain⟨vs,c,a,d⟩:=h;exact⟨vs,c,bH a λk f=>b.block k (bn a k f).2,λi u x g l=>fk e (d i u x g l) b⟩
theorem gJ.snoc{α:Type}{ts:V Nat}{R:G->Y->α->Prop}(e:kR ts R)(f:T∉ts){nP:Y}{acc:V α}{x:α}{v:Y}{w4 w5:G}{o:Obj}{vs:V Y}(a:vs.length=acc.length)(c:w4.ownsRow base T 1 lv acc.length vs)(d:∀(i:Nat) u x,vs[i]?=K u->acc[i]?=K x->R w4 u x)(n:R w4 v x)
  (g:(w4.alloc o).grownBy w5 lv.ownBlock)(l:w5.ownsRow base T 1 nP (acc.length+1) (vs++[v])):gJ T R base nP (acc++[x]) w5:=by have b:=λ{u:Y}{y:α}(k:R w4 u y)=>td e g (λk h=>fJ c h) f k;exact⟨vs++[v],by simp[a],by rw[bG];exact l,FK a (λi u y m p=>b<|d i u y m p)<|b n⟩
theorem I9{w:G}(h:Gl w)(a:ag w w'):Gl w':=h.below a h.sz
theorem ap8(s:ByteArray)(w:G)(B:s.size<=maxLen)(t:Gl w):
  M 21 #[aD s] w (ai (u #[aD ⟨(Pl.afk s.data.toList).toArray⟩,I J (Pl.err s.data.toList).1,I J (Pl.err s.data.toList).2]) w):=by have k:=hid<|λw1 r=>ap7 s w1 B r;have x:=Xr s.data.toList;generalize(Pl.err s.data.toList).1=a at*;generalize(Pl.err s.data.toList).2=m at*;generalize Pl.afk s.data.toList=l at*;have g:=hid<|λw1=>Xq a w1 U U;clear x;go_enter func21,ntmps21;go_wp2_with fail;have c:ag w (w.alloc<|.cells #[aD ⟨#[]⟩,I J 0,I J 0] 38):=aj _ _;refine(k.out _<|t.alloc _).mono ?_;rintro e w1 ⟨rfl,d⟩;have b:=(d.block _ E).trans<|aa _ _;have n:=bz b;have p:=bw b;have q:=bQ b;have:=bE b 0;have:=bE b 1;have:=bE b 2;have f:=c.trans<|d.mono c.size;clear b;go_wp2_with fail;refine(g.out _).mono ?_;rintro e P ⟨rfl,rfl⟩;go_wp2_with fail;refine ab (v:=u #[aD ⟨l.toArray⟩,I J a,I J m]) (by simp[results,results21,go_sem,n,p,q]) rfl ⟨rfl,?_⟩;exact((f.setCell (aX _) _).setCell (aX _) _).setCell (aX _) _
theorem ap9(x y d:Int)(rule:Y)(s:ByteArray)(w:G)(n:s.size<=maxLen)(k:Gl w):
  M 27 #[u #[I J 3,I J x,I J y,I J d,rule,aD s]] w (ai (aC aP) w):=by have r:=hid<|λw1 g=>ap8 s w1 n g;have q:=hid<|λw1 g=>aod s w1 n g;generalize(Pl.err s.data.toList).1=a at*;generalize(Pl.err s.data.toList).2=v at*;generalize Pl.afk s.data.toList=t at*;go_enter func27,ntmps27;go_wp2_with fail;refine(q.out _<|k.alloc _).mono ?_;rintro e w1 ⟨rfl,c⟩;have l:Gl w1:=(k.alloc _).below c (k.alloc _).sz;have:=(c.cell (p:=⟨w.heap.size,5,Z⟩) E).trans<|apL (aa _ _) 5;go_wp2_with fail;refine(r.out _ l).mono ?_;rintro e B ⟨rfl,m⟩;go_wp2_with fail;go_ret;have b:ag w (w.alloc<|.cells #[I J 3,I J x,I J y,I J d,rule,aD s] 26):=aj _ _;have f:=(b.trans<|c.mono b.size).trans<|m.mono (b.trans<|c.mono b.size).size;exact⟨rfl,f.alloc f.size _⟩
theorem aqN(s:V UInt8)(x y d:Int):(Pl.ae6 s x y d).2.2.1<=5:=by have:=Xr s;unfold Pl.ae6;split;split;exact aX 5;split;exact iq 5;exact iq 5;show(Pl.err s).1<=5;omega
theorem aqO(x y d:Int)(rule:Y)(s:ByteArray)(w:G)(t:s.size<=maxLen)(Q:Gl w):
  M 27 #[u #[I J 2,I J x,I J y,I J d,rule,aD s]] w (ai (aC aP) w):=by have r:=aqN s.data.toList x y d;have q:=hid<|λw1 P=>aoH s x y d w1 t P;have p:=hid<|λw1=>an7 s x y d w1 t;generalize Pl.ae6 s.data.toList x y d=R at*;obtain⟨S,i,B,j⟩:=R;simp only[Pl.afj] at q p r;have v:=hid<|λw1=>Xq B w1 U U;clear r;have f:ag w (w.alloc<|.cells #[I J 2,I J x,I J y,I J d,rule,aD s] 26):=aj _ _;have k:=aa w<|.cells #[I J 2,I J x,I J y,I J d,rule,aD s] 26;have n:w.heap.size<(w.alloc<|.cells #[I J 2,I J x,I J y,I J d,rule,aD s] 26).heap.size:=E;have l:Gl (w.alloc<|.cells #[I J 2,I J x,I J y,I J d,rule,aD s] 26):=Q.alloc _;go_enter func27,ntmps27;go_wp2_with fail;generalize w.alloc (.cells #[I J 2,I J x,I J y,I J d,rule,aD s] 26)=W at*;refine(q.out _ l).mono ?_;rintro e w1 ⟨rfl,g⟩;have b:=(g.block _ n).trans k;have:=bw b;have:=bQ b;have:=bV b;have:=nC b;have a:=f.trans<|g.mono f.size;go_wp2_with fail;refine(p.out _).mono ?_;rintro e o ⟨rfl,m⟩;have c:=a.trans<|m.mono a.size;go_wp2_with fail;refine(v.out _).mono ?_;rintro e z ⟨rfl,rfl⟩;go_wp2_with fail;go_ret;exact⟨rfl,c⟩
end
end Go.Proofs.YtkjhhooecopolaaGreatDoor

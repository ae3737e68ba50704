import Derived.Test.YtkjhhooecopolaaGreatDoorRz02
set_option maxRecDepth 100000
set_option maxHeartbeats 4000000
namespace Go.Proofs.YtkjhhooecopolaaGreatDoor
open Tryz
open Value renaming int->az,complex->aA,float->aB,agg->aC,bool->aD,string->aF,slice->aG,pointer->aH,tuple->aI
open IntKind renaming i64->aJ
open FloatKind renaming f64->aK
open Ending renaming returned->aL
open Go renaming World->aM,Value->aN,floatOfInt->aO
section
open Go.RowKit
variable{A l:List Pl.Tk}{vs xs bs:List aN}{n c rb g cap k pb b B size T:Nat}{o1 o2 o:Obj}{row:Option Nat}{α:Type}{w1 w2 w w4 a w' w5:aM}{rv v:aN}
def qA(p:Ge.Qt):Array aN:= #[az aJ p.1.1,az aJ p.1.2,az aJ p.2.1,az aJ p.2.2]
def gb(p:Ge.Qt):Prop:=aik p.1.1 p.1.2 p.2.1 p.2.2
theorem DB{n d:Int}(hn: -10000000<=n/\n<=10000000)(hd:0<d/\d<=1000000): -10000000000000<=n*d/\n*d<=10000000000000:=
 pN (a:=10000000) (b:=1000000) hn ⟨aa,hd.2⟩
theorem aiz(p q:Ge.Qt)(S1 S2:Int)(h1:Ge.fc p.1 q.1=S1)(h2:Ge.fc p.2 q.2=S2):Ge.pc p q=if S1=0 then S2 else S1:=by
 subst h1 h2;rfl
theorem aiA(p q:Ge.Qt)(w:aM)(hp:gb p)(hq:gb q):
  ak 47 #[aC (qA p),aC (qA q)] w λe w'=>e=aL (az aJ (Ge.pc p q))/\aj w w':=by
 obtain⟨⟨a,b⟩,c,d⟩:=p;obtain⟨⟨a',b'⟩,c',d'⟩:=q;have m1:=DB hp.xn hq.xd;have m2:=DB hq.xn hp.xd;have m3:=DB hp.yn hq.yd;have m4:=DB hq.yn hp.yd;simp only at m1 m2 m3 m4;have H1:Hid (∀w1,ak 49 #[aC #[az aJ a,az aJ b],aC #[az aJ a',az aJ b']] w1 λe w'=>e=aL (az aJ (a*b'-a'*b).sign)/\aj w1 w'):=λw1=>Qr a b a' b' _ _ w1 rfl rfl aa aa
 have H2:Hid (∀w1,ak 49 #[aC #[az aJ c,az aJ d],aC #[az aJ c',az aJ d']] w1 λe w'=>e=aL (az aJ (c*d'-c'*d).sign)/\aj w1 w'):=λw1=>Qr c d c' d' _ _ w1 rfl rfl aa aa
 obtain⟨S1,hS1⟩:∃S1,(a*b'-a'*b).sign=S1:=⟨_,rfl⟩;obtain⟨S2,QE⟩:∃S2,(c*d'-c'*d).sign=S2:=⟨_,rfl⟩;rw[aiz ((a,b),(c,d)) ((a',b'),(c',d')) S1 S2 hS1 QE];rw[hS1] at H1;rw[QE] at H2;simp only[qA];clear hS1 QE;clear m1 m2 m3 m4 hp hq;have hE:((w.alloc (.cells #[az aJ a,az aJ b,az aJ c,az aJ d] 100)).alloc (.cells #[az aJ a',az aJ b',az aJ c',az aJ d'] 100)).heap[w.heap.size]?=some (.cells #[az aJ a,az aJ b,az aJ c,az aJ d] 100 (0,0)):=by
  rw[Below.heap_alloc _ _ _ af];exact heap_alloc_new _ _
 have hP:((w.alloc (.cells #[az aJ a,az aJ b,az aJ c,az aJ d] 100)).alloc (.cells #[az aJ a',az aJ b',az aJ c',az aJ d'] 100)).heap[w.heap.size+1]?=some (.cells #[az aJ a',az aJ b',az aJ c',az aJ d'] 100 (0,0)):=by
  have:=heap_alloc_new (w.alloc (.cells #[az aJ a,az aJ b,az aJ c,az aJ d] 100)) (.cells #[az aJ a',az aJ b',az aJ c',az aJ d'] 100);simpa using this
 have hb0:aj w ((w.alloc (.cells #[az aJ a,az aJ b,az aJ c,az aJ d] 100)).alloc (.cells #[az aJ a',az aJ b',az aJ c',az aJ d'] 100)):=(aw _ _).alloc af _
 have hsz:w.heap.size+2=((w.alloc (.cells #[az aJ a,az aJ b,az aJ c,az aJ d] 100)).alloc (.cells #[az aJ a',az aJ b',az aJ c',az aJ d'] 100)).heap.size:=af
 go_enter func47,ntmps47
 go_wp2_with fail
 generalize(w.alloc (.cells #[az aJ a,az aJ b,az aJ c,az aJ d] 100)).alloc (.cells #[az aJ a',az aJ b',az aJ c',az aJ d'] 100)=W at*;refine(H1.out _).mono ?_;rintro e w1 ⟨rfl,hb1⟩;have jt:=(hb1.block _ (show w.heap.size<W.heap.size by omega)).trans hE
 have iE:=(hb1.block _ (show w.heap.size+1<W.heap.size by omega)).trans hP
 have x2:=dU jt;have x3:=jG jt;have p2:=dU iE;have p3:=jG iE;have iu:=hb0.trans (hb1.mono aa)
 clear hE hP jt iE hb0 hb1;by_cases hs:S1=0
 .subst hs
  go_wp2_with fail
  refine(H2.out _).mono ?_;rintro e w2 ⟨rfl,hb2⟩
  go_wp2_with fail
  go_ret
  exact⟨rfl,iu.trans (hb2.mono iu.size)⟩
 .go_wp2_with fail
  go_ret
  refine⟨?_,iu⟩
  first
   |rfl
   |(rw[aQ hs];rfl)
theorem DC(c:UInt8)(w:aM):
  ak 85 #[az .u8 c.toNat] w λe w'=>e=aL (aD (Pl.isLet c))/\w'=w:=by
 go_enter func85,ntmps85
 go_wp2
 all_goals
  go_ret
  refine⟨uJ ?_,rfl⟩;unfold Pl.isLet;rw[lF];simp;omega
theorem DF(c:UInt8)(w:aM):
  ak 86 #[az .u8 c.toNat] w λe w'=>e=aL (aD (Pl.cu c))/\w'=w:=by
 go_enter func86,ntmps86
 go_wp2
 all_goals
  go_ret
  refine⟨uJ ?_,rfl⟩;unfold Pl.cu;rw[lF];simp;omega
def Pl.rS(t:Pl.Tk):List UInt8:=if t.k=110 then[] else t.raw
def tN(t:Pl.Tk):Array aN:= #[az .u8 t.k,aF ⟨(Pl.rS t).toArray⟩,az aJ t.n,az aJ t.pl]
theorem QF{c:UInt8}(h:Pl.isLet c=true\/Pl.cu c=true\/c.toNat=45\/¬(c.toNat=40\/c.toNat=41\/c.toNat=44\/c.toNat=47)):
  ((c.toNat:Int) == 40)=false/\((c.toNat:Int) == 41)=false/\((c.toNat:Int) == 44)=false/\((c.toNat:Int) == 47)=false:=by
 have h':¬(c.toNat=40\/c.toNat=41\/c.toNat=44\/c.toNat=47):=by
  rcases h with h|h|h|h
  .have:=fV h;omega
  .have:=fV h;omega
  .omega
  .exact h
 simp only[sM];omega
theorem KW(l:List UInt8)(c:UInt8):Pl.fw (l++[c])=10*Pl.fw l+(c.toNat-48):=by simp[Pl.fw]
theorem QG:∀(j:Nat)(l:List UInt8),(∀c∈l,Pl.cu c=true)->Pl.fw (l.take j)<10 ^ j
 |0,l,_=>by simp[Pl.fw]
 |j+1,l,h=>by
  have ih:=QG j l h;by_cases hj:j<l.length
  .rw[pH hj,KW];have:=fV (h l[j] (gZ hj));rw[yD];omega
  .have e:l.take (j+1)=l.take j:=by rw[qw aa,qw aa]
   rw[e,yD];omega
def dY(s:ByteArray)(d:Nat):List UInt8:=(s.data.toList.drop d).takeWhile Pl.cu
theorem Yc(s:ByteArray)(d j:Nat)(hj:j<(dY s d).length):∃h:d+j<s.size,(dY s d)[j]=s[d+j]/\Pl.cu s[d+j]=true:=by
 have hp:=(rq Pl.cu (l:=s.data.toList.drop d));have hl:=hp.length_le;simp at hl;have hd:d+j<s.size:=by unfold dY at hj;omega
 have e:(dY s d)[j]=s[d+j]:=by
  have h1:=hp.getElem (i:=j) hj;unfold dY;rw[h1];simp;rfl
 refine⟨hd,e,?_⟩;rw[<-e];exact F9 _ _ (gZ hj)
theorem Yd(s:ByteArray)(d:Nat)(h:d+(dY s d).length<s.size):Pl.cu s[d+(dY s d).length]=false:=by
 have key:∀(l:List UInt8)(h:(l.takeWhile Pl.cu).length<l.length),Pl.cu l[(l.takeWhile Pl.cu).length]=false:=by
  intro l;induction l with
  |nil=>intro h;simp at h
  |cons a r ih=>
   intro h;by_cases ha:Pl.cu a=true
   .have e:((a::r).takeWhile Pl.cu)=a::r.takeWhile Pl.cu:=by simp[ha]
    simp only[e,dw] at h⊢;exact ih (by simpa using h)
   .have e:((a::r).takeWhile Pl.cu)=[]:=by simp[ha]
    simp only[e,iJ];simpa using ha
 have h2:=key (s.data.toList.drop d) (by simp;unfold dY at h;omega)
 unfold dY at h⊢;rw[List.getElem_drop] at h2;exact h2
def qJ(c:List Pl.Tk):List aN:=c.flatMap λt=>(tN t).toList
theorem Ye(c:List Pl.Tk)(t:Pl.Tk):qJ (c++[t])=qJ c++(tN t).toList:=by simp[qJ]
theorem aiB:(Tryz.prog.info? 61).map (λi=>(i.zero,i.size,i.bytes))=some (some (aC #[az .u8 0,aF ⟨#[]⟩,az aJ 0,az aJ 0]),4,40):=ag
theorem KX(hg:((w1.alloc o1).alloc o2).grownBy w2 row)(hne:row≠some w1.heap.size):
  w2.heap[w1.heap.size]?=some o1/\∀k,k<w1.heap.size->row≠some k->w2.heap[k]?=w1.heap[k]?:=by
 refine⟨?_,λk hk hr=>?_⟩
 .rw[hg.block w1.heap.size (by simp;omega) (λe=>hne e.symm),Below.heap_alloc _ _ _ af]
  exact heap_alloc_new w1 o1
 .rw[hg.block k (by simp;omega) (λe=>hr e.symm),Below.heap_alloc _ _ _ (by simp;omega),Below.heap_alloc _ _ _ hk]
def QH(_s:ByteArray)(w:aM)(c:List Pl.Tk)(lv:aN)(wr:aM):Prop:=
 wr.ownsRow w.heap.size 61 4 lv c.length (qJ c)/\aj w wr/\w.heap.size<=wr.heap.size
theorem Yf(rb:Nat)(s:ByteArray)(A r:List Pl.Tk)(x:Pl.Tk)(rg:List (List (Int×Int)))(w:aM)(hR:RD rb s A (x::r) rg w)(hx:x.k≠110):
  ak 196 #[aH (some ⟨rb,0,none⟩)] w λe w'=>e=aL (aD false)/\RD rb s A (x::r) rg w'/\Below rb w w':=by
 have hlt:=hR.lt;obtain⟨t',r',hl,c0,c1,c2,c3,c4⟩:=hR.cells;injection hl with h1 h2;subst h1 h2
 go_enter func196,ntmps196
 go_wp2_with fail
 refine(Xl rb s A r x _ _ (hR.alloc _) hx).mono ?_;rintro e w1 ⟨rfl,rfl⟩
 go_wp2_with fail
 go_ret
 exact⟨rfl,hR.alloc _,(Below.refl rb w).alloc aa _⟩
theorem aiC(hO:qD)(rb:Nat)(s:ByteArray)(A r:List Pl.Tk)(x y:Pl.Tk)(rg:List (List (Int×Int)))(w:aM)(cx:Cx rb s A)(hR:RD rb s A (x::y::r) rg w)(hG:Gl w)(hx:x.k=110)(hy:y.k≠110):
  ak 196 #[aH (some ⟨rb,0,none⟩)] w λe w'=>e=aL (aD false)/\RD rb s A (y::r) rg w'/\Below rb w w':=by
 have hlt:=hR.lt;obtain⟨t',r',hl,c0,c1,c2,c3,c4⟩:=hR.cells;injection hl with h1 h2;subst h1 h2
 go_enter func196,ntmps196
 go_wp2_with fail
 refine(Qc hO rb s A (y::r) x _ _ cx (hR.alloc _) (hG.alloc _) hx).mono ?_;rintro e w1 ⟨rfl,gI,hb1,hk1⟩;clear c0 c1 c2 c3 c4;obtain⟨t',r',hl,c0,c1,c2,c3,c4⟩:=gI.cells;injection hl with h1 h2;subst h1 h2;have yN:=gI.lt
 go_wp2_with fail
 refine(Xl rb s A r y _ _ (gI.alloc _) hy).mono ?_;rintro e w2 ⟨rfl,rfl⟩
 go_wp2_with fail
 go_ret
 exact⟨rfl,gI.alloc _,(((Below.refl rb w).alloc aa _).trans hb1).alloc aa _⟩
theorem RD.chain{s:ByteArray}{rg:List (List (Int×Int))}(cx:Cx rb s A)(h:RD rb s A l rg w):Pl.jR s.data.toList l:=by
 obtain⟨c,t,r,hc,hl⟩:=h.suffix;exact Pl.PR _ c l (by rw[hc];exact cx.ch) (by rw[hl];simp)
theorem RD.le{s:ByteArray}{rg:List (List (Int×Int))}(h:RD rb s A l rg w):l.length<=A.length:=by
 obtain⟨c,t,r,hc,hl⟩:=h.suffix;rw[<-hc];simp
def y8(rb:Nat)(s:ByteArray)(A:List Pl.Tk)(b:Bool)(l':List Pl.Tk)(DG:List (List (Int×Int)))(w:aM)(e:Ending)(w':aM):Prop:=
 e=aL (aD b)/\(∃rg,RD rb s A l' rg w'/\(b=true->rg=DG))/\Below rb w w'
theorem aiD(hO:qD)(rb:Nat)(s:ByteArray)(A l:List Pl.Tk)(rg:List (List (Int×Int)))(q:List (Int×Int))(w:aM)(cx:Cx rb s A)(hR:RD rb s A l (rg++[q]) w)(hG:Gl w)(hq:q.length<=1000)(hrg:rg.length<=1000):
  ak 196 #[aH (some ⟨rb,0,none⟩)] w (y8 rb s A (Pl.ir l).1 (Pl.ir l).2.1 (rg++[q++[(Pl.ir l).2.2]]) w):=by
 have hch:=hR.chain cx
 match l,hR,hch with
 |[],hR,hch=>exact hch.elim
 |[x],hR,hch=>
  have hx:x.k≠110:=by
   have:x.k=101\/x.k=120:=hch;omega
  refine(Yf rb s A [] x _ w hR hx).mono ?_;rintro e w' ⟨rfl,h1,h2⟩;exact⟨rfl,⟨_,h1,λh=>(by cases h)⟩,h2⟩
 |x::y::r,hR,hch=>
  by_cases hx:x.k=110
  .by_cases hy:y.k=110
   .have e:Pl.ir (x::y::r)=(true,r,(x.n,y.n)):=by simp[Pl.ir,hx,hy]
    rw[e];refine(ahT hO rb s A r x y rg q w cx hR hG hx hy hq hrg).mono ?_;rintro e w' ⟨rfl,h1,h2⟩;exact⟨rfl,⟨_,h1,λ_=>rfl⟩,h2⟩
   .have e:Pl.ir (x::y::r)=(false,y::r,(0,0)):=by simp[Pl.ir,hx,hy]
    rw[e];refine(aiC hO rb s A r x y _ w cx hR hG hx hy).mono ?_;rintro e w' ⟨rfl,h1,h2⟩;exact⟨rfl,⟨_,h1,λh=>(by cases h)⟩,h2⟩
  .have e:Pl.ir (x::y::r)=(false,x::y::r,(0,0)):=by simp[Pl.ir,hx]
   rw[e];refine(Yf rb s A _ x _ w hR hx).mono ?_;rintro e w' ⟨rfl,h1,h2⟩;exact⟨rfl,⟨_,h1,λh=>(by cases h)⟩,h2⟩
theorem wT(h:(Pl.mk c l).1=true):(Pl.mk c l).2.length+1=l.length:=by
 cases l with
 |nil=>simp[Pl.mk] at h
 |cons t r=>
  by_cases hk:t.k=c
  .simp[Pl.mk,hk]
  .simp[Pl.mk,hk] at h
theorem Gw(h:(Pl.mk c l).1=false):(Pl.mk c l).2=l:=by
 cases l with
 |nil=>rfl
 |cons t r=>
  by_cases hk:t.k=c
  .simp[Pl.mk,hk] at h
  .simp[Pl.mk,hk]
theorem QI{item:List Pl.Tk->Bool×List Pl.Tk×α}{acc:List α}(h:(item l).1=false):Pl.gM item (g+1) l acc=(false,(item l).2.1,acc):=by
 rw[Pl.gM,aQ (by rw[h];simp)]
theorem QJ{item:List Pl.Tk->Bool×List Pl.Tk×α}{acc:List α}(h:(item l).1=true)(h2:(Pl.mk 44 (item l).2.1).1=true):
  Pl.gM item (g+1) l acc=Pl.gM item g (Pl.mk 44 (item l).2.1).2 (acc++[(item l).2.2]):=by
 rw[Pl.gM,aV h,aV h2]
theorem QK{item:List Pl.Tk->Bool×List Pl.Tk×α}{acc:List α}(h:(item l).1=true)(h2:(Pl.mk 44 (item l).2.1).1=false):
  Pl.gM item (g+1) l acc=((Pl.mk 41 (item l).2.1).1,(Pl.mk 41 (item l).2.1).2,acc++[(item l).2.2]):=by
 rw[Pl.gM,aV h,aQ (by rw[h2];simp)]
theorem QL(F:Nat)(hc:∀(args:Array aN)(w:aM),(callFunc F args).run prog w=.ok (.enter F args) w)(item:List Pl.Tk->Bool×List Pl.Tk×α)(E:List α->List (List (Int×Int)))(B:List Pl.Tk->List α->Prop)(hO:qD)(rb:Nat)(s:ByteArray)(A:List Pl.Tk)(cx:Cx rb s A)
  (hI:∀l acc w,RD rb s A l (E acc) w->Gl w->B l acc->ak F #[aH (some ⟨rb,0,none⟩)] w (y8 rb s A (item l).1 (item l).2.1 (E (acc++[(item l).2.2])) w))
  (hd:∀l,(item l).1=true->(item l).2.1.length<l.length)
  (hB:∀l acc,B l acc->(item l).1=true->B (Pl.mk 44 (item l).2.1).2 (acc++[(item l).2.2]))
  (f:Nat)(l:List Pl.Tk)(acc:List α)(w:aM)(hR:RD rb s A l (E acc) w)(hG:Gl w)(hBl:B l acc)(hf:l.length<=f):
  ak 149 #[aH (some ⟨rb,0,none⟩),.func (.func F) #[aH (some ⟨rb,0,none⟩)] #[]] w (y8 rb s A (Pl.gM item f l acc).1 (Pl.gM item f l acc).2.1 (E (Pl.gM item f l acc).2.2) w):=by
 generalize hT:Pl.gM item f l acc=T;have HI:Hid (∀l acc w,RD rb s A l (E acc) w->Gl w->B l acc->ak F #[aH (some ⟨rb,0,none⟩)] w (y8 rb s A (item l).1 (item l).2.1 (E (acc++[(item l).2.2])) w)):=hI;have HD:Hid (∀l,(item l).1=true->(item l).2.1.length<l.length):=hd;have HB:Hid (∀l acc,B l acc->(item l).1=true->B (Pl.mk 44 (item l).2.1).2 (acc++[(item l).2.2])):=hB;have HS:Hid (∃l acc,l.length<=f/\RD rb s A l (E acc) w/\Gl w/\B l acc/\Below rb w w/\Pl.gM item f l acc=T):=⟨l,acc,hf,hR,hG,hBl,Below.refl _ _,hT⟩;clear hI hd hB hT hR hG hBl hf
 go_enter func149,ntmps149
 go_wp2_with fail
 go_loopg [6] f (λg s6 wr=>Hid (∃l acc,l.length<=g/\RD rb s A l (E acc) wr/\Gl wr/\B l acc/\Below rb w wr/\Pl.gM item g l acc=T))
 case atStart=>exact HS
 case round=>
  obtain⟨l,acc,hlen,hR,hG,hBl,aW,hT⟩:=hrel.out;have hne:l≠[]:=by
   obtain⟨_,_,_,_,h⟩:=hR.suffix;rw[h];simp
  obtain⟨g1,rfl⟩:∃g1,gk=g1+1:=⟨gk-1,by have:=jE.2 hne;omega⟩
  clear hne;have HR:Hid (Pl.gM item (g1+1) l acc=T):=hT;have HL:Hid (l.length<=g1+1):=hlen;clear hT hlen
  go_wp2_with fail
  clear hc;refine(HI.out l acc wr hR hG hBl).mono ?_;rintro e w1 ⟨rfl,⟨iY,gI,hrg1⟩,hb1⟩;have df:Gl w1:=hG.below hb1 cx.rb;have HE:Hid ((item l).1=true->iY=E (acc++[(item l).2.2])):=hrg1;clear hrg1;cases hi:(item l).1
  .have hT:=HR.out;rw[QI hi] at hT;subst hT;clear HR HE HB HD HI HS hrel
   go_wp2_with fail
   go_ret
   exact⟨rfl,⟨iY,gI,λh=>(by cases h)⟩,aW.trans hb1⟩
  .have hrg:=HE.out hi;subst hrg;clear HE
   go_wp2_with fail
   refine(Du hO 44 ah rb s A _ _ w1 cx gI df).mono ?_
   rintro e w2 ⟨rfl,fB,hb2⟩;have gP:Gl w2:=df.below hb2 cx.rb;simp only[show(44:UInt8).toNat=44 from rfl] at fB⊢
   cases hm:(Pl.mk 44 (item l).2.1).1
   .have hT:=HR.out;rw[QK hi hm] at hT;subst hT;rw[Gw hm] at fB;clear HR HB HD HI HS hrel
    go_wp2_with fail
    refine(Du hO 41 ah rb s A _ _ w2 cx fB gP).mono ?_
    rintro e w3 ⟨rfl,uT,hb3⟩;simp only[show(41:UInt8).toNat=41 from rfl] at uT⊢
    go_wp2_with fail
    go_ret
    exact⟨rfl,⟨_,uT,λ_=>rfl⟩,((aW.trans hb1).trans hb2).trans hb3⟩
   .have hT:=HR.out;rw[QJ hi hm] at hT;have HN:Hid (∃l acc,l.length<=g1/\RD rb s A l (E acc) w2/\Gl w2/\B l acc/\Below rb w w2/\Pl.gM item g1 l acc=T):=by
     refine⟨_,_,?_,fB,gP,HB.out l acc hBl hi,(aW.trans hb1).trans hb2,hT⟩;have q1:=HD.out l hi;have q2:=wT hm;have q3:=HL.out;omega
    clear hT HR
    go_wp2_with fail
    go_roundg g1
    case measure=>omega
    case rel=>exact HN
namespace Pl
theorem DJ(c:Nat)(l:List Tk):(mk c l).2.length<=l.length:=by
 cases l with
 |nil=>simp[mk]
 |cons t r=>by_cases hk:t.k=c<;>simp[mk,hk]
theorem DK{c:Nat}{l:List Tk}(h:(mk c l).1=true):(mk c l).2.length<l.length:=by
 have:=wT h;omega
theorem DL{q:List UInt8}{l:List Tk}(h:(wd q l).1=true):(wd q l).2.length<l.length:=by
 cases l with
 |nil=>simp[wd] at h
 |cons t r=>
  by_cases hk:t.k=119/\t.raw=q
  .simp only[wd];rw[aV hk];simp
  .simp only[wd] at h;rw[aQ hk] at h;cases h
theorem QM(l:List Tk)(h:(ir l).1=true):(ir l).2.1.length<l.length:=by
 match l,h with
 |[],h=>cases h
 |[x],h=>cases h
 |x::y::r,h=>
  by_cases hx:x.k=110
  .by_cases hy:y.k=110
   .simp[ir,hx,hy];omega
   .simp[ir,hx,hy] at h
  .simp[ir,hx] at h
theorem KY{α:Type}(item:List Tk->Bool×List Tk×α)(hd:∀l,(item l).1=true->(item l).2.1.length<l.length):
  ∀(f:Nat)(l:List Tk)(acc:List α),(gM item f l acc).1=true->(gM item f l acc).2.1.length<l.length/\(gM item f l acc).2.2.length+(gM item f l acc).2.1.length<=acc.length+l.length
 |0,l,acc,h=>by cases h
 |f+1,l,acc,h=>by
  cases hi:(item l).1
  .rw[QI hi] at h;cases h
  .have h1:=hd l hi;cases hm:(mk 44 (item l).2.1).1
   .rw[QK hi hm] at h⊢;have h2:=DK h;simp only[bY,dw,iJ];omega
   .rw[QJ hi hm] at h⊢;have ih:=KY item hd f _ _ h;have h2:=DK hm;simp only[bY,dw,iJ] at ih;omega
theorem QN(l:List Tk)(h:(kf l).1=true):(kf l).2.1.length<l.length:=by
 unfold kf at h⊢;by_cases h1:(mk 40 l).1=true
 .have q:=DK h1;rw[aV h1] at h⊢;by_cases h2:(mk 41 (mk 40 l).2).1=true
  .rw[aV h2] at h⊢;have:=DK h2;simp only;omega
  .rw[aQ h2] at h⊢;have:=(KY ir QM _ _ _ h).1;omega
 .rw[aQ h1] at h;cases h
theorem KZ(l:List Tk)(h:(fK l).1=true):(fK l).2.1.length<l.length/\(fK l).2.2.length+(fK l).2.1.length<=l.length:=by
 unfold fK at h⊢;by_cases h0:(wd EMPTY l).1=true
 .rw[aV h0];have:=DL h0;simp only[iJ];omega
 .rw[aQ h0] at h⊢;by_cases h1:(mk 40 l).1=true
  .have q:=DK h1;rw[aV h1] at h⊢;have:=KY kf QN _ _ _ h;simp only[iJ] at this;omega
  .rw[aQ h1] at h;cases h
theorem aiE(l:List Tk)(h:(lZ l).1=true):(lZ l).2.1.length<l.length:=by
 unfold lZ at h⊢;by_cases h0:(wd EMPTY l).1=true
 .rw[aV h0];exact DL h0
 .rw[aQ h0] at h⊢;by_cases h1:(mk 40 l).1=true
  .have q:=DK h1;rw[aV h1] at h⊢;have:=(KY fK (λl h=>(KZ l h).1) _ _ _ h).1
   omega
  .rw[aQ h1] at h;cases h
end Pl
theorem tE.snoc{rg:List (List (Int×Int))}
  (h1:vs.length=rg.length)(h2:w.ownsRow (rb+1) 127 1 rv rg.length vs)
  (h3:∀(i:Nat) v g,vs[i]?=some v->rg[i]?=some g->w.ownsRow (rb+1) 81 1 v g.length (rE g))
  (h4:∀(i j:Nat) v u k,vs[i]?=some v->vs[j]?=some u->v.ownBlock=some k->u.ownBlock=some k->i=j)
  (hgrow:(w.alloc o).grownBy w1 rv.ownBlock)(ho:w1.ownsRow (rb+1) 127 1 (aG (some ⟨g,0,none⟩) (rg.length+1) cap) (rg.length+1) (vs++[aG none 0 0])):
  tE rb (aG (some ⟨g,0,none⟩) (rg.length+1) cap) (rg++[[]]) (w1.setCell ⟨rb,6,none⟩ (aG (some ⟨g,0,none⟩) (rg.length+1) cap)):=by
 refine⟨vs++[aG none 0 0],by simp[h1],?_,?_,?_⟩
 .simp only[bY,dw,iJ,jD];refine bB ho λk hk=>dQ ?_ _
  have:=(bn ho k hk).1;omega
 .intro i v g' hi hg';by_cases hin:i<vs.length
  .rw[fI hin] at hi;rw[fI aa] at hg'
   have hq:=h3 i v g' hi hg';refine bB hq λk hk=>?_
   have:=(bn hq k hk);obtain⟨c,hc⟩:=uN hq hk;rw[dQ aa]
   exact Dt hgrow k this.2 (tF h2 hc ah)
  .have hi2:i=vs.length:=by
    have:=(cG.1 hi).1;simp at this;omega
   subst hi2;have e1:v=aG none 0 0:=by simpa using hi.symm
   have e2:g'=[]:=by rw[h1] at hg';simpa using hg'.symm
   subst e1 e2;exact World.ownsRow_nil _ _ _ _
 .intro i j v u k hi hj hv hu;have key:∀(i:Nat) v,(vs++[Value.slice none 0 0])[i]?=some v->v.ownBlock=some k->vs[i]?=some v:=λi v hi hv=>by
   by_cases hin:i<vs.length
   .rwa[fI hin] at hi
   .have hi2:i=vs.length:=by
     have:=(cG.1 hi).1;simp at this;omega
    subst hi2;have e1:v=aG none 0 0:=by simpa using hi.symm
    subst e1;cases hv
  exact h4 i j v u k (key i v hi hv) (key j u hj hu) hv hu
theorem aiF:(Tryz.prog.info? 127).map (λi=>(i.zero,i.size,i.bytes))=some (some (aG none 0 0),1,24):=ag
theorem aiG(hO:qD)(rb:Nat)(s:ByteArray)(A l:List Pl.Tk)(rg:List (List (Int×Int)))(w:aM)(cx:Cx rb s A)(hR:RD rb s A l rg w)(hG:Gl w)(hrg:rg.length<=1000):
  ak 150 #[aH (some ⟨rb,0,none⟩)] w (y8 rb s A (Pl.kf l).1 (Pl.kf l).2.1 (rg++[(Pl.kf l).2.2]) w):=by
 generalize hT:Pl.kf l=T;have HT:Hid (Pl.kf l=T):=hT;clear hT;obtain⟨i0,hi,hz0,hz1,hz2⟩:=info_parts aiF;have hlt:=hR.lt;obtain⟨c,t,r0,tv,rv,hc,hl,hbk,hown,vs,h1,h2,h3,h4⟩:=id hR;have c6:=FC hbk;have HH:Hid (∀w1 g cap o,(w.alloc o).grownBy w1 rv.ownBlock->w1.ownsRow (rb+1) 127 1 (aG (some ⟨g,0,none⟩) (rg.length+1) cap) (rg.length+1) (vs++[aG none 0 0])->
   RD rb s A l (rg++[[]]) (w1.setCell ⟨rb,6,none⟩ (aG (some ⟨g,0,none⟩) (rg.length+1) cap))/\Below rb w (w1.setCell ⟨rb,6,none⟩ (aG (some ⟨g,0,none⟩) (rg.length+1) cap))):=by
  intro w1 g cap o hgrow ho;have k6:=(Dt hgrow rb hlt (uL h2 rb aa)).trans hbk
  refine⟨⟨c,t,r0,tv,_,hc,hl,heap_set k6 _,bB hown λk hk=>?_,tE.snoc h1 h2 h3 h4 hgrow ho⟩,?_⟩
  .obtain⟨c9,wQ⟩:=uN hown hk;have:=(bn hown k hk);rw[dQ aa]
   exact Dt hgrow k this.2 (tF h2 wQ ah)
  .exact(((Below.refl rb w).alloc (fh hlt) _).grown hgrow (by simp;omega) (λk hk=>by have:=(bn h2 k hk).1;omega)).setCell (aY _) _
 clear h1 h3 h4
 go_enter func150,ntmps150
 go_wp2_with (at_builtin;refine wpList_append_lies _ rfl (.tmp 7) (.tmp 8) 78 rfl (rb+1) 127 i0 _ 1 24 underlying78 hi hz0 hz1 hz2 rfl ah rv rg.length vs rfl (bB h2 (λk hk=>Below.heap_alloc _ _ _ (bn h2 k hk).2)) ⟨w.heap.size,0,none⟩ 1 1 [aG none 0 0] rfl rfl (World.news_of_block (cs:= #[aG none 0 0]) (t:=127) (fr:=(0,0)) (heap_alloc_new w _)) (by simp[Value.oneCell']) ah (by unfold maxLen;omega) aa (by simp;omega) (w.heap.size+1) af ?_;intro g cap w1 ho hgrow hat yN;have hb1:=(Dt hgrow rb hlt (uL h2 rb aa)).trans hbk;have d6:=FC hb1;have f6:=bK hb1 6)
 obtain⟨gI,aW⟩:=HH.out w1 g cap _ hgrow ho;have df:=hG.below aW cx.rb;have hlA:=gI.le;have hcl:=cx.len;clear HH hgrow ho hat yN hb1 d6 f6 c6 h2 hown hbk hl hc hi hz0 hz1 hz2;refine(Du hO 40 ah rb s A l _ _ cx gI df).mono ?_
 rintro e w2 ⟨rfl,fB,hb2⟩;simp only[show(40:UInt8).toNat=40 from rfl] at fB⊢
 have gP:Gl w2:=df.below hb2 cx.rb;cases hm:(Pl.mk 40 l).1
 .have hT:=HT.out;rw[Pl.kf,aQ (by rw[hm];simp)] at hT
  subst hT;rw[Gw hm] at fB;clear HT
  go_wp2_with fail
  go_ret
  exact⟨rfl,⟨_,fB,λh=>(by cases h)⟩,aW.trans hb2⟩
 .go_wp2_with fail
  refine(Du hO 41 ah rb s A _ _ _ cx fB gP).mono ?_
  rintro e w3 ⟨rfl,uT,hb3⟩;simp only[show(41:UInt8).toNat=41 from rfl] at uT⊢
  have tO:Gl w3:=gP.below hb3 cx.rb;cases hm2:(Pl.mk 41 (Pl.mk 40 l).2).1
  .have hT:=HT.out;rw[Pl.kf,aV hm,aQ (by rw[hm2];simp)] at hT
   subst hT;rw[Gw hm2] at uT;have hlm:=Pl.DJ 40 l;clear HT
   go_wp2_with fail
   refine(QL _ Tryz.call196 Pl.ir (λacc=>rg++[acc]) (λl acc=>acc.length+l.length<=1000) hO rb s A cx
    (λl' acc w' hR' Gx hB'=>aiD hO rb s A l' rg acc w' cx hR' Gx aa hrg) Pl.QM
    (λl' acc hB' hi'=>by
     have q1:=Pl.QM l' hi';have q2:=Pl.DJ 44 (Pl.ir l').2.1;simp only[bY,dw,iJ];omega)
    l.length (Pl.mk 40 l).2 [] w3 uT tO (by simp;omega) hlm).mono ?_
   rintro e w4 ⟨rfl,⟨wU,wV,wW⟩,hb4⟩
   go_wp2_with fail
   go_ret
   exact⟨rfl,⟨wU,wV,wW⟩,((aW.trans hb2).trans hb3).trans hb4⟩
  .have hT:=HT.out;rw[Pl.kf,aV hm,aV hm2] at hT;subst hT;clear HT
   go_wp2_with fail
   go_ret
   exact⟨rfl,⟨_,uT,λ_=>rfl⟩,(aW.trans hb2).trans hb3⟩
theorem K0{q:List UInt8}(h:(Pl.wd q l).1=false):(Pl.wd q l).2=l:=by
 cases l with
 |nil=>rfl
 |cons t r=>
  by_cases hk:t.k=119/\t.raw=q
  .simp only[Pl.wd] at h;rw[aV hk] at h;cases h
  .simp only[Pl.wd];rw[aQ hk]
def Pl.dK(l:List Pl.Tk):Bool×List Pl.Tk×List (List (List (Int×Int))):=
 if(Pl.wd Pl.jS l).1=true then((Pl.fK (Pl.wd Pl.jS l).2).1,(Pl.fK (Pl.wd Pl.jS l).2).2.1,[(Pl.fK (Pl.wd Pl.jS l).2).2.2])
 else if(Pl.wd Pl.fA l).1=true then Pl.lZ (Pl.wd Pl.fA l).2
 else(false,l,[])
theorem Yg(hO:qD)(rb:Nat)(s:ByteArray)(A l:List Pl.Tk)(rg:List (List (Int×Int)))(w:aM)(cx:Cx rb s A)(hR:RD rb s A l rg w)(hG:Gl w)(hrg:rg.length+l.length<=1000):
  ak 95 #[aH (some ⟨rb,0,none⟩)] w (y8 rb s A (Pl.fK l).1 (Pl.fK l).2.1 (rg++(Pl.fK l).2.2) w):=by
 generalize hT:Pl.fK l=T;have HT:Hid (Pl.fK l=T):=hT;clear hT;have hlt:=hR.lt
 go_enter func95,ntmps95
 go_wp2_with fail
 refine(KF hO Pl.EMPTY 69 [77,80,84,89] rfl ah rb s A l _ _ cx hR hG).mono ?_
 rintro e w1 ⟨rfl,gI,hb1⟩;have df:Gl w1:=hG.below hb1 cx.rb;cases hm:(Pl.wd Pl.EMPTY l).1
 .rw[K0 hm] at gI
  go_wp2_with fail
  refine(Du hO 40 ah rb s A l _ _ cx gI df).mono ?_
  rintro e w2 ⟨rfl,fB,hb2⟩;simp only[show(40:UInt8).toNat=40 from rfl] at fB⊢
  have gP:Gl w2:=df.below hb2 cx.rb;cases hm2:(Pl.mk 40 l).1
  .have hT:=HT.out;rw[Pl.fK,aQ (by rw[hm];simp),aQ (by rw[hm2];simp)] at hT
   subst hT;rw[Gw hm2] at fB;clear HT
   go_wp2_with fail
   go_ret
   exact⟨rfl,⟨_,fB,λh=>(by cases h)⟩,hb1.trans hb2⟩
  .have hT:=HT.out;rw[Pl.fK,aQ (by rw[hm];simp),aV hm2] at hT
   subst hT;clear HT;have hlm:=Pl.DJ 40 l
   go_wp2_with fail
   refine(QL _ Tryz.call150 Pl.kf (λacc=>rg++acc) (λl acc=>rg.length+acc.length+l.length<=1000) hO rb s A cx
    (λl' acc w' hR' Gx hB'=>by
     rw[<-fH];exact aiG hO rb s A l' (rg++acc) w' cx hR' Gx (by simp;omega)) Pl.QN
    (λl' acc hB' hi'=>by
     have q1:=Pl.QN l' hi';have q2:=Pl.DJ 44 (Pl.kf l').2.1;simp only[bY,dw,iJ];omega)
    l.length (Pl.mk 40 l).2 [] w2 (by simpa using fB) gP (by simp;omega) hlm).mono ?_
   rintro e w4 ⟨rfl,⟨wU,wV,wW⟩,hb4⟩
   go_wp2_with fail
   go_ret
   exact⟨rfl,⟨wU,wV,wW⟩,(hb1.trans hb2).trans hb4⟩
 .have hT:=HT.out;rw[Pl.fK,aV hm] at hT;subst hT;clear HT
  go_wp2_with fail
  go_ret
  exact⟨rfl,⟨_,gI,λ_=>af⟩,hb1⟩
theorem aiH(hO:qD)(rb:Nat)(s:ByteArray)(A l:List Pl.Tk)(rg:List (List (Int×Int)))(w:aM)(cx:Cx rb s A)(hR:RD rb s A l rg w)(hG:Gl w)(hrg:rg.length+l.length<=1000):
  ak 96 #[aH (some ⟨rb,0,none⟩)] w (y8 rb s A (Pl.lZ l).1 (Pl.lZ l).2.1 (rg++(Pl.lZ l).2.2.flatten) w):=by
 generalize hT:Pl.lZ l=T;have HT:Hid (Pl.lZ l=T):=hT;clear hT;have hlt:=hR.lt
 go_enter func96,ntmps96
 go_wp2_with fail
 refine(KF hO Pl.EMPTY 69 [77,80,84,89] rfl ah rb s A l _ _ cx hR hG).mono ?_
 rintro e w1 ⟨rfl,gI,hb1⟩;have df:Gl w1:=hG.below hb1 cx.rb;cases hm:(Pl.wd Pl.EMPTY l).1
 .rw[K0 hm] at gI
  go_wp2_with fail
  refine(Du hO 40 ah rb s A l _ _ cx gI df).mono ?_
  rintro e w2 ⟨rfl,fB,hb2⟩;simp only[show(40:UInt8).toNat=40 from rfl] at fB⊢
  have gP:Gl w2:=df.below hb2 cx.rb;cases hm2:(Pl.mk 40 l).1
  .have hT:=HT.out;rw[Pl.lZ,aQ (by rw[hm];simp),aQ (by rw[hm2];simp)] at hT
   subst hT;rw[Gw hm2] at fB;clear HT
   go_wp2_with fail
   go_ret
   exact⟨rfl,⟨_,fB,λh=>(by cases h)⟩,hb1.trans hb2⟩
  .have hT:=HT.out;rw[Pl.lZ,aQ (by rw[hm];simp),aV hm2] at hT
   subst hT;clear HT;have hlm:=Pl.DJ 40 l
   go_wp2_with fail
   refine(QL _ Tryz.call95 Pl.fK (λacc=>rg++acc.flatten) (λl acc=>rg.length+acc.flatten.length+l.length<=1000) hO rb s A cx
    (λl' acc w' hR' Gx hB'=>by
     have e:rg++(acc++[(Pl.fK l').2.2]).flatten=(rg++acc.flatten)++(Pl.fK l').2.2:=af
     rw[e];exact Yg hO rb s A l' (rg++acc.flatten) w' cx hR' Gx (by rw[bY];exact hB')) (λl h=>(Pl.KZ l h).1)
    (λl' acc hB' hi'=>by
     have q1:=(Pl.KZ l' hi').2;have q2:=Pl.DJ 44 (Pl.fK l').2.1;have e:(acc++[(Pl.fK l').2.2]).flatten.length=acc.flatten.length+(Pl.fK l').2.2.length:=by
      rw[VO,bY];simp
     show rg.length+(acc++[(Pl.fK l').2.2]).flatten.length+(Pl.mk 44 (Pl.fK l').2.1).2.length<=1000;rw[e];omega)
    l.length (Pl.mk 40 l).2 [] w2 (by simpa using fB) gP (by simp;omega) hlm).mono ?_
   rintro e w4 ⟨rfl,⟨wU,wV,wW⟩,hb4⟩
   go_wp2_with fail
   go_ret
   exact⟨rfl,⟨wU,wV,wW⟩,(hb1.trans hb2).trans hb4⟩
 .have hT:=HT.out;rw[Pl.lZ,aV hm] at hT;subst hT;clear HT
  go_wp2_with fail
  go_ret
  exact⟨rfl,⟨_,gI,λ_=>af⟩,hb1⟩
theorem Yh(hO:qD)(rb:Nat)(s:ByteArray)(A l:List Pl.Tk)(w:aM)(cx:Cx rb s A)(hR:RD rb s A l [] w)(hG:Gl w):
  ak 61 #[aH (some ⟨rb,0,none⟩)] w (y8 rb s A (Pl.dK l).1 (Pl.dK l).2.1 (Pl.dK l).2.2.flatten w):=by
 generalize hT:Pl.dK l=T;have HT:Hid (Pl.dK l=T):=hT;clear hT;have hlt:=hR.lt;have hle:=hR.le;have hcl:=cx.len
 go_enter func61,ntmps61
 go_wp2_with fail
 refine(KF hO Pl.jS 80 [79,76,89,71,79,78] rfl ah rb s A l _ _ cx hR hG).mono ?_
 rintro e w1 ⟨rfl,gI,hb1⟩;have df:Gl w1:=hG.below hb1 cx.rb;cases hm:(Pl.wd Pl.jS l).1
 .rw[K0 hm] at gI
  go_wp2_with fail
  refine(KF hO Pl.fA 77 [85,76,84,73,80,79,76,89,71,79,78] rfl ah rb s A l _ _ cx gI df).mono ?_
  rintro e w2 ⟨rfl,fB,hb2⟩;have gP:Gl w2:=df.below hb2 cx.rb;cases hm2:(Pl.wd Pl.fA l).1
  .have hT:=HT.out;rw[Pl.dK,aQ (by rw[hm];simp),aQ (by rw[hm2];simp)] at hT
   subst hT;rw[K0 hm2] at fB;clear HT
   go_wp2_with fail
   go_ret
   exact⟨rfl,⟨_,fB,λh=>(by cases h)⟩,hb1.trans hb2⟩
  .have hT:=HT.out;rw[Pl.dK,aQ (by rw[hm];simp),aV hm2] at hT
   subst hT;clear HT;have hlm:=Pl.DL hm2
   go_wp2_with fail
   refine(aiH hO rb s A _ [] _ cx fB gP (by simp;omega)).mono ?_
   rintro e w3 ⟨rfl,⟨wU,wV,wW⟩,hb4⟩
   go_wp2_with fail
   go_ret
   exact⟨rfl,⟨wU,wV,λh=>by simpa using wW h⟩,(hb1.trans hb2).trans hb4⟩
 .have hT:=HT.out;rw[Pl.dK,aV hm] at hT;subst hT;clear HT;have hlm:=Pl.DL hm
  go_wp2_with fail
  refine(Yg hO rb s A _ [] _ cx gI df (by simp;omega)).mono ?_
  rintro e w3 ⟨rfl,⟨wU,wV,wW⟩,hb4⟩
  go_wp2_with fail
  go_ret
  exact⟨rfl,⟨wU,wV,λh=>by simpa using wW h⟩,hb1.trans hb4⟩
theorem aiI(k:Int)(raw:ByteArray)(n:Int)(p j:Nat)(w:aM)(hp:p<=1000)(hr:raw.size<=1000)(hj:j=p+raw.size):
  ak 195 #[aC #[az aJ k,aF raw,az aJ n,az aJ p]] w λe w'=>e=aL (az aJ j)/\aj w w':=by
 have HJ:Hid (j=p+raw.size):=hj;clear hj
 go_enter func195,ntmps195
 go_wp2
 go_ret
 exact⟨KA (by rw[HJ.out];simp),aw _ _⟩
theorem aiJ:(Tryz.prog.info? 76).map (λi=>(i.zero,i.size,i.bytes))=some (some (aC #[az aJ 0,aF ⟨#[]⟩,az aJ 0,az aJ 0]),4,40):=ag
theorem Gl.drew(h:Gl w):Gl w.drew:=⟨h.sz,h.es,h.er,h.tab⟩
def Yi(rb:Nat)(s:ByteArray)(rv:aN)(tv:aN)(m:Nat)(xs:List aN)(c0 c1 c2 c3:aN)(w w':aM):Prop:=
 (∃DM,w'.heap[rb]?=some (.cells #[aF s,c0,c1,c2,c3,DM,rv] 80 (0,0))/\w'.ownsRow (rb+1) 76 4 DM m xs/\(∀k,DM.ownBlock=some k->tv.ownBlock=some k\/w.heap.size<=k))/\
 (∀k,k<w.heap.size->k≠rb->tv.ownBlock≠some k->w'.heap[k]?=w.heap[k]?)/\Below rb w w'
theorem aiK{s:ByteArray}{k:aN}{raw n p:aN}{tv:aN}{m:Nat}{ys:List aN}{w3:aM}{c0 c1 c2 c3:aN}
  (hb:w.heap[rb]?=some (.cells #[aF s,k,raw,n,p,tv,rv] 80 (0,0)))
  (hown:w.ownsRow (rb+1) 76 4 tv m xs)
  (ho:w1.ownsRow (rb+1) 76 4 (aG (some ⟨g,0,none⟩) (m+1) cap) (m+1) ys)
  (hgrow:(w.alloc o).drew.grownBy w1 tv.ownBlock)(hat:tv.ownBlock=some g\/g=w.heap.size+1)
  (hb3:Below (w1.setCell ⟨rb,5,none⟩ (aG (some ⟨g,0,none⟩) (m+1) cap)).drew.heap.size (w1.setCell ⟨rb,5,none⟩ (aG (some ⟨g,0,none⟩) (m+1) cap)).drew w3)
  (hb4:aj w3 w4):
  Yi rb s rv tv (m+1) ys c0 c1 c2 c3 w ((((w4.setCell ⟨rb,1,none⟩ c0).setCell ⟨rb,2,none⟩ c1).setCell ⟨rb,3,none⟩ c2).setCell ⟨rb,4,none⟩ c3):=by
 have hlt:=lt_of_heap hb;have hs1:w.heap.size+1<=w1.heap.size:=by have:=hgrow.size;simpa using this
 have hW:(w1.setCell ⟨rb,5,none⟩ (aG (some ⟨g,0,none⟩) (m+1) cap)).drew.heap.size=w1.heap.size:=by simp[World.drew]
 have hs3:w1.heap.size<=w3.heap.size:=by have:=hb3.size;rw[hW] at this;exact this
 have hs4:w3.heap.size<=w4.heap.size:=hb4.size;have e1:∀k,k<w1.heap.size->k≠rb->w4.heap[k]?=w1.heap[k]?:=λk hk hne=>by
  rw[hb4.block k aa,hb3.block k (by rw[hW];exact hk)]
  exact dQ hne _
 have e2:∀k,k<w.heap.size->k≠rb->tv.ownBlock≠some k->w4.heap[k]?=w.heap[k]?:=λk hk hne ht=>by
  rw[e1 k aa hne];exact uK hgrow k hk ht
 have hb1:w1.heap[rb]?=some (.cells #[aF s,k,raw,n,p,tv,rv] 80 (0,0)):=(uK hgrow rb hlt (uL hown rb aa)).trans hb
 have K1:w4.heap[rb]?=some (.cells #[aF s,k,raw,n,p,aG (some ⟨g,0,none⟩) (m+1) cap,rv] 80 (0,0)):=by
  rw[hb4.block rb aa,hb3.block rb (by rw[hW];omega)]
  exact heap_set hb1 _
 refine⟨⟨aG (some ⟨g,0,none⟩) (m+1) cap,?_,?_,?_⟩,?_,?_⟩
 .exact heap_set (heap_set (heap_set (heap_set K1 _) _) _) _
 .refine bB ho λk hk=>?_
  obtain⟨q1,q2⟩:=bn ho k hk;rw[dQ aa,dQ aa,dQ aa,dQ aa]
  exact e1 k q2 aa
 .intro k hk;have l8:g=k:=by simpa[Value.ownBlock] using hk
  rcases hat with h|h
  .exact aU (by rw[h,l8])
  .exact aT aa
 .intro k hk hne ht;rw[dQ hne,dQ hne,dQ hne,dQ hne];exact e2 k hk hne ht
 .have q:Below rb w w4:=by
   refine⟨?_,?_,?_,aa,λk hk=>e2 k aa aa (uL hown k aa)⟩
   .rw[hb4.os,hb3.os];exact hgrow.os
   .rw[hb4.tape,hb3.tape];exact hgrow.tape
   .rw[hb4.output,hb3.output];exact hgrow.output
  exact(((q.setCell (aY _) _).setCell (aY _) _).setCell (aY _) _).setCell (aY _) _
theorem aiL(rb:Nat)(s raw:ByteArray)(k n:Int)(p j:Nat)(tv rv:aN)(m:Nat)(xs:List aN)(w:aM)(k':Int)(QO:ByteArray)(n':Int)(p':Nat)
  (hb:w.heap[rb]?=some (.cells #[aF s,az aJ k,aF raw,az aJ n,az aJ p,tv,rv] 80 (0,0)))
  (hown:w.ownsRow (rb+1) 76 4 tv m xs)(hm:m<=1000)(hp:p<=1000)(hr:raw.size<=1000)(hj:j=p+raw.size)(hG:Gl w)(uM:6<=rb)
  (hT:∀w1,Gl w1->ak 60 #[aF s,az aJ j] w1 λe w'=>e=aL (aC #[az aJ k',aF QO,az aJ n',az aJ p'])/\aj w1 w'):
  ak 148 #[aH (some ⟨rb,0,none⟩)] w λe w'=>e=aL (aI #[])/\
   Yi rb s rv tv (m+1) (xs++[az aJ k,aF raw,az aJ n,az aJ p]) (az aJ k') (aF QO) (az aJ n') (az aJ p') w w':=by
 have HJ:Hid (j=p+raw.size):=hj;have HT:Hid (∀w1,Gl w1->ak 60 #[aF s,az aJ j] w1 λe w'=>e=aL (aC #[az aJ k',aF QO,az aJ n',az aJ p'])/\aj w1 w'):=hT
 clear hj hT;obtain⟨i0,hi,hz0,hz1,hz2⟩:=info_parts aiJ;have c0:=cH hb;have c1:=cD hb;have c2:=dU hb;have c3:=jG hb;have c4:=sW hb;have c5:=wF hb;have hlt:=lt_of_heap hb
 go_enter func148,ntmps148
 go_wp2_with fail
 go_region_law (refine step_append_lies _ rfl (.tmp 6) (.tmp 11) 77 rfl (rb+1) 76 i0 _ 4 40 underlying77 hi hz0 hz1 hz2 rfl ah tv m xs (by simp[Act.eval]) (bB hown (λk hk=>Below.heap_alloc _ _ _ (bn hown k hk).2)) ⟨w.heap.size,0,none⟩ 1 1 [az aJ k,aF raw,az aJ n,az aJ p] (by simp[Act.eval]) rfl (World.news_of_block (cs:= #[az aJ k,aF raw,az aJ n,az aJ p]) (t:=76) (fr:=(0,0)) (heap_alloc_new w _)) (by simp[Value.oneCell']) ah (by unfold maxLen;omega) aa (by simp;omega) (w.heap.size+1) af ?_;intro g cap w1 ho hgrow hat yN;have hb1:=(uK hgrow rb hlt (uL hown rb aa)).trans hb;have d5:=wF hb1;have f5:=bK hb1 5)
 all_goals
  have d0:=cH hb1;have d1:=cD hb1;have d2:=dU hb1;have d3:=jG hb1;have d4:=sW hb1;have q1:=bK hb1 1;have q2:=bK hb1 2;have q3:=bK hb1 3;have q4:=bK hb1 4;have Bc:rb<w1.heap.size:=lt_of_heap hb1;have HH:Hid (Gl (w1.setCell ⟨rb,5,none⟩ (aG (some ⟨g,0,none⟩) (m+1) cap)).drew):=by
   have q:Below rb w w1:=((Below.refl _ _).alloc (fh hlt) _).drew.grown hgrow (by show rb<=(w.alloc _).heap.size;simp;omega) (λk hk=>by have:=(bn hown k hk).1;omega)
   exact(hG.below (q.setCell (aY _) _) uM).drew
  clear c0 c1 c2 c3 c4 c5
  go_wp2_with fail
  go_region_with (first
   |(go_at_call 195;refine(aiI _ _ _ _ j _ hp hr HJ.out).mono ?_;rintro e w3 ⟨rfl,hb3⟩;have hx3:w3.heap[rb]?=some (.cells #[aF s,az aJ k,aF raw,az aJ n,az aJ p,aG (some ⟨g,0,none⟩) (m+1) cap,rv] 80 (0,0)):=(hb3.block rb (by simp;omega)).trans (heap_set hb1 _);have x0:=cH hx3)
   |(go_at_call 60;refine(HT.out _ (HH.out.below hb3 (by simp;omega))).mono ?_;rintro e w4 ⟨rfl,hb4⟩;have y9:=(hb4.block rb (lt_of_heap hx3)).trans hx3;have y1:=cD y9;have y2:=dU y9;have y3:=jG y9;have y4:=sW y9;have z1:=bK y9 1;have z2:=bK y9 2;have z3:=bK y9 3;have z4:=bK y9 4))
  all_goals
   go_wp2_with fail
   go_end0
   exact⟨rfl,aiK hb hown ho hgrow hat hb3 hb4⟩
theorem aiM{s:ByteArray}{r:List Pl.Tk}{t:Pl.Tk}{rg:List (List (Int×Int))}(cx:Cx rb s A)(hR:RD rb s A (t::r) rg w)(hG:Gl w)
  (hk:t.k=119\/t.k=110\/t.k=40\/t.k=41\/t.k=44):
  ak 148 #[aH (some ⟨rb,0,none⟩)] w λe w'=>e=aL (aI #[])/\RD rb s A r rg w'/\Below rb w w'/\Kp rb w w':=by
 obtain⟨c,t',r',tv,rv,hc,hl,hb,hown,hrg⟩:=hR;injection hl with h1 h2;subst h1 h2;have hch:Pl.jR s.data.toList (t::r):=Pl.PR _ c _ (by rw[hc];exact cx.ch) af
 obtain⟨u,r',hr,hu,hcr⟩:=Pl.WU _ t r hch aa
 have hpl:=cx.pl t (by rw[<-hc];simp)
 have hsz:s.data.toList.length=s.size:=af
 have hlen:c.length+(r.length+1)<=402:=by have:=cx.len;rw[<-hc] at this;simpa using this
 have aiN:Pl.cM t=t.raw:=by unfold Pl.cM;rw[aQ aa]
 have hp1:=hpl.1;rw[hsz] at hp1;have hrs:(⟨(Pl.cM t).toArray⟩:ByteArray).size=t.raw.length:=by rw[aiN];rfl
 have hs:=cx.hs;refine(aiL rb s _ _ _ t.pl (t.pl+t.raw.length) tv rv c.length (qC c) w (Pl.pk u) ⟨(Pl.cM u).toArray⟩ u.n u.pl hb hown aa aa (by rw[hrs];omega) (by rw[hrs]) hG cx.rb ?_).mono ?_
 .intro w1 g1;have:=W5 Xg s (t.pl+t.raw.length) w1 hp1 cx.hs g1;rw[<-hu] at this;exact this
 .rintro e w' ⟨rfl,⟨⟨DM,hb',hown',htv⟩,pR,aW⟩⟩;refine⟨rfl,⟨c++[t],u,r',DM,rv,by rw[<-hc];simp,hr,hb',?_,?_⟩,aW,?_⟩
  .rw[ahN];simpa[gw] using hown'
  .refine hrg.kept λk cur e hk' he hlt=>?_
   refine pR k (lt_of_heap hk') aa (tF hown hk' ?_)
   rcases he with rfl|rfl<;>decide
  .rintro k o hne ⟨tv0,h0,h1⟩ hk';rw[cell_of hb 5] at h0;injection h0 with h0;subst h0;refine⟨(pR k (lt_of_heap hk') hne h1).trans hk',DM,cell_of hb' 5,λe=>?_⟩
   rcases htv k e with h|h
   .exact h1 h
   .have:=lt_of_heap hk';omega
theorem Yj:qD:=λ_ _ _ _ _ _ _ cx hR hG hk=>aiM cx hR hG hk
def qK(b v:Int):Bool:=decide (-b<=v/\v<=b)
theorem K2(v b:Int)(w:aM)(h0:0<=b)(h1:b<=1000000):
  ak 34 #[az aJ v,az aJ b] w λe w'=>e=aL (aD (qK b v))/\w'=w:=by
 by_cases h: -b<=v
 .go_enter func34,ntmps34
  go_wp2
  go_ret
  exact⟨uJ (by unfold qK;simp[h]),rfl⟩
 .have h':decide (-b<=v)=false:=by simpa using h
  go_enter func34,ntmps34
  go_wp2
  go_ret
  exact⟨uJ (by unfold qK;simp;omega),rfl⟩
theorem Yk(s:ByteArray)(w:aM)(hs:s.size<=400)(hG:Gl w):
  ak 60 #[aF s,az aJ 0] w λe w'=>e=aL (aC (gw (Pl.tk s.data.toList 0)))/\aj w w':=
 W5 Xg s 0 w (iA _) hs hG
theorem aiP(s:List UInt8):∃r,Pl.all s=Pl.tk s 0::r:=Pl.PQ s _ 0
theorem RD.fresh{s:ByteArray}(ho:o=.cells (KD s (Pl.tk s.data.toList 0) (aG none 0 0) (aG none 0 0)) 80 (0,0)):RD w.heap.size s (Pl.all s.data.toList) (Pl.all s.data.toList) [] (w.alloc o):=by
 obtain⟨r,hr⟩:=aiP s.data.toList;refine⟨[],_,r,aG none 0 0,aG none 0 0,rfl,hr,?_,World.ownsRow_nil _ _ _ _,[],rfl,World.ownsRow_nil _ _ _ _,?_,?_⟩
 .rw[heap_alloc_new,ho]
 .intro i v g hi;simp at hi
 .intro i j v u k hi;simp at hi
theorem Cx.mk'{s:ByteArray}(hs:s.size<=400)(uM:6<=rb):Cx rb s (Pl.all s.data.toList):=
 ⟨hs,Pl.Kw _,by have:=Pl.Kz s.data.toList;simp at this;omega,Pl.Ky _,uM⟩
def outT(t:Pl.Tk):Bool:=decide (t.k=110)&& !qK 50 t.n
theorem rI(c:List Pl.Tk)(k:Nat)(t:Pl.Tk)(h:c[k]?=some t)(j:Nat)(hj:j<4):(qC c)[k*4+j]?=(gw t)[j]?:=by
 induction c generalizing k with
 |nil=>simp at h
 |cons a r ih=>
  cases k with
  |zero=>
   have:a=t:=by simpa using h
   subst this;simp only[qC,nI,wq,jD];rw[fI (by simp[gw];omega)]
   simp
  |succ k=>
   have h':r[k]?=some t:=by simpa using h
   have:=ih k h';simp only[qC,nI] at this⊢;rw[nJ (by simp[gw];omega)]
   rw[<-this];congr 1;simp[gw];omega
theorem aiQ(s:ByteArray)(w:aM)(hs:400<s.size)(hm:s.size<=maxLen):
  ak 33 #[aF s] w λe w'=>e=aL (aI #[aH none,az aJ 1,az aJ 0])/\w'=w:=by
 unfold maxLen at hm
 go_enter func33,ntmps33
 go_wp2
 go_ret3
 exact⟨rfl,rfl⟩
theorem aiR(s:ByteArray)(w:aM)(hs:s.size<=400)(hG:Gl w)(l':List Pl.Tk)(t:Pl.Tk)(r:List Pl.Tk)(b:Bool)(v:List (List (List (Int×Int))))
  (hp:Pl.dK (Pl.all s.data.toList)=(b,l',v))(hl:l'=t::r)(hbad:b=false\/t.k≠101):
  ak 33 #[aF s] w λe w'=>e=aL (aI #[aH none,az aJ 2,az aJ t.pl])/\aj w w':=by
 have HP:Hid (Pl.dK (Pl.all s.data.toList)=(b,l',v)):=hp;have HT:Hid (∀w1,Gl w1->ak 60 #[aF s,az aJ 0] w1 λe w'=>e=aL (aC (gw (Pl.tk s.data.toList 0)))/\aj w1 w'):=λw1 g1=>Yk s w1 hs g1
 clear hp;generalize hk:Pl.tk s.data.toList 0=t0 at*;have HK:Hid (Pl.tk s.data.toList 0=t0):=hk;unfold gw at HT;clear hk
 go_enter func33,ntmps33
 go_wp2_with fail
 refine(HT.out _ hG).mono ?_;rintro e w1 ⟨rfl,hb1⟩;have df:Gl w1:=hG.below hb1 hG.sz
 go_wp2_with fail
 have K3:RD w1.heap.size s (Pl.all s.data.toList) (Pl.all s.data.toList) [] (w1.alloc (.cells (KD s t0 (aG none 0 0) (aG none 0 0)) 80)):=RD.fresh (by rw[HK.out])
 have cx:Cx w1.heap.size s (Pl.all s.data.toList):=Cx.mk' hs df.sz;refine(Yh Yj w1.heap.size s _ _ _ cx K3 (df.alloc _)).mono ?_;rintro e w2 ⟨rfl,⟨rg2,fB,hrg2⟩,hb2⟩;rw[HP.out] at fB⊢;simp only at fB⊢;subst hl;obtain⟨t',r',hl,c0,c1,c2,c3,c4⟩:=fB.cells;injection hl with h1 h2;subst h1 h2;have aW:aj w w2:=((hb1.alloc hb1.size _).trans (hb2.mono hb1.size));cases b
 .go_wp2_with fail
  go_quiet (fail)
  go_wp2_with fail
  go_ret3
  exact⟨rfl,⟨aW.os,aW.tape,aW.output,aW.size,aW.block⟩⟩
 .have hk:(Pl.pk t != 1)=true:=by
   rw[yx];intro h;rcases hbad with h'|h'
   .cases h'
   .exact h' (Pl.Xi.1 h)
  go_wp2_with fail
  go_quiet (fail)
  go_wp2_with fail
  go_ret3
  exact⟨rfl,⟨aW.os,aW.tape,aW.output,aW.size,aW.block⟩⟩
structure Fp(pb:Nat)(w w':aM):Prop where
 os:w'.os=w.os
 tape:w'.tape=w.tape
 output:w'.output=w.output
 size:w.heap.size<=w'.heap.size
 block:∀k,k<w.heap.size->k≠pb->w'.heap[k]?=w.heap[k]?
theorem Fp.refl(pb:Nat)(w:aM):Fp pb w w:=⟨rfl,rfl,rfl,aY _,λ_ _ _=>rfl⟩
theorem Fp.trans{b c:aM}(h:Fp pb a b)(k:Fp pb b c):Fp pb a c:=
 ⟨k.os.trans h.os,k.tape.trans h.tape,k.output.trans h.output,fN h.size k.size,λi hi hne=>(k.block i (bW hi h.size) hne).trans (h.block i hi hne)⟩
theorem Fp.drewN(h:Fp pb a w)(n:Nat):Fp pb a (w.drewN n):=⟨h.os,h.tape,h.output,h.size,h.block⟩
theorem Fp.set(h:Fp pb a w)(o:Nat)(v:aN):Fp pb a (w.setCell ⟨pb,o,none⟩ v):=
 ⟨h.os,h.tape,h.output,by simp;exact h.size,λk hk hne=>(dQ hne _).trans (h.block k hk hne)⟩
theorem Fp.of_below(h:aj w w'):Fp pb w w':=⟨h.os,h.tape,h.output,h.size,λk hk _=>h.block k hk⟩
theorem Fp.below(h:Fp pb w w')(B:Nat)(hB:B<=pb)(hs:B<=w.heap.size):Below B w w':=⟨h.os,h.tape,h.output,h.size,λk hk=>h.block k aa aa⟩
theorem Yl(c:List Pl.Tk)(k:Nat)(t:Pl.Tk)(h:c[k]?=some t)(j:Nat)(hj:j<4):(qJ c)[k*4+j]?=(tN t)[j]?:=by
 induction c generalizing k with
 |nil=>simp at h
 |cons a r ih=>
  cases k with
  |zero=>
   have:a=t:=by simpa using h
   subst this;simp only[qJ,nI,wq,jD];rw[fI (by simp[tN];omega)]
   simp
  |succ k=>
   have h':r[k]?=some t:=by simpa using h
   have:=ih k h';simp only[qJ,nI] at this⊢;rw[nJ (by simp[tN];omega)]
   rw[<-this];congr 1;simp[tN];omega
theorem Fp.alloc(h:Fp pb a w)(o:Obj):Fp pb a (w.alloc o):=
 ⟨h.os,h.tape,h.output,by simp;exact Nat.le_succ_of_le h.size,λk hk hne=>(Below.heap_alloc _ _ _ (bW hk h.size)).trans (h.block k hk hne)⟩
theorem Fp.drew(h:Fp pb a w):Fp pb a w.drew:=⟨h.os,h.tape,h.output,h.size,h.block⟩
theorem Ym:(Tryz.prog.info? 196).map (·.size)=some 2:=ag
theorem aiT:liesAt prog Tryz.prog.depth 196 (2/Tryz.prog.cellsOf 196) 0 196 1=true:=ag
theorem aiU(_B b:Nat)(v:aN)(w:aM)(hbk:w.heap[b]?=some (.cells #[aH none,v] 196 (0,0))):
  ak 177 #[aH (some ⟨b,0,none⟩)] w λe w'=>e=aL (aI #[])/\w'=w.setCell ⟨b,0,none⟩ (aH (some ⟨b,0,none⟩)):=by
 have c0:=cH hbk;have f0:=bK hbk 0
 go_enter func177,ntmps177
 have hsh:w.shape? b=some (196,2):=by simp[World.shape?,hbk]
 obtain⟨j,hj,hjs⟩:=rp.1 Ym
 go_wp2
 rw[Lib.run_to_unsafe w ⟨b,0,none⟩ underlying193 underlying290 hj (by rw[hjs];decide) hsh (Nat.zero_lt_succ 1)]
 simp only[Result.andThen];rw[Oper.upon_value]
 go_wp2
 rw[run_callFunc_extern func218 ag ag ag (e:=Extern.AbiNoEscape.same) ag]
 rw[Lib.run_noEscape];simp only[Result.andThen];rw[Oper.upon_value]
 go_wp2
 rw[Lib.run_from_unsafe w ⟨b,0,none⟩ underlying290 underlying193 hj hsh aiT];simp only[Result.andThen];rw[Oper.upon_value]
 go_wp2
 go_end0
 exact⟨rfl,rfl⟩
theorem aiV(b:Nat)(v:aN)(w:aM)(hbk:w.heap[b]?=some (.cells #[aH (some ⟨b,0,none⟩),v] 196 (0,0))):
  ak 177 #[aH (some ⟨b,0,none⟩)] w λe w'=>e=aL (aI #[])/\w'=w:=by
 have c0:=cH hbk
 go_enter func177,ntmps177
 obtain⟨j,hj,_⟩:=rp.1 Ym
 go_wp2
 rw[Lib.run_neq_ptr_same w _ underlying193 hj]
 go_wp2
 go_end0
 exact⟨rfl,rfl⟩
theorem Yn(B b:Nat)(bs:List aN)(w:aM)(h:Lib.IsBuilder 196 5 B b bs w):
  ak 177 #[aH (some ⟨b,0,none⟩)] w λe w'=>e=aL (aI #[])/\Lib.BuilderAt 196 5 B b (aH (some ⟨b,0,none⟩)) bs w'/\Below B w w'/\Lib.OthersKept 5 (some b) w w'/\w'.heap.size=w.heap.size:=by
 rcases h with⟨hB,v,hbk,hown,hne⟩|⟨hB,v,hbk,hown,hne⟩
 .refine(aiU B b v w hbk).mono ?_;rintro e w' ⟨rfl,rfl⟩;refine⟨rfl,⟨hB,v,heap_set hbk _,bB hown λk hk=>dQ (λe=>hne (by rw[hk,e])) _,hne⟩,(Below.refl _ _).setCell hB _,(Lib.OthersKept.refl _ _ _).setCell ⟨b,0,none⟩ rfl _,af⟩
 .refine(aiV b v w hbk).mono ?_;rintro e w' ⟨rfl,rfl⟩;exact⟨rfl,⟨hB,v,hbk,hown,hne⟩,Below.refl _ _,Lib.OthersKept.refl _ _ _,rfl⟩
theorem Yo:(Tryz.prog.info? 5).map (λi=>(i.zero,i.size,i.bytes))=some (some (az .u8 0),1,1):=ag
theorem Yp{e:TypeId}(h:w.ownsRow B e size v n xs):∀g,v.ownBlock=some g->∃c fz,w.heap[g]?=some (.cells c e fz):=λg hg=>by
 obtain⟨c,hc⟩:=uN h hg;exact⟨c,_,hc⟩
theorem Yq(B b:Nat)(bs:List aN)(c:Int)(w:aM)(h:Lib.IsBuilder 196 5 B b bs w)(hBw:B<=w.heap.size)(hlen:bs.length<=1000000):
  ak 118 #[aH (some ⟨b,0,none⟩),az .u8 c] w λe w'=>e=aL .nilIface/\Lib.IsBuilder 196 5 B b (bs++[az .u8 c]) w'/\Below B w w'/\Lib.OthersKept 5 (some b) w w':=by
 obtain⟨i0,hi,hz0,hz1,hz2⟩:=info_parts Yo
 go_enter func118,ntmps118
 go_wp2_with fail
 refine(Yn B b bs _ h).mono ?_;rintro e w1 ⟨rfl,⟨hB,v,hbk,hown,hne⟩,hb1,hk1,hsz⟩;have c1:=cD hbk;have hlt:=lt_of_heap hbk;have Yr:Hid (w1.heap.size=w.heap.size):=hsz;have za:B<=w1.heap.size:=aa
 clear hsz
 go_wp2_with (at_builtin;refine wpList_append_lies _ rfl (.tmp 11) (.tmp 13) 194 rfl B 5 i0 _ 1 1 underlying194 hi hz0 hz1 hz2 rfl ah v bs.length bs rfl (bB hown (λk hk=>Below.heap_alloc _ _ _ (bn hown k hk).2)) ⟨w1.heap.size,0,none⟩ 1 1 [az .u8 c] rfl rfl (World.news_of_block (cs:= #[az .u8 c]) (t:=5) (fr:=(0,0)) (heap_alloc_new w1 _)) (by simp[Value.oneCell']) ah (by unfold maxLen;omega) aa (by simp;omega) (w1.heap.size+1) af ?_;intro g cap w2 ho hgrow hat ki;have hb2:=(Dt hgrow b hlt hne).trans hbk;have d1:=cD hb2;have f1:=bK hb2 1)
 go_ret
 have hgb:g≠b:=λe=>by
  rcases hat with h|h
  .exact hne (by rw[h,e])
  .omega
 refine⟨rfl,aT ⟨hB,_,heap_set hb2 _,?_,λe=>hgb (by simpa[Value.ownBlock] using e)⟩,?_,?_⟩
 .simp only[bY,dw,iJ,jD];exact bB ho λk hk=>dQ (λe=>hgb (by rw[<-e];simpa[Value.ownBlock] using hk)) _
 .exact(((hb1.alloc za _).grown hgrow (by simp;omega) (λk hk=>(bn hown k hk).1))).setCell hB _
 .exact((hk1.alloc _).grown hgrow (λg hg=>by
   obtain⟨c,fz,hc⟩:=Yp hown g hg;exact⟨c,fz,(Below.heap_alloc _ _ _ (lt_of_heap hc)).trans hc⟩)).setCell ⟨b,1,none⟩ rfl _
theorem K4(B b:Nat)(bs:List aN)(s:ByteArray)(w:aM)(h:Lib.IsBuilder 196 5 B b bs w)(hBw:B<=w.heap.size)(hlen:bs.length<=1000000)(hs:s.size<=1000000):
  ak 119 #[aH (some ⟨b,0,none⟩),aF s] w λe w'=>e=aL (aI #[az aJ s.size,.nilIface])/\Lib.IsBuilder 196 5 B b (bs++Lib.strCells s) w'/\Below B w w'/\Lib.OthersKept 5 (some b) w w':=by
 obtain⟨i0,hi,hz0,hz1,hz2⟩:=info_parts Yo
 go_enter func119,ntmps119
 go_wp2_with fail
 refine(Yn B b bs _ h).mono ?_;rintro e w1 ⟨rfl,⟨hB,v,hbk,hown,hne⟩,hb1,hk1,hsz⟩;have c1:=cD hbk;have hlt:=lt_of_heap hbk;have za:B<=w1.heap.size:=aa
 clear hsz
 go_wp2_with (at_builtin;refine Lib.wpList_append_own_string _ rfl (.tmp 12) (.tmp 13) 194 9 rfl B 5 i0 underlying194 underlying9 hi hz0 hz1 hz2 v bs.length bs rfl hown s rfl (by unfold maxLen;omega) aa za ?_)
 intro v' w2 hown' hgrow _;have hb2:=(hgrow.block b hlt (λe=>hne e.symm)).trans hbk
 have d1:=cD hb2;have f1:=bK hb2 1;obtain⟨ao,n',cap,rfl⟩:∃ao n' cap,v'=aG ao n' cap:=by
  rcases hown'.2 with⟨hv,_⟩|⟨g,cap,cur,hv,_⟩
  .exact⟨_,_,_,hv⟩
  .exact⟨_,_,_,hv⟩
 go_wp2
 go_ret2
 have hnb:(Value.slice ao n' cap).ownBlock≠some b:=tF hown' hb2 ah
 refine⟨rfl,aT ⟨hB,_,heap_set hb2 _,?_,hnb⟩,?_,?_⟩
 .have e:(bs++Lib.strCells s).length=bs.length+s.size:=by
   have:=hown'.1;omega
  rw[e];exact bB hown' λk hk=>dQ (λe=>hnb (by rw[hk,e])) _
 .exact(hb1.grown hgrow za (λk hk=>(bn hown k hk).1)).setCell hB _
 .exact(hk1.grown hgrow (Yp hown)).setCell ⟨b,1,none⟩ rfl _
theorem addr_add(g j:Nat):(⟨g,0,none⟩:Addr).add j=⟨g,j,none⟩:=by
 unfold Addr.add;split<;>simp_all
def aiW(s:ByteArray)(l':List Pl.Tk)(v:List (List (List (Int×Int))))(w:aM)(o:Option Pl.Tk)(e:Ending)(w':aM):Prop:=
 aj w w'/\((∃u,o=some u/\e=aL (aI #[aH none,az aJ 3,az aJ u.pl]))\/
  (o=none/\∃rb,e=aL (aI #[aH (some ⟨rb,0,none⟩),az aJ 0,az aJ 0])/\w.heap.size<=rb/\RD rb s (Pl.all s.data.toList) l' v.flatten w'))
theorem QP(p:α->Bool)(c:List α)(k:Nat)(a:α)(h:c[k]?=some a)(hn:(c.take k).find? p=none):
  (p a=false->(c.take (k+1)).find? p=none)/\(p a=true->c.find? p=some a):=by
 have hk:=(cG.1 h).1;have ha:c[k]=a:=(cG.1 h).2;have e:c.take (k+1)=c.take k++[a]:=by rw[pH hk,ha]
 constructor
 .intro hp;rw[e,agz,hn];simp[hp]
 .intro hp;have e2:c=(c.take k++[a])++c.drop (k+1):=by rw[<-e,Fw]
  rw[e2,agz,agz,hn];simp[hp]
theorem aiX(s:ByteArray)(w:aM)(hs:s.size<=400)(hG:Gl w)(t:Pl.Tk)(r c:List Pl.Tk)(v:List (List (List (Int×Int))))
  (hp:Pl.dK (Pl.all s.data.toList)=(true,t::r,v))(ht:t.k=101)(hc:c++t::r=Pl.all s.data.toList)(hc0:0<c.length):
  ak 33 #[aF s] w (aiW s (t::r) v w (c.find? outT)):=by
 have HP:Hid (Pl.dK (Pl.all s.data.toList)=(true,t::r,v)):=hp;have HT:Hid (∀w1,Gl w1->ak 60 #[aF s,az aJ 0] w1 λe w'=>e=aL (aC (gw (Pl.tk s.data.toList 0)))/\aj w1 w'):=λw1 g1=>Yk s w1 hs g1
 have hk1:(Pl.pk t != 1)=false:=by rw[Pl.Xi.2 ht];rfl
 have HC:Hid (c++t::r=Pl.all s.data.toList):=hc;have hcl:c.length<=402:=by
  have:=Pl.Kz s.data.toList;rw[<-hc] at this;simp at this;omega
 clear hp hc ht;generalize hk:Pl.tk s.data.toList 0=t0 at*;have HK:Hid (Pl.tk s.data.toList 0=t0):=hk;unfold gw at HT;clear hk;generalize hF:c.find? outT=F;have HF:Hid (c.find? outT=F):=hF;clear hF
 go_enter func33,ntmps33
 go_wp2_with fail
 refine(HT.out _ hG).mono ?_;rintro e w1 ⟨rfl,hb1⟩;have df:Gl w1:=hG.below hb1 hG.sz
 go_wp2_with fail
 have K3:RD w1.heap.size s (Pl.all s.data.toList) (Pl.all s.data.toList) [] (w1.alloc (.cells (KD s t0 (aG none 0 0) (aG none 0 0)) 80)):=RD.fresh (by rw[HK.out])
 have cx:Cx w1.heap.size s (Pl.all s.data.toList):=Cx.mk' hs df.sz;refine(Yh Yj w1.heap.size s _ _ _ cx K3 (df.alloc _)).mono ?_;rintro e w2 ⟨rfl,⟨rg2,fB,hrg2⟩,hb2⟩;rw[HP.out] at fB hrg2⊢;simp only at fB hrg2⊢;have hrg:=hrg2 trivial;subst hrg;clear hrg2 K3;obtain⟨c',t',r',tv,rv,hc',hl,hbk,hown,Qg⟩:=id fB;injection hl with h1 h2;subst h1 h2;have hcc:c'=c:=by
  have:=HC.out;rw[<-hc'] at this;exact(VQ this).symm
 subst hcc;obtain⟨g,cap,rfl,hg1,hg2⟩:=hown.form hc0;have c1:=cD hbk;have c5:=wF hbk;have hrow:=hown.cells (g:=g) rfl;have oX:Hid (∀j u,(qC c')[j]?=some u->w2.cell? ⟨g,j,none⟩=some u):=λj u h=>by
  have:=hrow j u h;rwa[addr_add] at this
 have aW:aj w w2:=((hb1.alloc hb1.size _).trans (hb2.mono hb1.size));have hw1:w.heap.size<=w1.heap.size:=hb1.size;clear hrow hown Qg hbk hc' HT HP HK
 go_wp2_with fail
 go_loopg [37] c'.length (λn i wr=>∃k:Nat,k+n=c'.length/\i=az aJ k/\Hid ((c'.take k).find? outT=none)/\aj w2 wr)
 case atStart=>exact⟨0,aa,rfl,by show _=_;simp,Below.refl _ _⟩
 case round=>
  obtain⟨k,hkn,rfl,hnone,hbr⟩:=hrel;by_cases hlt:k<c'.length
  .obtain⟨u,hu⟩:∃u,c'[k]?=some u:=⟨_,bo hlt⟩;have HU:Hid (c'[k]?=some u):=hu;have e0:wr.cell? ⟨g,k*4,none⟩=some (az aJ (Pl.pk u)):=by
    rw[hbr.cell (p:=⟨g,k*4,none⟩) hg2];exact oX.out (k*4) (az aJ (Pl.pk u)) (by have:=rI c' k u hu 0 aa;rw[rA] at this;rw[this];rfl)
   have e1:wr.cell? ⟨g,k*4+1,none⟩=some (aF ⟨(Pl.cM u).toArray⟩):=by
    rw[hbr.cell (p:=⟨g,k*4+1,none⟩) hg2];exact oX.out (k*4+1) (aF ⟨(Pl.cM u).toArray⟩) (by rw[rI c' k u hu 1 aa];rfl)
   have e2:wr.cell? ⟨g,k*4+2,none⟩=some (az aJ u.n):=by
    rw[hbr.cell (p:=⟨g,k*4+2,none⟩) hg2];exact oX.out (k*4+2) (az aJ u.n) (by rw[rI c' k u hu 2 aa];rfl)
   have e3:wr.cell? ⟨g,k*4+3,none⟩=some (az aJ u.pl):=by
    rw[hbr.cell (p:=⟨g,k*4+3,none⟩) hg2];exact oX.out (k*4+3) (az aJ u.pl) (by rw[rI c' k u hu 3 aa];rfl)
   clear hu;by_cases K5:u.k=110
   .have tP:Pl.pk u=3:=Pl.yQ.2 K5;rw[tP] at e0;cases hin:qK 50 u.n
    .have ho:F=some u:=by
      rw[<-HF.out];exact(QP outT c' k u HU.out hnone.out).2 (by unfold outT;simp[K5,hin])
     subst ho
     go_wp2_with fail
     refine(K2 u.n 50 _ aa aa).mono ?_
     rintro e w3 ⟨rfl,rfl⟩
     go_wp2_with fail
     go_quiet (fail)
     go_wp2_with fail
     go_ret3
     refine⟨?_,aU ⟨u,rfl,rfl⟩⟩;have q:aj w (wr.alloc (.cells #[az aJ 3,aF ⟨(Pl.cM u).toArray⟩,az aJ u.n,az aJ u.pl] 76)):=(aW.trans (hbr.mono aW.size)).alloc (fN aW.size hbr.size) _;exact⟨q.os,q.tape,q.output,q.size,q.block⟩
    .have hn:Hid ((c'.take (k+1)).find? outT=none):=(QP outT c' k u HU.out hnone.out).1 (by unfold outT;simp[hin])
     go_wp2_with fail
     refine(K2 u.n 50 _ aa aa).mono ?_
     rintro e w3 ⟨rfl,rfl⟩
     go_wp2_with fail
     go_roundg (gk-1)
     case measure=>omega
     case rel=>exact⟨k+1,aa,ai,hn,hbr.alloc hbr.size _⟩
   .have hn:Hid ((c'.take (k+1)).find? outT=none):=(QP outT c' k u HU.out hnone.out).1 (by unfold outT;simp[K5])
    have tP:(Pl.pk u == 3)=false:=by
     rw[sM];intro h;exact K5 (Pl.yQ.1 h)
    generalize Pl.pk u=pku at*
    go_wp2_with fail
    go_roundg (gk-1)
    case measure=>omega
    case rel=>exact⟨k+1,aa,ai,hn,hbr.alloc hbr.size _⟩
  .have ho:F=none:=by
    rw[<-HF.out];have:=hnone.out;rwa[qw aa] at this
   subst ho
   go_wp2_with fail
   go_ret3
   exact⟨aW.trans (hbr.mono aW.size),aT ⟨rfl,w1.heap.size,rfl,hw1,fB.below hbr⟩⟩
namespace Pl
def wr(t:Tk):List UInt8:=if t.k=110 then Lib.itoa t.n else cM t
def bb(a b:Tk):Bool:=decide (cM a=[44])||(decide (a.k=110)&&decide (b.k=110))
def fM:Tk->List Tk->List UInt8
 |_,[]=>[]
 |p,t::r=>(if bb p t=true then[32] else[])++(wr t++fM t r)
def wt:List Tk->List UInt8
 |[]=>[]
 |[t]=>wr t
 |a::b::r=>wr a++([32]++(wr b++fM b r))
theorem aiZ(p:Tk)(l:List Tk)(x:Tk):fM p (l++[x])=fM p l++((if bb ((p::l).getLast af) x=true then[32] else[])++wr x):=by
 induction l generalizing p with
 |nil=>
  simp only[sI,fM,qu,List.getLast_singleton];rfl
 |cons a r ih=>
  rw[lU,fM,ih a,fM];rw[List.getLast_cons (by simp:a::r≠[])]
  simp[List.append_assoc]
theorem ai0(a b:Tk)(r:List Tk)(x:Tk):wt (a::b::r++[x])=wt (a::b::r)++((if bb ((b::r).getLast af) x=true then[32] else[])++wr x):=by
 show wr a++([32]++(wr b++fM b (r++[x])))=_;rw[aiZ];simp[wt,List.append_assoc]
theorem K6(c:List Tk)(k:Nat)(x y:Tk)(hx:c[k]?=some x)(hy:2<=k->c[k-1]?=some y):
  wt (c.take (k+1))=wt (c.take k)++((if k=0 then[] else if k=1 then[32] else if bb y x=true then[32] else[])++wr x):=by
 have hk:=(cG.1 hx).1;have ex:c[k]=x:=(cG.1 hx).2;have e:c.take (k+1)=c.take k++[x]:=by rw[pH hk,ex]
 rw[e];by_cases h0:k=0
 .subst h0;simp[wt]
 .by_cases h1:k=1
  .subst h1;obtain⟨a,r,hc⟩:∃a r,c=a::r:=by
    cases c with
    |nil=>simp at hk
    |cons a r=>exact⟨a,r,rfl⟩
   subst hc;simp[wt,fM]
  .rw[aQ h0,aQ h1];have hy':=hy aa
   match c,hk,hx,hy' with
   |[],hk,_,_=>simp at hk
   |[_],hk,_,_=>simp at hk;omega
   |a::b::r,hk,hx,hy'=>
    obtain⟨m,rfl⟩:∃m,k=m+2:=⟨k-2,aa⟩
    simp only[Fk];rw[ai0];have hl:(b::r.take m).getLast af=y:=by
     have h2:(b::r)[m]?=some y:=by simpa using hy'
     rw[List.getLast_eq_getElem];have hm:m<=r.length:=by simp at hk;omega
     have h3:(b::List.take m r)[m]?=some y:=by
      rw[<-Fk,kQ,aV aa]
      exact h2
     have h4:=(cG.1 h3);have h5:(b::List.take m r).length-1=m:=by simp;omega
     simp only[h5];exact h4.2
    rw[hl]
end Pl
theorem K7(t:Pl.Tk)(w:aM)(hG:Gl w)(hn:t.k=110-> -9223372036854775808<=t.n/\t.n<=9223372036854775807):
  ak 120 #[aC #[az aJ (Pl.pk t),aF ⟨(Pl.cM t).toArray⟩,az aJ t.n,az aJ t.pl]] w λe w'=>e=aL (aF ⟨(Pl.wr t).toArray⟩)/\aj w w':=by
 by_cases hk:t.k=110
 .have e:Pl.wr t=Lib.itoa t.n:=by unfold Pl.wr;rw[aV hk]
  rw[e,Pl.yQ.2 hk];obtain⟨kT,tD⟩:=hn hk;clear hn;have HI:Hid (∀w1,Gl w1->ak 146 #[az aJ t.n] w1 λe w'=>e=aL (aF ⟨(Lib.itoa t.n).toArray⟩)/\aj w1 w'):=λw1 g1=>by
   refine(Tryz.strconv_Itoa t.n kT tD w1 g1.tab).mono ?_;rintro e w' ⟨rfl,k,os,rfl⟩;exact⟨rfl,Lib.below_grow _ _ (aY _) _ _⟩
  clear kT tD
  go_enter func120,ntmps120
  go_wp2_with fail
  refine(HI.out _ (hG.alloc _)).mono ?_;rintro e w1 ⟨rfl,hb⟩
  go_wp2_with fail
  go_ret
  exact⟨rfl,(aw _ _).trans (hb.mono af)⟩
 .have e:Pl.wr t=Pl.cM t:=by unfold Pl.wr;rw[aQ hk]
  rw[e];have tP:(Pl.pk t == 3)=false:=by
   rw[sM];intro h;exact hk (Pl.yQ.1 h)
  generalize Pl.pk t=pku at*
  go_enter func120,ntmps120
  go_wp2
  go_ret
  exact⟨rfl,aw _ _⟩
theorem ai1(a b:Pl.Tk)(w:aM):
  ak 117 #[aC #[az aJ (Pl.pk a),aF ⟨(Pl.cM a).toArray⟩,az aJ a.n,az aJ a.pl],aC #[az aJ (Pl.pk b),aF ⟨(Pl.cM b).toArray⟩,az aJ b.n,az aJ b.pl]] w λe w'=>e=aL (aD (Pl.bb a b))/\aj w w':=by
 have aW:∀o1 o2,aj w ((w.alloc o1).alloc o2):=λo1 o2=>(aw _ _).alloc af _
 have hc:((⟨(Pl.cM a).toArray⟩:ByteArray).toList == [44])=decide (Pl.cM a=[44]):=by
  rw[ByteArray.toList_eq,lF];simp
 cases h1:decide (Pl.cM a=[44])
 .rw[h1] at hc;have e1:Pl.bb a b=(decide (a.k=110)&&decide (b.k=110)):=by unfold Pl.bb;rw[h1];rfl
  rw[e1];have hpa:(Pl.pk a == 3)=decide (a.k=110):=by
   rw[lF];simp[Pl.yQ]
  have hpb:(Pl.pk b == 3)=decide (b.k=110):=by
   rw[lF];simp[Pl.yQ]
  generalize(⟨(Pl.cM a).toArray⟩:ByteArray)=ra at*;generalize(⟨(Pl.cM b).toArray⟩:ByteArray)=rb at*;generalize decide (a.k=110)=da at*;generalize decide (b.k=110)=db at*;generalize Pl.pk a=pa at*;generalize Pl.pk b=pb at*;clear h1 e1;cases da
  .go_enter func117,ntmps117
   go_wp2
   go_ret
   exact⟨rfl,aW _ _⟩
  .go_enter func117,ntmps117
   go_wp2
   go_ret
   exact⟨uJ af,aW _ _⟩
 .rw[h1] at hc;have e1:Pl.bb a b=true:=by unfold Pl.bb;rw[h1];rfl
  rw[e1];generalize(⟨(Pl.cM a).toArray⟩:ByteArray)=ra at*;clear h1 e1
  go_enter func117,ntmps117
  go_wp2
  go_ret
  exact⟨rfl,aW _ _⟩
theorem DN(h:Lib.IsBuilder 196 5 B b bs w)(hb:aj w w'):Lib.IsBuilder 196 5 B b bs w':=by
 rcases h with⟨hB,v,hbk,hown,hne⟩|⟨hB,v,hbk,hown,hne⟩
 .exact aU ⟨hB,v,(hb.block b (lt_of_heap hbk)).trans hbk,bB hown λk hk=>hb.block k (bn hown k hk).2,hne⟩
 .exact aT ⟨hB,v,(hb.block b (lt_of_heap hbk)).trans hbk,bB hown λk hk=>hb.block k (bn hown k hk).2,hne⟩
theorem Yt(l:List UInt8):Lib.byteCells l++[az .u8 32]=Lib.byteCells (l++[32]):=by simp[Lib.byteCells]
theorem K8(l r:List UInt8):Lib.byteCells l++Lib.strCells ⟨r.toArray⟩=Lib.byteCells (l++r):=by simp[Lib.byteCells,Lib.strCells]
def Wrote(w:aM)(c:List Pl.Tk)(k:Nat)(wr:aM):Prop:=
 Lib.IsBuilder 196 5 w.heap.size w.heap.size (Lib.byteCells (Pl.wt (c.take k))) wr/\aj w wr/\Gl wr/\w.heap.size<wr.heap.size
theorem Gl.drewN(h:Gl w)(n:Nat):Gl (w.drewN n):=⟨h.sz,h.es,h.er,h.tab⟩
theorem DR(h:Below B w w')(n:Nat):Below B w (w'.drewN n):=⟨h.os,h.tape,h.output,h.size,h.block⟩
theorem Yu(h:Lib.IsBuilder 196 5 B b bs w):Lib.IsBuilder 196 5 B b bs (w.drewN n):=h
theorem K9(hb:Below (w.alloc o).drew.heap.size (w.alloc o).drew w1){p:Addr}(hp:w.cell? p=some v):w1.cell? p=some v:=by
 have h:=World.block_lt_of_cell? w p hp;rw[hb.cell (p:=p) (by show p.block<(w.alloc o).heap.size;rw[World.size_alloc];omega)]
 exact(World.cell?_alloc_lt _ _ _ h).trans hp
theorem ai2(hb:Below (w.alloc o).drew.heap.size (w.alloc o).drew w1):w1.heap[w.heap.size]?=some o:=
 (hb.block w.heap.size (by show w.heap.size<(w.alloc o).heap.size;rw[World.size_alloc];omega)).trans (heap_alloc_new w o)
theorem Yv(c:List Pl.Tk)(hw:∀t∈c,(Pl.wr t).length<=400):∀k,(Pl.wt (c.take k)).length<=k*401
 |0=>by simp[Pl.wt]
 |k+1=>by
  have ih:=Yv c hw k;by_cases hk:k<c.length
  .have hx:c[k]?=some c[k]:=bo hk;have hl:=hw c[k] (gZ hk);have hy:2<=k->c[k-1]?=some (c[k-1]' aa):=λ_=>bo aa
   rw[Pl.K6 c k c[k] (c[k-1]' aa) hx hy]
   simp only[bY];have:(if k=0 then([]:List UInt8) else if k=1 then[32] else if Pl.bb (c[k-1]' aa) c[k]=true then[32] else[]).length<=1:=by
    repeat' split
    all_goals simp
   omega
  .have e:c.take (k+1)=c.take k:=by rw[qw aa,qw aa]
   rw[e];exact fN ih (JP _ (pI _))
theorem ai3(c:List Pl.Tk)(g cap:Nat)(w:aM)(hG:Gl w)(hg:g<w.heap.size)(hrow:∀j u,(qC c)[j]?=some u->w.cell? ⟨g,j,none⟩=some u)
  (hc:c.length<=402)(hw:∀t∈c,(Pl.wr t).length<=400)(hn:∀t∈c,t.k=110-> -9223372036854775808<=t.n/\t.n<=9223372036854775807):
  ak 70 #[aG (some ⟨g,0,none⟩) c.length cap] w λe w'=>e=aL (aF ⟨(Pl.wt c).toArray⟩)/\aj w w':=by
 have oX:Hid (∀j u,(qC c)[j]?=some u->w.cell? ⟨g,j,none⟩=some u):=hrow;have HW:Hid (∀t∈c,(Pl.wr t).length<=400):=hw;have HN:Hid (∀t∈c,t.k=110-> -9223372036854775808<=t.n/\t.n<=9223372036854775807):=hn;have HS:Hid (Wrote w c 0 (w.alloc (.cells #[aH none,aG none 0 0] 196))):=⟨Lib.fresh_isBuilder 196 5 w,aw _ _,hG.alloc _,af⟩
 clear hrow hw hn
 go_enter func70,ntmps70
 go_wp2_with fail
 go_loopg [8] c.length (λn i wr=>∃k:Nat,k+n=c.length/\i=az aJ k/\Hid (Wrote w c k wr))
 case atStart=>exact⟨0,aa,rfl,HS⟩
 case round=>
  obtain⟨k,hkn,rfl,hwr⟩:=hrel;obtain⟨hB,aW,uU,hsz⟩:=hwr.out;by_cases hlt:k<c.length
  .obtain⟨u,hu⟩:∃u,c[k]?=some u:=⟨_,bo hlt⟩;have hmem:u∈c:=bT hu;have Gy:=Yv c HW.out k;have hul:=HW.out u hmem;have HU:Hid (u.k=110-> -9223372036854775808<=u.n/\u.n<=9223372036854775807):=HN.out u hmem;have e0:wr.cell? ⟨g,k*4,none⟩=some (az aJ (Pl.pk u)):=by
    rw[aW.cell (p:=⟨g,k*4,none⟩) hg];exact oX.out (k*4) (az aJ (Pl.pk u)) (by have:=rI c k u hu 0 aa;rw[rA] at this;rw[this];rfl)
   have e1:wr.cell? ⟨g,k*4+1,none⟩=some (aF ⟨(Pl.cM u).toArray⟩):=by
    rw[aW.cell (p:=⟨g,k*4+1,none⟩) hg];exact oX.out (k*4+1) (aF ⟨(Pl.cM u).toArray⟩) (by rw[rI c k u hu 1 aa];rfl)
   have e2:wr.cell? ⟨g,k*4+2,none⟩=some (az aJ u.n):=by
    rw[aW.cell (p:=⟨g,k*4+2,none⟩) hg];exact oX.out (k*4+2) (az aJ u.n) (by rw[rI c k u hu 2 aa];rfl)
   have e3:wr.cell? ⟨g,k*4+3,none⟩=some (az aJ u.pl):=by
    rw[aW.cell (p:=⟨g,k*4+3,none⟩) hg];exact oX.out (k*4+3) (az aJ u.pl) (by rw[rI c k u hu 3 aa];rfl)
   have yR:(wr.alloc (.cells #[az aJ (Pl.pk u),aF ⟨(Pl.cM u).toArray⟩,az aJ u.n,az aJ u.pl] 76)).heap[wr.heap.size]?=some (.cells #[az aJ (Pl.pk u),aF ⟨(Pl.cM u).toArray⟩,az aJ u.n,az aJ u.pl] 76 (0,0)):=heap_alloc_new wr _;have hBa:=DN hB ((Below.refl _ _).alloc (aY _) (.cells #[az aJ (Pl.pk u),aF ⟨(Pl.cM u).toArray⟩,az aJ u.n,az aJ u.pl] 76));have zb:=uU.alloc (.cells #[az aJ (Pl.pk u),aF ⟨(Pl.cM u).toArray⟩,az aJ u.n,az aJ u.pl] 76);have La:=aW.alloc aW.size (.cells #[az aJ (Pl.pk u),aF ⟨(Pl.cM u).toArray⟩,az aJ u.n,az aJ u.pl] 76);have QQ:Hid (c[k]?=some u):=hu;clear hu;by_cases wL:k=0
   .have HT:Hid (Pl.wt (c.take (k+1))=Pl.wt (c.take k)++Pl.wr u):=by
     have:=Pl.K6 c k u u QQ.out (λh=>aa)
     rw[aV wL,sI] at this;exact this
    have hq1:((k:Int) == 1)=false:=by simp;omega
    have hq2:decide (1<(k:Int))=false:=by simp;omega
    clear wL
    go_wp2_with fail
    go_quiet (fail)
    have qL:Lib.IsBuilder 196 5 w.heap.size w.heap.size _ ((wr.alloc (.cells #[az aJ (Pl.pk u),aF ⟨(Pl.cM u).toArray⟩,az aJ u.n,az aJ u.pl] 76)).drewN nq):=Yu hBa;have hx1:((wr.alloc (.cells #[az aJ (Pl.pk u),aF ⟨(Pl.cM u).toArray⟩,az aJ u.n,az aJ u.pl] 76)).drewN nq).heap[wr.heap.size]?=_:=yR;have df:Gl ((wr.alloc (.cells #[az aJ (Pl.pk u),aF ⟨(Pl.cM u).toArray⟩,az aJ u.n,az aJ u.pl] 76)).drewN nq):=zb.drewN nq;have iu:aj w ((wr.alloc (.cells #[az aJ (Pl.pk u),aF ⟨(Pl.cM u).toArray⟩,az aJ u.n,az aJ u.pl] 76)).drewN nq):=DR La nq;have y0:((wr.alloc (.cells #[az aJ (Pl.pk u),aF ⟨(Pl.cM u).toArray⟩,az aJ u.n,az aJ u.pl] 76)).drewN nq).cell? ⟨wr.heap.size,0,none⟩=some (az aJ (Pl.pk u)):=cell_of hx1 0;have y1:((wr.alloc (.cells #[az aJ (Pl.pk u),aF ⟨(Pl.cM u).toArray⟩,az aJ u.n,az aJ u.pl] 76)).drewN nq).cell? ⟨wr.heap.size,1,none⟩=some (aF ⟨(Pl.cM u).toArray⟩):=cell_of hx1 1;have y2:((wr.alloc (.cells #[az aJ (Pl.pk u),aF ⟨(Pl.cM u).toArray⟩,az aJ u.n,az aJ u.pl] 76)).drewN nq).cell? ⟨wr.heap.size,2,none⟩=some (az aJ u.n):=cell_of hx1 2;have y3:((wr.alloc (.cells #[az aJ (Pl.pk u),aF ⟨(Pl.cM u).toArray⟩,az aJ u.n,az aJ u.pl] 76)).drewN nq).cell? ⟨wr.heap.size,3,none⟩=some (az aJ u.pl):=cell_of hx1 3
    go_wp2_with fail
    refine(K7 u _ df HU.out).mono ?_;rintro e w3 ⟨rfl,hb3⟩;have Bd:=DN qL hb3;have iM:=iu.trans (hb3.mono iu.size);have tO:=df.below hb3 df.sz
    go_wp2_with fail
    refine(K4 w.heap.size w.heap.size _ ⟨(Pl.wr u).toArray⟩ w3 Bd (fN iu.size hb3.size) (by simp[Lib.byteCells];omega) (by show(Pl.wr u).toArray.size<=_;simp;omega)).mono ?_
    rintro e w4 ⟨rfl,hB4,hb4,_⟩;rw[K8] at hB4
    go_wp2_with fail
    go_roundg (gk-1)
    case measure=>omega
    case rel=>exact⟨k+1,aa,ai,⟨by rw[HT.out];exact hB4,iM.trans hb4,tO.below hb4 hG.sz,by have h1:=hb3.size;have h2:=hb4.size;simp at h1;omega⟩⟩
   .obtain⟨m,rfl⟩:∃m,k=m+1:=⟨k-1,aa⟩
    clear wL;by_cases hk1:m=0
    .have HT:Hid (Pl.wt (c.take (m+1+1))=Pl.wt (c.take (m+1))++[32]++Pl.wr u):=by
      have:=Pl.K6 c (m+1) u u QQ.out (λh=>aa)
      rw[aQ aa,aV aa,<-fH] at this
      exact this
     have hq1:((m:Int)+1 == 1)=true:=by simp;omega
     clear hk1
     go_wp2_with fail
     go_quiet (fail)
     have Gz:Lib.IsBuilder 196 5 w.heap.size w.heap.size _ ((wr.alloc (.cells #[az aJ (Pl.pk u),aF ⟨(Pl.cM u).toArray⟩,az aJ u.n,az aJ u.pl] 76)).drewN nq):=Yu hBa;have QR:((wr.alloc (.cells #[az aJ (Pl.pk u),aF ⟨(Pl.cM u).toArray⟩,az aJ u.n,az aJ u.pl] 76)).drewN nq).heap[wr.heap.size]?=_:=yR;have Lb:Gl ((wr.alloc (.cells #[az aJ (Pl.pk u),aF ⟨(Pl.cM u).toArray⟩,az aJ u.n,az aJ u.pl] 76)).drewN nq):=zb.drewN nq;have DT:aj w ((wr.alloc (.cells #[az aJ (Pl.pk u),aF ⟨(Pl.cM u).toArray⟩,az aJ u.n,az aJ u.pl] 76)).drewN nq):=DR La nq;have uV:w.heap.size<((wr.alloc (.cells #[az aJ (Pl.pk u),aF ⟨(Pl.cM u).toArray⟩,az aJ u.n,az aJ u.pl] 76)).drewN nq).heap.size:=by show _<(wr.alloc _).heap.size;simp;omega
     go_wp2_with fail
     refine(Yq w.heap.size w.heap.size _ 32 _ Gz DT.size (by simp[Lib.byteCells];omega)).mono ?_
     rintro e w2 ⟨rfl,qL,hb2,hk2⟩;rw[Yt] at qL;have hx1:=hk2 wr.heap.size _ QR (by simp;omega) (by intro c fz h;cases h)
     have df:Gl w2:=Lb.below hb2 hG.sz;have iu:aj w w2:=DT.trans hb2;have hz1:w.heap.size<w2.heap.size:=by have:=hb2.size;omega
     have y0:=cH hx1;have y1:=cD hx1;have y2:=dU hx1;have y3:=jG hx1
     go_wp2_with fail
     refine(K7 u _ df HU.out).mono ?_;rintro e w3 ⟨rfl,hb3⟩;have Bd:=DN qL hb3;have iM:=iu.trans (hb3.mono iu.size);have tO:=df.below hb3 df.sz
     go_wp2_with fail
     refine(K4 w.heap.size w.heap.size _ ⟨(Pl.wr u).toArray⟩ w3 Bd (fN iu.size hb3.size) (by simp[Lib.byteCells];omega) (by show(Pl.wr u).toArray.size<=_;simp;omega)).mono ?_
     rintro e w4 ⟨rfl,hB4,hb4,_⟩;rw[K8] at hB4
     go_wp2_with fail
     go_roundg (gk-1)
     case measure=>omega
     case rel=>exact⟨(m+1)+1,aa,ai,⟨by rw[HT.out];exact hB4,iM.trans hb4,tO.below hb4 hG.sz,by have h0:=hz1;have h1:=hb3.size;have h2:=hb4.size;omega⟩⟩
    .obtain⟨y,hy⟩:∃y,c[m]?=some y:=⟨_,bo aa⟩
     have z0:wr.cell? ⟨g,m*4,none⟩=some (az aJ (Pl.pk y)):=by
      rw[aW.cell (p:=⟨g,m*4,none⟩) hg];exact oX.out (m*4) (az aJ (Pl.pk y)) (by have:=rI c m y hy 0 aa;rw[rA] at this;rw[this];rfl)
     have z1:wr.cell? ⟨g,m*4+1,none⟩=some (aF ⟨(Pl.cM y).toArray⟩):=by
      rw[aW.cell (p:=⟨g,m*4+1,none⟩) hg];exact oX.out (m*4+1) (aF ⟨(Pl.cM y).toArray⟩) (by rw[rI c m y hy 1 aa];rfl)
     have z2:wr.cell? ⟨g,m*4+2,none⟩=some (az aJ y.n):=by
      rw[aW.cell (p:=⟨g,m*4+2,none⟩) hg];exact oX.out (m*4+2) (az aJ y.n) (by rw[rI c m y hy 2 aa];rfl)
     have z3:wr.cell? ⟨g,m*4+3,none⟩=some (az aJ y.pl):=by
      rw[aW.cell (p:=⟨g,m*4+3,none⟩) hg];exact oX.out (m*4+3) (az aJ y.pl) (by rw[rI c m y hy 3 aa];rfl)
     have rJ:=Pl.K6 c (m+1) u y QQ.out (λh=>hy)
     rw[aQ aa,aQ aa] at rJ
     have mS:Hid (Pl.wt (c.take (m+1+1))=Pl.wt (c.take (m+1))++((if Pl.bb y u=true then[32] else[])++Pl.wr u)):=rJ
     have hq1:((m:Int)+1 == 1)=false:=by simp;omega
     have hq2:(1:Int)<(m:Int)+1:=aa
     have hgr:g<wr.heap.size:=aa
     have kU:(m:Int)<(c.length:Int):=aa
     have asX:(0:Int)<=(m:Int):=aa
     have DU:m<c.length:=aa
     have ai4:IntKind.i64.wrap (m:Int)=(m:Int):=by rw[IntKind.wrap_i64];omega
     have ai5:IntKind.i64.wrap ((m:Int)+1-1)=(m:Int):=by rw[IntKind.wrap_i64];omega
     clear rJ hy hk1
     go_wp2_with fail
     go_region_held3 (λw'=>w'.cell? ⟨g,m*4,none⟩=some (az aJ (Pl.pk y))/\w'.cell? ⟨g,m*4+1,none⟩=some (aF ⟨(Pl.cM y).toArray⟩)/\w'.cell? ⟨g,m*4+2,none⟩=some (az aJ y.n)/\w'.cell? ⟨g,m*4+3,none⟩=some (az aJ y.pl)/\w'.cell? ⟨wr.heap.size,0,none⟩=some (az aJ (Pl.pk u))/\w'.cell? ⟨wr.heap.size,1,none⟩=some (aF ⟨(Pl.cM u).toArray⟩)/\w'.cell? ⟨wr.heap.size,2,none⟩=some (az aJ u.n)/\w'.cell? ⟨wr.heap.size,3,none⟩=some (az aJ u.pl)) (go_keep) (first |(go_at_call 117;refine(ai1 y u _).mono ?_;rintro e w1 ⟨rfl,hb1⟩;have hz0:wr.heap.size<w1.heap.size:=(by have h:=hb1.size;simp at h;omega);have q0:=K9 hb1 z0;have q1:=K9 hb1 z1;have q2:=K9 hb1 z2;have q3:=K9 hb1 z3;have GA:=ai2 hb1;have p0:=cH GA;have p1:=cD GA;have p2:=dU GA;have p3:=jG GA))
     have rK:Below (wr.alloc (.cells #[az aJ (Pl.pk u),aF ⟨(Pl.cM u).toArray⟩,az aJ u.n,az aJ u.pl] 76)).heap.size (wr.alloc (.cells #[az aJ (Pl.pk u),aF ⟨(Pl.cM u).toArray⟩,az aJ u.n,az aJ u.pl] 76)) w1:=⟨hb1.os,hb1.tape,hb1.output,hb1.size,hb1.block⟩;have Gz:Lib.IsBuilder 196 5 w.heap.size w.heap.size _ w1:=DN hBa rK;have QR:=GA;have Lb:Gl w1:=zb.below rK zb.sz;have DT:aj w w1:=La.trans (rK.mono La.size);have uV:w.heap.size<w1.heap.size:=aa
     clear z0 z1 z2 z3 q0 q1 q2 q3 ai4 ai5;cases hbb:Pl.bb y u
     .have qL:=Gz;have df:=Lb;have iu:=DT;have hz1:=uV
      go_wp2_with fail
      refine(K7 u _ df HU.out).mono ?_;rintro e w3 ⟨rfl,hb3⟩;have Bd:=DN qL hb3;have iM:=iu.trans (hb3.mono iu.size);have tO:=df.below hb3 df.sz
      go_wp2_with fail
      refine(K4 w.heap.size w.heap.size _ ⟨(Pl.wr u).toArray⟩ w3 Bd (fN iu.size hb3.size) (by simp[Lib.byteCells];omega) (by show(Pl.wr u).toArray.size<=_;simp;omega)).mono ?_
      rintro e w4 ⟨rfl,hB4,hb4,_⟩;rw[K8] at hB4
      go_wp2_with fail
      go_roundg (gk-1)
      case measure=>omega
      case rel=>exact⟨m+1+1,aa,ai,⟨by rw[mS.out,hbb,aQ af,sI];exact hB4,iM.trans hb4,tO.below hb4 hG.sz,by have h0:=hz1;have h1:=hb3.size;have h2:=hb4.size;omega⟩⟩
     .clear p0 p1 p2 p3
      go_wp2_with fail
      refine(Yq w.heap.size w.heap.size _ 32 _ Gz DT.size (by simp[Lib.byteCells];omega)).mono ?_
      rintro e w2 ⟨rfl,qL,hb2,hk2⟩;rw[Yt] at qL;have hx1:=hk2 wr.heap.size _ QR (by simp;omega) (by intro c fz h;cases h)
      have df:Gl w2:=Lb.below hb2 hG.sz;have iu:aj w w2:=DT.trans hb2;have hz1:w.heap.size<w2.heap.size:=by have:=hb2.size;omega
      have y0:=cH hx1;have y1:=cD hx1;have y2:=dU hx1;have y3:=jG hx1
      go_wp2_with fail
      refine(K7 u _ df HU.out).mono ?_;rintro e w3 ⟨rfl,hb3⟩;have Bd:=DN qL hb3;have iM:=iu.trans (hb3.mono iu.size);have tO:=df.below hb3 df.sz
      go_wp2_with fail
      refine(K4 w.heap.size w.heap.size _ ⟨(Pl.wr u).toArray⟩ w3 Bd (fN iu.size hb3.size) (by simp[Lib.byteCells];omega) (by show(Pl.wr u).toArray.size<=_;simp;omega)).mono ?_
      rintro e w4 ⟨rfl,hB4,hb4,_⟩;rw[K8] at hB4
      go_wp2_with fail
      go_roundg (gk-1)
      case measure=>omega
      case rel=>exact⟨m+1+1,aa,ai,⟨by rw[mS.out,hbb,aV rfl,<-fH];exact hB4,iM.trans hb4,tO.below hb4 hG.sz,by have h0:=hz1;have h1:=hb3.size;have h2:=hb4.size;omega⟩⟩
  .have GC:k=c.length:=aa
   subst GC;rw[fO] at hB
   go_wp2_with fail
   refine(Tryz.Builder_String_any w.heap.size w.heap.size (Pl.wt c) _ hB aW.size).mono ?_;rintro e w3 ⟨rfl,hb3⟩
   go_wp2_with fail
   go_ret
   exact⟨rfl,aW.trans hb3⟩
namespace Pl
def Goes(s:List UInt8)(l l':List Tk):Prop:=(∃c,c++l'=l)/\jR s l'
theorem Goes.refl{s:List UInt8}{l:List Tk}(h:jR s l):Goes s l l:=⟨⟨[],rfl⟩,h⟩
theorem Goes.trans{s:List UInt8}{a b c:List Tk}(h:Goes s a b)(k:Goes s b c):Goes s a c:=by
 obtain⟨⟨x,hx⟩,_⟩:=h;obtain⟨⟨y,hy⟩,hc⟩:=k;exact⟨⟨x++y,by rw[fH,hy,hx]⟩,hc⟩
theorem Goes.tail{s:List UInt8}{t:Tk}{r:List Tk}(h:jR s (t::r))(hk:¬(t.k=101\/t.k=120)):Goes s (t::r) r:=by
 obtain⟨u,r',_,_,hc⟩:=WU s t r h hk;exact⟨⟨[t],rfl⟩,hc⟩
theorem DV{s:List UInt8}{c:Nat}{l:List Tk}(h:jR s l)(hc:c≠101/\c≠120):Goes s l (mk c l).2:=by
 cases l with
 |nil=>exact h.elim
 |cons t r=>
  by_cases hk:t.k=c
  .have e:mk c (t::r)=(true,r):=by simp[mk,hk]
   rw[e];exact Goes.tail h aa
  .have e:mk c (t::r)=(false,t::r):=by simp[mk,hk]
   rw[e];exact Goes.refl h
theorem Lc{s:List UInt8}{q:List UInt8}{l:List Tk}(h:jR s l):Goes s l (wd q l).2:=by
 cases l with
 |nil=>exact h.elim
 |cons t r=>
  by_cases hk:t.k=119/\t.raw=q
  .have e:wd q (t::r)=(true,r):=by simp only[wd];rw[aV hk]
   rw[e];exact Goes.tail h aa
  .have e:wd q (t::r)=(false,t::r):=by simp only[wd];rw[aQ hk]
   rw[e];exact Goes.refl h
theorem ai6{s:List UInt8}(l:List Tk)(h:jR s l):Goes s l (ir l).2.1:=by
 match l,h with
 |[],h=>exact h.elim
 |[x],h=>exact Goes.refl h
 |x::y::r,h=>
  by_cases hx:x.k=110
  .have g1:=Goes.tail h aa
   by_cases hy:y.k=110
   .have e:ir (x::y::r)=(true,r,(x.n,y.n)):=by simp[ir,hx,hy]
    rw[e];exact g1.trans (Goes.tail g1.2 aa)
   .have e:ir (x::y::r)=(false,y::r,(0,0)):=by simp[ir,hx,hy]
    rw[e];exact g1
  .have e:ir (x::y::r)=(false,x::y::r,(0,0)):=by simp[ir,hx]
   rw[e];exact Goes.refl h
theorem Ld{s:List UInt8}{α:Type}(item:List Tk->Bool×List Tk×α)(hi:∀l,jR s l->Goes s l (item l).2.1):
  ∀(f:Nat)(l:List Tk)(acc:List α),jR s l->Goes s l (gM item f l acc).2.1
 |0,l,acc,h=>Goes.refl h
 |f+1,l,acc,h=>by
  have g1:=hi l h;cases h1:(item l).1
  .rw[QI h1];exact g1
  .cases h2:(mk 44 (item l).2.1).1
   .rw[QK h1 h2];exact g1.trans (DV g1.2 aa)
   .rw[QJ h1 h2];have g2:=DV (c:=44) g1.2 aa
    exact(g1.trans g2).trans (Ld item hi f _ _ g2.2)
theorem ai7{s:List UInt8}(l:List Tk)(h:jR s l):Goes s l (kf l).2.1:=by
 unfold kf;have g1:=DV (c:=40) h aa
 split
 .split
  .exact g1.trans (DV g1.2 aa)
  .exact g1.trans (Ld ir ai6 _ _ _ g1.2)
 .exact Goes.refl h
theorem Yw{s:List UInt8}(l:List Tk)(h:jR s l):Goes s l (fK l).2.1:=by
 unfold fK;split
 .exact Lc h
 .have g1:=DV (c:=40) h aa
  split
  .exact g1.trans (Ld kf ai7 _ _ _ g1.2)
  .exact Goes.refl h
theorem ai8{s:List UInt8}(l:List Tk)(h:jR s l):Goes s l (lZ l).2.1:=by
 unfold lZ;split
 .exact Lc h
 .have g1:=DV (c:=40) h aa
  split
  .exact g1.trans (Ld fK Yw _ _ _ g1.2)
  .exact Goes.refl h
theorem Yx{s:List UInt8}(l:List Tk)(h:jR s l):Goes s l (dK l).2.1:=by
 unfold dK;split
 .have g1:=Lc (q:=jS) h;exact g1.trans (Yw _ g1.2)
 .split
  .have g1:=Lc (q:=fA) h;exact g1.trans (ai8 _ g1.2)
  .exact Goes.refl h
theorem Yy(l:List Tk)(h:(dK l).1=true):(dK l).2.1.length<l.length:=by
 unfold dK at h⊢;by_cases h1:(wd jS l).1=true
 .rw[aV h1] at h⊢;have:=DL h1;have:=(KZ _ h).1;simp only;omega
 .rw[aQ h1] at h⊢;by_cases h2:(wd fA l).1=true
  .rw[aV h2] at h⊢;have:=DL h2;have:=aiE _ h;omega
  .rw[aQ h2] at h;cases h
def hk(l:List Tk):Nat:=match l with |[]=>0|t::_=>t.k
def hpl(l:List Tk):Nat:=match l with |[]=>0|t::_=>t.pl
def took(s:List UInt8):List Tk:=(all s).take ((all s).length-(dK (all s)).2.1.length)
def err(s:List UInt8):Nat×Nat:=
  if 400<s.length then(1,0)
  else if(dK (all s)).1=true/\hk (dK (all s)).2.1=101 then
    (match(took s).find? outT with
     | some u=>(3,u.pl)
     | none=>(0,0))
  else(2,hpl (dK (all s)).2.1)
theorem Le(s:List UInt8):took s++(dK (all s)).2.1=all s:=by
 obtain⟨⟨c,hc⟩,_⟩:=Yx (all s) (Kw s);unfold took;have:(all s).length=c.length+(dK (all s)).2.1.length:=by
  conv=>lhs;rw[<-hc]
  simp
 rw[this,agA]
 conv=>lhs;lhs;rw[<-hc]
 rw[List.take_left];exact hc
end Pl
def Yz(s:ByteArray)(w:aM)(e:Ending)(w':aM):Prop:=
 aj w w'/\∃pv,e=aL (aI #[aH pv,az aJ (Pl.err s.data.toList).1,az aJ (Pl.err s.data.toList).2])/\
  ((Pl.err s.data.toList).1=0->∃rb,pv=some ⟨rb,0,none⟩/\w.heap.size<=rb/\RD rb s (Pl.all s.data.toList) (Pl.dK (Pl.all s.data.toList)).2.1 (Pl.dK (Pl.all s.data.toList)).2.2.flatten w')
theorem DW(s:ByteArray)(w:aM)(hm:s.size<=maxLen)(hG:Gl w):
  ak 33 #[aF s] w (Yz s w):=by
 have hsz:s.data.toList.length=s.size:=af
 by_cases hs:400<s.size
 .refine(aiQ s w hs hm).mono ?_;rintro e w' ⟨rfl,rfl⟩;have he:Pl.err s.data.toList=(1,0):=by unfold Pl.err;rw[aV aa]
  refine⟨Below.refl _ _,none,?_,?_⟩
  .rw[he];rfl
  .rw[he];intro h;cases h
 .have hs':s.size<=400:=aa
  have hg:=Pl.Yx (Pl.all s.data.toList) (Pl.Kw s.data.toList);have gQ:=Pl.Le s.data.toList;have qM:Pl.err s.data.toList=if(Pl.dK (Pl.all s.data.toList)).1=true/\Pl.hk (Pl.dK (Pl.all s.data.toList)).2.1=101 then
    (match(Pl.took s.data.toList).find? outT with |some u=>(3,u.pl)|none=>(0,0)) else(2,Pl.hpl (Pl.dK (Pl.all s.data.toList)).2.1):=by
   unfold Pl.err;rw[aQ aa]
  have hlt:=Pl.Yy (Pl.all s.data.toList);unfold Yz;rcases hp:Pl.dK (Pl.all s.data.toList) with⟨b,l',v⟩;rw[hp] at hg gQ qM hlt;simp only at hg gQ qM hlt⊢;obtain⟨t,r,rfl⟩:∃t r,l'=t::r:=by
   cases l' with
   |nil=>exact hg.2.elim
   |cons t r=>exact⟨t,r,rfl⟩
  by_cases hok:b=true/\t.k=101
  .obtain⟨rfl,ht⟩:=hok;have hc0:0<(Pl.took s.data.toList).length:=by
    have h1:=hlt rfl;have h2:=aZ List.length gQ;simp only[bY] at h2;omega
   refine(aiX s w hs' hG t r (Pl.took s.data.toList) v hp ht gQ hc0).mono ?_;rintro e w' ⟨aW,hr⟩;rw[aV ⟨rfl,ht⟩] at qM;refine⟨aW,?_⟩;rcases hr with⟨u,hu,rfl⟩|⟨hu,rb,rfl,h1,h2⟩
   .rw[hu] at qM;simp only at qM;refine⟨none,by rw[qM];rfl,?_⟩
    rw[qM];intro h;cases h
   .rw[hu] at qM;simp only at qM;exact⟨_,by rw[qM];rfl,λ_=>⟨rb,rfl,h1,h2⟩⟩
  .rw[aQ (by exact hok)] at qM
   refine(aiR s w hs' hG (t::r) t r b v hp rfl (by
    by_cases hb:b=true
    .exact aT (λh=>hok ⟨hb,h⟩)
    .exact aU (by simpa using hb))).mono ?_
   rintro e w' ⟨rfl,aW⟩;refine⟨aW,none,by rw[qM];rfl,?_⟩
   rw[qM];intro h;cases h
theorem Fp.QS(h:Fp pb w w4)(hg:((w4.alloc o1).alloc o2).grownBy w5 row)(hrow:∀k,row=some k->w.heap.size<=k):Fp pb w w5:=by
 refine⟨hg.os.trans h.os,hg.tape.trans h.tape,hg.output.trans h.output,?_,λk hk hne=>?_⟩
 .have h1:=hg.size;have h2:=h.size;simp at h1;omega
 .have h2:=h.size;rw[hg.block k (by simp;omega) (λer=>by have:=hrow k er.symm;omega),Below.heap_alloc _ _ _ (by simp;omega),Below.heap_alloc _ _ _ aa]
  exact h.block k hk hne
def ze{α:Type}(ts:List Nat)(R:aM->aN->α->Prop):Prop:=
 ∀(w w':aM) v x,R w v x->(∀(k:Nat)(cur:Array aN)(e:TypeId),w.heap[k]?=some (Obj.cells cur e (0,0))->e∈ts->w'.heap[k]?=w.heap[k]?)->R w' v x
def Be{α:Type}(T:Nat)(R:aM->aN->α->Prop)(w:aM)(v:aN)(xs:List α):Prop:=
 ∃vs:List aN,vs.length=xs.length/\w.ownsRow 0 T 1 v xs.length vs/\∀(i:Nat) u x,vs[i]?=some u->xs[i]?=some x->R w u x
theorem zg{e:TypeId}(h:w.ownsRow b e size v n xs):w.ownsRow 0 e size v n xs:=by
 obtain⟨h1,h2⟩:=h;rcases h2 with h2|⟨g,cap,cur,hv,_,r⟩
 .exact⟨h1,aU h2⟩
 .exact⟨h1,aT ⟨g,cap,cur,hv,iA _,r⟩⟩
theorem Bf{e:TypeId}(h:w.ownsRow b e size v n xs)
  (hk:∀(k:Nat)(cur:Array aN),w.heap[k]?=some (Obj.cells cur e (0,0))->w'.heap[k]?=w.heap[k]?):w'.ownsRow b e size v n xs:=
 bB h λk hk'=>by
  obtain⟨c,hc⟩:=uN h hk';exact hk k c hc
theorem YA{ts:List Nat}{R:aM->aN->α->Prop}(hR:ze ts R):ze (T::ts) (Be T R):=by
 intro w w' v xs h hk;obtain⟨vs,h1,h2,h3⟩:=h;exact⟨vs,h1,Bf h2 λk cur hc=>hk k cur _ hc af,λi u x hi hx=>hR w w' u x (h3 i u x hi hx) λk cur e hc he=>hk k cur e hc (by simp[he])⟩
theorem QT(hg:(w1.alloc o1).grownBy w2 row):∀k,k<w1.heap.size->row≠some k->w2.heap[k]?=w1.heap[k]?:=λk hk hr=>Dt hg k hk hr
theorem Fp.GF(h:Fp pb w w4)(hg:(w4.alloc o1).grownBy w5 row)(hrow:∀k,row=some k->w.heap.size<=k):Fp pb w w5:=by
 refine⟨hg.os.trans h.os,hg.tape.trans h.tape,hg.output.trans h.output,?_,λk hk hne=>?_⟩
 .have h1:=hg.size;have h2:=h.size;simp at h1;omega
 .have h2:=h.size;rw[QT hg k aa (λer=>by have:=hrow k er;omega)]
  exact h.block k hk hne
theorem Lg{ts:List Nat}{R:aM->aN->α->Prop}(hR:ze ts R){e:TypeId}(hg:(w4.alloc o1).grownBy w5 row)
  (hrow:∀k,row=some k->∃cur,w4.heap[k]?=some (.cells cur e (0,0)))(he:e∉ts){v:aN}{x:α}(h:R w4 v x):R w5 v x:=
 hR w4 w5 v x h λk cur e' hc he'=>QT hg k (lt_of_heap hc) λer=>by
  obtain⟨c2,h2⟩:=hrow k er;rw[hc] at h2;injection h2 with h2;injection h2 with _ h2 _;exact he (by rw[<-h2];exact he')
theorem YB{R:aM->aN->α->Prop}{acc:List α}{x:α}(hlen:vs.length=acc.length)(h:∀(i:Nat) u x,vs[i]?=some u->acc[i]?=some x->R w u x)(hv:R w v x):
  ∀(i:Nat) u y,(vs++[v])[i]?=some u->(acc++[x])[i]?=some y->R w u y:=by
 intro i u y hu hy;by_cases hi:i<vs.length
 .rw[fI hi] at hu;rw[fI aa] at hy
  exact h i u y hu hy
 .have hi2:i=vs.length:=by
   have:=(cG.1 hu).1;simp at this;omega
  subst hi2;have e1:u=v:=by simpa using hu.symm
  have e2:y=x:=by rw[hlen] at hy;simpa using hy.symm
  subst e1 e2;exact hv
namespace Pl
def bI{α:Type}(f:α->List UInt8):List α->List UInt8
 |[]=>[]
 |[x]=>f x
 |x::y::r=>f x++([44,32]++bI f (y::r))
def DX(p:Int×Int):List UInt8:=Lib.itoa p.1++([32]++Lib.itoa p.2)
def kj(g:List (Int×Int)):List UInt8:=[40]++(bI DX g++[41])
def mU(gs:List (List (Int×Int))):List UInt8:=if gs.length=0 then EMPTY else[40]++(bI kj gs++[41])
def QU(ps:List (List (List (Int×Int)))):List UInt8:=if ps.length=0 then fA++([32]++EMPTY) else fA++([32,40]++(bI mU ps++[41]))
theorem Lh{α:Type}(f:α->List UInt8)(B:Nat):∀(l:List α),(∀x∈l,(f x).length<=B)->(bI f l).length<=l.length*(B+2)
 |[],_=>by simp[bI]
 |[a],h=>by have:=h a af;simp[bI];omega
 |a::b::r,h=>by
  have ih:=Lh f B (b::r) (λx hx=>h x (by simp[hx]))
  have ha:=h a af
  simp only[bI,bY,dw,iJ] at ih⊢;rw[Fu];rw[Fu] at ih⊢;omega
end Pl
theorem YC(n:Int)(w:aM)(hG:Gl w)(h1: -9223372036854775808<=n)(h2:n<=9223372036854775807):
  ak 88 #[az aJ n] w λe w'=>e=aL (aF ⟨(Lib.itoa n).toArray⟩)/\aj w w':=by
 have HI:Hid (∀w1,Gl w1->ak 146 #[az aJ n] w1 λe w'=>e=aL (aF ⟨(Lib.itoa n).toArray⟩)/\aj w1 w'):=λw1 g1=>by
  refine(Tryz.strconv_Itoa n h1 h2 w1 g1.tab).mono ?_;rintro e w' ⟨rfl,k,os,rfl⟩;exact⟨rfl,Lib.below_grow _ _ (aY _) _ _⟩
 clear h1 h2
 go_enter func88,ntmps88
 go_wp2_with fail
 refine(HI.out _ hG).mono ?_;rintro e w1 ⟨rfl,hb⟩
 go_wp2_with fail
 go_ret
 exact⟨rfl,hb⟩
def mV(n:Int):Prop:= -50<=n/\n<=50
def Bg(g:List (Int×Int)):Prop:=∀p∈g,mV p.1/\mV p.2
theorem YE{e:TypeId}(h:w.ownsRow 0 e size v n xs){o:Nat}{u:aN}(hu:xs[o]?=some u):
  ∃b cap,v=aG (some ⟨b,0,none⟩) n cap/\b<w.heap.size/\w.cell? ⟨b,o,none⟩=some u:=by
 obtain⟨h1,h2⟩:=h;rcases h2 with⟨_,h0⟩|⟨b,cap,cur,hv,_,hb,_,_,_,ht⟩
 .rw[h0,wq] at h1;rw[iU.1 h1] at hu;simp at hu
 .refine⟨b,cap,hv,lt_of_heap hb,?_⟩;rw[cell_of hb o,<-jP];rw[<-ht,kQ] at hu;split at hu
  .exact hu
  .cases hu
def QV(gs:List (List (Int×Int))):Prop:=gs.length<=402/\∀g∈gs,Bg g/\g.length<=402
theorem GG{R:aM->aN->α->Prop}{xs:List α}(h:Be T R w v xs):∃so cap,v=aG so xs.length cap:=by
 obtain⟨vs,_,h,_⟩:=h;rcases h.2 with⟨hv,h0⟩|⟨b,cap,cur,hv,_⟩
 .exact⟨none,0,by rw[hv,h0]⟩
 .exact⟨_,cap,hv⟩
theorem GH{R:aM->aN->α->Prop}{so:Option Addr}{xs:List α}(h:Be T R w (aG so n cap) xs){x:α}(hx:xs[k]?=some x):
  ∃b u,so=some ⟨b,0,none⟩/\b<w.heap.size/\w.cell? ⟨b,k,none⟩=some u/\R w u x:=by
 obtain⟨vs,hl,ho,hr⟩:=h;have hk:k<vs.length:=by rw[hl];exact(cG.1 hx).1
 obtain⟨u,hu⟩:∃u,vs[k]?=some u:=⟨_,bo hk⟩;obtain⟨b,c,hv,hb,hc⟩:=YE ho hu;injection hv with hv;exact⟨b,u,hv,hb,hc,hr k u x hu hx⟩
def GI(ps:List (List (List (Int×Int)))):Prop:=ps.length<=402/\∀gs∈ps,QV gs
theorem ko(w:aM)(o:Obj)(h:b<w.heap.size):(w.alloc o).cell? ⟨b,k,none⟩=w.cell? ⟨b,k,none⟩:=by
 simp only[World.cell?];rw[Below.heap_alloc _ _ _ h]
def ju(l:List Ge.Qt):List aN:=l.flatMap λp=>(qA p).toList
def rL(w:aM)(v:aN)(l:List Ge.Qt):Prop:=w.ownsRow 0 100 4 v l.length (ju l)
theorem YF:∀(l:List Ge.Qt)(k:Nat)(e:Ge.Qt),l[k]?=some e->∀j,j<4->(ju l)[k*4+j]?=(qA e)[j]?
 |[],_,_,h,_,_=>by simp at h
 |q::r,0,e,h,j,hj=>by
  simp at h;subst h;have e1:ju (q::r)=(qA q).toList++ju r:=by simp[ju]
  rw[e1,fI (by simp[qA];omega)]
  simp
 |q::r,k+1,e,h,j,hj=>by
  have ih:=YF r k e (by simpa using h) j hj
  have e1:ju (q::r)=(qA q).toList++ju r:=by simp[ju]
  rw[e1,nJ (by simp[qA];omega)]
  have e2:(k+1)*4+j-(qA q).toList.length=k*4+j:=by simp[qA];omega
  rw[e2,ih]
theorem ai9(l:List Ge.Qt)(e:Ge.Qt):ju (l++[e])=ju l++(qA e).toList:=by simp[ju]
theorem YG{l:List Ge.Qt}(h:rL w v l):∃so cap,v=aG so l.length cap:=by
 rcases h.2 with⟨hv,h0⟩|⟨b,cap,cur,hv,_⟩
 .exact⟨none,0,by rw[hv,h0]⟩
 .exact⟨_,cap,hv⟩
theorem DY{so:Option Addr}{l:List Ge.Qt}(h:rL w (aG so n cap) l){e:Ge.Qt}(he:l[k]?=some e):
  ∃b,so=some ⟨b,0,none⟩/\b<w.heap.size/\w.cell? ⟨b,k*4,none⟩=some (az aJ e.1.1)/\w.cell? ⟨b,k*4+1,none⟩=some (az aJ e.1.2)/\w.cell? ⟨b,k*4+2,none⟩=some (az aJ e.2.1)/\w.cell? ⟨b,k*4+3,none⟩=some (az aJ e.2.2):=by
 have g:=YF l k e he;obtain⟨b,c,hv,hb,hc⟩:=Gn h (g 0 aa)
 injection hv with hv;exact⟨b,hv,hb,hc _ _ (g 0 aa),hc _ _ (g 1 aa),hc _ _ (g 2 aa),hc _ _ (g 3 aa)⟩
theorem DZ:ze [100] rL:=λw w' v x h hk=>Bf h λk cur hc=>hk k cur _ hc af
theorem aja:(Tryz.prog.info? 100).map (λi=>(i.zero,i.size,i.bytes))=some (some (aC #[az aJ 0,az aJ 0,az aJ 0,az aJ 0]),4,32):=ag
namespace Ge
end Ge
namespace Ge
def dG(e f:Pt×Pt):Int:=(e.2.1-e.1.1)*(f.2.2-f.1.2)-(e.2.2-e.1.2)*(f.2.1-f.1.1)
def mT(e f:Pt×Pt):Int:=(f.1.1-e.1.1)*(f.2.2-f.1.2)-(f.1.2-e.1.2)*(f.2.1-f.1.1)
def mX(e f:Pt×Pt):Int:=e.1.1*dG e f+(e.2.1-e.1.1)*mT e f
def mY(e f:Pt×Pt):Int:=e.1.2*dG e f+(e.2.2-e.1.2)*mT e f
def gA(e f:Pt×Pt):Qt:=(bC (mX e f) (dG e f),bC (mY e f) (dG e f))
end Ge
end
end Go.Proofs.YtkjhhooecopolaaGreatDoor

import Derived.Test.YtkjhhooecopolaaGreatDoorSz02
set_option maxRecDepth 100000
set_option maxHeartbeats 4000000
namespace Go.Proofs.YtkjhhooecopolaaGreatDoor
open Tryz
open Value renaming int->az,complex->aA,float->aB,agg->aC,bool->aD,string->aF,slice->aG,pointer->aH,tuple->aI
open IntKind renaming i64->aJ
open FloatKind renaming f64->aK
open Ending renaming returned->aL
open Go renaming World->aM,Value->aN,floatOfInt->aO
section
open Go.RowKit
variable{A l:List Pl.Tk}{vs xs bs:List aN}{rb c g cap k n pb b B size T:Nat}{o1 o2 o:Obj}{row:Option Nat}{α:Type}{w1 w2 w w4 a w' w5:aM}{rv v:aN}
def qT(c:List Pl.Tk):List aN:=c.flatMap λt=>(ub t).toList
theorem Yz(c:List Pl.Tk)(t:Pl.Tk):qT (c++[t])=qT c++(ub t).toList:=by simp[qT]
theorem ajd:(Tryz.prog.info? 61).map (λi=>(i.zero,i.size,i.bytes))=some (some (aC #[az .u8 0,aF ⟨#[]⟩,az aJ 0,az aJ 0]),4,40):=ag
theorem Lg(hg:((w1.alloc o1).alloc o2).grownBy w2 row)(hne:row≠some w1.heap.size):
  w2.heap[w1.heap.size]?=some o1/\∀k,k<w1.heap.size->row≠some k->w2.heap[k]?=w1.heap[k]?:=by
 refine⟨?_,λk hk hr=>?_⟩
 .rw[hg.block w1.heap.size (by simp;omega) (λe=>hne e.symm),Below.heap_alloc _ _ _ af]
  exact heap_alloc_new w1 o1
 .rw[hg.block k (by simp;omega) (λe=>hr e.symm),Below.heap_alloc _ _ _ (by simp;omega),Below.heap_alloc _ _ _ hk]
def Q8(_s:ByteArray)(w:aM)(c:List Pl.Tk)(lv:aN)(wr:aM):Prop:=
 wr.ownsRow w.heap.size 61 4 lv c.length (qT c)/\aj w wr/\w.heap.size<=wr.heap.size
theorem YA(rb:Nat)(s:ByteArray)(A r:List Pl.Tk)(x:Pl.Tk)(rg:List (List (Int×Int)))(w:aM)(hR:RD rb s A (x::r) rg w)(hx:x.k≠110):
  ak 196 #[aH (some ⟨rb,0,none⟩)] w λe w'=>e=aL (aD false)/\RD rb s A (x::r) rg w'/\Below rb w w':=by
 have hlt:=hR.lt;obtain⟨t',r',hl,c0,c1,c2,c3,c4⟩:=hR.cells;injection hl with h1 h2;subst h1 h2
 go_enter func196,ntmps196
 go_wp2_with fail
 refine(XL rb s A r x _ _ (hR.alloc _) hx).mono ?_;rintro e w1 ⟨rfl,rfl⟩
 go_wp2_with fail
 go_ret
 exact⟨rfl,hR.alloc _,(Below.refl rb w).alloc aa _⟩
theorem aje(hO:qM)(rb:Nat)(s:ByteArray)(A r:List Pl.Tk)(x y:Pl.Tk)(rg:List (List (Int×Int)))(w:aM)(cx:Cx rb s A)(hR:RD rb s A (x::y::r) rg w)(hG:Gl w)(hx:x.k=110)(hy:y.k≠110):
  ak 196 #[aH (some ⟨rb,0,none⟩)] w λe w'=>e=aL (aD false)/\RD rb s A (y::r) rg w'/\Below rb w w':=by
 have hlt:=hR.lt;obtain⟨t',r',hl,c0,c1,c2,c3,c4⟩:=hR.cells;injection hl with h1 h2;subst h1 h2
 go_enter func196,ntmps196
 go_wp2_with fail
 refine(QA hO rb s A (y::r) x _ _ cx (hR.alloc _) (hG.alloc _) hx).mono ?_;rintro e w1 ⟨rfl,gQ,hb1,hk1⟩;clear c0 c1 c2 c3 c4;obtain⟨t',r',hl,c0,c1,c2,c3,c4⟩:=gQ.cells;injection hl with h1 h2;subst h1 h2;have y9:=gQ.lt
 go_wp2_with fail
 refine(XL rb s A r y _ _ (gQ.alloc _) hy).mono ?_;rintro e w2 ⟨rfl,rfl⟩
 go_wp2_with fail
 go_ret
 exact⟨rfl,gQ.alloc _,(((Below.refl rb w).alloc aa _).trans hb1).alloc aa _⟩
theorem RD.chain{s:ByteArray}{rg:List (List (Int×Int))}(cx:Cx rb s A)(h:RD rb s A l rg w):Pl.jY s.data.toList l:=by
 obtain⟨c,t,r,hc,hl⟩:=h.suffix;exact Pl.Qs _ c l (by rw[hc];exact cx.ch) (by rw[hl];simp)
theorem RD.le{s:ByteArray}{rg:List (List (Int×Int))}(h:RD rb s A l rg w):l.length<=A.length:=by
 obtain⟨c,t,r,hc,hl⟩:=h.suffix;rw[<-hc];simp
def zr(rb:Nat)(s:ByteArray)(A:List Pl.Tk)(b:Bool)(l':List Pl.Tk)(DZ:List (List (Int×Int)))(w:aM)(e:Ending)(w':aM):Prop:=
 e=aL (aD b)/\(∃rg,RD rb s A l' rg w'/\(b=true->rg=DZ))/\Below rb w w'
theorem ajf(hO:qM)(rb:Nat)(s:ByteArray)(A l:List Pl.Tk)(rg:List (List (Int×Int)))(q:List (Int×Int))(w:aM)(cx:Cx rb s A)(hR:RD rb s A l (rg++[q]) w)(hG:Gl w)(hq:q.length<=1000)(hrg:rg.length<=1000):
  ak 196 #[aH (some ⟨rb,0,none⟩)] w (zr rb s A (Pl.iG l).1 (Pl.iG l).2.1 (rg++[q++[(Pl.iG l).2.2]]) w):=by
 have hch:=hR.chain cx
 match l,hR,hch with
 |[],hR,hch=>exact hch.elim
 |[x],hR,hch=>
  have hx:x.k≠110:=by
   have:x.k=101\/x.k=120:=hch;omega
  refine(YA rb s A [] x _ w hR hx).mono ?_;rintro e w' ⟨rfl,h1,h2⟩;exact⟨rfl,⟨_,h1,λh=>(by cases h)⟩,h2⟩
 |x::y::r,hR,hch=>
  by_cases hx:x.k=110
  .by_cases hy:y.k=110
   .have e:Pl.iG (x::y::r)=(true,r,(x.n,y.n)):=by simp[Pl.iG,hx,hy]
    rw[e];refine(aiy hO rb s A r x y rg q w cx hR hG hx hy hq hrg).mono ?_;rintro e w' ⟨rfl,h1,h2⟩;exact⟨rfl,⟨_,h1,λ_=>rfl⟩,h2⟩
   .have e:Pl.iG (x::y::r)=(false,y::r,(0,0)):=by simp[Pl.iG,hx,hy]
    rw[e];refine(aje hO rb s A r x y _ w cx hR hG hx hy).mono ?_;rintro e w' ⟨rfl,h1,h2⟩;exact⟨rfl,⟨_,h1,λh=>(by cases h)⟩,h2⟩
  .have e:Pl.iG (x::y::r)=(false,x::y::r,(0,0)):=by simp[Pl.iG,hx]
   rw[e];refine(YA rb s A _ x _ w hR hx).mono ?_;rintro e w' ⟨rfl,h1,h2⟩;exact⟨rfl,⟨_,h1,λh=>(by cases h)⟩,h2⟩
theorem xq(h:(Pl.mk c l).1=true):(Pl.mk c l).2.length+1=l.length:=by
 cases l with
 |nil=>simp[Pl.mk] at h
 |cons t r=>
  by_cases hk:t.k=c
  .simp[Pl.mk,hk]
  .simp[Pl.mk,hk] at h
theorem GK(h:(Pl.mk c l).1=false):(Pl.mk c l).2=l:=by
 cases l with
 |nil=>rfl
 |cons t r=>
  by_cases hk:t.k=c
  .simp[Pl.mk,hk] at h
  .simp[Pl.mk,hk]
theorem Q9{item:List Pl.Tk->Bool×List Pl.Tk×α}{acc:List α}(h:(item l).1=false):Pl.ig item (g+1) l acc=(false,(item l).2.1,acc):=by
 rw[Pl.ig,aP (by rw[h];simp)]
theorem Ra{item:List Pl.Tk->Bool×List Pl.Tk×α}{acc:List α}(h:(item l).1=true)(h2:(Pl.mk 44 (item l).2.1).1=true):
  Pl.ig item (g+1) l acc=Pl.ig item g (Pl.mk 44 (item l).2.1).2 (acc++[(item l).2.2]):=by
 rw[Pl.ig,aV h,aV h2]
theorem Rb{item:List Pl.Tk->Bool×List Pl.Tk×α}{acc:List α}(h:(item l).1=true)(h2:(Pl.mk 44 (item l).2.1).1=false):
  Pl.ig item (g+1) l acc=((Pl.mk 41 (item l).2.1).1,(Pl.mk 41 (item l).2.1).2,acc++[(item l).2.2]):=by
 rw[Pl.ig,aV h,aP (by rw[h2];simp)]
theorem Rc(F:Nat)(hc:∀(args:Array aN)(w:aM),(callFunc F args).run prog w=.ok (.enter F args) w)(item:List Pl.Tk->Bool×List Pl.Tk×α)(E:List α->List (List (Int×Int)))(B:List Pl.Tk->List α->Prop)(hO:qM)(rb:Nat)(s:ByteArray)(A:List Pl.Tk)(cx:Cx rb s A)
  (hI:∀l acc w,RD rb s A l (E acc) w->Gl w->B l acc->ak F #[aH (some ⟨rb,0,none⟩)] w (zr rb s A (item l).1 (item l).2.1 (E (acc++[(item l).2.2])) w))
  (hd:∀l,(item l).1=true->(item l).2.1.length<l.length)
  (hB:∀l acc,B l acc->(item l).1=true->B (Pl.mk 44 (item l).2.1).2 (acc++[(item l).2.2]))
  (f:Nat)(l:List Pl.Tk)(acc:List α)(w:aM)(hR:RD rb s A l (E acc) w)(hG:Gl w)(hBl:B l acc)(hf:l.length<=f):
  ak 149 #[aH (some ⟨rb,0,none⟩),.func (.func F) #[aH (some ⟨rb,0,none⟩)] #[]] w (zr rb s A (Pl.ig item f l acc).1 (Pl.ig item f l acc).2.1 (E (Pl.ig item f l acc).2.2) w):=by
 generalize hT:Pl.ig item f l acc=T;have HI:Hid (∀l acc w,RD rb s A l (E acc) w->Gl w->B l acc->ak F #[aH (some ⟨rb,0,none⟩)] w (zr rb s A (item l).1 (item l).2.1 (E (acc++[(item l).2.2])) w)):=hI;have HD:Hid (∀l,(item l).1=true->(item l).2.1.length<l.length):=hd;have HB:Hid (∀l acc,B l acc->(item l).1=true->B (Pl.mk 44 (item l).2.1).2 (acc++[(item l).2.2])):=hB;have HS:Hid (∃l acc,l.length<=f/\RD rb s A l (E acc) w/\Gl w/\B l acc/\Below rb w w/\Pl.ig item f l acc=T):=⟨l,acc,hf,hR,hG,hBl,Below.refl _ _,hT⟩;clear hI hd hB hT hR hG hBl hf
 go_enter func149,ntmps149
 go_wp2_with fail
 go_loopg [6] f (λg s6 wr=>Hid (∃l acc,l.length<=g/\RD rb s A l (E acc) wr/\Gl wr/\B l acc/\Below rb w wr/\Pl.ig item g l acc=T))
 case atStart=>exact HS
 case round=>
  obtain⟨l,acc,hlen,hR,hG,hBl,aX,hT⟩:=hrel.out;have hne:l≠[]:=by
   obtain⟨_,_,_,_,h⟩:=hR.suffix;rw[h];simp
  obtain⟨g1,rfl⟩:∃g1,gk=g1+1:=⟨gk-1,by have:=jk.2 hne;omega⟩
  clear hne;have HR:Hid (Pl.ig item (g1+1) l acc=T):=hT;have HL:Hid (l.length<=g1+1):=hlen;clear hT hlen
  go_wp2_with fail
  clear hc;refine(HI.out l acc wr hR hG hBl).mono ?_;rintro e w1 ⟨rfl,⟨GL,gQ,hrg1⟩,hb1⟩;have dv:Gl w1:=hG.below hb1 cx.rb;have HE:Hid ((item l).1=true->GL=E (acc++[(item l).2.2])):=hrg1;clear hrg1;cases hi:(item l).1
  .have hT:=HR.out;rw[Q9 hi] at hT;subst hT;clear HR HE HB HD HI HS hrel
   go_wp2_with fail
   go_ret
   exact⟨rfl,⟨GL,gQ,λh=>(by cases h)⟩,aX.trans hb1⟩
  .have hrg:=HE.out hi;subst hrg;clear HE
   go_wp2_with fail
   refine(DM hO 44 ah rb s A _ _ w1 cx gQ dv).mono ?_
   rintro e w2 ⟨rfl,fJ,hb2⟩;have il:Gl w2:=dv.below hb2 cx.rb;simp only[show(44:UInt8).toNat=44 from rfl] at fJ⊢
   cases hm:(Pl.mk 44 (item l).2.1).1
   .have hT:=HR.out;rw[Rb hi hm] at hT;subst hT;rw[GK hm] at fJ;clear HR HB HD HI HS hrel
    go_wp2_with fail
    refine(DM hO 41 ah rb s A _ _ w2 cx fJ il).mono ?_
    rintro e w3 ⟨rfl,vw,hb3⟩;simp only[show(41:UInt8).toNat=41 from rfl] at vw⊢
    go_wp2_with fail
    go_ret
    exact⟨rfl,⟨_,vw,λ_=>rfl⟩,((aX.trans hb1).trans hb2).trans hb3⟩
   .have hT:=HR.out;rw[Ra hi hm] at hT;have HN:Hid (∃l acc,l.length<=g1/\RD rb s A l (E acc) w2/\Gl w2/\B l acc/\Below rb w w2/\Pl.ig item g1 l acc=T):=by
     refine⟨_,_,?_,fJ,il,HB.out l acc hBl hi,(aX.trans hb1).trans hb2,hT⟩;have q1:=HD.out l hi;have q2:=xq hm;have q3:=HL.out;omega
    clear hT HR
    go_wp2_with fail
    go_roundg g1
    case measure=>omega
    case rel=>exact HN
namespace Pl
theorem D3(c:Nat)(l:List Tk):(mk c l).2.length<=l.length:=by
 cases l with
 |nil=>simp[mk]
 |cons t r=>by_cases hk:t.k=c<;>simp[mk,hk]
theorem D4{c:Nat}{l:List Tk}(h:(mk c l).1=true):(mk c l).2.length<l.length:=by
 have:=xq h;omega
theorem D5{q:List UInt8}{l:List Tk}(h:(wd q l).1=true):(wd q l).2.length<l.length:=by
 cases l with
 |nil=>simp[wd] at h
 |cons t r=>
  by_cases hk:t.k=119/\t.raw=q
  .simp only[wd];rw[aV hk];simp
  .simp only[wd] at h;rw[aP hk] at h;cases h
theorem Re(l:List Tk)(h:(iG l).1=true):(iG l).2.1.length<l.length:=by
 match l,h with
 |[],h=>cases h
 |[x],h=>cases h
 |x::y::r,h=>
  by_cases hx:x.k=110
  .by_cases hy:y.k=110
   .simp[iG,hx,hy];omega
   .simp[iG,hx,hy] at h
  .simp[iG,hx] at h
theorem Lh{α:Type}(item:List Tk->Bool×List Tk×α)(hd:∀l,(item l).1=true->(item l).2.1.length<l.length):
  ∀(f:Nat)(l:List Tk)(acc:List α),(ig item f l acc).1=true->(ig item f l acc).2.1.length<l.length/\(ig item f l acc).2.2.length+(ig item f l acc).2.1.length<=acc.length+l.length
 |0,l,acc,h=>by cases h
 |f+1,l,acc,h=>by
  cases hi:(item l).1
  .rw[Q9 hi] at h;cases h
  .have h1:=hd l hi;cases hm:(mk 44 (item l).2.1).1
   .rw[Rb hi hm] at h⊢;have h2:=D4 h;simp only[bX,dG,ib];omega
   .rw[Ra hi hm] at h⊢;have ih:=Lh item hd f _ _ h;have h2:=D4 hm;simp only[bX,dG,ib] at ih;omega
theorem Rf(l:List Tk)(h:(kM l).1=true):(kM l).2.1.length<l.length:=by
 unfold kM at h⊢;by_cases h1:(mk 40 l).1=true
 .have q:=D4 h1;rw[aV h1] at h⊢;by_cases h2:(mk 41 (mk 40 l).2).1=true
  .rw[aV h2] at h⊢;have:=D4 h2;simp only;omega
  .rw[aP h2] at h⊢;have:=(Lh iG Re _ _ _ h).1;omega
 .rw[aP h1] at h;cases h
theorem Li(l:List Tk)(h:(fW l).1=true):(fW l).2.1.length<l.length/\(fW l).2.2.length+(fW l).2.1.length<=l.length:=by
 unfold fW at h⊢;by_cases h0:(wd EMPTY l).1=true
 .rw[aV h0];have:=D5 h0;simp only[ib];omega
 .rw[aP h0] at h⊢;by_cases h1:(mk 40 l).1=true
  .have q:=D4 h1;rw[aV h1] at h⊢;have:=Lh kM Rf _ _ _ h;simp only[ib] at this;omega
  .rw[aP h1] at h;cases h
theorem ajg(l:List Tk)(h:(mG l).1=true):(mG l).2.1.length<l.length:=by
 unfold mG at h⊢;by_cases h0:(wd EMPTY l).1=true
 .rw[aV h0];exact D5 h0
 .rw[aP h0] at h⊢;by_cases h1:(mk 40 l).1=true
  .have q:=D4 h1;rw[aV h1] at h⊢;have:=(Lh fW (λl h=>(Li l h).1) _ _ _ h).1
   omega
  .rw[aP h1] at h;cases h
end Pl
theorem tW.snoc{rg:List (List (Int×Int))}
  (h1:vs.length=rg.length)(h2:w.ownsRow (rb+1) 127 1 rv rg.length vs)
  (h3:∀(i:Nat) v g,vs[i]?=some v->rg[i]?=some g->w.ownsRow (rb+1) 81 1 v g.length (rT g))
  (h4:∀(i j:Nat) v u k,vs[i]?=some v->vs[j]?=some u->v.ownBlock=some k->u.ownBlock=some k->i=j)
  (hgrow:(w.alloc o).grownBy w1 rv.ownBlock)(ho:w1.ownsRow (rb+1) 127 1 (aG (some ⟨g,0,none⟩) (rg.length+1) cap) (rg.length+1) (vs++[aG none 0 0])):
  tW rb (aG (some ⟨g,0,none⟩) (rg.length+1) cap) (rg++[[]]) (w1.setCell ⟨rb,6,none⟩ (aG (some ⟨g,0,none⟩) (rg.length+1) cap)):=by
 refine⟨vs++[aG none 0 0],by simp[h1],?_,?_,?_⟩
 .simp only[bX,dG,ib,jH];refine bG ho λk hk=>dS ?_ _
  have:=(bn ho k hk).1;omega
 .intro i v g' hi hg';by_cases hin:i<vs.length
  .rw[fM hin] at hi;rw[fM aa] at hg'
   have hq:=h3 i v g' hi hg';refine bG hq λk hk=>?_
   have:=(bn hq k hk);obtain⟨c,hc⟩:=vh hq hk;rw[dS aa]
   exact DL hgrow k this.2 (tY h2 hc ah)
  .have hi2:i=vs.length:=by
    have:=(cG.1 hi).1;simp at this;omega
   subst hi2;have e1:v=aG none 0 0:=by simpa using hi.symm
   have e2:g'=[]:=by rw[h1] at hg';simpa using hg'.symm
   subst e1 e2;exact World.ownsRow_nil _ _ _ _
 .intro i j v u k hi hj hv hu;have key:∀(i:Nat) v,(vs++[Value.slice none 0 0])[i]?=some v->v.ownBlock=some k->vs[i]?=some v:=λi v hi hv=>by
   by_cases hin:i<vs.length
   .rwa[fM hin] at hi
   .have hi2:i=vs.length:=by
     have:=(cG.1 hi).1;simp at this;omega
    subst hi2;have e1:v=aG none 0 0:=by simpa using hi.symm
    subst e1;cases hv
  exact h4 i j v u k (key i v hi hv) (key j u hj hu) hv hu
theorem ajh:(Tryz.prog.info? 127).map (λi=>(i.zero,i.size,i.bytes))=some (some (aG none 0 0),1,24):=ag
theorem aji(hO:qM)(rb:Nat)(s:ByteArray)(A l:List Pl.Tk)(rg:List (List (Int×Int)))(w:aM)(cx:Cx rb s A)(hR:RD rb s A l rg w)(hG:Gl w)(hrg:rg.length<=1000):
  ak 150 #[aH (some ⟨rb,0,none⟩)] w (zr rb s A (Pl.kM l).1 (Pl.kM l).2.1 (rg++[(Pl.kM l).2.2]) w):=by
 generalize hT:Pl.kM l=T;have HT:Hid (Pl.kM l=T):=hT;clear hT;obtain⟨i0,hi,hz0,hz1,hz2⟩:=info_parts ajh;have hlt:=hR.lt;obtain⟨c,t,r0,tv,rv,hc,hl,hbk,hown,vs,h1,h2,h3,h4⟩:=id hR;have c6:=FX hbk;have HH:Hid (∀w1 g cap o,(w.alloc o).grownBy w1 rv.ownBlock->w1.ownsRow (rb+1) 127 1 (aG (some ⟨g,0,none⟩) (rg.length+1) cap) (rg.length+1) (vs++[aG none 0 0])->
   RD rb s A l (rg++[[]]) (w1.setCell ⟨rb,6,none⟩ (aG (some ⟨g,0,none⟩) (rg.length+1) cap))/\Below rb w (w1.setCell ⟨rb,6,none⟩ (aG (some ⟨g,0,none⟩) (rg.length+1) cap))):=by
  intro w1 g cap o hgrow ho;have k6:=(DL hgrow rb hlt (rU h2 rb aa)).trans hbk
  refine⟨⟨c,t,r0,tv,_,hc,hl,heap_set k6 _,bG hown λk hk=>?_,tW.snoc h1 h2 h3 h4 hgrow ho⟩,?_⟩
  .obtain⟨c9,xm⟩:=vh hown hk;have:=(bn hown k hk);rw[dS aa]
   exact DL hgrow k this.2 (tY h2 xm ah)
  .exact(((Below.refl rb w).alloc (fF hlt) _).grown hgrow (by simp;omega) (λk hk=>by have:=(bn h2 k hk).1;omega)).setCell (aY _) _
 clear h1 h3 h4
 go_enter func150,ntmps150
 go_wp2_with (at_builtin;refine wpList_append_lies _ rfl (.tmp 7) (.tmp 8) 78 rfl (rb+1) 127 i0 _ 1 24 underlying78 hi hz0 hz1 hz2 rfl ah rv rg.length vs rfl (bG h2 (λk hk=>Below.heap_alloc _ _ _ (bn h2 k hk).2)) ⟨w.heap.size,0,none⟩ 1 1 [aG none 0 0] rfl rfl (World.news_of_block (cs:= #[aG none 0 0]) (t:=127) (fr:=(0,0)) (heap_alloc_new w _)) (by simp[Value.oneCell']) ah (by unfold maxLen;omega) aa (by simp;omega) (w.heap.size+1) af ?_;intro g cap w1 ho hgrow hat y9;have hb1:=(DL hgrow rb hlt (rU h2 rb aa)).trans hbk;have d6:=FX hb1;have f6:=bK hb1 6)
 obtain⟨gQ,aX⟩:=HH.out w1 g cap _ hgrow ho;have dv:=hG.below aX cx.rb;have hlA:=gQ.le;have hcl:=cx.len;clear HH hgrow ho hat y9 hb1 d6 f6 c6 h2 hown hbk hl hc hi hz0 hz1 hz2;refine(DM hO 40 ah rb s A l _ _ cx gQ dv).mono ?_
 rintro e w2 ⟨rfl,fJ,hb2⟩;simp only[show(40:UInt8).toNat=40 from rfl] at fJ⊢
 have il:Gl w2:=dv.below hb2 cx.rb;cases hm:(Pl.mk 40 l).1
 .have hT:=HT.out;rw[Pl.kM,aP (by rw[hm];simp)] at hT
  subst hT;rw[GK hm] at fJ;clear HT
  go_wp2_with fail
  go_ret
  exact⟨rfl,⟨_,fJ,λh=>(by cases h)⟩,aX.trans hb2⟩
 .go_wp2_with fail
  refine(DM hO 41 ah rb s A _ _ _ cx fJ il).mono ?_
  rintro e w3 ⟨rfl,vw,hb3⟩;simp only[show(41:UInt8).toNat=41 from rfl] at vw⊢
  have ud:Gl w3:=il.below hb3 cx.rb;cases hm2:(Pl.mk 41 (Pl.mk 40 l).2).1
  .have hT:=HT.out;rw[Pl.kM,aV hm,aP (by rw[hm2];simp)] at hT
   subst hT;rw[GK hm2] at vw;have hlm:=Pl.D3 40 l;clear HT
   go_wp2_with fail
   refine(Rc _ Tryz.call196 Pl.iG (λacc=>rg++[acc]) (λl acc=>acc.length+l.length<=1000) hO rb s A cx
    (λl' acc w' hR' GM hB'=>ajf hO rb s A l' rg acc w' cx hR' GM aa hrg) Pl.Re
    (λl' acc hB' hi'=>by
     have q1:=Pl.Re l' hi';have q2:=Pl.D3 44 (Pl.iG l').2.1;simp only[bX,dG,ib];omega)
    l.length (Pl.mk 40 l).2 [] w3 vw ud (by simp;omega) hlm).mono ?_
   rintro e w4 ⟨rfl,⟨xt,xw,xx⟩,hb4⟩
   go_wp2_with fail
   go_ret
   exact⟨rfl,⟨xt,xw,xx⟩,((aX.trans hb2).trans hb3).trans hb4⟩
  .have hT:=HT.out;rw[Pl.kM,aV hm,aV hm2] at hT;subst hT;clear HT
   go_wp2_with fail
   go_ret
   exact⟨rfl,⟨_,vw,λ_=>rfl⟩,(aX.trans hb2).trans hb3⟩
theorem Lj{q:List UInt8}(h:(Pl.wd q l).1=false):(Pl.wd q l).2=l:=by
 cases l with
 |nil=>rfl
 |cons t r=>
  by_cases hk:t.k=119/\t.raw=q
  .simp only[Pl.wd] at h;rw[aV hk] at h;cases h
  .simp only[Pl.wd];rw[aP hk]
def Pl.dU(l:List Pl.Tk):Bool×List Pl.Tk×List (List (List (Int×Int))):=
 if(Pl.wd Pl.jZ l).1=true then((Pl.fW (Pl.wd Pl.jZ l).2).1,(Pl.fW (Pl.wd Pl.jZ l).2).2.1,[(Pl.fW (Pl.wd Pl.jZ l).2).2.2])
 else if(Pl.wd Pl.fI l).1=true then Pl.mG (Pl.wd Pl.fI l).2
 else(false,l,[])
theorem YB(hO:qM)(rb:Nat)(s:ByteArray)(A l:List Pl.Tk)(rg:List (List (Int×Int)))(w:aM)(cx:Cx rb s A)(hR:RD rb s A l rg w)(hG:Gl w)(hrg:rg.length+l.length<=1000):
  ak 95 #[aH (some ⟨rb,0,none⟩)] w (zr rb s A (Pl.fW l).1 (Pl.fW l).2.1 (rg++(Pl.fW l).2.2) w):=by
 generalize hT:Pl.fW l=T;have HT:Hid (Pl.fW l=T):=hT;clear hT;have hlt:=hR.lt
 go_enter func95,ntmps95
 go_wp2_with fail
 refine(KX hO Pl.EMPTY 69 [77,80,84,89] rfl ah rb s A l _ _ cx hR hG).mono ?_
 rintro e w1 ⟨rfl,gQ,hb1⟩;have dv:Gl w1:=hG.below hb1 cx.rb;cases hm:(Pl.wd Pl.EMPTY l).1
 .rw[Lj hm] at gQ
  go_wp2_with fail
  refine(DM hO 40 ah rb s A l _ _ cx gQ dv).mono ?_
  rintro e w2 ⟨rfl,fJ,hb2⟩;simp only[show(40:UInt8).toNat=40 from rfl] at fJ⊢
  have il:Gl w2:=dv.below hb2 cx.rb;cases hm2:(Pl.mk 40 l).1
  .have hT:=HT.out;rw[Pl.fW,aP (by rw[hm];simp),aP (by rw[hm2];simp)] at hT
   subst hT;rw[GK hm2] at fJ;clear HT
   go_wp2_with fail
   go_ret
   exact⟨rfl,⟨_,fJ,λh=>(by cases h)⟩,hb1.trans hb2⟩
  .have hT:=HT.out;rw[Pl.fW,aP (by rw[hm];simp),aV hm2] at hT
   subst hT;clear HT;have hlm:=Pl.D3 40 l
   go_wp2_with fail
   refine(Rc _ Tryz.call150 Pl.kM (λacc=>rg++acc) (λl acc=>rg.length+acc.length+l.length<=1000) hO rb s A cx
    (λl' acc w' hR' GM hB'=>by
     rw[<-fL];exact aji hO rb s A l' (rg++acc) w' cx hR' GM (by simp;omega)) Pl.Rf
    (λl' acc hB' hi'=>by
     have q1:=Pl.Rf l' hi';have q2:=Pl.D3 44 (Pl.kM l').2.1;simp only[bX,dG,ib];omega)
    l.length (Pl.mk 40 l).2 [] w2 (by simpa using fJ) il (by simp;omega) hlm).mono ?_
   rintro e w4 ⟨rfl,⟨xt,xw,xx⟩,hb4⟩
   go_wp2_with fail
   go_ret
   exact⟨rfl,⟨xt,xw,xx⟩,(hb1.trans hb2).trans hb4⟩
 .have hT:=HT.out;rw[Pl.fW,aV hm] at hT;subst hT;clear HT
  go_wp2_with fail
  go_ret
  exact⟨rfl,⟨_,gQ,λ_=>af⟩,hb1⟩
theorem ajj(hO:qM)(rb:Nat)(s:ByteArray)(A l:List Pl.Tk)(rg:List (List (Int×Int)))(w:aM)(cx:Cx rb s A)(hR:RD rb s A l rg w)(hG:Gl w)(hrg:rg.length+l.length<=1000):
  ak 96 #[aH (some ⟨rb,0,none⟩)] w (zr rb s A (Pl.mG l).1 (Pl.mG l).2.1 (rg++(Pl.mG l).2.2.flatten) w):=by
 generalize hT:Pl.mG l=T;have HT:Hid (Pl.mG l=T):=hT;clear hT;have hlt:=hR.lt
 go_enter func96,ntmps96
 go_wp2_with fail
 refine(KX hO Pl.EMPTY 69 [77,80,84,89] rfl ah rb s A l _ _ cx hR hG).mono ?_
 rintro e w1 ⟨rfl,gQ,hb1⟩;have dv:Gl w1:=hG.below hb1 cx.rb;cases hm:(Pl.wd Pl.EMPTY l).1
 .rw[Lj hm] at gQ
  go_wp2_with fail
  refine(DM hO 40 ah rb s A l _ _ cx gQ dv).mono ?_
  rintro e w2 ⟨rfl,fJ,hb2⟩;simp only[show(40:UInt8).toNat=40 from rfl] at fJ⊢
  have il:Gl w2:=dv.below hb2 cx.rb;cases hm2:(Pl.mk 40 l).1
  .have hT:=HT.out;rw[Pl.mG,aP (by rw[hm];simp),aP (by rw[hm2];simp)] at hT
   subst hT;rw[GK hm2] at fJ;clear HT
   go_wp2_with fail
   go_ret
   exact⟨rfl,⟨_,fJ,λh=>(by cases h)⟩,hb1.trans hb2⟩
  .have hT:=HT.out;rw[Pl.mG,aP (by rw[hm];simp),aV hm2] at hT
   subst hT;clear HT;have hlm:=Pl.D3 40 l
   go_wp2_with fail
   refine(Rc _ Tryz.call95 Pl.fW (λacc=>rg++acc.flatten) (λl acc=>rg.length+acc.flatten.length+l.length<=1000) hO rb s A cx
    (λl' acc w' hR' GM hB'=>by
     have e:rg++(acc++[(Pl.fW l').2.2]).flatten=(rg++acc.flatten)++(Pl.fW l').2.2:=af
     rw[e];exact YB hO rb s A l' (rg++acc.flatten) w' cx hR' GM (by rw[bX];exact hB')) (λl h=>(Pl.Li l h).1)
    (λl' acc hB' hi'=>by
     have q1:=(Pl.Li l' hi').2;have q2:=Pl.D3 44 (Pl.fW l').2.1;have e:(acc++[(Pl.fW l').2.2]).flatten.length=acc.flatten.length+(Pl.fW l').2.2.length:=by
      rw[Ws,bX];simp
     show rg.length+(acc++[(Pl.fW l').2.2]).flatten.length+(Pl.mk 44 (Pl.fW l').2.1).2.length<=1000;rw[e];omega)
    l.length (Pl.mk 40 l).2 [] w2 (by simpa using fJ) il (by simp;omega) hlm).mono ?_
   rintro e w4 ⟨rfl,⟨xt,xw,xx⟩,hb4⟩
   go_wp2_with fail
   go_ret
   exact⟨rfl,⟨xt,xw,xx⟩,(hb1.trans hb2).trans hb4⟩
 .have hT:=HT.out;rw[Pl.mG,aV hm] at hT;subst hT;clear HT
  go_wp2_with fail
  go_ret
  exact⟨rfl,⟨_,gQ,λ_=>af⟩,hb1⟩
theorem YC(hO:qM)(rb:Nat)(s:ByteArray)(A l:List Pl.Tk)(w:aM)(cx:Cx rb s A)(hR:RD rb s A l [] w)(hG:Gl w):
  ak 61 #[aH (some ⟨rb,0,none⟩)] w (zr rb s A (Pl.dU l).1 (Pl.dU l).2.1 (Pl.dU l).2.2.flatten w):=by
 generalize hT:Pl.dU l=T;have HT:Hid (Pl.dU l=T):=hT;clear hT;have hlt:=hR.lt;have hle:=hR.le;have hcl:=cx.len
 go_enter func61,ntmps61
 go_wp2_with fail
 refine(KX hO Pl.jZ 80 [79,76,89,71,79,78] rfl ah rb s A l _ _ cx hR hG).mono ?_
 rintro e w1 ⟨rfl,gQ,hb1⟩;have dv:Gl w1:=hG.below hb1 cx.rb;cases hm:(Pl.wd Pl.jZ l).1
 .rw[Lj hm] at gQ
  go_wp2_with fail
  refine(KX hO Pl.fI 77 [85,76,84,73,80,79,76,89,71,79,78] rfl ah rb s A l _ _ cx gQ dv).mono ?_
  rintro e w2 ⟨rfl,fJ,hb2⟩;have il:Gl w2:=dv.below hb2 cx.rb;cases hm2:(Pl.wd Pl.fI l).1
  .have hT:=HT.out;rw[Pl.dU,aP (by rw[hm];simp),aP (by rw[hm2];simp)] at hT
   subst hT;rw[Lj hm2] at fJ;clear HT
   go_wp2_with fail
   go_ret
   exact⟨rfl,⟨_,fJ,λh=>(by cases h)⟩,hb1.trans hb2⟩
  .have hT:=HT.out;rw[Pl.dU,aP (by rw[hm];simp),aV hm2] at hT
   subst hT;clear HT;have hlm:=Pl.D5 hm2
   go_wp2_with fail
   refine(ajj hO rb s A _ [] _ cx fJ il (by simp;omega)).mono ?_
   rintro e w3 ⟨rfl,⟨xt,xw,xx⟩,hb4⟩
   go_wp2_with fail
   go_ret
   exact⟨rfl,⟨xt,xw,λh=>by simpa using xx h⟩,(hb1.trans hb2).trans hb4⟩
 .have hT:=HT.out;rw[Pl.dU,aV hm] at hT;subst hT;clear HT;have hlm:=Pl.D5 hm
  go_wp2_with fail
  refine(YB hO rb s A _ [] _ cx gQ dv (by simp;omega)).mono ?_
  rintro e w3 ⟨rfl,⟨xt,xw,xx⟩,hb4⟩
  go_wp2_with fail
  go_ret
  exact⟨rfl,⟨xt,xw,λh=>by simpa using xx h⟩,hb1.trans hb4⟩
theorem ajk(k:Int)(raw:ByteArray)(n:Int)(p j:Nat)(w:aM)(hp:p<=1000)(hr:raw.size<=1000)(hj:j=p+raw.size):
  ak 195 #[aC #[az aJ k,aF raw,az aJ n,az aJ p]] w λe w'=>e=aL (az aJ j)/\aj w w':=by
 have HJ:Hid (j=p+raw.size):=hj;clear hj
 go_enter func195,ntmps195
 go_wp2
 go_ret
 exact⟨KS (by rw[HJ.out];simp),aw _ _⟩
theorem ajl:(Tryz.prog.info? 76).map (λi=>(i.zero,i.size,i.bytes))=some (some (aC #[az aJ 0,aF ⟨#[]⟩,az aJ 0,az aJ 0]),4,40):=ag
theorem Gl.drew(h:Gl w):Gl w.drew:=⟨h.sz,h.es,h.er,h.tab⟩
def YE(rb:Nat)(s:ByteArray)(rv:aN)(tv:aN)(m:Nat)(xs:List aN)(c0 c1 c2 c3:aN)(w w':aM):Prop:=
 (∃D6,w'.heap[rb]?=some (.cells #[aF s,c0,c1,c2,c3,D6,rv] 80 (0,0))/\w'.ownsRow (rb+1) 76 4 D6 m xs/\(∀k,D6.ownBlock=some k->tv.ownBlock=some k\/w.heap.size<=k))/\
 (∀k,k<w.heap.size->k≠rb->tv.ownBlock≠some k->w'.heap[k]?=w.heap[k]?)/\Below rb w w'
theorem ajm{s:ByteArray}{k:aN}{raw n p:aN}{tv:aN}{m:Nat}{ys:List aN}{w3:aM}{c0 c1 c2 c3:aN}
  (hb:w.heap[rb]?=some (.cells #[aF s,k,raw,n,p,tv,rv] 80 (0,0)))
  (hown:w.ownsRow (rb+1) 76 4 tv m xs)
  (ho:w1.ownsRow (rb+1) 76 4 (aG (some ⟨g,0,none⟩) (m+1) cap) (m+1) ys)
  (hgrow:(w.alloc o).drew.grownBy w1 tv.ownBlock)(hat:tv.ownBlock=some g\/g=w.heap.size+1)
  (hb3:Below (w1.setCell ⟨rb,5,none⟩ (aG (some ⟨g,0,none⟩) (m+1) cap)).drew.heap.size (w1.setCell ⟨rb,5,none⟩ (aG (some ⟨g,0,none⟩) (m+1) cap)).drew w3)
  (hb4:aj w3 w4):
  YE rb s rv tv (m+1) ys c0 c1 c2 c3 w ((((w4.setCell ⟨rb,1,none⟩ c0).setCell ⟨rb,2,none⟩ c1).setCell ⟨rb,3,none⟩ c2).setCell ⟨rb,4,none⟩ c3):=by
 have hlt:=lt_of_heap hb;have hs1:w.heap.size+1<=w1.heap.size:=by have:=hgrow.size;simpa using this
 have hW:(w1.setCell ⟨rb,5,none⟩ (aG (some ⟨g,0,none⟩) (m+1) cap)).drew.heap.size=w1.heap.size:=by simp[World.drew]
 have hs3:w1.heap.size<=w3.heap.size:=by have:=hb3.size;rw[hW] at this;exact this
 have hs4:w3.heap.size<=w4.heap.size:=hb4.size;have e1:∀k,k<w1.heap.size->k≠rb->w4.heap[k]?=w1.heap[k]?:=λk hk hne=>by
  rw[hb4.block k aa,hb3.block k (by rw[hW];exact hk)]
  exact dS hne _
 have e2:∀k,k<w.heap.size->k≠rb->tv.ownBlock≠some k->w4.heap[k]?=w.heap[k]?:=λk hk hne ht=>by
  rw[e1 k aa hne];exact tX hgrow k hk ht
 have hb1:w1.heap[rb]?=some (.cells #[aF s,k,raw,n,p,tv,rv] 80 (0,0)):=(tX hgrow rb hlt (rU hown rb aa)).trans hb
 have Ll:w4.heap[rb]?=some (.cells #[aF s,k,raw,n,p,aG (some ⟨g,0,none⟩) (m+1) cap,rv] 80 (0,0)):=by
  rw[hb4.block rb aa,hb3.block rb (by rw[hW];omega)]
  exact heap_set hb1 _
 refine⟨⟨aG (some ⟨g,0,none⟩) (m+1) cap,?_,?_,?_⟩,?_,?_⟩
 .exact heap_set (heap_set (heap_set (heap_set Ll _) _) _) _
 .refine bG ho λk hk=>?_
  obtain⟨q1,q2⟩:=bn ho k hk;rw[dS aa,dS aa,dS aa,dS aa]
  exact e1 k q2 aa
 .intro k hk;have mH:g=k:=by simpa[Value.ownBlock] using hk
  rcases hat with h|h
  .exact aS (by rw[h,mH])
  .exact aR aa
 .intro k hk hne ht;rw[dS hne,dS hne,dS hne,dS hne];exact e2 k hk hne ht
 .have q:Below rb w w4:=by
   refine⟨?_,?_,?_,aa,λk hk=>e2 k aa aa (rU hown k aa)⟩
   .rw[hb4.os,hb3.os];exact hgrow.os
   .rw[hb4.tape,hb3.tape];exact hgrow.tape
   .rw[hb4.output,hb3.output];exact hgrow.output
  exact(((q.setCell (aY _) _).setCell (aY _) _).setCell (aY _) _).setCell (aY _) _
theorem ajn(rb:Nat)(s raw:ByteArray)(k n:Int)(p j:Nat)(tv rv:aN)(m:Nat)(xs:List aN)(w:aM)(k':Int)(Rh:ByteArray)(n':Int)(p':Nat)
  (hb:w.heap[rb]?=some (.cells #[aF s,az aJ k,aF raw,az aJ n,az aJ p,tv,rv] 80 (0,0)))
  (hown:w.ownsRow (rb+1) 76 4 tv m xs)(hm:m<=1000)(hp:p<=1000)(hr:raw.size<=1000)(hj:j=p+raw.size)(hG:Gl w)(zg:6<=rb)
  (hT:∀w1,Gl w1->ak 60 #[aF s,az aJ j] w1 λe w'=>e=aL (aC #[az aJ k',aF Rh,az aJ n',az aJ p'])/\aj w1 w'):
  ak 148 #[aH (some ⟨rb,0,none⟩)] w λe w'=>e=aL (aI #[])/\
   YE rb s rv tv (m+1) (xs++[az aJ k,aF raw,az aJ n,az aJ p]) (az aJ k') (aF Rh) (az aJ n') (az aJ p') w w':=by
 have HJ:Hid (j=p+raw.size):=hj;have HT:Hid (∀w1,Gl w1->ak 60 #[aF s,az aJ j] w1 λe w'=>e=aL (aC #[az aJ k',aF Rh,az aJ n',az aJ p'])/\aj w1 w'):=hT
 clear hj hT;obtain⟨i0,hi,hz0,hz1,hz2⟩:=info_parts ajl;have c0:=cL hb;have c1:=cK hb;have c2:=eN hb;have c3:=kA hb;have c4:=yP hb;have c5:=yQ hb;have hlt:=lt_of_heap hb
 go_enter func148,ntmps148
 go_wp2_with fail
 go_region_law (refine step_append_lies _ rfl (.tmp 6) (.tmp 11) 77 rfl (rb+1) 76 i0 _ 4 40 underlying77 hi hz0 hz1 hz2 rfl ah tv m xs (by simp[Act.eval]) (bG hown (λk hk=>Below.heap_alloc _ _ _ (bn hown k hk).2)) ⟨w.heap.size,0,none⟩ 1 1 [az aJ k,aF raw,az aJ n,az aJ p] (by simp[Act.eval]) rfl (World.news_of_block (cs:= #[az aJ k,aF raw,az aJ n,az aJ p]) (t:=76) (fr:=(0,0)) (heap_alloc_new w _)) (by simp[Value.oneCell']) ah (by unfold maxLen;omega) aa (by simp;omega) (w.heap.size+1) af ?_;intro g cap w1 ho hgrow hat y9;have hb1:=(tX hgrow rb hlt (rU hown rb aa)).trans hb;have d5:=yQ hb1;have f5:=bK hb1 5)
 all_goals
  have d0:=cL hb1;have d1:=cK hb1;have d2:=eN hb1;have d3:=kA hb1;have d4:=yP hb1;have q1:=bK hb1 1;have q2:=bK hb1 2;have q3:=bK hb1 3;have q4:=bK hb1 4;have Bq:rb<w1.heap.size:=lt_of_heap hb1;have HH:Hid (Gl (w1.setCell ⟨rb,5,none⟩ (aG (some ⟨g,0,none⟩) (m+1) cap)).drew):=by
   have q:Below rb w w1:=((Below.refl _ _).alloc (fF hlt) _).drew.grown hgrow (by show rb<=(w.alloc _).heap.size;simp;omega) (λk hk=>by have:=(bn hown k hk).1;omega)
   exact(hG.below (q.setCell (aY _) _) zg).drew
  clear c0 c1 c2 c3 c4 c5
  go_wp2_with fail
  go_region_with (first
   |(go_at_call 195;refine(ajk _ _ _ _ j _ hp hr HJ.out).mono ?_;rintro e w3 ⟨rfl,hb3⟩;have hx3:w3.heap[rb]?=some (.cells #[aF s,az aJ k,aF raw,az aJ n,az aJ p,aG (some ⟨g,0,none⟩) (m+1) cap,rv] 80 (0,0)):=(hb3.block rb (by simp;omega)).trans (heap_set hb1 _);have x0:=cL hx3)
   |(go_at_call 60;refine(HT.out _ (HH.out.below hb3 (by simp;omega))).mono ?_;rintro e w4 ⟨rfl,hb4⟩;have zw:=(hb4.block rb (lt_of_heap hx3)).trans hx3;have y1:=cK zw;have y2:=eN zw;have y3:=kA zw;have y4:=yP zw;have z1:=bK zw 1;have z2:=bK zw 2;have z3:=bK zw 3;have z4:=bK zw 4))
  all_goals
   go_wp2_with fail
   go_end0
   exact⟨rfl,ajm hb hown ho hgrow hat hb3 hb4⟩
theorem ajo{s:ByteArray}{r:List Pl.Tk}{t:Pl.Tk}{rg:List (List (Int×Int))}(cx:Cx rb s A)(hR:RD rb s A (t::r) rg w)(hG:Gl w)
  (hk:t.k=119\/t.k=110\/t.k=40\/t.k=41\/t.k=44):
  ak 148 #[aH (some ⟨rb,0,none⟩)] w λe w'=>e=aL (aI #[])/\RD rb s A r rg w'/\Below rb w w'/\Kp rb w w':=by
 obtain⟨c,t',r',tv,rv,hc,hl,hb,hown,hrg⟩:=hR;injection hl with h1 h2;subst h1 h2;have hch:Pl.jY s.data.toList (t::r):=Pl.Qs _ c _ (by rw[hc];exact cx.ch) af
 obtain⟨u,r',hr,hu,hcr⟩:=Pl.Xo _ t r hch aa
 have hpl:=cx.pl t (by rw[<-hc];simp)
 have hsz:s.data.toList.length=s.size:=af
 have hlen:c.length+(r.length+1)<=402:=by have:=cx.len;rw[<-hc] at this;simpa using this
 have ajp:Pl.cP t=t.raw:=by unfold Pl.cP;rw[aP aa]
 have hp1:=hpl.1;rw[hsz] at hp1;have hrs:(⟨(Pl.cP t).toArray⟩:ByteArray).size=t.raw.length:=by rw[ajp];rfl
 have hs:=cx.hs;refine(ajn rb s _ _ _ t.pl (t.pl+t.raw.length) tv rv c.length (qL c) w (Pl.pk u) ⟨(Pl.cP u).toArray⟩ u.n u.pl hb hown aa aa (by rw[hrs];omega) (by rw[hrs]) hG cx.rb ?_).mono ?_
 .intro w1 g1;have:=Xu XG s (t.pl+t.raw.length) w1 hp1 cx.hs g1;rw[<-hu] at this;exact this
 .rintro e w' ⟨rfl,⟨⟨D6,hb',hown',htv⟩,qf,aX⟩⟩;refine⟨rfl,⟨c++[t],u,r',D6,rv,by rw[<-hc];simp,hr,hb',?_,?_⟩,aX,?_⟩
  .rw[ais];simpa[gJ] using hown'
  .refine hrg.kept λk cur e hk' he hlt=>?_
   refine qf k (lt_of_heap hk') aa (tY hown hk' ?_)
   rcases he with rfl|rfl<;>decide
  .rintro k o hne ⟨tv0,h0,h1⟩ hk';rw[cell_of hb 5] at h0;injection h0 with h0;subst h0;refine⟨(qf k (lt_of_heap hk') hne h1).trans hk',D6,cell_of hb' 5,λe=>?_⟩
   rcases htv k e with h|h
   .exact h1 h
   .have:=lt_of_heap hk';omega
theorem YF:qM:=λ_ _ _ _ _ _ _ cx hR hG hk=>ajo cx hR hG hk
def D7(b v:Int):Bool:=decide (-b<=v/\v<=b)
theorem YG(v b:Int)(w:aM)(h0:0<=b)(h1:b<=1000000):
  ak 34 #[az aJ v,az aJ b] w λe w'=>e=aL (aD (D7 b v))/\w'=w:=by
 by_cases h: -b<=v
 .go_enter func34,ntmps34
  go_wp2
  go_ret
  exact⟨vg (by unfold D7;simp[h]),rfl⟩
 .have h':decide (-b<=v)=false:=by simpa using h
  go_enter func34,ntmps34
  go_wp2
  go_ret
  exact⟨vg (by unfold D7;simp;omega),rfl⟩
theorem YH(s:ByteArray)(w:aM)(hs:s.size<=400)(hG:Gl w):
  ak 60 #[aF s,az aJ 0] w λe w'=>e=aL (aC (gJ (Pl.tk s.data.toList 0)))/\aj w w':=
 Xu XG s 0 w (iW _) hs hG
theorem ajr(s:List UInt8):∃r,Pl.all s=Pl.tk s 0::r:=Pl.Qr s _ 0
theorem RD.fresh{s:ByteArray}(ho:o=.cells (KV s (Pl.tk s.data.toList 0) (aG none 0 0) (aG none 0 0)) 80 (0,0)):RD w.heap.size s (Pl.all s.data.toList) (Pl.all s.data.toList) [] (w.alloc o):=by
 obtain⟨r,hr⟩:=ajr s.data.toList;refine⟨[],_,r,aG none 0 0,aG none 0 0,rfl,hr,?_,World.ownsRow_nil _ _ _ _,[],rfl,World.ownsRow_nil _ _ _ _,?_,?_⟩
 .rw[heap_alloc_new,ho]
 .intro i v g hi;simp at hi
 .intro i j v u k hi;simp at hi
theorem Cx.mk'{s:ByteArray}(hs:s.size<=400)(zg:6<=rb):Cx rb s (Pl.all s.data.toList):=
 ⟨hs,Pl.KP _,by have:=Pl.KR s.data.toList;simp at this;omega,Pl.KQ _,zg⟩
def outT(t:Pl.Tk):Bool:=decide (t.k=110)&& !D7 50 t.n
theorem sf(c:List Pl.Tk)(k:Nat)(t:Pl.Tk)(h:c[k]?=some t)(j:Nat)(hj:j<4):(qL c)[k*4+j]?=(gJ t)[j]?:=by
 induction c generalizing k with
 |nil=>simp at h
 |cons a r ih=>
  cases k with
  |zero=>
   have:a=t:=by simpa using h
   subst this;simp only[qL,qB,wR,jH];rw[fM (by simp[gJ];omega)]
   simp
  |succ k=>
   have h':r[k]?=some t:=by simpa using h
   have:=ih k h';simp only[qL,qB] at this⊢;rw[nE (by simp[gJ];omega)]
   rw[<-this];congr 1;simp[gJ];omega
theorem ajs(s:ByteArray)(w:aM)(hs:400<s.size)(hm:s.size<=maxLen):
  ak 33 #[aF s] w λe w'=>e=aL (aI #[aH none,az aJ 1,az aJ 0])/\w'=w:=by
 unfold maxLen at hm
 go_enter func33,ntmps33
 go_wp2
 go_ret3
 exact⟨rfl,rfl⟩
theorem ajt(s:ByteArray)(w:aM)(hs:s.size<=400)(hG:Gl w)(l':List Pl.Tk)(t:Pl.Tk)(r:List Pl.Tk)(b:Bool)(v:List (List (List (Int×Int))))
  (hp:Pl.dU (Pl.all s.data.toList)=(b,l',v))(hl:l'=t::r)(hbad:b=false\/t.k≠101):
  ak 33 #[aF s] w λe w'=>e=aL (aI #[aH none,az aJ 2,az aJ t.pl])/\aj w w':=by
 have HP:Hid (Pl.dU (Pl.all s.data.toList)=(b,l',v)):=hp;have HT:Hid (∀w1,Gl w1->ak 60 #[aF s,az aJ 0] w1 λe w'=>e=aL (aC (gJ (Pl.tk s.data.toList 0)))/\aj w1 w'):=λw1 g1=>YH s w1 hs g1
 clear hp;generalize hk:Pl.tk s.data.toList 0=t0 at*;have HK:Hid (Pl.tk s.data.toList 0=t0):=hk;unfold gJ at HT;clear hk
 go_enter func33,ntmps33
 go_wp2_with fail
 refine(HT.out _ hG).mono ?_;rintro e w1 ⟨rfl,hb1⟩;have dv:Gl w1:=hG.below hb1 hG.sz
 go_wp2_with fail
 have Lm:RD w1.heap.size s (Pl.all s.data.toList) (Pl.all s.data.toList) [] (w1.alloc (.cells (KV s t0 (aG none 0 0) (aG none 0 0)) 80)):=RD.fresh (by rw[HK.out])
 have cx:Cx w1.heap.size s (Pl.all s.data.toList):=Cx.mk' hs dv.sz;refine(YC YF w1.heap.size s _ _ _ cx Lm (dv.alloc _)).mono ?_;rintro e w2 ⟨rfl,⟨rg2,fJ,hrg2⟩,hb2⟩;rw[HP.out] at fJ⊢;simp only at fJ⊢;subst hl;obtain⟨t',r',hl,c0,c1,c2,c3,c4⟩:=fJ.cells;injection hl with h1 h2;subst h1 h2;have aX:aj w w2:=((hb1.alloc hb1.size _).trans (hb2.mono hb1.size));cases b
 .go_wp2_with fail
  go_quiet (fail)
  go_wp2_with fail
  go_ret3
  exact⟨rfl,⟨aX.os,aX.tape,aX.output,aX.size,aX.block⟩⟩
 .have hk:(Pl.pk t != 1)=true:=by
   rw[Az];intro h;rcases hbad with h'|h'
   .cases h'
   .exact h' (Pl.XI.1 h)
  go_wp2_with fail
  go_quiet (fail)
  go_wp2_with fail
  go_ret3
  exact⟨rfl,⟨aX.os,aX.tape,aX.output,aX.size,aX.block⟩⟩
structure Fp(pb:Nat)(w w':aM):Prop where
 os:w'.os=w.os
 tape:w'.tape=w.tape
 output:w'.output=w.output
 size:w.heap.size<=w'.heap.size
 block:∀k,k<w.heap.size->k≠pb->w'.heap[k]?=w.heap[k]?
theorem Fp.refl(pb:Nat)(w:aM):Fp pb w w:=⟨rfl,rfl,rfl,aY _,λ_ _ _=>rfl⟩
theorem Fp.trans{b c:aM}(h:Fp pb a b)(k:Fp pb b c):Fp pb a c:=
 ⟨k.os.trans h.os,k.tape.trans h.tape,k.output.trans h.output,fN h.size k.size,λi hi hne=>(k.block i (bW hi h.size) hne).trans (h.block i hi hne)⟩
theorem Fp.drewN(h:Fp pb a w)(n:Nat):Fp pb a (w.drewN n):=⟨h.os,h.tape,h.output,h.size,h.block⟩
theorem Fp.set(h:Fp pb a w)(o:Nat)(v:aN):Fp pb a (w.setCell ⟨pb,o,none⟩ v):=
 ⟨h.os,h.tape,h.output,by simp;exact h.size,λk hk hne=>(dS hne _).trans (h.block k hk hne)⟩
theorem Fp.of_below(h:aj w w'):Fp pb w w':=⟨h.os,h.tape,h.output,h.size,λk hk _=>h.block k hk⟩
theorem Fp.below(h:Fp pb w w')(B:Nat)(hB:B<=pb)(hs:B<=w.heap.size):Below B w w':=⟨h.os,h.tape,h.output,h.size,λk hk=>h.block k aa aa⟩
theorem YI(c:List Pl.Tk)(k:Nat)(t:Pl.Tk)(h:c[k]?=some t)(j:Nat)(hj:j<4):(qT c)[k*4+j]?=(ub t)[j]?:=by
 induction c generalizing k with
 |nil=>simp at h
 |cons a r ih=>
  cases k with
  |zero=>
   have:a=t:=by simpa using h
   subst this;simp only[qT,qB,wR,jH];rw[fM (by simp[ub];omega)]
   simp
  |succ k=>
   have h':r[k]?=some t:=by simpa using h
   have:=ih k h';simp only[qT,qB] at this⊢;rw[nE (by simp[ub];omega)]
   rw[<-this];congr 1;simp[ub];omega
theorem Fp.alloc(h:Fp pb a w)(o:Obj):Fp pb a (w.alloc o):=
 ⟨h.os,h.tape,h.output,by simp;exact Nat.le_succ_of_le h.size,λk hk hne=>(Below.heap_alloc _ _ _ (bW hk h.size)).trans (h.block k hk hne)⟩
theorem Fp.drew(h:Fp pb a w):Fp pb a w.drew:=⟨h.os,h.tape,h.output,h.size,h.block⟩
theorem YJ:(Tryz.prog.info? 196).map (·.size)=some 2:=ag
theorem ajv:liesAt prog Tryz.prog.depth 196 (2/Tryz.prog.cellsOf 196) 0 196 1=true:=ag
theorem ajw(_B b:Nat)(v:aN)(w:aM)(hbk:w.heap[b]?=some (.cells #[aH none,v] 196 (0,0))):
  ak 177 #[aH (some ⟨b,0,none⟩)] w λe w'=>e=aL (aI #[])/\w'=w.setCell ⟨b,0,none⟩ (aH (some ⟨b,0,none⟩)):=by
 have c0:=cL hbk;have f0:=bK hbk 0
 go_enter func177,ntmps177
 have hsh:w.shape? b=some (196,2):=by simp[World.shape?,hbk]
 obtain⟨j,hj,hjs⟩:=rG.1 YJ
 go_wp2
 rw[Lib.run_to_unsafe w ⟨b,0,none⟩ underlying193 underlying290 hj (by rw[hjs];decide) hsh (Nat.zero_lt_succ 1)]
 simp only[Result.andThen];rw[Oper.upon_value]
 go_wp2
 rw[run_callFunc_extern func218 ag ag ag (e:=Extern.AbiNoEscape.same) ag]
 rw[Lib.run_noEscape];simp only[Result.andThen];rw[Oper.upon_value]
 go_wp2
 rw[Lib.run_from_unsafe w ⟨b,0,none⟩ underlying290 underlying193 hj hsh ajv];simp only[Result.andThen];rw[Oper.upon_value]
 go_wp2
 go_end0
 exact⟨rfl,rfl⟩
theorem ajx(b:Nat)(v:aN)(w:aM)(hbk:w.heap[b]?=some (.cells #[aH (some ⟨b,0,none⟩),v] 196 (0,0))):
  ak 177 #[aH (some ⟨b,0,none⟩)] w λe w'=>e=aL (aI #[])/\w'=w:=by
 have c0:=cL hbk
 go_enter func177,ntmps177
 obtain⟨j,hj,_⟩:=rG.1 YJ
 go_wp2
 rw[Lib.run_neq_ptr_same w _ underlying193 hj]
 go_wp2
 go_end0
 exact⟨rfl,rfl⟩
theorem YK(B b:Nat)(bs:List aN)(w:aM)(h:Lib.IsBuilder 196 5 B b bs w):
  ak 177 #[aH (some ⟨b,0,none⟩)] w λe w'=>e=aL (aI #[])/\Lib.BuilderAt 196 5 B b (aH (some ⟨b,0,none⟩)) bs w'/\Below B w w'/\Lib.OthersKept 5 (some b) w w'/\w'.heap.size=w.heap.size:=by
 rcases h with⟨hB,v,hbk,hown,hne⟩|⟨hB,v,hbk,hown,hne⟩
 .refine(ajw B b v w hbk).mono ?_;rintro e w' ⟨rfl,rfl⟩;refine⟨rfl,⟨hB,v,heap_set hbk _,bG hown λk hk=>dS (λe=>hne (by rw[hk,e])) _,hne⟩,(Below.refl _ _).setCell hB _,(Lib.OthersKept.refl _ _ _).setCell ⟨b,0,none⟩ rfl _,af⟩
 .refine(ajx b v w hbk).mono ?_;rintro e w' ⟨rfl,rfl⟩;exact⟨rfl,⟨hB,v,hbk,hown,hne⟩,Below.refl _ _,Lib.OthersKept.refl _ _ _,rfl⟩
theorem YL:(Tryz.prog.info? 5).map (λi=>(i.zero,i.size,i.bytes))=some (some (az .u8 0),1,1):=ag
theorem YM{e:TypeId}(h:w.ownsRow B e size v n xs):∀g,v.ownBlock=some g->∃c fz,w.heap[g]?=some (.cells c e fz):=λg hg=>by
 obtain⟨c,hc⟩:=vh h hg;exact⟨c,_,hc⟩
theorem YO(B b:Nat)(bs:List aN)(c:Int)(w:aM)(h:Lib.IsBuilder 196 5 B b bs w)(hBw:B<=w.heap.size)(hlen:bs.length<=1000000):
  ak 118 #[aH (some ⟨b,0,none⟩),az .u8 c] w λe w'=>e=aL .nilIface/\Lib.IsBuilder 196 5 B b (bs++[az .u8 c]) w'/\Below B w w'/\Lib.OthersKept 5 (some b) w w':=by
 obtain⟨i0,hi,hz0,hz1,hz2⟩:=info_parts YL
 go_enter func118,ntmps118
 go_wp2_with fail
 refine(YK B b bs _ h).mono ?_;rintro e w1 ⟨rfl,⟨hB,v,hbk,hown,hne⟩,hb1,hk1,hsz⟩;have c1:=cK hbk;have hlt:=lt_of_heap hbk;have YP:Hid (w1.heap.size=w.heap.size):=hsz;have zx:B<=w1.heap.size:=aa
 clear hsz
 go_wp2_with (at_builtin;refine wpList_append_lies _ rfl (.tmp 11) (.tmp 13) 194 rfl B 5 i0 _ 1 1 underlying194 hi hz0 hz1 hz2 rfl ah v bs.length bs rfl (bG hown (λk hk=>Below.heap_alloc _ _ _ (bn hown k hk).2)) ⟨w1.heap.size,0,none⟩ 1 1 [az .u8 c] rfl rfl (World.news_of_block (cs:= #[az .u8 c]) (t:=5) (fr:=(0,0)) (heap_alloc_new w1 _)) (by simp[Value.oneCell']) ah (by unfold maxLen;omega) aa (by simp;omega) (w1.heap.size+1) af ?_;intro g cap w2 ho hgrow hat ik;have hb2:=(DL hgrow b hlt hne).trans hbk;have d1:=cK hb2;have f1:=bK hb2 1)
 go_ret
 have hgb:g≠b:=λe=>by
  rcases hat with h|h
  .exact hne (by rw[h,e])
  .omega
 refine⟨rfl,aR ⟨hB,_,heap_set hb2 _,?_,λe=>hgb (by simpa[Value.ownBlock] using e)⟩,?_,?_⟩
 .simp only[bX,dG,ib,jH];exact bG ho λk hk=>dS (λe=>hgb (by rw[<-e];simpa[Value.ownBlock] using hk)) _
 .exact(((hb1.alloc zx _).grown hgrow (by simp;omega) (λk hk=>(bn hown k hk).1))).setCell hB _
 .exact((hk1.alloc _).grown hgrow (λg hg=>by
   obtain⟨c,fz,hc⟩:=YM hown g hg;exact⟨c,fz,(Below.heap_alloc _ _ _ (lt_of_heap hc)).trans hc⟩)).setCell ⟨b,1,none⟩ rfl _
theorem Lp(B b:Nat)(bs:List aN)(s:ByteArray)(w:aM)(h:Lib.IsBuilder 196 5 B b bs w)(hBw:B<=w.heap.size)(hlen:bs.length<=1000000)(hs:s.size<=1000000):
  ak 119 #[aH (some ⟨b,0,none⟩),aF s] w λe w'=>e=aL (aI #[az aJ s.size,.nilIface])/\Lib.IsBuilder 196 5 B b (bs++Lib.strCells s) w'/\Below B w w'/\Lib.OthersKept 5 (some b) w w':=by
 obtain⟨i0,hi,hz0,hz1,hz2⟩:=info_parts YL
 go_enter func119,ntmps119
 go_wp2_with fail
 refine(YK B b bs _ h).mono ?_;rintro e w1 ⟨rfl,⟨hB,v,hbk,hown,hne⟩,hb1,hk1,hsz⟩;have c1:=cK hbk;have hlt:=lt_of_heap hbk;have zx:B<=w1.heap.size:=aa
 clear hsz
 go_wp2_with (at_builtin;refine Lib.wpList_append_own_string _ rfl (.tmp 12) (.tmp 13) 194 9 rfl B 5 i0 underlying194 underlying9 hi hz0 hz1 hz2 v bs.length bs rfl hown s rfl (by unfold maxLen;omega) aa zx ?_)
 intro v' w2 hown' hgrow _;have hb2:=(hgrow.block b hlt (λe=>hne e.symm)).trans hbk
 have d1:=cK hb2;have f1:=bK hb2 1;obtain⟨ao,n',cap,rfl⟩:∃ao n' cap,v'=aG ao n' cap:=by
  rcases hown'.2 with⟨hv,_⟩|⟨g,cap,cur,hv,_⟩
  .exact⟨_,_,_,hv⟩
  .exact⟨_,_,_,hv⟩
 go_wp2
 go_ret2
 have hnb:(Value.slice ao n' cap).ownBlock≠some b:=tY hown' hb2 ah
 refine⟨rfl,aR ⟨hB,_,heap_set hb2 _,?_,hnb⟩,?_,?_⟩
 .have e:(bs++Lib.strCells s).length=bs.length+s.size:=by
   have:=hown'.1;omega
  rw[e];exact bG hown' λk hk=>dS (λe=>hnb (by rw[hk,e])) _
 .exact(hb1.grown hgrow zx (λk hk=>(bn hown k hk).1)).setCell hB _
 .exact(hk1.grown hgrow (YM hown)).setCell ⟨b,1,none⟩ rfl _
theorem addr_add(g j:Nat):(⟨g,0,none⟩:Addr).add j=⟨g,j,none⟩:=by
 unfold Addr.add;split<;>simp_all
def ajy(s:ByteArray)(l':List Pl.Tk)(v:List (List (List (Int×Int))))(w:aM)(o:Option Pl.Tk)(e:Ending)(w':aM):Prop:=
 aj w w'/\((∃u,o=some u/\e=aL (aI #[aH none,az aJ 3,az aJ u.pl]))\/
  (o=none/\∃rb,e=aL (aI #[aH (some ⟨rb,0,none⟩),az aJ 0,az aJ 0])/\w.heap.size<=rb/\RD rb s (Pl.all s.data.toList) l' v.flatten w'))
theorem Ri(p:α->Bool)(c:List α)(k:Nat)(a:α)(h:c[k]?=some a)(hn:(c.take k).find? p=none):
  (p a=false->(c.take (k+1)).find? p=none)/\(p a=true->c.find? p=some a):=by
 have hk:=(cG.1 h).1;have ha:c[k]=a:=(cG.1 h).2;have e:c.take (k+1)=c.take k++[a]:=by rw[qD hk,ha]
 constructor
 .intro hp;rw[e,ahd,hn];simp[hp]
 .intro hp;have e2:c=(c.take k++[a])++c.drop (k+1):=by rw[<-e,AE]
  rw[e2,ahd,ahd,hn];simp[hp]
theorem ajz(s:ByteArray)(w:aM)(hs:s.size<=400)(hG:Gl w)(t:Pl.Tk)(r c:List Pl.Tk)(v:List (List (List (Int×Int))))
  (hp:Pl.dU (Pl.all s.data.toList)=(true,t::r,v))(ht:t.k=101)(hc:c++t::r=Pl.all s.data.toList)(hc0:0<c.length):
  ak 33 #[aF s] w (ajy s (t::r) v w (c.find? outT)):=by
 have HP:Hid (Pl.dU (Pl.all s.data.toList)=(true,t::r,v)):=hp;have HT:Hid (∀w1,Gl w1->ak 60 #[aF s,az aJ 0] w1 λe w'=>e=aL (aC (gJ (Pl.tk s.data.toList 0)))/\aj w1 w'):=λw1 g1=>YH s w1 hs g1
 have hk1:(Pl.pk t != 1)=false:=by rw[Pl.XI.2 ht];rfl
 have HC:Hid (c++t::r=Pl.all s.data.toList):=hc;have hcl:c.length<=402:=by
  have:=Pl.KR s.data.toList;rw[<-hc] at this;simp at this;omega
 clear hp hc ht;generalize hk:Pl.tk s.data.toList 0=t0 at*;have HK:Hid (Pl.tk s.data.toList 0=t0):=hk;unfold gJ at HT;clear hk;generalize hF:c.find? outT=F;have HF:Hid (c.find? outT=F):=hF;clear hF
 go_enter func33,ntmps33
 go_wp2_with fail
 refine(HT.out _ hG).mono ?_;rintro e w1 ⟨rfl,hb1⟩;have dv:Gl w1:=hG.below hb1 hG.sz
 go_wp2_with fail
 have Lm:RD w1.heap.size s (Pl.all s.data.toList) (Pl.all s.data.toList) [] (w1.alloc (.cells (KV s t0 (aG none 0 0) (aG none 0 0)) 80)):=RD.fresh (by rw[HK.out])
 have cx:Cx w1.heap.size s (Pl.all s.data.toList):=Cx.mk' hs dv.sz;refine(YC YF w1.heap.size s _ _ _ cx Lm (dv.alloc _)).mono ?_;rintro e w2 ⟨rfl,⟨rg2,fJ,hrg2⟩,hb2⟩;rw[HP.out] at fJ hrg2⊢;simp only at fJ hrg2⊢;have hrg:=hrg2 trivial;subst hrg;clear hrg2 Lm;obtain⟨c',t',r',tv,rv,hc',hl,hbk,hown,QE⟩:=id fJ;injection hl with h1 h2;subst h1 h2;have hcc:c'=c:=by
  have:=HC.out;rw[<-hc'] at this;exact(Wt this).symm
 subst hcc;obtain⟨g,cap,rfl,hg1,hg2⟩:=hown.form hc0;have c1:=cK hbk;have c5:=yQ hbk;have hrow:=hown.cells (g:=g) rfl;have o9:Hid (∀j u,(qL c')[j]?=some u->w2.cell? ⟨g,j,none⟩=some u):=λj u h=>by
  have:=hrow j u h;rwa[addr_add] at this
 have aX:aj w w2:=((hb1.alloc hb1.size _).trans (hb2.mono hb1.size));have hw1:w.heap.size<=w1.heap.size:=hb1.size;clear hrow hown QE hbk hc' HT HP HK
 go_wp2_with fail
 go_loopg [37] c'.length (λn i wr=>∃k:Nat,k+n=c'.length/\i=az aJ k/\Hid ((c'.take k).find? outT=none)/\aj w2 wr)
 case atStart=>exact⟨0,aa,rfl,by show _=_;simp,Below.refl _ _⟩
 case round=>
  obtain⟨k,hkn,rfl,hnone,hbr⟩:=hrel;by_cases hlt:k<c'.length
  .obtain⟨u,hu⟩:∃u,c'[k]?=some u:=⟨_,bo hlt⟩;have HU:Hid (c'[k]?=some u):=hu;have e0:wr.cell? ⟨g,k*4,none⟩=some (az aJ (Pl.pk u)):=by
    rw[hbr.cell (p:=⟨g,k*4,none⟩) hg2];exact o9.out (k*4) (az aJ (Pl.pk u)) (by have:=sf c' k u hu 0 aa;rw[rM] at this;rw[this];rfl)
   have e1:wr.cell? ⟨g,k*4+1,none⟩=some (aF ⟨(Pl.cP u).toArray⟩):=by
    rw[hbr.cell (p:=⟨g,k*4+1,none⟩) hg2];exact o9.out (k*4+1) (aF ⟨(Pl.cP u).toArray⟩) (by rw[sf c' k u hu 1 aa];rfl)
   have e2:wr.cell? ⟨g,k*4+2,none⟩=some (az aJ u.n):=by
    rw[hbr.cell (p:=⟨g,k*4+2,none⟩) hg2];exact o9.out (k*4+2) (az aJ u.n) (by rw[sf c' k u hu 2 aa];rfl)
   have e3:wr.cell? ⟨g,k*4+3,none⟩=some (az aJ u.pl):=by
    rw[hbr.cell (p:=⟨g,k*4+3,none⟩) hg2];exact o9.out (k*4+3) (az aJ u.pl) (by rw[sf c' k u hu 3 aa];rfl)
   clear hu;by_cases Lq:u.k=110
   .have ue:Pl.pk u=3:=Pl.zh.2 Lq;rw[ue] at e0;cases hin:D7 50 u.n
    .have ho:F=some u:=by
      rw[<-HF.out];exact(Ri outT c' k u HU.out hnone.out).2 (by unfold outT;simp[Lq,hin])
     subst ho
     go_wp2_with fail
     refine(YG u.n 50 _ aa aa).mono ?_
     rintro e w3 ⟨rfl,rfl⟩
     go_wp2_with fail
     go_quiet (fail)
     go_wp2_with fail
     go_ret3
     refine⟨?_,aS ⟨u,rfl,rfl⟩⟩;have q:aj w (wr.alloc (.cells #[az aJ 3,aF ⟨(Pl.cP u).toArray⟩,az aJ u.n,az aJ u.pl] 76)):=(aX.trans (hbr.mono aX.size)).alloc (fN aX.size hbr.size) _;exact⟨q.os,q.tape,q.output,q.size,q.block⟩
    .have hn:Hid ((c'.take (k+1)).find? outT=none):=(Ri outT c' k u HU.out hnone.out).1 (by unfold outT;simp[hin])
     go_wp2_with fail
     refine(YG u.n 50 _ aa aa).mono ?_
     rintro e w3 ⟨rfl,rfl⟩
     go_wp2_with fail
     go_roundg (gk-1)
     case measure=>omega
     case rel=>exact⟨k+1,aa,ai,hn,hbr.alloc hbr.size _⟩
   .have hn:Hid ((c'.take (k+1)).find? outT=none):=(Ri outT c' k u HU.out hnone.out).1 (by unfold outT;simp[Lq])
    have ue:(Pl.pk u == 3)=false:=by
     rw[tJ];intro h;exact Lq (Pl.zh.1 h)
    generalize Pl.pk u=pku at*
    go_wp2_with fail
    go_roundg (gk-1)
    case measure=>omega
    case rel=>exact⟨k+1,aa,ai,hn,hbr.alloc hbr.size _⟩
  .have ho:F=none:=by
    rw[<-HF.out];have:=hnone.out;rwa[qE aa] at this
   subst ho
   go_wp2_with fail
   go_ret3
   exact⟨aX.trans (hbr.mono aX.size),aR ⟨rfl,w1.heap.size,rfl,hw1,fJ.below hbr⟩⟩
namespace Pl
def wr(t:Tk):List UInt8:=if t.k=110 then Lib.itoa t.n else cP t
def bb(a b:Tk):Bool:=decide (cP a=[44])||(decide (a.k=110)&&decide (b.k=110))
def fZ:Tk->List Tk->List UInt8
 |_,[]=>[]
 |p,t::r=>(if bb p t=true then[32] else[])++(wr t++fZ t r)
def wt:List Tk->List UInt8
 |[]=>[]
 |[t]=>wr t
 |a::b::r=>wr a++([32]++(wr b++fZ b r))
theorem ajB(p:Tk)(l:List Tk)(x:Tk):fZ p (l++[x])=fZ p l++((if bb ((p::l).getLast af) x=true then[32] else[])++wr x):=by
 induction l generalizing p with
 |nil=>
  simp only[tE,fZ,qC,List.getLast_singleton];rfl
 |cons a r ih=>
  rw[mr,fZ,ih a,fZ];rw[List.getLast_cons (by simp:a::r≠[])]
  simp[List.append_assoc]
theorem ajC(a b:Tk)(r:List Tk)(x:Tk):wt (a::b::r++[x])=wt (a::b::r)++((if bb ((b::r).getLast af) x=true then[32] else[])++wr x):=by
 show wr a++([32]++(wr b++fZ b (r++[x])))=_;rw[ajB];simp[wt,List.append_assoc]
theorem Lr(c:List Tk)(k:Nat)(x y:Tk)(hx:c[k]?=some x)(hy:2<=k->c[k-1]?=some y):
  wt (c.take (k+1))=wt (c.take k)++((if k=0 then[] else if k=1 then[32] else if bb y x=true then[32] else[])++wr x):=by
 have hk:=(cG.1 hx).1;have ex:c[k]=x:=(cG.1 hx).2;have e:c.take (k+1)=c.take k++[x]:=by rw[qD hk,ex]
 rw[e];by_cases h0:k=0
 .subst h0;simp[wt]
 .by_cases h1:k=1
  .subst h1;obtain⟨a,r,hc⟩:∃a r,c=a::r:=by
    cases c with
    |nil=>simp at hk
    |cons a r=>exact⟨a,r,rfl⟩
   subst hc;simp[wt,fZ]
  .rw[aP h0,aP h1];have hy':=hy aa
   match c,hk,hx,hy' with
   |[],hk,_,_=>simp at hk
   |[_],hk,_,_=>simp at hk;omega
   |a::b::r,hk,hx,hy'=>
    obtain⟨m,rfl⟩:∃m,k=m+2:=⟨k-2,aa⟩
    simp only[FL];rw[ajC];have hl:(b::r.take m).getLast af=y:=by
     have h2:(b::r)[m]?=some y:=by simpa using hy'
     rw[List.getLast_eq_getElem];have hm:m<=r.length:=by simp at hk;omega
     have h3:(b::List.take m r)[m]?=some y:=by
      rw[<-FL,lH,aV aa]
      exact h2
     have h4:=(cG.1 h3);have h5:(b::List.take m r).length-1=m:=by simp;omega
     simp only[h5];exact h4.2
    rw[hl]
end Pl
theorem Ls(t:Pl.Tk)(w:aM)(hG:Gl w)(hn:t.k=110-> -9223372036854775808<=t.n/\t.n<=9223372036854775807):
  ak 120 #[aC #[az aJ (Pl.pk t),aF ⟨(Pl.cP t).toArray⟩,az aJ t.n,az aJ t.pl]] w λe w'=>e=aL (aF ⟨(Pl.wr t).toArray⟩)/\aj w w':=by
 by_cases hk:t.k=110
 .have e:Pl.wr t=Lib.itoa t.n:=by unfold Pl.wr;rw[aV hk]
  rw[e,Pl.zh.2 hk];obtain⟨kJ,tU⟩:=hn hk;clear hn;have HI:Hid (∀w1,Gl w1->ak 146 #[az aJ t.n] w1 λe w'=>e=aL (aF ⟨(Lib.itoa t.n).toArray⟩)/\aj w1 w'):=λw1 g1=>by
   refine(Tryz.strconv_Itoa t.n kJ tU w1 g1.tab).mono ?_;rintro e w' ⟨rfl,k,os,rfl⟩;exact⟨rfl,Lib.below_grow _ _ (aY _) _ _⟩
  clear kJ tU
  go_enter func120,ntmps120
  go_wp2_with fail
  refine(HI.out _ (hG.alloc _)).mono ?_;rintro e w1 ⟨rfl,hb⟩
  go_wp2_with fail
  go_ret
  exact⟨rfl,(aw _ _).trans (hb.mono af)⟩
 .have e:Pl.wr t=Pl.cP t:=by unfold Pl.wr;rw[aP hk]
  rw[e];have ue:(Pl.pk t == 3)=false:=by
   rw[tJ];intro h;exact hk (Pl.zh.1 h)
  generalize Pl.pk t=pku at*
  go_enter func120,ntmps120
  go_wp2
  go_ret
  exact⟨rfl,aw _ _⟩
theorem ajD(a b:Pl.Tk)(w:aM):
  ak 117 #[aC #[az aJ (Pl.pk a),aF ⟨(Pl.cP a).toArray⟩,az aJ a.n,az aJ a.pl],aC #[az aJ (Pl.pk b),aF ⟨(Pl.cP b).toArray⟩,az aJ b.n,az aJ b.pl]] w λe w'=>e=aL (aD (Pl.bb a b))/\aj w w':=by
 have aX:∀o1 o2,aj w ((w.alloc o1).alloc o2):=λo1 o2=>(aw _ _).alloc af _
 have hc:((⟨(Pl.cP a).toArray⟩:ByteArray).toList == [44])=decide (Pl.cP a=[44]):=by
  rw[ByteArray.toList_eq,mP];simp
 cases h1:decide (Pl.cP a=[44])
 .rw[h1] at hc;have e1:Pl.bb a b=(decide (a.k=110)&&decide (b.k=110)):=by unfold Pl.bb;rw[h1];rfl
  rw[e1];have hpa:(Pl.pk a == 3)=decide (a.k=110):=by
   rw[mP];simp[Pl.zh]
  have hpb:(Pl.pk b == 3)=decide (b.k=110):=by
   rw[mP];simp[Pl.zh]
  generalize(⟨(Pl.cP a).toArray⟩:ByteArray)=ra at*;generalize(⟨(Pl.cP b).toArray⟩:ByteArray)=rb at*;generalize decide (a.k=110)=da at*;generalize decide (b.k=110)=db at*;generalize Pl.pk a=pa at*;generalize Pl.pk b=pb at*;clear h1 e1;cases da
  .go_enter func117,ntmps117
   go_wp2
   go_ret
   exact⟨rfl,aX _ _⟩
  .go_enter func117,ntmps117
   go_wp2
   go_ret
   exact⟨vg af,aX _ _⟩
 .rw[h1] at hc;have e1:Pl.bb a b=true:=by unfold Pl.bb;rw[h1];rfl
  rw[e1];generalize(⟨(Pl.cP a).toArray⟩:ByteArray)=ra at*;clear h1 e1
  go_enter func117,ntmps117
  go_wp2
  go_ret
  exact⟨rfl,aX _ _⟩
theorem D8(h:Lib.IsBuilder 196 5 B b bs w)(hb:aj w w'):Lib.IsBuilder 196 5 B b bs w':=by
 rcases h with⟨hB,v,hbk,hown,hne⟩|⟨hB,v,hbk,hown,hne⟩
 .exact aS ⟨hB,v,(hb.block b (lt_of_heap hbk)).trans hbk,bG hown λk hk=>hb.block k (bn hown k hk).2,hne⟩
 .exact aR ⟨hB,v,(hb.block b (lt_of_heap hbk)).trans hbk,bG hown λk hk=>hb.block k (bn hown k hk).2,hne⟩
theorem YR(l:List UInt8):Lib.byteCells l++[az .u8 32]=Lib.byteCells (l++[32]):=by simp[Lib.byteCells]
theorem Lt(l r:List UInt8):Lib.byteCells l++Lib.strCells ⟨r.toArray⟩=Lib.byteCells (l++r):=by simp[Lib.byteCells,Lib.strCells]
def Wrote(w:aM)(c:List Pl.Tk)(k:Nat)(wr:aM):Prop:=
 Lib.IsBuilder 196 5 w.heap.size w.heap.size (Lib.byteCells (Pl.wt (c.take k))) wr/\aj w wr/\Gl wr/\w.heap.size<wr.heap.size
theorem Gl.drewN(h:Gl w)(n:Nat):Gl (w.drewN n):=⟨h.sz,h.es,h.er,h.tab⟩
theorem D9(h:Below B w w')(n:Nat):Below B w (w'.drewN n):=⟨h.os,h.tape,h.output,h.size,h.block⟩
theorem YS(h:Lib.IsBuilder 196 5 B b bs w):Lib.IsBuilder 196 5 B b bs (w.drewN n):=h
theorem Lu(hb:Below (w.alloc o).drew.heap.size (w.alloc o).drew w1){p:Addr}(hp:w.cell? p=some v):w1.cell? p=some v:=by
 have h:=World.block_lt_of_cell? w p hp;rw[hb.cell (p:=p) (by show p.block<(w.alloc o).heap.size;rw[World.size_alloc];omega)]
 exact(World.cell?_alloc_lt _ _ _ h).trans hp
theorem ajE(hb:Below (w.alloc o).drew.heap.size (w.alloc o).drew w1):w1.heap[w.heap.size]?=some o:=
 (hb.block w.heap.size (by show w.heap.size<(w.alloc o).heap.size;rw[World.size_alloc];omega)).trans (heap_alloc_new w o)
theorem YT(c:List Pl.Tk)(hw:∀t∈c,(Pl.wr t).length<=400):∀k,(Pl.wt (c.take k)).length<=k*401
 |0=>by simp[Pl.wt]
 |k+1=>by
  have ih:=YT c hw k;by_cases hk:k<c.length
  .have hx:c[k]?=some c[k]:=bo hk;have hl:=hw c[k] (iw hk);have hy:2<=k->c[k-1]?=some (c[k-1]' aa):=λ_=>bo aa
   rw[Pl.Lr c k c[k] (c[k-1]' aa) hx hy]
   simp only[bX];have:(if k=0 then([]:List UInt8) else if k=1 then[32] else if Pl.bb (c[k-1]' aa) c[k]=true then[32] else[]).length<=1:=by
    repeat' split
    all_goals simp
   omega
  .have e:c.take (k+1)=c.take k:=by rw[qE aa,qE aa]
   rw[e];exact fN ih (J7 _ (pT _))
theorem ajF(c:List Pl.Tk)(g cap:Nat)(w:aM)(hG:Gl w)(hg:g<w.heap.size)(hrow:∀j u,(qL c)[j]?=some u->w.cell? ⟨g,j,none⟩=some u)
  (hc:c.length<=402)(hw:∀t∈c,(Pl.wr t).length<=400)(hn:∀t∈c,t.k=110-> -9223372036854775808<=t.n/\t.n<=9223372036854775807):
  ak 70 #[aG (some ⟨g,0,none⟩) c.length cap] w λe w'=>e=aL (aF ⟨(Pl.wt c).toArray⟩)/\aj w w':=by
 have o9:Hid (∀j u,(qL c)[j]?=some u->w.cell? ⟨g,j,none⟩=some u):=hrow;have HW:Hid (∀t∈c,(Pl.wr t).length<=400):=hw;have HN:Hid (∀t∈c,t.k=110-> -9223372036854775808<=t.n/\t.n<=9223372036854775807):=hn;have HS:Hid (Wrote w c 0 (w.alloc (.cells #[aH none,aG none 0 0] 196))):=⟨Lib.fresh_isBuilder 196 5 w,aw _ _,hG.alloc _,af⟩
 clear hrow hw hn
 go_enter func70,ntmps70
 go_wp2_with fail
 go_loopg [8] c.length (λn i wr=>∃k:Nat,k+n=c.length/\i=az aJ k/\Hid (Wrote w c k wr))
 case atStart=>exact⟨0,aa,rfl,HS⟩
 case round=>
  obtain⟨k,hkn,rfl,hwr⟩:=hrel;obtain⟨hB,aX,sx,hsz⟩:=hwr.out;by_cases hlt:k<c.length
  .obtain⟨u,hu⟩:∃u,c[k]?=some u:=⟨_,bo hlt⟩;have hmem:u∈c:=bA hu;have hbd:=YT c HW.out k;have hul:=HW.out u hmem;have HU:Hid (u.k=110-> -9223372036854775808<=u.n/\u.n<=9223372036854775807):=HN.out u hmem;have e0:wr.cell? ⟨g,k*4,none⟩=some (az aJ (Pl.pk u)):=by
    rw[aX.cell (p:=⟨g,k*4,none⟩) hg];exact o9.out (k*4) (az aJ (Pl.pk u)) (by have:=sf c k u hu 0 aa;rw[rM] at this;rw[this];rfl)
   have e1:wr.cell? ⟨g,k*4+1,none⟩=some (aF ⟨(Pl.cP u).toArray⟩):=by
    rw[aX.cell (p:=⟨g,k*4+1,none⟩) hg];exact o9.out (k*4+1) (aF ⟨(Pl.cP u).toArray⟩) (by rw[sf c k u hu 1 aa];rfl)
   have e2:wr.cell? ⟨g,k*4+2,none⟩=some (az aJ u.n):=by
    rw[aX.cell (p:=⟨g,k*4+2,none⟩) hg];exact o9.out (k*4+2) (az aJ u.n) (by rw[sf c k u hu 2 aa];rfl)
   have e3:wr.cell? ⟨g,k*4+3,none⟩=some (az aJ u.pl):=by
    rw[aX.cell (p:=⟨g,k*4+3,none⟩) hg];exact o9.out (k*4+3) (az aJ u.pl) (by rw[sf c k u hu 3 aa];rfl)
   have zi:(wr.alloc (.cells #[az aJ (Pl.pk u),aF ⟨(Pl.cP u).toArray⟩,az aJ u.n,az aJ u.pl] 76)).heap[wr.heap.size]?=some (.cells #[az aJ (Pl.pk u),aF ⟨(Pl.cP u).toArray⟩,az aJ u.n,az aJ u.pl] 76 (0,0)):=heap_alloc_new wr _;have hBa:=D8 hB ((Below.refl _ _).alloc (aY _) (.cells #[az aJ (Pl.pk u),aF ⟨(Pl.cP u).toArray⟩,az aJ u.n,az aJ u.pl] 76));have zy:=sx.alloc (.cells #[az aJ (Pl.pk u),aF ⟨(Pl.cP u).toArray⟩,az aJ u.n,az aJ u.pl] 76);have Lv:=aX.alloc aX.size (.cells #[az aJ (Pl.pk u),aF ⟨(Pl.cP u).toArray⟩,az aJ u.n,az aJ u.pl] 76);have Rj:Hid (c[k]?=some u):=hu;clear hu;by_cases xf:k=0
   .have HT:Hid (Pl.wt (c.take (k+1))=Pl.wt (c.take k)++Pl.wr u):=by
     have:=Pl.Lr c k u u Rj.out (λh=>aa)
     rw[aV xf,tE] at this;exact this
    have hq1:((k:Int) == 1)=false:=by simp;omega
    have hq2:decide (1<(k:Int))=false:=by simp;omega
    clear xf
    go_wp2_with fail
    go_quiet (fail)
    have qU:Lib.IsBuilder 196 5 w.heap.size w.heap.size _ ((wr.alloc (.cells #[az aJ (Pl.pk u),aF ⟨(Pl.cP u).toArray⟩,az aJ u.n,az aJ u.pl] 76)).drewN nq):=YS hBa;have hx1:((wr.alloc (.cells #[az aJ (Pl.pk u),aF ⟨(Pl.cP u).toArray⟩,az aJ u.n,az aJ u.pl] 76)).drewN nq).heap[wr.heap.size]?=_:=zi;have dv:Gl ((wr.alloc (.cells #[az aJ (Pl.pk u),aF ⟨(Pl.cP u).toArray⟩,az aJ u.n,az aJ u.pl] 76)).drewN nq):=zy.drewN nq;have iI:aj w ((wr.alloc (.cells #[az aJ (Pl.pk u),aF ⟨(Pl.cP u).toArray⟩,az aJ u.n,az aJ u.pl] 76)).drewN nq):=D9 Lv nq;have y0:((wr.alloc (.cells #[az aJ (Pl.pk u),aF ⟨(Pl.cP u).toArray⟩,az aJ u.n,az aJ u.pl] 76)).drewN nq).cell? ⟨wr.heap.size,0,none⟩=some (az aJ (Pl.pk u)):=cell_of hx1 0;have y1:((wr.alloc (.cells #[az aJ (Pl.pk u),aF ⟨(Pl.cP u).toArray⟩,az aJ u.n,az aJ u.pl] 76)).drewN nq).cell? ⟨wr.heap.size,1,none⟩=some (aF ⟨(Pl.cP u).toArray⟩):=cell_of hx1 1;have y2:((wr.alloc (.cells #[az aJ (Pl.pk u),aF ⟨(Pl.cP u).toArray⟩,az aJ u.n,az aJ u.pl] 76)).drewN nq).cell? ⟨wr.heap.size,2,none⟩=some (az aJ u.n):=cell_of hx1 2;have y3:((wr.alloc (.cells #[az aJ (Pl.pk u),aF ⟨(Pl.cP u).toArray⟩,az aJ u.n,az aJ u.pl] 76)).drewN nq).cell? ⟨wr.heap.size,3,none⟩=some (az aJ u.pl):=cell_of hx1 3
    go_wp2_with fail
    refine(Ls u _ dv HU.out).mono ?_;rintro e w3 ⟨rfl,hb3⟩;have Br:=D8 qU hb3;have jy:=iI.trans (hb3.mono iI.size);have ud:=dv.below hb3 dv.sz
    go_wp2_with fail
    refine(Lp w.heap.size w.heap.size _ ⟨(Pl.wr u).toArray⟩ w3 Br (fN iI.size hb3.size) (by simp[Lib.byteCells];omega) (by show(Pl.wr u).toArray.size<=_;simp;omega)).mono ?_
    rintro e w4 ⟨rfl,hB4,hb4,_⟩;rw[Lt] at hB4
    go_wp2_with fail
    go_roundg (gk-1)
    case measure=>omega
    case rel=>exact⟨k+1,aa,ai,⟨by rw[HT.out];exact hB4,jy.trans hb4,ud.below hb4 hG.sz,by have h1:=hb3.size;have h2:=hb4.size;simp at h1;omega⟩⟩
   .obtain⟨m,rfl⟩:∃m,k=m+1:=⟨k-1,aa⟩
    clear xf;by_cases hk1:m=0
    .have HT:Hid (Pl.wt (c.take (m+1+1))=Pl.wt (c.take (m+1))++[32]++Pl.wr u):=by
      have:=Pl.Lr c (m+1) u u Rj.out (λh=>aa)
      rw[aP aa,aV aa,<-fL] at this
      exact this
     have hq1:((m:Int)+1 == 1)=true:=by simp;omega
     clear hk1
     go_wp2_with fail
     go_quiet (fail)
     have GN:Lib.IsBuilder 196 5 w.heap.size w.heap.size _ ((wr.alloc (.cells #[az aJ (Pl.pk u),aF ⟨(Pl.cP u).toArray⟩,az aJ u.n,az aJ u.pl] 76)).drewN nq):=YS hBa;have Rl:((wr.alloc (.cells #[az aJ (Pl.pk u),aF ⟨(Pl.cP u).toArray⟩,az aJ u.n,az aJ u.pl] 76)).drewN nq).heap[wr.heap.size]?=_:=zi;have Lx:Gl ((wr.alloc (.cells #[az aJ (Pl.pk u),aF ⟨(Pl.cP u).toArray⟩,az aJ u.n,az aJ u.pl] 76)).drewN nq):=zy.drewN nq;have Ea:aj w ((wr.alloc (.cells #[az aJ (Pl.pk u),aF ⟨(Pl.cP u).toArray⟩,az aJ u.n,az aJ u.pl] 76)).drewN nq):=D9 Lv nq;have vz:w.heap.size<((wr.alloc (.cells #[az aJ (Pl.pk u),aF ⟨(Pl.cP u).toArray⟩,az aJ u.n,az aJ u.pl] 76)).drewN nq).heap.size:=by show _<(wr.alloc _).heap.size;simp;omega
     go_wp2_with fail
     refine(YO w.heap.size w.heap.size _ 32 _ GN Ea.size (by simp[Lib.byteCells];omega)).mono ?_
     rintro e w2 ⟨rfl,qU,hb2,hk2⟩;rw[YR] at qU;have hx1:=hk2 wr.heap.size _ Rl (by simp;omega) (by intro c fz h;cases h)
     have dv:Gl w2:=Lx.below hb2 hG.sz;have iI:aj w w2:=Ea.trans hb2;have hz1:w.heap.size<w2.heap.size:=by have:=hb2.size;omega
     have y0:=cL hx1;have y1:=cK hx1;have y2:=eN hx1;have y3:=kA hx1
     go_wp2_with fail
     refine(Ls u _ dv HU.out).mono ?_;rintro e w3 ⟨rfl,hb3⟩;have Br:=D8 qU hb3;have jy:=iI.trans (hb3.mono iI.size);have ud:=dv.below hb3 dv.sz
     go_wp2_with fail
     refine(Lp w.heap.size w.heap.size _ ⟨(Pl.wr u).toArray⟩ w3 Br (fN iI.size hb3.size) (by simp[Lib.byteCells];omega) (by show(Pl.wr u).toArray.size<=_;simp;omega)).mono ?_
     rintro e w4 ⟨rfl,hB4,hb4,_⟩;rw[Lt] at hB4
     go_wp2_with fail
     go_roundg (gk-1)
     case measure=>omega
     case rel=>exact⟨(m+1)+1,aa,ai,⟨by rw[HT.out];exact hB4,jy.trans hb4,ud.below hb4 hG.sz,by have h0:=hz1;have h1:=hb3.size;have h2:=hb4.size;omega⟩⟩
    .obtain⟨y,hy⟩:∃y,c[m]?=some y:=⟨_,bo aa⟩
     have z0:wr.cell? ⟨g,m*4,none⟩=some (az aJ (Pl.pk y)):=by
      rw[aX.cell (p:=⟨g,m*4,none⟩) hg];exact o9.out (m*4) (az aJ (Pl.pk y)) (by have:=sf c m y hy 0 aa;rw[rM] at this;rw[this];rfl)
     have z1:wr.cell? ⟨g,m*4+1,none⟩=some (aF ⟨(Pl.cP y).toArray⟩):=by
      rw[aX.cell (p:=⟨g,m*4+1,none⟩) hg];exact o9.out (m*4+1) (aF ⟨(Pl.cP y).toArray⟩) (by rw[sf c m y hy 1 aa];rfl)
     have z2:wr.cell? ⟨g,m*4+2,none⟩=some (az aJ y.n):=by
      rw[aX.cell (p:=⟨g,m*4+2,none⟩) hg];exact o9.out (m*4+2) (az aJ y.n) (by rw[sf c m y hy 2 aa];rfl)
     have z3:wr.cell? ⟨g,m*4+3,none⟩=some (az aJ y.pl):=by
      rw[aX.cell (p:=⟨g,m*4+3,none⟩) hg];exact o9.out (m*4+3) (az aJ y.pl) (by rw[sf c m y hy 3 aa];rfl)
     have sy:=Pl.Lr c (m+1) u y Rj.out (λh=>hy)
     rw[aP aa,aP aa] at sy
     have pj:Hid (Pl.wt (c.take (m+1+1))=Pl.wt (c.take (m+1))++((if Pl.bb y u=true then[32] else[])++Pl.wr u)):=sy
     have hq1:((m:Int)+1 == 1)=false:=by simp;omega
     have hq2:(1:Int)<(m:Int)+1:=aa
     have hgr:g<wr.heap.size:=aa
     have lM:(m:Int)<(c.length:Int):=aa
     have atX:(0:Int)<=(m:Int):=aa
     have Eb:m<c.length:=aa
     have ajH:IntKind.i64.wrap (m:Int)=(m:Int):=by rw[IntKind.wrap_i64];omega
     have ajI:IntKind.i64.wrap ((m:Int)+1-1)=(m:Int):=by rw[IntKind.wrap_i64];omega
     clear sy hy hk1
     go_wp2_with fail
     go_region_held3 (λw'=>w'.cell? ⟨g,m*4,none⟩=some (az aJ (Pl.pk y))/\w'.cell? ⟨g,m*4+1,none⟩=some (aF ⟨(Pl.cP y).toArray⟩)/\w'.cell? ⟨g,m*4+2,none⟩=some (az aJ y.n)/\w'.cell? ⟨g,m*4+3,none⟩=some (az aJ y.pl)/\w'.cell? ⟨wr.heap.size,0,none⟩=some (az aJ (Pl.pk u))/\w'.cell? ⟨wr.heap.size,1,none⟩=some (aF ⟨(Pl.cP u).toArray⟩)/\w'.cell? ⟨wr.heap.size,2,none⟩=some (az aJ u.n)/\w'.cell? ⟨wr.heap.size,3,none⟩=some (az aJ u.pl)) (go_keep) (first |(go_at_call 117;refine(ajD y u _).mono ?_;rintro e w1 ⟨rfl,hb1⟩;have hz0:wr.heap.size<w1.heap.size:=(by have h:=hb1.size;simp at h;omega);have q0:=Lu hb1 z0;have q1:=Lu hb1 z1;have q2:=Lu hb1 z2;have q3:=Lu hb1 z3;have GP:=ajE hb1;have p0:=cL GP;have p1:=cK GP;have p2:=eN GP;have p3:=kA GP))
     have sB:Below (wr.alloc (.cells #[az aJ (Pl.pk u),aF ⟨(Pl.cP u).toArray⟩,az aJ u.n,az aJ u.pl] 76)).heap.size (wr.alloc (.cells #[az aJ (Pl.pk u),aF ⟨(Pl.cP u).toArray⟩,az aJ u.n,az aJ u.pl] 76)) w1:=⟨hb1.os,hb1.tape,hb1.output,hb1.size,hb1.block⟩;have GN:Lib.IsBuilder 196 5 w.heap.size w.heap.size _ w1:=D8 hBa sB;have Rl:=GP;have Lx:Gl w1:=zy.below sB zy.sz;have Ea:aj w w1:=Lv.trans (sB.mono Lv.size);have vz:w.heap.size<w1.heap.size:=aa
     clear z0 z1 z2 z3 q0 q1 q2 q3 ajH ajI;cases hbb:Pl.bb y u
     .have qU:=GN;have dv:=Lx;have iI:=Ea;have hz1:=vz
      go_wp2_with fail
      refine(Ls u _ dv HU.out).mono ?_;rintro e w3 ⟨rfl,hb3⟩;have Br:=D8 qU hb3;have jy:=iI.trans (hb3.mono iI.size);have ud:=dv.below hb3 dv.sz
      go_wp2_with fail
      refine(Lp w.heap.size w.heap.size _ ⟨(Pl.wr u).toArray⟩ w3 Br (fN iI.size hb3.size) (by simp[Lib.byteCells];omega) (by show(Pl.wr u).toArray.size<=_;simp;omega)).mono ?_
      rintro e w4 ⟨rfl,hB4,hb4,_⟩;rw[Lt] at hB4
      go_wp2_with fail
      go_roundg (gk-1)
      case measure=>omega
      case rel=>exact⟨m+1+1,aa,ai,⟨by rw[pj.out,hbb,aP af,tE];exact hB4,jy.trans hb4,ud.below hb4 hG.sz,by have h0:=hz1;have h1:=hb3.size;have h2:=hb4.size;omega⟩⟩
     .clear p0 p1 p2 p3
      go_wp2_with fail
      refine(YO w.heap.size w.heap.size _ 32 _ GN Ea.size (by simp[Lib.byteCells];omega)).mono ?_
      rintro e w2 ⟨rfl,qU,hb2,hk2⟩;rw[YR] at qU;have hx1:=hk2 wr.heap.size _ Rl (by simp;omega) (by intro c fz h;cases h)
      have dv:Gl w2:=Lx.below hb2 hG.sz;have iI:aj w w2:=Ea.trans hb2;have hz1:w.heap.size<w2.heap.size:=by have:=hb2.size;omega
      have y0:=cL hx1;have y1:=cK hx1;have y2:=eN hx1;have y3:=kA hx1
      go_wp2_with fail
      refine(Ls u _ dv HU.out).mono ?_;rintro e w3 ⟨rfl,hb3⟩;have Br:=D8 qU hb3;have jy:=iI.trans (hb3.mono iI.size);have ud:=dv.below hb3 dv.sz
      go_wp2_with fail
      refine(Lp w.heap.size w.heap.size _ ⟨(Pl.wr u).toArray⟩ w3 Br (fN iI.size hb3.size) (by simp[Lib.byteCells];omega) (by show(Pl.wr u).toArray.size<=_;simp;omega)).mono ?_
      rintro e w4 ⟨rfl,hB4,hb4,_⟩;rw[Lt] at hB4
      go_wp2_with fail
      go_roundg (gk-1)
      case measure=>omega
      case rel=>exact⟨m+1+1,aa,ai,⟨by rw[pj.out,hbb,aV rfl,<-fL];exact hB4,jy.trans hb4,ud.below hb4 hG.sz,by have h0:=hz1;have h1:=hb3.size;have h2:=hb4.size;omega⟩⟩
  .have GQ:k=c.length:=aa
   subst GQ;rw[gv] at hB
   go_wp2_with fail
   refine(Tryz.Builder_String_any w.heap.size w.heap.size (Pl.wt c) _ hB aX.size).mono ?_;rintro e w3 ⟨rfl,hb3⟩
   go_wp2_with fail
   go_ret
   exact⟨rfl,aX.trans hb3⟩
namespace Pl
def Goes(s:List UInt8)(l l':List Tk):Prop:=(∃c,c++l'=l)/\jY s l'
theorem Goes.refl{s:List UInt8}{l:List Tk}(h:jY s l):Goes s l l:=⟨⟨[],rfl⟩,h⟩
theorem Goes.trans{s:List UInt8}{a b c:List Tk}(h:Goes s a b)(k:Goes s b c):Goes s a c:=by
 obtain⟨⟨x,hx⟩,_⟩:=h;obtain⟨⟨y,hy⟩,hc⟩:=k;exact⟨⟨x++y,by rw[fL,hy,hx]⟩,hc⟩
theorem Goes.tail{s:List UInt8}{t:Tk}{r:List Tk}(h:jY s (t::r))(hk:¬(t.k=101\/t.k=120)):Goes s (t::r) r:=by
 obtain⟨u,r',_,_,hc⟩:=Xo s t r h hk;exact⟨⟨[t],rfl⟩,hc⟩
theorem Ec{s:List UInt8}{c:Nat}{l:List Tk}(h:jY s l)(hc:c≠101/\c≠120):Goes s l (mk c l).2:=by
 cases l with
 |nil=>exact h.elim
 |cons t r=>
  by_cases hk:t.k=c
  .have e:mk c (t::r)=(true,r):=by simp[mk,hk]
   rw[e];exact Goes.tail h aa
  .have e:mk c (t::r)=(false,t::r):=by simp[mk,hk]
   rw[e];exact Goes.refl h
theorem Lz{s:List UInt8}{q:List UInt8}{l:List Tk}(h:jY s l):Goes s l (wd q l).2:=by
 cases l with
 |nil=>exact h.elim
 |cons t r=>
  by_cases hk:t.k=119/\t.raw=q
  .have e:wd q (t::r)=(true,r):=by simp only[wd];rw[aV hk]
   rw[e];exact Goes.tail h aa
  .have e:wd q (t::r)=(false,t::r):=by simp only[wd];rw[aP hk]
   rw[e];exact Goes.refl h
theorem ajJ{s:List UInt8}(l:List Tk)(h:jY s l):Goes s l (iG l).2.1:=by
 match l,h with
 |[],h=>exact h.elim
 |[x],h=>exact Goes.refl h
 |x::y::r,h=>
  by_cases hx:x.k=110
  .have g1:=Goes.tail h aa
   by_cases hy:y.k=110
   .have e:iG (x::y::r)=(true,r,(x.n,y.n)):=by simp[iG,hx,hy]
    rw[e];exact g1.trans (Goes.tail g1.2 aa)
   .have e:iG (x::y::r)=(false,y::r,(0,0)):=by simp[iG,hx,hy]
    rw[e];exact g1
  .have e:iG (x::y::r)=(false,x::y::r,(0,0)):=by simp[iG,hx]
   rw[e];exact Goes.refl h
theorem LA{s:List UInt8}{α:Type}(item:List Tk->Bool×List Tk×α)(hi:∀l,jY s l->Goes s l (item l).2.1):
  ∀(f:Nat)(l:List Tk)(acc:List α),jY s l->Goes s l (ig item f l acc).2.1
 |0,l,acc,h=>Goes.refl h
 |f+1,l,acc,h=>by
  have g1:=hi l h;cases h1:(item l).1
  .rw[Q9 h1];exact g1
  .cases h2:(mk 44 (item l).2.1).1
   .rw[Rb h1 h2];exact g1.trans (Ec g1.2 aa)
   .rw[Ra h1 h2];have g2:=Ec (c:=44) g1.2 aa
    exact(g1.trans g2).trans (LA item hi f _ _ g2.2)
theorem ajK{s:List UInt8}(l:List Tk)(h:jY s l):Goes s l (kM l).2.1:=by
 unfold kM;have g1:=Ec (c:=40) h aa
 split
 .split
  .exact g1.trans (Ec g1.2 aa)
  .exact g1.trans (LA iG ajJ _ _ _ g1.2)
 .exact Goes.refl h
theorem YU{s:List UInt8}(l:List Tk)(h:jY s l):Goes s l (fW l).2.1:=by
 unfold fW;split
 .exact Lz h
 .have g1:=Ec (c:=40) h aa
  split
  .exact g1.trans (LA kM ajK _ _ _ g1.2)
  .exact Goes.refl h
theorem ajL{s:List UInt8}(l:List Tk)(h:jY s l):Goes s l (mG l).2.1:=by
 unfold mG;split
 .exact Lz h
 .have g1:=Ec (c:=40) h aa
  split
  .exact g1.trans (LA fW YU _ _ _ g1.2)
  .exact Goes.refl h
theorem YV{s:List UInt8}(l:List Tk)(h:jY s l):Goes s l (dU l).2.1:=by
 unfold dU;split
 .have g1:=Lz (q:=jZ) h;exact g1.trans (YU _ g1.2)
 .split
  .have g1:=Lz (q:=fI) h;exact g1.trans (ajL _ g1.2)
  .exact Goes.refl h
theorem YW(l:List Tk)(h:(dU l).1=true):(dU l).2.1.length<l.length:=by
 unfold dU at h⊢;by_cases h1:(wd jZ l).1=true
 .rw[aV h1] at h⊢;have:=D5 h1;have:=(Li _ h).1;simp only;omega
 .rw[aP h1] at h⊢;by_cases h2:(wd fI l).1=true
  .rw[aV h2] at h⊢;have:=D5 h2;have:=ajg _ h;omega
  .rw[aP h2] at h;cases h
def hk(l:List Tk):Nat:=match l with |[]=>0|t::_=>t.k
def hpl(l:List Tk):Nat:=match l with |[]=>0|t::_=>t.pl
def took(s:List UInt8):List Tk:=(all s).take ((all s).length-(dU (all s)).2.1.length)
def err(s:List UInt8):Nat×Nat:=
  if 400<s.length then(1,0)
  else if(dU (all s)).1=true/\hk (dU (all s)).2.1=101 then
    (match(took s).find? outT with
     | some u=>(3,u.pl)
     | none=>(0,0))
  else(2,hpl (dU (all s)).2.1)
theorem LB(s:List UInt8):took s++(dU (all s)).2.1=all s:=by
 obtain⟨⟨c,hc⟩,_⟩:=YV (all s) (KP s);unfold took;have:(all s).length=c.length+(dU (all s)).2.1.length:=by
  conv=>lhs;rw[<-hc]
  simp
 rw[this,ahe]
 conv=>lhs;lhs;rw[<-hc]
 rw[List.take_left];exact hc
end Pl
def YX(s:ByteArray)(w:aM)(e:Ending)(w':aM):Prop:=
 aj w w'/\∃pv,e=aL (aI #[aH pv,az aJ (Pl.err s.data.toList).1,az aJ (Pl.err s.data.toList).2])/\
  ((Pl.err s.data.toList).1=0->∃rb,pv=some ⟨rb,0,none⟩/\w.heap.size<=rb/\RD rb s (Pl.all s.data.toList) (Pl.dU (Pl.all s.data.toList)).2.1 (Pl.dU (Pl.all s.data.toList)).2.2.flatten w')
theorem LC(s:ByteArray)(w:aM)(hm:s.size<=maxLen)(hG:Gl w):
  ak 33 #[aF s] w (YX s w):=by
 have hsz:s.data.toList.length=s.size:=af
 by_cases hs:400<s.size
 .refine(ajs s w hs hm).mono ?_;rintro e w' ⟨rfl,rfl⟩;have he:Pl.err s.data.toList=(1,0):=by unfold Pl.err;rw[aV aa]
  refine⟨Below.refl _ _,none,?_,?_⟩
  .rw[he];rfl
  .rw[he];intro h;cases h
 .have hs':s.size<=400:=aa
  have hg:=Pl.YV (Pl.all s.data.toList) (Pl.KP s.data.toList);have iq:=Pl.LB s.data.toList;have qV:Pl.err s.data.toList=if(Pl.dU (Pl.all s.data.toList)).1=true/\Pl.hk (Pl.dU (Pl.all s.data.toList)).2.1=101 then
    (match(Pl.took s.data.toList).find? outT with |some u=>(3,u.pl)|none=>(0,0)) else(2,Pl.hpl (Pl.dU (Pl.all s.data.toList)).2.1):=by
   unfold Pl.err;rw[aP aa]
  have hlt:=Pl.YW (Pl.all s.data.toList);unfold YX;rcases hp:Pl.dU (Pl.all s.data.toList) with⟨b,l',v⟩;rw[hp] at hg iq qV hlt;simp only at hg iq qV hlt⊢;obtain⟨t,r,rfl⟩:∃t r,l'=t::r:=by
   cases l' with
   |nil=>exact hg.2.elim
   |cons t r=>exact⟨t,r,rfl⟩
  by_cases hok:b=true/\t.k=101
  .obtain⟨rfl,ht⟩:=hok;have hc0:0<(Pl.took s.data.toList).length:=by
    have h1:=hlt rfl;have h2:=aZ List.length iq;simp only[bX] at h2;omega
   refine(ajz s w hs' hG t r (Pl.took s.data.toList) v hp ht iq hc0).mono ?_;rintro e w' ⟨aX,hr⟩;rw[aV ⟨rfl,ht⟩] at qV;refine⟨aX,?_⟩;rcases hr with⟨u,hu,rfl⟩|⟨hu,rb,rfl,h1,h2⟩
   .rw[hu] at qV;simp only at qV;refine⟨none,by rw[qV];rfl,?_⟩
    rw[qV];intro h;cases h
   .rw[hu] at qV;simp only at qV;exact⟨_,by rw[qV];rfl,λ_=>⟨rb,rfl,h1,h2⟩⟩
  .rw[aP (by exact hok)] at qV
   refine(ajt s w hs' hG (t::r) t r b v hp rfl (by
    by_cases hb:b=true
    .exact aR (λh=>hok ⟨hb,h⟩)
    .exact aS (by simpa using hb))).mono ?_
   rintro e w' ⟨rfl,aX⟩;refine⟨aX,none,by rw[qV];rfl,?_⟩
   rw[qV];intro h;cases h
theorem Fp.Rm(h:Fp pb w w4)(hg:((w4.alloc o1).alloc o2).grownBy w5 row)(hrow:∀k,row=some k->w.heap.size<=k):Fp pb w w5:=by
 refine⟨hg.os.trans h.os,hg.tape.trans h.tape,hg.output.trans h.output,?_,λk hk hne=>?_⟩
 .have h1:=hg.size;have h2:=h.size;simp at h1;omega
 .have h2:=h.size;rw[hg.block k (by simp;omega) (λer=>by have:=hrow k er.symm;omega),Below.heap_alloc _ _ _ (by simp;omega),Below.heap_alloc _ _ _ aa]
  exact h.block k hk hne
def xy{α:Type}(ts:List Nat)(R:aM->aN->α->Prop):Prop:=
 ∀(w w':aM) v x,R w v x->(∀(k:Nat)(cur:Array aN)(e:TypeId),w.heap[k]?=some (Obj.cells cur e (0,0))->e∈ts->w'.heap[k]?=w.heap[k]?)->R w' v x
def Bt{α:Type}(T:Nat)(R:aM->aN->α->Prop)(w:aM)(v:aN)(xs:List α):Prop:=
 ∃vs:List aN,vs.length=xs.length/\w.ownsRow 0 T 1 v xs.length vs/\∀(i:Nat) u x,vs[i]?=some u->xs[i]?=some x->R w u x
theorem xz{e:TypeId}(h:w.ownsRow b e size v n xs):w.ownsRow 0 e size v n xs:=by
 obtain⟨h1,h2⟩:=h;rcases h2 with h2|⟨g,cap,cur,hv,_,r⟩
 .exact⟨h1,aS h2⟩
 .exact⟨h1,aR ⟨g,cap,cur,hv,iW _,r⟩⟩
theorem Bu{e:TypeId}(h:w.ownsRow b e size v n xs)
  (hk:∀(k:Nat)(cur:Array aN),w.heap[k]?=some (Obj.cells cur e (0,0))->w'.heap[k]?=w.heap[k]?):w'.ownsRow b e size v n xs:=
 bG h λk hk'=>by
  obtain⟨c,hc⟩:=vh h hk';exact hk k c hc
theorem YY{ts:List Nat}{R:aM->aN->α->Prop}(hR:xy ts R):xy (T::ts) (Bt T R):=by
 intro w w' v xs h hk;obtain⟨vs,h1,h2,h3⟩:=h;exact⟨vs,h1,Bu h2 λk cur hc=>hk k cur _ hc af,λi u x hi hx=>hR w w' u x (h3 i u x hi hx) λk cur e hc he=>hk k cur e hc (by simp[he])⟩
theorem Rn(hg:(w1.alloc o1).grownBy w2 row):∀k,k<w1.heap.size->row≠some k->w2.heap[k]?=w1.heap[k]?:=λk hk hr=>DL hg k hk hr
theorem Fp.GR(h:Fp pb w w4)(hg:(w4.alloc o1).grownBy w5 row)(hrow:∀k,row=some k->w.heap.size<=k):Fp pb w w5:=by
 refine⟨hg.os.trans h.os,hg.tape.trans h.tape,hg.output.trans h.output,?_,λk hk hne=>?_⟩
 .have h1:=hg.size;have h2:=h.size;simp at h1;omega
 .have h2:=h.size;rw[Rn hg k aa (λer=>by have:=hrow k er;omega)]
  exact h.block k hk hne
theorem LF{ts:List Nat}{R:aM->aN->α->Prop}(hR:xy ts R){e:TypeId}(hg:(w4.alloc o1).grownBy w5 row)
  (hrow:∀k,row=some k->∃cur,w4.heap[k]?=some (.cells cur e (0,0)))(he:e∉ts){v:aN}{x:α}(h:R w4 v x):R w5 v x:=
 hR w4 w5 v x h λk cur e' hc he'=>Rn hg k (lt_of_heap hc) λer=>by
  obtain⟨c2,h2⟩:=hrow k er;rw[hc] at h2;injection h2 with h2;injection h2 with _ h2 _;exact he (by rw[<-h2];exact he')
theorem YZ{R:aM->aN->α->Prop}{acc:List α}{x:α}(hlen:vs.length=acc.length)(h:∀(i:Nat) u x,vs[i]?=some u->acc[i]?=some x->R w u x)(hv:R w v x):
  ∀(i:Nat) u y,(vs++[v])[i]?=some u->(acc++[x])[i]?=some y->R w u y:=by
 intro i u y hu hy;by_cases hi:i<vs.length
 .rw[fM hi] at hu;rw[fM aa] at hy
  exact h i u y hu hy
 .have hi2:i=vs.length:=by
   have:=(cG.1 hu).1;simp at this;omega
  subst hi2;have e1:u=v:=by simpa using hu.symm
  have e2:y=x:=by rw[hlen] at hy;simpa using hy.symm
  subst e1 e2;exact hv
namespace Pl
def bI{α:Type}(f:α->List UInt8):List α->List UInt8
 |[]=>[]
 |[x]=>f x
 |x::y::r=>f x++([44,32]++bI f (y::r))
def Ee(p:Int×Int):List UInt8:=Lib.itoa p.1++([32]++Lib.itoa p.2)
def kO(g:List (Int×Int)):List UInt8:=[40]++(bI Ee g++[41])
def nI(gs:List (List (Int×Int))):List UInt8:=if gs.length=0 then EMPTY else[40]++(bI kO gs++[41])
def Ro(ps:List (List (List (Int×Int)))):List UInt8:=if ps.length=0 then fI++([32]++EMPTY) else fI++([32,40]++(bI nI ps++[41]))
theorem LG{α:Type}(f:α->List UInt8)(B:Nat):∀(l:List α),(∀x∈l,(f x).length<=B)->(bI f l).length<=l.length*(B+2)
 |[],_=>by simp[bI]
 |[a],h=>by have:=h a af;simp[bI];omega
 |a::b::r,h=>by
  have ih:=LG f B (b::r) (λx hx=>h x (by simp[hx]))
  have ha:=h a af
  simp only[bI,bX,dG,ib] at ih⊢;rw[FO];rw[FO] at ih⊢;omega
end Pl
theorem Y0(n:Int)(w:aM)(hG:Gl w)(h1: -9223372036854775808<=n)(h2:n<=9223372036854775807):
  ak 88 #[az aJ n] w λe w'=>e=aL (aF ⟨(Lib.itoa n).toArray⟩)/\aj w w':=by
 have HI:Hid (∀w1,Gl w1->ak 146 #[az aJ n] w1 λe w'=>e=aL (aF ⟨(Lib.itoa n).toArray⟩)/\aj w1 w'):=λw1 g1=>by
  refine(Tryz.strconv_Itoa n h1 h2 w1 g1.tab).mono ?_;rintro e w' ⟨rfl,k,os,rfl⟩;exact⟨rfl,Lib.below_grow _ _ (aY _) _ _⟩
 clear h1 h2
 go_enter func88,ntmps88
 go_wp2_with fail
 refine(HI.out _ hG).mono ?_;rintro e w1 ⟨rfl,hb⟩
 go_wp2_with fail
 go_ret
 exact⟨rfl,hb⟩
def nJ(n:Int):Prop:= -50<=n/\n<=50
def Bv(g:List (Int×Int)):Prop:=∀p∈g,nJ p.1/\nJ p.2
theorem Y4{e:TypeId}(h:w.ownsRow 0 e size v n xs){o:Nat}{u:aN}(hu:xs[o]?=some u):
  ∃b cap,v=aG (some ⟨b,0,none⟩) n cap/\b<w.heap.size/\w.cell? ⟨b,o,none⟩=some u:=by
 obtain⟨h1,h2⟩:=h;rcases h2 with⟨_,h0⟩|⟨b,cap,cur,hv,_,hb,_,_,_,ht⟩
 .rw[h0,wR] at h1;rw[iX.1 h1] at hu;simp at hu
 .refine⟨b,cap,hv,lt_of_heap hb,?_⟩;rw[cell_of hb o,<-jW];rw[<-ht,lH] at hu;split at hu
  .exact hu
  .cases hu
theorem GS{ts:List Nat}{R:aM->aN->α->Prop}(hR:xy ts R){x:α}(h:R w v x)(hb:aj w w'):R w' v x:=
 hR w w' v x h λk _ _ hc _=>hb.block k (lt_of_heap hc)
def Rp(gs:List (List (Int×Int))):Prop:=gs.length<=402/\∀g∈gs,Bv g/\g.length<=402
theorem Ef{R:aM->aN->α->Prop}{xs:List α}(h:Bt T R w v xs):∃so cap,v=aG so xs.length cap:=by
 obtain⟨vs,_,h,_⟩:=h;rcases h.2 with⟨hv,h0⟩|⟨b,cap,cur,hv,_⟩
 .exact⟨none,0,by rw[hv,h0]⟩
 .exact⟨_,cap,hv⟩
theorem xA{R:aM->aN->α->Prop}{so:Option Addr}{xs:List α}(h:Bt T R w (aG so n cap) xs){x:α}(hx:xs[k]?=some x):
  ∃b u,so=some ⟨b,0,none⟩/\b<w.heap.size/\w.cell? ⟨b,k,none⟩=some u/\R w u x:=by
 obtain⟨vs,hl,ho,hr⟩:=h;have hk:k<vs.length:=by rw[hl];exact(cG.1 hx).1
 obtain⟨u,hu⟩:∃u,vs[k]?=some u:=⟨_,bo hk⟩;obtain⟨b,c,hv,hb,hc⟩:=Y4 ho hu;injection hv with hv;exact⟨b,u,hv,hb,hc,hr k u x hu hx⟩
def GU(ps:List (List (List (Int×Int)))):Prop:=ps.length<=402/\∀gs∈ps,Rp gs
theorem kP(w:aM)(o:Obj)(h:b<w.heap.size):(w.alloc o).cell? ⟨b,k,none⟩=w.cell? ⟨b,k,none⟩:=by
 simp only[World.cell?];rw[Below.heap_alloc _ _ _ h]
def jz(l:List Ge.Qt):List aN:=l.flatMap λp=>(qA p).toList
def nK(w:aM)(v:aN)(l:List Ge.Qt):Prop:=w.ownsRow 0 100 4 v l.length (jz l)
theorem Y5:∀(l:List Ge.Qt)(k:Nat)(e:Ge.Qt),l[k]?=some e->∀j,j<4->(jz l)[k*4+j]?=(qA e)[j]?
 |[],_,_,h,_,_=>by simp at h
 |q::r,0,e,h,j,hj=>by
  simp at h;subst h;have e1:jz (q::r)=(qA q).toList++jz r:=by simp[jz]
  rw[e1,fM (by simp[qA];omega)]
  simp
 |q::r,k+1,e,h,j,hj=>by
  have ih:=Y5 r k e (by simpa using h) j hj
  have e1:jz (q::r)=(qA q).toList++jz r:=by simp[jz]
  rw[e1,nE (by simp[qA];omega)]
  have e2:(k+1)*4+j-(qA q).toList.length=k*4+j:=by simp[qA];omega
  rw[e2,ih]
theorem ajM(l:List Ge.Qt)(e:Ge.Qt):jz (l++[e])=jz l++(qA e).toList:=by simp[jz]
theorem zz{l:List Ge.Qt}(h:nK w v l):∃so cap,v=aG so l.length cap:=by
 rcases h.2 with⟨hv,h0⟩|⟨b,cap,cur,hv,_⟩
 .exact⟨none,0,by rw[hv,h0]⟩
 .exact⟨_,cap,hv⟩
theorem zA{so:Option Addr}{l:List Ge.Qt}(h:nK w (aG so n cap) l){e:Ge.Qt}(he:l[k]?=some e):
  ∃b,so=some ⟨b,0,none⟩/\b<w.heap.size/\w.cell? ⟨b,k*4,none⟩=some (az aJ e.1.1)/\w.cell? ⟨b,k*4+1,none⟩=some (az aJ e.1.2)/\w.cell? ⟨b,k*4+2,none⟩=some (az aJ e.2.1)/\w.cell? ⟨b,k*4+3,none⟩=some (az aJ e.2.2):=by
 have g:=Y5 l k e he;obtain⟨b,c,hv,hb,hc⟩:=DU h (g 0 aa)
 injection hv with hv;exact⟨b,hv,hb,hc _ _ (g 0 aa),hc _ _ (g 1 aa),hc _ _ (g 2 aa),hc _ _ (g 3 aa)⟩
theorem uf:xy [100] nK:=λw w' v x h hk=>Bu h λk cur hc=>hk k cur _ hc af
theorem ajN:(Tryz.prog.info? 100).map (λi=>(i.zero,i.size,i.bytes))=some (some (aC #[az aJ 0,az aJ 0,az aJ 0,az aJ 0]),4,32):=ag
namespace Ge
end Ge
namespace Ge
def dO(e f:Pt×Pt):Int:=(e.2.1-e.1.1)*(f.2.2-f.1.2)-(e.2.2-e.1.2)*(f.2.1-f.1.1)
def mT(e f:Pt×Pt):Int:=(f.1.1-e.1.1)*(f.2.2-f.1.2)-(f.1.2-e.1.2)*(f.2.1-f.1.1)
def mX(e f:Pt×Pt):Int:=e.1.1*dO e f+(e.2.1-e.1.1)*mT e f
def mY(e f:Pt×Pt):Int:=e.1.2*dO e f+(e.2.2-e.1.2)*mT e f
def gK(e f:Pt×Pt):Qt:=(bO (mX e f) (dO e f),bO (mY e f) (dO e f))
end Ge
namespace Ge
def hq(p:Qt)(e:Pt×Pt):Bool:=fo (p.1.1*p.2.2,p.2.1*p.1.2) (p.1.2*p.2.2) e
def pt(a:Pt):Qt:=((a.1,1),(a.2,1))
def Bx(e:Pt×Pt)(out:List Qt)(f:Pt×Pt):List Qt:=
  if dO e f=0 then
    (let o1:=if hq (pt f.1) e then ins (pt f.1) out else out
     if hq (pt f.2) e then ins (pt f.2) o1 else o1)
  else if hq (gK e f) e&&hq (gK e f) f then ins (gK e f) out else out
def qW(l:List (Pt×Pt))(e:Pt×Pt):List Qt:=l.foldl (Bx e) (ins (pt e.2) (ins (pt e.1) []))
theorem vA(a:Pt):iL (pt a):=⟨⟨by show(0:Int)<1;decide,by show Int.gcd a.1 1=1;exact Wq ..⟩,⟨by show(0:Int)<1;decide,by show Int.gcd a.2 1=1;exact Wq ..⟩⟩
theorem Y6{e f:Pt×Pt}(h:dO e f≠0):iL (gK e f):=⟨se h,se h⟩
end Ge
theorem Y7{e f:Ed}(he:gS e)(hf:gS f):(-20000<=Ge.dO e f/\Ge.dO e f<=20000)/\(-3000000<=Ge.mX e f/\Ge.mX e f<=3000000)/\(-3000000<=Ge.mY e f/\Ge.mY e f<=3000000):=by
 obtain⟨a1,a2,a3,a4⟩:=he;obtain⟨b1,b2,b3,b4⟩:=hf;have qg:∀{x y:Int},small x->small y-> -100<=y-x/\y-x<=100:=λhx hy=>by unfold small at*;omega
 have x1:=qg a1 a3;have x2:=qg a2 a4;have x3:=qg b1 b3;have x4:=qg b2 b4;have x5:=qg a1 b1;have x6:=qg a2 b2;have m1: -10000<=(e.2.1-e.1.1)*(f.2.2-f.1.2)/\(e.2.1-e.1.1)*(f.2.2-f.1.2)<=10000:=qc (a:=100) (b:=100) x1 x4;have m2: -10000<=(e.2.2-e.1.2)*(f.2.1-f.1.1)/\(e.2.2-e.1.2)*(f.2.1-f.1.1)<=10000:=qc (a:=100) (b:=100) x2 x3;have m3: -10000<=(f.1.1-e.1.1)*(f.2.2-f.1.2)/\(f.1.1-e.1.1)*(f.2.2-f.1.2)<=10000:=qc (a:=100) (b:=100) x5 x4;have m4: -10000<=(f.1.2-e.1.2)*(f.2.1-f.1.1)/\(f.1.2-e.1.2)*(f.2.1-f.1.1)<=10000:=qc (a:=100) (b:=100) x6 x3;have hC:Ge.dO e f=(e.2.1-e.1.1)*(f.2.2-f.1.2)-(e.2.2-e.1.2)*(f.2.1-f.1.1):=rfl;have hT:Ge.mT e f=(f.1.1-e.1.1)*(f.2.2-f.1.2)-(f.1.2-e.1.2)*(f.2.1-f.1.1):=rfl;have cb: -20000<=Ge.dO e f/\Ge.dO e f<=20000:=aa
 have tb: -20000<=Ge.mT e f/\Ge.mT e f<=20000:=aa
 have m5: -1000000<=e.1.1*Ge.dO e f/\e.1.1*Ge.dO e f<=1000000:=qc (a:=50) (b:=20000) a1 cb;have m6: -2000000<=(e.2.1-e.1.1)*Ge.mT e f/\(e.2.1-e.1.1)*Ge.mT e f<=2000000:=qc (a:=100) (b:=20000) x1 tb;have m7: -1000000<=e.1.2*Ge.dO e f/\e.1.2*Ge.dO e f<=1000000:=qc (a:=50) (b:=20000) a2 cb;have m8: -2000000<=(e.2.2-e.1.2)*Ge.mT e f/\(e.2.2-e.1.2)*Ge.mT e f<=2000000:=qc (a:=100) (b:=20000) x2 tb;refine⟨cb,?_,?_⟩
 .unfold Ge.mX;omega
 .unfold Ge.mY;omega
end
end Go.Proofs.YtkjhhooecopolaaGreatDoor

import Derived.Test.YtkjhhooecopolaaGreatDoorFz06
set_option maxRecDepth 100000
set_option maxHeartbeats 4000000
namespace Go.Proofs.YtkjhhooecopolaaGreatDoor
open Go.Proofs.Tryz
open Value renaming int->I,complex->A,float->aA,agg->u,bool->aC,string->aD,slice->D,pointer->aF,tuple->aG
open IntKind renaming i64->J
open FloatKind renaming f64->C
open Ending renaming returned->aJ
open Go renaming World->G,Value->Y,floatOfInt->aM
open Option renaming some->K,none->Z
open Bool renaming true->aP,false->aQ
section
open Go.RowKit
variable{w w1:G}{x v:Int}{rb g cap B a b c d na nb:Nat}
namespace Pl
theorem uF(c:Nat)(l:V Tk):(mk c l).2.length<=l.length:=by
 cases l with
 |nil=>simp[mk]
 |cons t r=>by_cases a:t.k=c<;>simp[mk,a]
theorem uG{c:Nat}{l:V Tk}(h:(mk c l).1=aP):(mk c l).2.length<l.length:=by
 have:=pN h;omega
theorem qV{q:V UInt8}{l:V Tk}(h:(wd q l).1=aP):(wd q l).2.length<l.length:=by
 cases l with
 |nil=>simp[wd] at h
 |cons t r=>
  by_cases a:t.k=119/\t.raw=q
  .simp only[wd];rw[y a];simp
  .simp only[wd] at h;rw[X a] at h;cases h
theorem AL(l:V Tk)(h:(dW l).1=aP):(dW l).2.1.length<l.length:=by
 match l,h with
 |[],h=>cases h
 |[x],h=>cases h
 |x::y::r,h=>
  by_cases a:x.k=110
  .by_cases b:y.k=110
   .simp[dW,a,b];omega
   .simp[dW,a,b] at h
  .simp[dW,a] at h
theorem AM{α:Type}(a:V Tk->Bool×V Tk×α)(e:∀l,(a l).1=aP->(a l).2.1.length<l.length):
  ∀(f:Nat)(l:V Tk)(b:V α),(eW a f l b).1=aP->(eW a f l b).2.1.length<l.length/\(eW a f l b).2.2.length+(eW a f l b).2.1.length<=b.length+l.length
 |0,l,b,h=>by cases h
 |f+1,l,b,h=>by
  cases c:(a l).1
  .rw[uC c] at h;cases h
  .have:=e l c;cases d:(mk 44 (a l).2.1).1
   .rw[uE c d] at h⊢;have g:=uG h;simp only[bG,dc,fw];omega
   .rw[uD c d] at h⊢;have k:=AM a e f _ _ h;have g:=uG d;simp only[bG,dc,fw] at k;omega
theorem AN(l:V Tk)(h:(eY l).1=aP):(eY l).2.1.length<l.length:=by
 unfold eY at h⊢;by_cases a:(mk 40 l).1=aP
 .have:=uG a;rw[y a] at h⊢;by_cases b:(mk 41 (mk 40 l).2).1=aP
  .rw[y b] at h⊢;have:=uG b;simp only;omega
  .rw[X b] at h⊢;have:=(AM dW AL _ _ _ h).1;omega
 .rw[X a] at h;cases h
theorem xl(l:V Tk)(h:(cZ l).1=aP):(cZ l).2.1.length<l.length/\(cZ l).2.2.length+(cZ l).2.1.length<=l.length:=by
 unfold cZ at h⊢;by_cases a:(wd EMPTY l).1=aP
 .rw[y a];have:=qV a;simp only[fw];omega
 .rw[X a] at h⊢;by_cases b:(mk 40 l).1=aP
  .have q:=uG b;rw[y b] at h⊢;have:=AM eY AN _ _ _ h;simp only[fw] at this;omega
  .rw[X b] at h;cases h
theorem Wu(l:V Tk)(h:(gu l).1=aP):(gu l).2.1.length<l.length:=by
 unfold gu at h⊢;by_cases a:(wd EMPTY l).1=aP
 .rw[y a];exact qV a
 .rw[X a] at h⊢;by_cases b:(mk 40 l).1=aP
  .have:=uG b;rw[y b] at h⊢;have:=(AM cZ (λl h=>(xl l h).1) _ _ _ h).1;omega
  .rw[X b] at h;cases h
end Pl
theorem nF.snoc{rv:Y}{rg:V (V (Int×Int))}{o:Obj}{vs:V Y}
  (q:vs.length=rg.length)(x:w.ownsRow (rb+1) 127 1 rv rg.length vs)
  (B:∀(i:Nat) v g,vs[i]?=K v->rg[i]?=K g->w.ownsRow (rb+1) 81 1 v g.length (mL g))
  (P:∀(i j:Nat) v u k,vs[i]?=K v->vs[j]?=K u->v.ownBlock=K k->u.ownBlock=K k->i=j)
  (hgrow:(w.alloc o).grownBy w1 rv.ownBlock)(r:w1.ownsRow (rb+1) 127 1 (D (K ⟨g,0,Z⟩) (rg.length+1) cap) (rg.length+1) (vs++[D Z 0 0])):
  nF rb (D (K ⟨g,0,Z⟩) (rg.length+1) cap) (rg++[[]]) (w1.setCell ⟨rb,6,Z⟩<|D (K ⟨g,0,Z⟩) (rg.length+1) cap):=by
 refine⟨vs++[D Z 0 0],by simp[q],?_,?_,?_⟩
 .simp only[bG,dc,fw,ir];refine bH r λk h=>bY ?_ _;have:=(bn r k h).1;omega
 .intro i v p a b;by_cases e:i<vs.length
  .rw[dQ e] at a;rw[dQ U] at b;have n:=B i v p a b;refine bH n λk h=>?_;have:=(bn n k h);obtain⟨c,Q⟩:=fJ n h;rw[bY U];exact kC hgrow k this.2<|lE x Q ae
  .have d:i=vs.length:=by
    have:=(bX.1 a).1;simp at this;omega
   subst d;have m:v=D Z 0 0:=by simpa using a.symm
   have t:p=[]:=by rw[q] at b;simpa using b.symm
   subst m t;exact ak _ _ _ _
 .intro i j v u k a R l s;have f:∀(i:Nat) v,(vs++[D Z 0 0])[i]?=K v->v.ownBlock=K k->vs[i]?=K v:=λi v a l=>by
   by_cases e:i<vs.length
   .rwa[dQ e] at a
   .have d:i=vs.length:=by
     have:=(bX.1 a).1;simp at this;omega
    subst d;have m:v=D Z 0 0:=by simpa using a.symm
    subst m;cases l
  exact P i j v u k (f i v a l) (f j u R s) l s
theorem Wv:(Tryz.prog.info? 127).map (λi=>(i.zero,i.size,i.bytes))=K (K<|D Z 0 0,1,24):=z
theorem Ww(F:l9)(a:Nat)(s:ByteArray)(A l:V Pl.Tk)(rg:V (V (Int×Int)))(w:G)(v:Cx a s A)(hR:RD a s A l rg w)(hG:Gl w)(hrg:rg.length<=1000):
  M 150 #[aF (K ⟨a,0,Z⟩)] w (sY a s A (Pl.eY l).1 (Pl.eY l).2.1 (rg++[(Pl.eY l).2.2]) w):=by
 generalize m:Pl.eY l=T;have S:H (Pl.eY l=T):=m;clear m;have Q:=hR.lt;obtain⟨c,t,r0,tv,rv,hc,hl,r,d,vs,h1,x,h3,h4⟩:=id hR;have c6:=qR r;have HH:H (∀w1 g cap o,(w.alloc o).grownBy w1 rv.ownBlock->w1.ownsRow (a+1) 127 1 (D (K ⟨g,0,Z⟩) (rg.length+1) cap) (rg.length+1) (vs++[D Z 0 0])->
   RD a s A l (rg++[[]]) (w1.setCell ⟨a,6,Z⟩ (D (K ⟨g,0,Z⟩) (rg.length+1) cap))/\Below a w (w1.setCell ⟨a,6,Z⟩ (D (K ⟨g,0,Z⟩) (rg.length+1) cap))):=by
  intro w1 g cap o hgrow L;have k6:=(kC hgrow a Q<|jo x a U).trans r;refine⟨⟨c,t,r0,tv,_,hc,hl,apM k6 _,bH d λk I=>?_,nF.snoc h1 x h3 h4 hgrow L⟩,?_⟩
  .obtain⟨c9,hc9⟩:=fJ d I;have:=(bn d k I);rw[bY U];exact kC hgrow k this.2<|lE x hc9 ae
  .exact(((Below.refl a w).alloc (du Q) _).grown hgrow aq (λk I=>by have:=(bn x k I).1;omega)).setCell (aX _) _
 clear h1 h3 h4;go_enter func150,ntmps150;go_wp2_with (at_builtin;refine ii rfl Wv underlying78 (ed x) (aa _ _) ?_;intro g cap w1 L hgrow z;have B:=(kC hgrow a Q<|jo x a U).trans r;have d6:=qR B;have f6:=bE B 6);obtain⟨u,b⟩:=HH.o w1 g cap _ hgrow L;have i:=hG.below b v.rb;have hlA:=u.le;have hcl:=v.len;clear HH hgrow L z B d6 f6 c6 x d r hl hc;refine(uB F 40 ae a s A l _ _ v u i).mono ?_;rintro e w2 ⟨rfl,n,q⟩;simp only[show(40:UInt8).toNat=40 from rfl] at n⊢;have j:Gl w2:=i.below q v.rb;cases J:(Pl.mk 40 l).1
 .have m:=S.o;rw[Pl.eY,X (by rw[J];simp)] at m;subst m;rw[xk J] at n;clear S;go_wp2_with fail;go_ret;exact⟨rfl,⟨_,n,λh=>(by cases h)⟩,b.trans q⟩
 .go_wp2_with fail;refine(uB F 41 ae a s A _ _ _ v n j).mono ?_;rintro e w3 ⟨rfl,p,P⟩;simp only[show(41:UInt8).toNat=41 from rfl] at p⊢;have W:Gl w3:=j.below P v.rb;cases R:(Pl.mk 41 (Pl.mk 40 l).2).1
  .have m:=S.o;rw[Pl.eY,y J,X (by rw[R];simp)] at m;subst m;rw[xk R] at p;have hlm:=Pl.uF 40 l;clear S;go_wp2_with fail;refine(Fu _ Tryz.call196 Pl.dW (λf=>rg++[f]) (λl f=>f.length+l.length<=1000) F a s A v
    (λl' f w' Y O N=>Wt F a s A l' rg f w' v Y O U hrg) Pl.AL
    (λl' f N hi'=>by
     have q1:=Pl.AL l' hi';have q2:=Pl.uF 44 (Pl.dW l').2.1;simp only[bG,dc,fw];omega)
    l.length (Pl.mk 40 l).2 [] w3 p W aq hlm).mono ?_
   rintro e w4 ⟨rfl,⟨rg4,hR4,C⟩,hb4⟩;go_wp2_with fail;go_ret;exact⟨rfl,⟨rg4,hR4,C⟩,((b.trans q).trans P).trans hb4⟩
  .have m:=S.o;rw[Pl.eY,y J,y R] at m;subst m;clear S;go_wp2_with fail;go_ret;exact⟨rfl,⟨_,p,λ_=>rfl⟩,(b.trans q).trans P⟩
theorem pP{q:V UInt8}{l:V Pl.Tk}(h:(Pl.wd q l).1=aQ):(Pl.wd q l).2=l:=by
 cases l with
 |nil=>rfl
 |cons t r=>
  by_cases a:t.k=119/\t.raw=q
  .simp only[Pl.wd] at h;rw[y a] at h;cases h
  .simp only[Pl.wd];rw[X a]
def Pl.bO(l:V Pl.Tk):Bool×V Pl.Tk×V (V<|V (Int×Int)):=
 if(Pl.wd Pl.ew l).1=aP then((Pl.cZ (Pl.wd Pl.ew l).2).1,(Pl.cZ (Pl.wd Pl.ew l).2).2.1,[(Pl.cZ (Pl.wd Pl.ew l).2).2.2])
 else if(Pl.wd Pl.fA l).1=aP then Pl.gu (Pl.wd Pl.fA l).2
 else(aQ,l,[])
theorem Lb(r:l9)(f:Nat)(s:ByteArray)(A l:V Pl.Tk)(rg:V (V (Int×Int)))(w:G)(n:Cx f s A)(z:RD f s A l rg w)(u:Gl w)(D:rg.length+l.length<=1000):
  M 95 #[aF (K ⟨f,0,Z⟩)] w (sY f s A (Pl.cZ l).1 (Pl.cZ l).2.1 (rg++(Pl.cZ l).2.2) w):=by
 generalize b:Pl.cZ l=T;have v:H (Pl.cZ l=T):=b;have:=z.lt;go_enter func95,ntmps95;go_wp2_with fail;refine(AJ r Pl.EMPTY 69 [77,80,84,89] rfl ae f s A l _ _ n z u).mono ?_;rintro e w1 ⟨rfl,g,d⟩;have p:Gl w1:=u.below d n.rb;cases t:(Pl.wd Pl.EMPTY l).1
 .rw[pP t] at g;go_wp2_with fail;refine(uB r 40 ae f s A l _ _ n g p).mono ?_;rintro e C ⟨rfl,c,k⟩;simp only[show(40:UInt8).toNat=40 from rfl] at c⊢;have P:Gl C:=p.below k n.rb;cases m:(Pl.mk 40 l).1
  .have b:=v.o;rw[Pl.cZ,X (by rw[t];simp),X (by rw[m];simp)] at b;subst b;rw[xk m] at c;go_wp2_with fail;go_ret;exact⟨rfl,⟨_,c,λh=>(by cases h)⟩,d.trans k⟩
  .have b:=v.o;rw[Pl.cZ,X (by rw[t];simp),y m] at b;subst b;have j:=Pl.uF 40 l;go_wp2_with fail;refine(Fu _ Tryz.call150 Pl.eY (λa=>rg++a) (λl a=>rg.length+a.length+l.length<=1000) r f s A n
    (λl' a w' Q B x=>by
     rw[<-ep];exact Ww r f s A l' (rg++a) w' n Q B aq) Pl.AN
    (λl' a x i=>by
     have:=Pl.AN l' i;have:=Pl.uF 44 (Pl.eY l').2.1;simp only[bG,dc,fw];omega)
    l.length (Pl.mk 40 l).2 [] C (by simpa using c) P aq j).mono ?_
   rintro e F ⟨rfl,⟨o,R,q⟩,S⟩;go_wp2_with fail;go_ret;exact⟨rfl,⟨o,R,q⟩,(d.trans k).trans S⟩
 .have b:=v.o;rw[Pl.cZ,y t] at b;subst b;go_wp2_with fail;go_ret;exact⟨rfl,⟨_,g,λ_=>E⟩,d⟩
theorem Wx(t:l9)(f:Nat)(s:ByteArray)(A l:V Pl.Tk)(rg:V (V (Int×Int)))(w:G)(n:Cx f s A)(z:RD f s A l rg w)(u:Gl w)(D:rg.length+l.length<=1000):
  M 96 #[aF (K ⟨f,0,Z⟩)] w (sY f s A (Pl.gu l).1 (Pl.gu l).2.1 (rg++(Pl.gu l).2.2.flatten) w):=by
 generalize b:Pl.gu l=T;have x:H (Pl.gu l=T):=b;have:=z.lt;go_enter func96,ntmps96;go_wp2_with fail;refine(AJ t Pl.EMPTY 69 [77,80,84,89] rfl ae f s A l _ _ n z u).mono ?_;rintro e w1 ⟨rfl,g,d⟩;have q:Gl w1:=u.below d n.rb;cases v:(Pl.wd Pl.EMPTY l).1
 .rw[pP v] at g;go_wp2_with fail;refine(uB t 40 ae f s A l _ _ n g q).mono ?_;rintro e C ⟨rfl,c,k⟩;simp only[show(40:UInt8).toNat=40 from rfl] at c⊢;have P:Gl C:=q.below k n.rb;cases m:(Pl.mk 40 l).1
  .have b:=x.o;rw[Pl.gu,X (by rw[v];simp),X (by rw[m];simp)] at b;subst b;rw[xk m] at c;go_wp2_with fail;go_ret;exact⟨rfl,⟨_,c,λh=>(by cases h)⟩,d.trans k⟩
  .have b:=x.o;rw[Pl.gu,X (by rw[v];simp),y m] at b;subst b;have j:=Pl.uF 40 l;go_wp2_with fail;refine(Fu _ Tryz.call95 Pl.cZ (λa=>rg++a.flatten) (λl a=>rg.length+a.flatten.length+l.length<=1000) t f s A n
    (λl' a w' Q B p=>by
     have e:rg++(a++[(Pl.cZ l').2.2]).flatten=(rg++a.flatten)++(Pl.cZ l').2.2:=E;rw[e];exact Lb t f s A l' (rg++a.flatten) w' n Q B (by rw[bG];exact p)) (λl h=>(Pl.xl l h).1)
    (λl' a p i=>by
     have:=(Pl.xl l' i).2;have:=Pl.uF 44 (Pl.cZ l').2.1;have e:(a++[(Pl.cZ l').2.2]).flatten.length=a.flatten.length+(Pl.cZ l').2.2.length:=by
      rw[Ah,bG];simp
     show rg.length+(a++[(Pl.cZ l').2.2]).flatten.length+(Pl.mk 44 (Pl.cZ l').2.1).2.length<=1000;rw[e];omega)
    l.length (Pl.mk 40 l).2 [] C (by simpa using c) P aq j).mono ?_
   rintro e F ⟨rfl,⟨o,R,r⟩,S⟩;go_wp2_with fail;go_ret;exact⟨rfl,⟨o,R,r⟩,(d.trans k).trans S⟩
 .have b:=x.o;rw[Pl.gu,y v] at b;subst b;go_wp2_with fail;go_ret;exact⟨rfl,⟨_,g,λ_=>E⟩,d⟩
theorem Lc(x:l9)(f:Nat)(s:ByteArray)(A l:V Pl.Tk)(w:G)(g:Cx f s A)(Q:RD f s A l [] w)(S:Gl w):
  M 61 #[aF (K ⟨f,0,Z⟩)] w (sY f s A (Pl.bO l).1 (Pl.bO l).2.1 (Pl.bO l).2.2.flatten w):=by
 generalize b:Pl.bO l=T;have B:H (Pl.bO l=T):=b;have:=Q.lt;have:=Q.le;have:=g.len;go_enter func61,ntmps61;go_wp2_with fail;refine(AJ x Pl.ew 80 [79,76,89,71,79,78] rfl ae f s A l _ _ g Q S).mono ?_;rintro e w1 ⟨rfl,m,c⟩;have k:Gl w1:=S.below c g.rb;cases v:(Pl.wd Pl.ew l).1
 .rw[pP v] at m;go_wp2_with fail;refine(AJ x Pl.fA 77 [85,76,84,73,80,79,76,89,71,79,78] rfl ae f s A l _ _ g m k).mono ?_;rintro e i ⟨rfl,n,q⟩;have P:Gl i:=k.below q g.rb;cases d:(Pl.wd Pl.fA l).1
  .have b:=B.o;rw[Pl.bO,X (by rw[v];simp),X (by rw[d];simp)] at b;subst b;rw[pP d] at n;go_wp2_with fail;go_ret;exact⟨rfl,⟨_,n,λh=>(by cases h)⟩,c.trans q⟩
  .have b:=B.o;rw[Pl.bO,X (by rw[v];simp),y d] at b;subst b;have R:=Pl.qV d;go_wp2_with fail;refine(Wx x f s A _ [] _ g n P aq).mono ?_;rintro e j ⟨rfl,⟨t,p,a⟩,r⟩;go_wp2_with fail;go_ret;exact⟨rfl,⟨t,p,λh=>by simpa using a h⟩,(c.trans q).trans r⟩
 .have b:=B.o;rw[Pl.bO,y v] at b;subst b;have R:=Pl.qV v;go_wp2_with fail;refine(Lb x f s A _ [] _ g m k aq).mono ?_;rintro e j ⟨rfl,⟨t,p,a⟩,r⟩;go_wp2_with fail;go_ret;exact⟨rfl,⟨t,p,λh=>by simpa using a h⟩,c.trans r⟩
theorem Wy(k:Int)(a:ByteArray)(n:Int)(p j:Nat)(w:G)(d:p<=1000)(f:a.size<=1000)(b:j=p+a.size):
  M 195 #[u #[I J k,aD a,I J n,I J p]] w (ai (I J j) w):=by
 have c:=hid b;clear b;go_enter func195,ntmps195
 go_wp2
 go_ret;exact⟨AB (by rw[c.o];simp),aj _ _⟩
theorem Wz:(Tryz.prog.info? 76).map (λi=>(i.zero,i.size,i.bytes))=K (K<|u #[I J 0,aD ⟨#[]⟩,I J 0,I J 0],4,40):=z
theorem Gl.drew(h:Gl w):Gl w.drew:=⟨h.sz,h.es,h.er,h.tab⟩
def Ld(b:Nat)(s:ByteArray)(rv:Y)(c:Y)(m:Nat)(h:V Y)(d e f g:Y)(w w':G):Prop:=
 (∃a,w'.heap[b]?=K (.cells #[aD s,d,e,f,g,a,rv] 80 (0,0))/\w'.ownsRow (b+1) 76 4 a m h/\(∀k,a.ownBlock=K k->c.ownBlock=K k\/w.heap.size<=k))/\
 (∀k,k<w.heap.size->k≠b->c.ownBlock≠K k->w'.heap[k]?=w.heap[k]?)/\Below b w w'
theorem WA{s:ByteArray}{k:Y}{raw n p:Y}{tv rv:Y}{m:Nat}{xs ys:V Y}{w3 w4:G}{o:Obj}{c0 c1 c2 c3:Y}
  (R:w.heap[rb]?=K (.cells #[aD s,k,raw,n,p,tv,rv] 80 (0,0)))
  (e:w.ownsRow (rb+1) 76 4 tv m xs)
  (S:w1.ownsRow (rb+1) 76 4 (D (K ⟨g,0,Z⟩) (m+1) cap) (m+1) ys)
  (hgrow:(w.alloc o).drew.grownBy w1 tv.ownBlock)(r:tv.ownBlock=K g\/g=w.heap.size+1)
  (b:Below (w1.setCell ⟨rb,5,Z⟩<|D (K ⟨g,0,Z⟩) (m+1) cap).drew.heap.size (w1.setCell ⟨rb,5,Z⟩<|D (K ⟨g,0,Z⟩) (m+1) cap).drew w3)
  (c:ag w3 w4):
  Ld rb s rv tv (m+1) ys c0 c1 c2 c3 w ((((w4.setCell ⟨rb,1,Z⟩ c0).setCell ⟨rb,2,Z⟩ c1).setCell ⟨rb,3,Z⟩ c2).setCell ⟨rb,4,Z⟩ c3):=by
 have x:=apJ R;have i:w.heap.size+1<=w1.heap.size:=by have:=hgrow.size;simpa using this
 have l:(w1.setCell ⟨rb,5,Z⟩<|D (K ⟨g,0,Z⟩) (m+1) cap).drew.heap.size=w1.heap.size:=by simp[World.drew]
 have u:w1.heap.size<=w3.heap.size:=by have:=b.size;rw[l] at this;exact this
 have y:=c.size;have P:∀k,k<w1.heap.size->k≠rb->w4.heap[k]?=w1.heap[k]?:=λk d a=>by
  rw[c.block k U,b.block k (by rw[l];exact d)];exact bY a _
 have Q:∀k,k<w.heap.size->k≠rb->tv.ownBlock≠K k->w4.heap[k]?=w.heap[k]?:=λk d a B=>by
  rw[P k U a];exact lD hgrow k d B
 have t:=(lD hgrow rb x<|jo e rb U).trans R;have f:w4.heap[rb]?=K (.cells #[aD s,k,raw,n,p,D (K ⟨g,0,Z⟩) (m+1) cap,rv] 80 (0,0)):=by
  rw[c.block rb U,b.block rb (by rw[l];omega)];exact apM t _
 refine⟨⟨D (K ⟨g,0,Z⟩) (m+1) cap,?_,?_,?_⟩,?_,?_⟩
 .exact apM (apM (apM (apM f _) _) _) _
 .refine bH S λk d=>?_;obtain⟨A,z⟩:=bn S k d;rw[bY U,bY U,bY U,bY U];exact P k z U
 .intro k d;have v:g=k:=by simpa[Value.ownBlock] using d
  rcases r with h|h
  .exact j (by rw[h,v])
  .exact F U
 .intro k d a B;rw[bY a,bY a,bY a,bY a];exact Q k d a B
 .have q:Below rb w w4:=by
   refine⟨?_,?_,?_,U,λk d=>Q k U U<|jo e k U⟩
   .rw[c.os,b.os];exact hgrow.os
   .rw[c.tape,b.tape];exact hgrow.tape
   .rw[c.output,b.output];exact hgrow.output
  exact(((q.setCell (aX _) _).setCell (aX _) _).setCell (aX _) _).setCell (aX _) _
theorem WB(b:Nat)(s d:ByteArray)(k n:Int)(p j:Nat)(Q rv:Y)(m:Nat)(F:V Y)(w:G)(T:Int)(r:ByteArray)(W:Int)(X:Nat)
  (l:w.heap[b]?=K (.cells #[aD s,I J k,aD d,I J n,I J p,Q,rv] 80 (0,0)))
  (f:w.ownsRow (b+1) 76 4 Q m F)(hm:m<=1000)(hp:p<=1000)(hr:d.size<=1000)(N:j=p+d.size)(hG:Gl w)(i:6<=b)
  (L:∀w1,Gl w1->M 60 #[aD s,I J j] w1 (ai (u #[I J T,aD r,I J W,I J X]) w1)):
  M 148 #[aF (K ⟨b,0,Z⟩)] w λe w'=>e=aJ (aG #[])/\
   Ld b s rv Q (m+1) (F++[I J k,aD d,I J n,I J p]) (I J T) (aD r) (I J W) (I J X) w w':=by
 have HJ:=hid N;have HT:=hid L;clear N L;obtain⟨i0,hi,o,y,z⟩:=aH Wz;obtain⟨c0,c1,c2,c3⟩:=ajG l;have c4:=nB l;have c5:=nC l;have P:=apJ l;go_enter func148,ntmps148;go_wp2_with fail
 go_region_law (refine aba _ rfl (.tmp 6) (.tmp 11) 77 rfl (b+1) 76 i0 _ 4 40 underlying77 hi o y z rfl ae Q m F (by simp[Act.eval]) (ed f) ⟨w.heap.size,0,Z⟩ 1 1 [I J k,aD d,I J n,I J p] (by simp[Act.eval]) rfl (aai (cs:= #[I J k,aD d,I J n,I J p]) (t:=76) (fr:=(0,0))<|aa w _) au ae ar U aq (w.heap.size+1) E ?_;intro g cap w1 ho hgrow S O;have a:=(lD hgrow b P<|jo f b U).trans l;have:=nC a;have:w1.frozen? ⟨b,5,Z⟩=aQ:=bE a 5)
 all_goals
  have:=bz a;have:=bw a;have:=bQ a;have:=bV a;have:=nB a;have:=bE a 1;have:=bE a 2;have:=bE a 3;have:=bE a 4;have:=apJ a;have HH:H (Gl (w1.setCell ⟨b,5,Z⟩<|D (K ⟨g,0,Z⟩) (m+1) cap).drew):=by
   have q:Below b w w1:=((Below.refl _ _).alloc (du P) _).drew.grown hgrow (by show b<=(w.alloc _).heap.size;simp;omega) (λk hk=>by have:=(bn f k hk).1;omega);exact(hG.below (q.setCell (aX _) _) i).drew
  clear c0 c1 c2 c3 c4 c5;go_wp2_with fail
  go_region_with (first
   |(go_at_call 195;refine(Wy _ _ _ _ j _ hp hr HJ.o).mono ?_;rintro e w3 ⟨rfl,v⟩;have x:w3.heap[b]?=K (.cells #[aD s,I J k,aD d,I J n,I J p,D (K ⟨g,0,Z⟩) (m+1) cap,rv] 80 (0,0)):=(v.block b aq).trans<|apM a _;have:=bz x)
   |(go_at_call 60;refine(HT.o _ (HH.o.below v aq)).mono ?_;rintro e R ⟨rfl,B⟩;have c:=(B.block b (apJ x)).trans x;have:=bw c;have:=bQ c;have:=bV c;have:=nB c;have:R.frozen? ⟨b,1,Z⟩=aQ:=bE c 1;have:R.frozen? ⟨b,2,Z⟩=aQ:=bE c 2;have:R.frozen? ⟨b,3,Z⟩=aQ:=bE c 3;have:R.frozen? ⟨b,4,Z⟩=aQ:=bE c 4))
  all_goals
   go_wp2_with fail
   go_end0
   exact⟨rfl,WA l f ho hgrow S v B⟩
theorem WC{s:ByteArray}{A r:V Pl.Tk}{t:Pl.Tk}{rg:V (V (Int×Int))}(f:Cx rb s A)(J:RD rb s A (t::r) rg w)(I:Gl w)
  (hk:t.k=119\/t.k=110\/t.k=40\/t.k=41\/t.k=44):
  M 148 #[aF (K ⟨rb,0,Z⟩)] w λe w'=>e=aJ (aG #[])/\RD rb s A r rg w'/\Below rb w w'/\Kp rb w w':=by
 obtain⟨c,t',C,tv,rv,B,O,y,d,S⟩:=J;injection O with x H;subst x H;have P:Pl.eU s.data.toList (t::r):=Pl.Ff _ c _ (by rw[B];exact f.ch) E;obtain⟨u,C,W,Y,L⟩:=Pl.KK _ t r P U;have R:=f.pl t (by rw[<-B];simp);have i:s.data.toList.length=s.size:=E;have z:c.length+(r.length+1)<=402:=by have:=f.len;rw[<-B] at this;simpa using this
 have n:Pl.fI t=t.raw:=by unfold Pl.fI;rw[X U]
 have m:=R.1;rw[i] at m;have p:(⟨(Pl.fI t).toArray⟩:ByteArray).size=t.raw.length:=by rw[n];rfl
 have hs:=f.hs;refine(WB rb s _ _ _ t.pl (t.pl+t.raw.length) tv rv c.length (pM c) w (Pl.pk u) ⟨(Pl.fI u).toArray⟩ u.n u.pl y d U U (by rw[p];omega) (by rw[p]) I f.rb ?_).mono ?_
 .intro w1 F;have:=KQ KZ s (t.pl+t.raw.length) w1 m f.hs F;rw[<-Y] at this;exact this
 .rintro e w' ⟨rfl,⟨⟨q,g,hown',j⟩,b,l⟩⟩;refine⟨rfl,⟨c++[t],u,C,q,rv,by rw[<-B];simp,W,g,?_,?_⟩,l,?_⟩
  .rw[Wj];simpa[fB] using hown'
  .refine S.kept λk D e a N T=>?_;refine b k (apJ a) U<|lE d a ?_;rcases N with rfl|rfl<;>decide
  .rintro k o Q ⟨tv0,v,x⟩ a;rw[apL y 5] at v;injection v with v;subst v;refine⟨(b k (apJ a) Q x).trans a,q,apL g 5,λe=>?_⟩;rcases j k e with h|h
   .exact x h
   .have:=apJ a;omega
theorem Le:l9:=λ_ _ _ _ _ _ _ a c b d=>WC a c b d
def qW(b v:Int):Bool:=decide (-b<=v/\v<=b)
theorem Lg(v b:Int)(w:G)(a:0<=b)(c:b<=1000000):
  M 34 #[I J v,I J b] w λe w'=>e=aJ (aC<|qW b v)/\w'=w:=by
 by_cases h: -b<=v
 .go_enter func34,ntmps34
  go_wp2
  go_ret;exact⟨nD (by unfold qW;simp[h]),rfl⟩
 .have:decide (-b<=v)=aQ:=by simpa using h
  go_enter func34,ntmps34
  go_wp2
  go_ret;exact⟨nD (by unfold qW;simp;omega),rfl⟩
theorem Lh(s:ByteArray)(w:G)(b:s.size<=400)(a:Gl w):
  M 60 #[aD s,I J 0] w (ai (u<|fB<|Pl.tk s.data.toList 0) w):=
 KQ KZ s 0 w (iq _) b a
theorem xm(s:V UInt8):∃r,Pl.all s=Pl.tk s 0::r:=Pl.Fe s _ 0
theorem RD.fresh{s:ByteArray}{o:Obj}(b:o=.cells (AF s (Pl.tk s.data.toList 0) (D Z 0 0)<|D Z 0 0) 80 (0,0)):RD w.heap.size s (Pl.all s.data.toList) (Pl.all s.data.toList) [] (w.alloc o):=by
 obtain⟨r,c⟩:=xm s.data.toList;refine⟨[],_,r,D Z 0 0,D Z 0 0,rfl,c,?_,ak _ _ _ _,[],rfl,ak _ _ _ _,?_,?_⟩
 .rw[aa,b]
 .intro i v g a;simp at a
 .intro i j v u k a;simp at a
theorem Cx.mk'{s:ByteArray}(b:s.size<=400)(a:6<=rb):Cx rb s (Pl.all s.data.toList):=
 ⟨b,Pl.sP _,by have:=Pl.sU s.data.toList;simp at this;omega,Pl.AA _,a⟩
def outT(t:Pl.Tk):Bool:=decide (t.k=110)&& !qW 50 t.n
theorem AO(c:V Pl.Tk)(k:Nat)(t:Pl.Tk)(h:c[k]?=K t)(j:Nat)(e:j<4):(pM c)[k*4+j]?=(fB t)[j]?:=by
 induction c generalizing k with
 |nil=>simp at h
 |cons a r d=>
  cases k with
  |zero=>
   have:a=t:=by simpa using h
   subst this;simp only[pM,nn,py,ir];rw[dQ (by simp[fB];omega)];simp
  |succ k=>
   have b:r[k]?=K t:=by simpa using h
   have:=d k b;simp only[pM,nn] at this⊢;rw[jc (by simp[fB];omega)];rw[<-this];congr 1;simp[fB];omega
theorem WD(s:ByteArray)(w:G)(b:400<s.size)(a:s.size<=maxLen):
  M 33 #[aD s] w λe w'=>e=aJ (aG #[aF Z,I J 1,I J 0])/\w'=w:=by
 unfold maxLen at a;go_enter func33,ntmps33
 go_wp2
 go_ret3;exact⟨rfl,rfl⟩
theorem WE(s:ByteArray)(w:G)(Q:s.size<=400)(l:Gl w)(l':V Pl.Tk)(t:Pl.Tk)(r:V Pl.Tk)(b:Bool)(v:V (V<|V (Int×Int)))
  (B:Pl.bO (Pl.all s.data.toList)=(b,l',v))(q:l'=t::r)(g:b=aQ\/t.k≠101):
  M 33 #[aD s] w (ai (aG #[aF Z,I J 2,I J t.pl]) w):=by
 have S:=hid B;have x:=hid<|λw1 j=>Lh s w1 Q j;clear B;generalize p:Pl.tk s.data.toList 0=z at*;have R:=hid p;unfold fB at x;clear p;go_enter func33,ntmps33;go_wp2_with fail;refine(x.out _ l).mono ?_;rintro e w1 ⟨rfl,c⟩;have f:Gl w1:=l.below c l.sz;go_wp2_with fail;have m:RD w1.heap.size s (Pl.all s.data.toList) (Pl.all s.data.toList) [] (w1.alloc<|.cells (AF s z (D Z 0 0)<|D Z 0 0) 80):=RD.fresh (by rw[R.out]);have i:=Cx.mk' Q f.sz;refine(Lc Le w1.heap.size s _ _ _ i m<|f.alloc _).mono ?_;rintro e T ⟨rfl,⟨y,d,P⟩,n⟩;rw[S.out] at d⊢;simp only at d⊢;subst q;obtain⟨O,N,q,A,C,F,K,L⟩:=d.cells;injection q with o u;subst o u;have a:=((c.alloc c.size _).trans<|n.mono c.size);cases b
 .go_wp2_with fail
  go_quiet (fail)
  go_wp2_with fail;go_ret3;exact⟨rfl,⟨a.os,a.tape,a.output,a.size,a.block⟩⟩
 .have p:(Pl.pk t != 1)=aP:=by
   rw[qL];intro h;rcases g with k|k
   .cases k
   .exact k (Pl.K6.1 h)
  go_wp2_with fail
  go_quiet (fail)
  go_wp2_with fail;go_ret3;exact⟨rfl,⟨a.os,a.tape,a.output,a.size,a.block⟩⟩
theorem Lj{e:TypeId}{size:Nat}{v:Y}{n:Nat}{xs:V Y}(h:w.ownsRow B e size v n xs):∀g,v.ownBlock=K g->∃c a,w.heap[g]?=K (.cells c e a):=λg d=>by
 obtain⟨c,b⟩:=fJ h d;exact⟨c,_,b⟩
theorem addr_add(g j:Nat):(⟨g,0,Z⟩:Addr).add j=⟨g,j,Z⟩:=by
 unfold Addr.add;split<;>simp_all
def WQ(s:ByteArray)(l':V Pl.Tk)(v:V (V<|V (Int×Int)))(w:G)(o:Option Pl.Tk)(e:Ending)(w':G):Prop:=
 ag w w'/\((∃u,o=K u/\e=aJ (aG #[aF Z,I J 3,I J u.pl]))\/
  (o=Z/\∃a,e=aJ (aG #[aF (K ⟨a,0,Z⟩),I J 0,I J 0])/\w.heap.size<=a/\RD a s (Pl.all s.data.toList) l' v.flatten w'))
theorem Fx{α:Type}(p:α->Bool)(c:V α)(k:Nat)(a:α)(h:c[k]?=K a)(d:(c.take k).find? p=Z):
  (p a=aQ->(c.take<|k+1).find? p=Z)/\(p a=aP->c.find? p=K a):=by
 have l:=(bX.1 h).1;have g:c[k]=a:=(bX.1 h).2;have e:c.take (k+1)=c.take k++[a]:=by rw[lV l,g]
 constructor
 .intro b;rw[e,Ai,d];simp[b]
 .intro b;have f:c=(c.take k++[a])++c.drop (k+1):=by rw[<-e,oy]
  rw[f,Ai,Ai,d];simp[b]
theorem WR(s:ByteArray)(w:G)(hs:s.size<=400)(O:Gl w)(t:Pl.Tk)(r c:V Pl.Tk)(v:V (V<|V (Int×Int)))
  (hp:Pl.bO (Pl.all s.data.toList)=(aP,t::r,v))(ht:t.k=101)(hc:c++t::r=Pl.all s.data.toList)(Y:0<c.length):
  M 33 #[aD s] w (WQ s (t::r) v w<|c.find? outT):=by
 have HP:=hid hp;have HT:=hid<|λw1 g1=>Lh s w1 hs g1;have hk1:(Pl.pk t != 1)=aQ:=by rw[Pl.K6.2 ht];rfl
 have HC:=hid hc;have hcl:c.length<=402:=by
  have:=Pl.sU s.data.toList;rw[<-hc] at this;simp at this;omega
 generalize hk:Pl.tk s.data.toList 0=t0 at*;have HK:=hid hk;unfold fB at HT;generalize hF:c.find? outT=a;have HF:=hid hF;go_enter func33,ntmps33;go_wp2_with fail;refine(HT.o _ O).mono ?_;rintro e w1 ⟨rfl,B⟩;have o:Gl w1:=O.below B O.sz;go_wp2_with fail;have T:RD w1.heap.size s (Pl.all s.data.toList) (Pl.all s.data.toList) [] (w1.alloc<|.cells (AF s t0 (D Z 0 0)<|D Z 0 0) 80):=RD.fresh (by rw[HK.o]);have cx:=Cx.mk' hs o.sz;refine(Lc Le w1.heap.size s _ _ _ cx T<|o.alloc _).mono ?_;rintro e w2 ⟨rfl,⟨rg2,Q,P⟩,W⟩;rw[HP.o] at Q P⊢;simp only at Q P⊢;have hrg:=P pz;subst hrg;obtain⟨l,t',r',tv,rv,X,hl,y,S,ahz⟩:=id Q;injection hl with h1 h2;subst h1 h2;have hcc:l=c:=by
  have:=HC.o;rw[<-X] at this;exact(Aj this).symm
 subst hcc;obtain⟨g,cap,rfl,hg1,R⟩:=S.form Y;have c1:=bw y;have c5:=nC y;have C:=S.cells (g:=g) rfl;have m:H (∀b u,(pM l)[b]?=K u->w2.cell? ⟨g,b,Z⟩=K u):=λb u h=>by
  have:=C b u h;rwa[addr_add] at this
 have f:=((B.alloc B.size _).trans<|W.mono B.size);have hw1:=B.size;go_wp2_with fail
 go_loopg [37] l.length (λn i wr=>∃k:Nat,k+n=l.length/\i=I J k/\H ((l.take k).find? outT=Z)/\ag w2 wr)
 case atStart=>exact⟨0,U,rfl,by show _=_;simp,Below.refl _ _⟩
 case round=>
  obtain⟨k,hkn,rfl,hnone,d⟩:=hrel;by_cases hlt:k<l.length
  .obtain⟨u,L⟩:∃u,l[k]?=K u:=⟨_,be hlt⟩;have N:=hid L;have e0:wr.cell? ⟨g,k*4,Z⟩=K (I J<|Pl.pk u):=by
    rw[d.cell (p:=⟨g,k*4,Z⟩) R];exact m.o (k*4) (I J<|Pl.pk u) (by have:=AO l k u L 0 U;rw[pA] at this;rw[this];rfl)
   have e1:wr.cell? ⟨g,k*4+1,Z⟩=K (aD ⟨(Pl.fI u).toArray⟩):=by
    rw[d.cell (p:=⟨g,k*4+1,Z⟩) R];exact m.o (k*4+1) (aD ⟨(Pl.fI u).toArray⟩) (by rw[AO l k u L 1 U];rfl)
   have e2:wr.cell? ⟨g,k*4+2,Z⟩=K (I J u.n):=by
    rw[d.cell (p:=⟨g,k*4+2,Z⟩) R];exact m.o (k*4+2) (I J u.n) (by rw[AO l k u L 2 U];rfl)
   have e3:wr.cell? ⟨g,k*4+3,Z⟩=K (I J u.pl):=by
    rw[d.cell (p:=⟨g,k*4+3,Z⟩) R];exact m.o (k*4+3) (I J u.pl) (by rw[AO l k u L 3 U];rfl)
   by_cases x:u.k=110
   .have A:=Pl.AI.2 x;rw[A] at e0;cases z:qW 50 u.n
    .have ho:a=K u:=by
      rw[<-HF.o];exact(Fx outT l k u N.o hnone.o).2 (by unfold outT;simp[x,z])
     subst ho;go_wp2_with fail;refine(Lg u.n 50 _ U U).mono ?_;rintro e w3 ⟨rfl,rfl⟩;go_wp2_with fail
     go_quiet (fail)
     go_wp2_with fail;go_ret3;refine⟨?_,j ⟨u,rfl,rfl⟩⟩;have q:ag w (wr.alloc<|.cells #[I J 3,aD ⟨(Pl.fI u).toArray⟩,I J u.n,I J u.pl] 76):=(f.trans<|d.mono f.size).alloc (el f.size d.size) _;exact⟨q.os,q.tape,q.output,q.size,q.block⟩
    .have hn:H ((l.take<|k+1).find? outT=Z):=(Fx outT l k u N.o hnone.o).1 (by unfold outT;simp[z]);go_wp2_with fail;refine(Lg u.n 50 _ U U).mono ?_;rintro e w3 ⟨rfl,rfl⟩;go_wp2_with fail;go_roundg (gk-1)
     case measure=>omega
     case rel=>exact⟨k+1,U,af,hn,d.alloc d.size _⟩
   .have hn:H ((l.take<|k+1).find? outT=Z):=(Fx outT l k u N.o hnone.o).1 (by unfold outT;simp[x]);have A:(Pl.pk u == 3)=aQ:=by
     rw[ou];intro h;exact x<|Pl.AI.1 h
    generalize Pl.pk u=pku at*
    go_wp2_with fail;go_roundg (gk-1)
    case measure=>omega
    case rel=>exact⟨k+1,U,af,hn,d.alloc d.size _⟩
  .have ho:a=Z:=by
    rw[<-HF.o];have:=hnone.o;rwa[ku U] at this
   subst ho;go_wp2_with fail;go_ret3;exact⟨f.trans<|d.mono f.size,F ⟨rfl,w1.heap.size,rfl,hw1,Q.below d⟩⟩
namespace Pl
def wr(t:Tk):V UInt8:=if t.k=110 then Lib.itoa t.n else fI t
def bb(a b:Tk):Bool:=decide (fI a=[44])||(decide (a.k=110)&&decide (b.k=110))
def fL:Tk->V Tk->V UInt8
 |_,[]=>[]
 |p,t::r=>(if bb p t=aP then[32] else[])++(wr t++fL t r)
def wt:V Tk->V UInt8
 |[]=>[]
 |[t]=>wr t
 |a::b::r=>wr a++([32]++(wr b++fL b r))
end Pl
theorem mb{w':G}(h:Below B w w')(n:Nat):Below B w (w'.drewN n):=⟨h.os,h.tape,h.output,h.size,h.block⟩
namespace Pl
def Goes(s:V UInt8)(l l':V Tk):Prop:=(∃c,c++l'=l)/\eU s l'
theorem Goes.refl{s:V UInt8}{l:V Tk}(h:eU s l):Goes s l l:=⟨⟨[],rfl⟩,h⟩
theorem Goes.trans{s:V UInt8}{a b c:V Tk}(h:Goes s a b)(k:Goes s b c):Goes s a c:=by
 obtain⟨⟨x,e⟩,_⟩:=h;obtain⟨⟨y,f⟩,d⟩:=k;exact⟨⟨x++y,by rw[ep,f,e]⟩,d⟩
theorem Goes.tail{s:V UInt8}{t:Tk}{r:V Tk}(h:eU s (t::r))(b:¬(t.k=101\/t.k=120)):Goes s (t::r) r:=by
 obtain⟨u,c,_,_,a⟩:=KK s t r h b;exact⟨⟨[t],rfl⟩,a⟩
theorem pQ{s:V UInt8}{c:Nat}{l:V Tk}(h:eU s l)(b:c≠101/\c≠120):Goes s l (mk c l).2:=by
 cases l with
 |nil=>exact h.elim
 |cons t r=>
  by_cases a:t.k=c
  .have e:mk c (t::r)=(aP,r):=by simp[mk,a]
   rw[e];exact Goes.tail h U
  .have e:mk c (t::r)=(aQ,t::r):=by simp[mk,a]
   rw[e];exact Goes.refl h
theorem uH{s:V UInt8}{q:V UInt8}{l:V Tk}(h:eU s l):Goes s l (wd q l).2:=by
 cases l with
 |nil=>exact h.elim
 |cons t r=>
  by_cases a:t.k=119/\t.raw=q
  .have e:wd q (t::r)=(aP,r):=by simp only[wd];rw[y a]
   rw[e];exact Goes.tail h U
  .have e:wd q (t::r)=(aQ,t::r):=by simp only[wd];rw[X a]
   rw[e];exact Goes.refl h
theorem Lk{s:V UInt8}(l:V Tk)(h:eU s l):Goes s l (dW l).2.1:=by
 match l,h with
 |[],h=>exact h.elim
 |[x],h=>exact Goes.refl h
 |x::y::r,h=>
  by_cases b:x.k=110
  .have a:=Goes.tail h U;by_cases c:y.k=110
   .have e:dW (x::y::r)=(aP,r,(x.n,y.n)):=by simp[dW,b,c]
    rw[e];exact a.trans<|Goes.tail a.2 U
   .have e:dW (x::y::r)=(aQ,y::r,(0,0)):=by simp[dW,b,c]
    rw[e];exact a
  .have e:dW (x::y::r)=(aQ,x::y::r,(0,0)):=by simp[dW,b]
   rw[e];exact Goes.refl h
theorem AT{s:V UInt8}{α:Type}(a:V Tk->Bool×V Tk×α)(m:∀l,eU s l->Goes s l (a l).2.1):
  ∀(f:Nat)(l:V Tk)(b:V α),eU s l->Goes s l (eW a f l b).2.1
 |0,l,b,h=>Goes.refl h
 |f+1,l,b,h=>by
  have d:=m l h;cases e:(a l).1
  .rw[uC e];exact d
  .cases k:(mk 44 (a l).2.1).1
   .rw[uE e k];exact d.trans<|pQ d.2 U
   .rw[uD e k];have g:=pQ (c:=44) d.2 U;exact(d.trans g).trans<|AT a m f _ _ g.2
theorem Ll{s:V UInt8}(l:V Tk)(h:eU s l):Goes s l (eY l).2.1:=by
 unfold eY;have a:=pQ (c:=40) h U;split
 .split
  .exact a.trans (pQ a.2 U)
  .exact a.trans (AT dW Lk _ _ _ a.2)
 .exact Goes.refl h
theorem Fy{s:V UInt8}(l:V Tk)(h:eU s l):Goes s l (cZ l).2.1:=by
 unfold cZ;split
 .exact uH h
 .have a:=pQ (c:=40) h U;split
  .exact a.trans (AT eY Ll _ _ _ a.2)
  .exact Goes.refl h
theorem WT{s:V UInt8}(l:V Tk)(h:eU s l):Goes s l (gu l).2.1:=by
 unfold gu;split
 .exact uH h
 .have a:=pQ (c:=40) h U;split
  .exact a.trans (AT cZ Fy _ _ _ a.2)
  .exact Goes.refl h
theorem AW{s:V UInt8}(l:V Tk)(h:eU s l):Goes s l (bO l).2.1:=by
 unfold bO;split
 .have a:=uH (q:=ew) h;exact a.trans<|Fy _ a.2
 .split
  .have a:=uH (q:=fA) h;exact a.trans<|WT _ a.2
  .exact Goes.refl h
theorem WU(l:V Tk)(h:(bO l).1=aP):(bO l).2.1.length<l.length:=by
 unfold bO at h⊢;by_cases a:(wd ew l).1=aP
 .rw[y a] at h⊢;have:=qV a;have:=(xl _ h).1;simp only;omega
 .rw[X a] at h⊢;by_cases b:(wd fA l).1=aP
  .rw[y b] at h⊢;have:=qV b;have:=Wu _ h;omega
  .rw[X b] at h;cases h
def hk(l:V Tk):Nat:=match l with |[]=>0|t::_=>t.k
def hpl(l:V Tk):Nat:=match l with |[]=>0|t::_=>t.pl
def took(s:V UInt8):V Tk:=(all s).take<|(all s).length-(bO<|all s).2.1.length
def err(s:V UInt8):Nat×Nat:=
  if 400<s.length then(1,0)
  else if(bO<|all s).1=aP/\hk (bO<|all s).2.1=101 then
    (match(took s).find? outT with
     | some a=>(3,a.pl)
     | none=>(0,0))
  else(2,hpl (bO<|all s).2.1)
theorem uI(s:V UInt8):took s++(bO<|all s).2.1=all s:=by
 obtain⟨⟨c,a⟩,_⟩:=AW (all s)<|sP s;unfold took;have:(all s).length=c.length+(bO<|all s).2.1.length:=by
  conv=>lhs;rw[<-a]
  simp
 rw[this,Nat.add_sub_cancel]
 conv=>lhs;lhs;rw[<-a]
 rw[List.take_left];exact a
end Pl
def Lm(s:ByteArray)(w:G)(e:Ending)(w':G):Prop:=
 ag w w'/\∃b,e=aJ (aG #[aF b,I J (Pl.err s.data.toList).1,I J (Pl.err s.data.toList).2])/\
  ((Pl.err s.data.toList).1=0->∃a,b=K ⟨a,0,Z⟩/\w.heap.size<=a/\RD a s (Pl.all s.data.toList) (Pl.bO<|Pl.all s.data.toList).2.1 (Pl.bO<|Pl.all s.data.toList).2.2.flatten w')
theorem Lo(s:ByteArray)(w:G)(S:s.size<=maxLen)(B:Gl w):
  M 33 #[aD s] w (Lm s w):=by
 have:s.data.toList.length=s.size:=E;by_cases o:400<s.size
 .refine(WD s w o S).mono ?_;rintro e w' ⟨rfl,rfl⟩;have Q:Pl.err s.data.toList=(1,0):=by unfold Pl.err;rw[y U]
  refine⟨Below.refl _ _,Z,?_,?_⟩
  .rw[Q];rfl
  .rw[Q];intro h;cases h
 .have l:s.size<=400:=U;have p:=Pl.AW (Pl.all s.data.toList)<|Pl.sP s.data.toList;have d:=Pl.uI s.data.toList;have c:Pl.err s.data.toList=if(Pl.bO<|Pl.all s.data.toList).1=aP/\Pl.hk (Pl.bO<|Pl.all s.data.toList).2.1=101 then
    (match(Pl.took s.data.toList).find? outT with |some a=>(3,a.pl)|none=>(0,0)) else(2,Pl.hpl (Pl.bO<|Pl.all s.data.toList).2.1):=by
   unfold Pl.err;rw[X U]
  have g:=Pl.WU<|Pl.all s.data.toList;unfold Lm;rcases hp:Pl.bO (Pl.all s.data.toList) with⟨b,l',v⟩;rw[hp] at p d c g;simp only at p d c g⊢;obtain⟨t,r,rfl⟩:∃t r,l'=t::r:=by
   cases l' with
   |nil=>exact p.2.elim
   |cons t r=>exact⟨t,r,rfl⟩
  by_cases k:b=aP/\t.k=101
  .obtain⟨rfl,R⟩:=k;have n:0<(Pl.took s.data.toList).length:=by
    have x:=g rfl;have m:=bd List.length d;simp only[bG] at m;omega
   refine(WR s w l B t r (Pl.took s.data.toList) v hp R d n).mono ?_;rintro e w' ⟨f,i⟩;rw[y ⟨rfl,R⟩] at c;refine⟨f,?_⟩;rcases i with⟨a,q,rfl⟩|⟨q,z,rfl,x,m⟩
   .rw[q] at c;simp only at c;refine⟨Z,by rw[c];rfl,?_⟩;rw[c];intro h;cases h
   .rw[q] at c;simp only at c;exact⟨_,by rw[c];rfl,λ_=>⟨z,rfl,x,m⟩⟩
  .rw[X<|by exact k] at c;refine(WE s w l B (t::r) t r b v hp rfl (by
    by_cases P:b=aP
    .exact F (λh=>k ⟨P,h⟩)
    .exact j (by simpa using P))).mono ?_
   rintro e w' ⟨rfl,f⟩;refine⟨f,Z,by rw[c];rfl,?_⟩;rw[c];intro h;cases h
def Pl.xx(s:V UInt8):V UInt8:=if(Pl.err s).1=0 then Pl.wt (Pl.took s) else[]
theorem tf{s:V UInt8}(h:(Pl.err s).1=0):s.length<=400/\(Pl.err s).2=0/\(Pl.bO<|Pl.all s).1=aP/\Pl.hk (Pl.bO<|Pl.all s).2.1=101/\(Pl.took s).find? outT=Z:=by
 unfold Pl.err at h⊢;by_cases c:400<s.length
 .rw[y c] at h;cases h
 .rw[X c] at h⊢;by_cases b:(Pl.bO<|Pl.all s).1=aP/\Pl.hk (Pl.bO<|Pl.all s).2.1=101
  .rw[y b] at h⊢;cases d:(Pl.took s).find? outT with
   |some a=>rw[d] at h;cases h
   |none=>exact⟨U,rfl,b.1,b.2,rfl⟩
  .rw[X b] at h;cases h
theorem Xf{s:V UInt8}{t:Pl.Tk}(h:t∈Pl.took s):t∈Pl.all s:=by
 unfold Pl.took at h;exact kP h
theorem Lx{s:V UInt8}(h:(Pl.err s).1=0):(∀t∈Pl.took s,(Pl.wr t).length<=400)/\(∀t∈Pl.took s,t.k=110-> -50<=t.n/\t.n<=50)/\(Pl.took s).length<=402:=by
 obtain⟨e,_,_,_,d⟩:=tf h;have c:∀t∈Pl.took s,t.k=110-> -50<=t.n/\t.n<=50:=λt b a=>by
  have:=Vn.1 d t b;unfold outT qW at this;simp[a] at this;omega
 refine⟨λt b=>?_,c,?_⟩
 .unfold Pl.wr;by_cases a:t.k=110
  .rw[y a];have:=c t b a;have:=aaS t.n U U;omega
  .rw[X a];have f:=(Pl.AA s t<|Xf b).1;unfold Pl.fI;split
   .simp
   .omega
 .have:=Pl.sU s;unfold Pl.took;rw[fU];omega
theorem fW(P:Program)(w:G)(a:Addr)(k:FloatKind)(x y:Nat)(m:Mode):(store a (A k x y) m).run P w=stored P w a (A k x y) m:=run_store P w a _ m rfl
theorem mm(P:Program)(w:G)(a:Addr)(k:FloatKind)(x:Nat)(m:Mode):(store a (aA k x) m).run P w=stored P w a (aA k x) m:=run_store P w a _ m rfl
def sm(z:Int):Prop:=z.natAbs<=33554432
theorem YE(a b:Nat)(w:G):
  M 151 #[A C a b] w λe w'=>e=aJ (A C a<|Op.negFloat C b)/\w'=w:=by
 have c:∀w,(Op.unary .neg<|aA C b).run prog w=.ok (aA C<|Op.negFloat C b) w:=λ_=>rfl;go_enter func151,ntmps151;go_wp2_with (simp only[c]);go_ret;exact⟨rfl,rfl⟩
theorem mn{y:Int}(a:sm x)(b:sm y):(x*y).natAbs<=1125899906842624:=by
 rw[kz];exact uj a b
theorem Gi{y u:Int}(Q:Fl a x)(R:Fl b y)(S:Fl c u)(i:Fl d v)(k:sm x)(l:sm y)(m:sm u)(n:sm v):
  ∃g f,Fl g (x*u+y*v)/\Fl f (x*v-y*u)/\∀w,M 98 #[A C a b,A C c d] w λe w'=>e=aJ (A C g f)/\w'=w:=by
 have o:=mn k m;have r:=mn l n;have z:=mn k n;have s:=mn l m;have D:(-y*v).natAbs<=1125899906842624:=by rw[fG,ur];exact r
 have F:(-y*u).natAbs<=1125899906842624:=by rw[fG,ur];exact s
 obtain⟨g,f,e,p,q⟩:=Gh Q R.neg S i U U U U U U;refine⟨g,f,?_,?_,λw=>?_⟩
 .have:x*u+y*v=x*u- -y*v:=by rw[fG];omega
  rw[this];exact p
 .have:x*v-y*u=x*v+ -y*u:=by rw[fG];omega
  rw[this];exact q
 .have j:=λt w=>aj9 (P:=prog) w t a (Op.negFloat C b) c d g f e;have B:=hid<|λw1=>YE a b w1;clear o r z s D F e p q;generalize Op.negFloat C b=G at*
  go_enter func98,ntmps98;go_wp2_with fail;refine(B.out _).mono ?_;rintro e w1 ⟨rfl,rfl⟩;go_wp2_with (simp only);go_ret;exact⟨rfl,rfl⟩
theorem xQ{y u:Int}(r:Fl a x)(s:Fl b y)(t:Fl c u)(B:Fl d v)(l:sm x)(m:sm y)(n:sm u)(p:sm v):
  ∃f,Fl f (x*v-y*u)/\∀w,M 101 #[A C a b,A C c d] w λe w'=>e=aJ (aA C f)/\w'=w:=by
 obtain⟨P,f,_,q,g⟩:=Gi r s t B l m n p;refine⟨f,q,λw=>?_⟩;have k:=hid g;clear g;go_enter func101,ntmps101;go_wp2_with fail;refine(k.out _).mono ?_;rintro e w1 ⟨rfl,rfl⟩;go_wp2_with fail;go_ret;exact⟨rfl,rfl⟩
theorem YF{y f:Int}(r:Fl a x)(s:Fl b y)(i:Fl c f)(j:Fl d v)(o:x.natAbs<=50)(z:y.natAbs<=50)(D:f.natAbs<=50)(G:v.natAbs<=50):
  ∃g k sh,Fl g (f-x)/\Fl k (v-y)/\Fl sh ((f-x)*y-(v-y)*x)/\∀w,M 64 #[A C a b,A C c d] w (ai (u #[A C g k,aA C sh]) w):=by
 obtain⟨g,k,e,p,q⟩:=Gg i j r s U U;obtain⟨sh,S,B⟩:=xQ p q r s (by unfold sm;omega) (by unfold sm;omega) (by unfold sm;omega) (by unfold sm;omega);refine⟨g,k,sh,p,q,S,λw=>?_⟩;have n:=λt w=>ahx (P:=prog) w .sub (F rfl) t C c d a b g k e;have Q:=hid B;clear B;go_enter func64,ntmps64;go_wp2_with (simp only[n]);have l:=aa w<|.cells #[A C 0 0,aA C 0] 122;have m:ag w (w.alloc<|.cells #[A C 0 0,aA C 0] 122):=aj _ _;generalize w.alloc (.cells #[A C 0 0,aA C 0] 122)=W at*;refine(Q.out _).mono ?_;rintro e w1 ⟨rfl,rfl⟩;have e0:=bz l;have R:=bw l;have:=bE l 0;have:=bE l 1;go_wp2_with (simp only[fW,mm];go_simp);refine ab (v:=u #[A C g k,aA C sh]) (by simp[results,results64,go_sem,e0,R]) rfl ⟨rfl,?_⟩;exact(m.setCell (aX _) _).setCell (aX _) _
theorem mp{n:Int}(h:sm n):Fl (aM C n) n:=rj (by unfold sm at h;omega)
theorem xR(B Q:Nat)(D:Int){y:Int}(p:Fl a x)(q:Fl b y)(m:sm x)(n:sm y)(f:sm D):
  ∃d c,Fl d (x*D)/\Fl c (y*D)/\∀w,M 152 #[u #[A C B Q,I J D],A C a b] w λe w'=>e=aJ (A C d c)/\ag w w'/\w.drawn<=w'.drawn:=by
 have s:=mn m f;have v:=mn n f;have R:sm 0:=by unfold sm;decide
 obtain⟨d,c,e,g,k⟩:=Gh p q (mp f) (mp R) U U U U U U;refine⟨d,c,?_,?_,λw=>?_⟩
 .have:x*D=x*D-y*0:=U;rw[this];exact g
 .have:y*D=x*0+y*D:=U;rw[this];exact k
 .have r:=λt w=>aj9 (P:=prog) w t a b (aM C D) (aM C 0) d c e;have l:=hid<|λw1=>AK D 0 w1;clear s v e g k;generalize aM C D=S at*;generalize aM C 0=i at*
  go_enter func152,ntmps152;go_wp2_with fail;refine(l.out _).mono ?_;rintro e w1 ⟨rfl,rfl⟩;go_wp2_with (simp only);go_ret;exact⟨rfl,(aj _ _),aX _⟩
theorem MH{X Y D:Int}{y:Int}(i:Fl na X)(j:Fl nb Y)(o:Fl a x)(z:Fl b y)(m:sm x)(n:sm y)(g:sm D)(s:sm X)(v:sm Y):
  ∃f d,Fl f (X-x*D)/\Fl d (Y-y*D)/\∀w,M 99 #[u #[A C na nb,I J D],A C a b] w λe w'=>e=aJ (A C f d)/\Below w.heap.size w w':=by
 have L:=mn m g;have N:=mn n g;obtain⟨V,sb,O,T,q⟩:=xR na nb D o z m n g;obtain⟨f,d,e,R,S⟩:=Gg i j O T (by unfold sm at s;omega) (by unfold sm at v;omega);refine⟨f,d,R,S,λw=>?_⟩;have:=λt w=>ahx (P:=prog) w .sub (F rfl) t C na nb V sb f d e;have r:=hid q;clear q L N;have p:=aa w<|.cells #[A C na nb,I J D] 83;have k:Below w.heap.size w (w.alloc<|.cells #[A C na nb,I J D] 83):=(Below.refl _ _).alloc (aX _) _;have l:w.heap.size<(w.alloc<|.cells #[A C na nb,I J D] 83).heap.size:=E;go_enter func99,ntmps99;go_wp2_with fail;generalize w.alloc (.cells #[A C na nb,I J D] 83)=W at*;generalize G:w.heap.size=B at*;have e0:=bz p;have Q:=bw p;go_region_held3 (λw'=>apR w' B (A C na nb)<|I J D) (go_keep) (first
  |(go_at_call 152;refine(r.out _).mono ?_;rintro e w5 ⟨rfl,c,_⟩;have:=aR c e0 l;have:=(aR c Q l))
  |(simp only))
 go_wp2_with fail;go_ret;exact⟨rfl,by rw[G];exact k.drew.trans<|c.mono<|du l⟩
theorem vf{y:Int}(c:Fl a x)(d:Fl b y):(C.format.order a b == K .lt)=decide (x<y):=by
 have e:C.format.order a b=K (compare x y):=c.order d;rw[e];rcases dG x y with h|h|h
 .rw[EU.2 h];simp[h]
 .rw[EV.2 h];simp[h]
 .rw[EW.2 h];simp;omega
theorem BI{y:Int}(c:Fl a x)(d:Fl b y):(C.format.order a b == K .gt)=decide (y<x):=by
 have e:C.format.order a b=K (compare x y):=c.order d;rw[e];rcases dG x y with h|h|h
 .rw[EU.2 h];simp;omega
 .rw[EV.2 h];simp[h]
 .rw[EW.2 h];simp[h]
theorem oL{y:Int}(c:Fl a x)(d:Fl b y):(C.format.order a b == K .eq)=decide (x=y):=by
 have e:C.format.order a b=K (compare x y):=c.order d;rw[e];rcases dG x y with h|h|h
 .rw[EU.2 h];simp;omega
 .rw[EV.2 h];simp[h]
 .rw[EW.2 h];simp;omega
theorem jU:Fl 0 0:=by
 have h:=rj (n:=0) ae;have e:aM C 0=0:=ae;rwa[e] at h
theorem Gj{wa wb sh:Nat}{wx wy s X Y D:Int}(G:Fl wa wx)(L:Fl wb wy)(N:Fl sh s)(z:Fl na X)(F:Fl nb Y)(d:sm wx)(f:sm wy)(Q:sm s)(g:sm D)(k:sm X)(l:sm Y):
  ∃r,Fl r (wx*Y-wy*X-s*D)/\∀w,M 97 #[u #[A C wa wb,aA C sh],u #[A C na nb,I J D]] w λe w'=>e=aJ (aA C r)/\Below w.heap.size w w':=by
 have T:=mn d l;have V:=mn f k;have m3:=mn Q g;obtain⟨im,j,q⟩:=xQ G L z F d f k l;obtain⟨p,R,o⟩:=N.mul (mp g) U;obtain⟨r,i,y⟩:=j.sub o U;refine⟨r,y,λw=>?_⟩;have v:=λt w=>ahy (P:=prog) w .mul t C _ _ p R;have a:=λt w=>ahy (P:=prog) w .sub t C _ _ r i;have x:=hid q;clear q T V m3;have m:((w.alloc<|.cells #[A C wa wb,aA C sh] 122).alloc<|.cells #[A C na nb,I J D] 83).heap[w.heap.size]?=K (.cells #[A C wa wb,aA C sh] 122 (0,0)):=by
  rw[ad _ _ _ E];exact aa _ _
 have n:((w.alloc<|.cells #[A C wa wb,aA C sh] 122).alloc<|.cells #[A C na nb,I J D] 83).heap[w.heap.size+1]?=K (.cells #[A C na nb,I J D] 83 (0,0)):=by
  have:=aa (w.alloc<|.cells #[A C wa wb,aA C sh] 122)<|.cells #[A C na nb,I J D] 83;simpa using this
 have b:Below w.heap.size w ((w.alloc<|.cells #[A C wa wb,aA C sh] 122).alloc<|.cells #[A C na nb,I J D] 83):=((Below.refl _ _).alloc (aX _) _).alloc E _;go_enter func97,ntmps97;go_wp2_with fail;generalize(w.alloc<|.cells #[A C wa wb,aA C sh] 122).alloc (.cells #[A C na nb,I J D] 83)=W at*;generalize O:w.heap.size=B at*;have e0:=bz m;have S:=bw m;have p0:=bz n;have p1:=bw n;go_region_held3 (λw'=>apR w' B (A C wa wb) (aA C sh)/\apR w' (B+1) (A C na nb) (I J D)) (go_keep) (first
  |(go_at_call 101;refine(x.out _).mono ?_;rintro e w5 ⟨rfl,c⟩;subst c)
  |(simp only)
  |(simp only[a]))
 go_wp2_with fail;go_ret;exact⟨rfl,by rw[O];exact b.drew⟩
structure EB where
 wa:Nat
 wb:Nat
 sh:Nat
 fa:Nat
 fb:Nat
 ta:Nat
 tb:Nat
def EB.cells(x:EB):Array Y:= #[A C x.wa x.wb,aA C x.sh,A C x.fa x.fb,A C x.ta x.tb]
structure jV(x:EB)(e:Ed):Prop where
 wa:Fl x.wa (e.2.1-e.1.1)
 wb:Fl x.wb (e.2.2-e.1.2)
 sh:Fl x.sh ((e.2.1-e.1.1)*e.1.2-(e.2.2-e.1.2)*e.1.1)
 fa:Fl x.fa e.1.1
 fb:Fl x.fb e.1.2
 ta:Fl x.ta e.2.1
 tb:Fl x.tb e.2.2
structure eM(X Y D:Int):Prop where
 x:X.natAbs<=16000000
 y:Y.natAbs<=16000000
 d:0<D/\D<=300000
theorem rk{z:Int}(h:small z):sm z:=by unfold small at h;unfold sm;omega
theorem BJ{X D:Int}(e:X.natAbs<=16000000)(c:0<D/\D<=300000)(d:small x):sm (X-x*D):=by
 have:=ee (a:=50) (b:=300000) d ⟨U,c.2⟩;unfold sm;omega
theorem BK{e:Ed}(h:cM e):sm ((e.2.1-e.1.1)*e.1.2-(e.2.2-e.1.2)*e.1.1):=by
 obtain⟨a,b,c,d⟩:=h;unfold small at a b c d;have: -5000<=(e.2.1-e.1.1)*e.1.2/\(e.2.1-e.1.1)*e.1.2<=5000:=ee (a:=100) (b:=50) U U;have: -5000<=(e.2.2-e.1.2)*e.1.1/\(e.2.2-e.1.2)*e.1.1<=5000:=ee (a:=100) (b:=50) U U;unfold sm;omega
def lf(X Y D:Int)(e:Ed):Int:=(e.2.1-e.1.1)*Y-(e.2.2-e.1.2)*X-((e.2.1-e.1.1)*e.1.2-(e.2.2-e.1.2)*e.1.1)*D
theorem Gk(X Y D:Int)(e:Ed):D*lf X Y D e=N.L (N.rel (X,Y) D e.1) (N.rel (X,Y) D e.2):=by
 obtain⟨⟨a,b⟩,c,d⟩:=e;simp only[lf,N.L,N.rel];grind
theorem BL{D z:Int}(a:0<D):(0<D*z↔0<z)/\(D*z<0↔z<0)/\(D*z=0↔z=0):=by
 rcases dG z 0 with h|h|h
 .have:=oz a h;omega
 .subst h;omega
 .have:=bD a h;omega
theorem YG(X Y D:Int)(e:Ed):(X-e.1.1*D)*(X-e.2.1*D)+(Y-e.1.2*D)*(Y-e.2.2*D)=N.i (N.rel (X,Y) D e.1) (N.rel (X,Y) D e.2):=by
 obtain⟨⟨a,b⟩,c,d⟩:=e;simp only[N.i,N.rel];grind
theorem YH(X Y D:Int)(e:Ed)(a:0<D):(decide (lf X Y D e=0)&&decide ((X-e.1.1*D)*(X-e.2.1*D)+(Y-e.1.2*D)*(Y-e.2.2*D)<=0))=N.fo (X,Y) D e:=by
 unfold N.fo N.on;rw[YG,<-Gk];congr 1;exact decide_eq_decide.2 (BL a).2.2.symm
theorem YI(X Y D:Int)(e:Ed)(d:0<D):N.fr (X,Y) D e.1 e.2=if ¬X*1<e.1.1*D/\X*1<e.2.1*D/\0<lf X Y D e then 1 else if X*1<e.1.1*D/\¬X*1<e.2.1*D/\lf X Y D e<0 then -1 else 0:=by
 unfold N.fr N.right;rw[<-Gk];obtain⟨f,g,_⟩:=BL (z:=lf X Y D e) d;have b:(N.rel (X,Y) D e.1).1=D*e.1.1-X:=rfl;have c:(N.rel (X,Y) D e.2).1=D*e.2.1-X:=rfl;rw[b,c,dw D e.1.1,dw D e.2.1];generalize D*lf X Y D e=Z at*;generalize lf X Y D e=L at*;generalize e.1.1*D=a at*;generalize e.2.1*D=V at*
 repeat' split
 all_goals omega
theorem BM(xb:EB)(p:Ed){X b D:Int}(j:jV xb p)(k:cM p)(g1:Fl na X)(g2:Fl nb b)(m:eM X b D)(w:G):
  M 62 #[u xb.cells,u #[A C na nb,I J D]] w λe w'=>e=aJ (aC<|N.fo (X,b) D p)/\Below w.heap.size w w':=by
 have sX:sm X:=by have:=m.x;unfold sm;omega
 have sY:sm b:=by have:=m.y;unfold sm;omega
 have sD:sm D:=by have:=m.d;unfold sm;omega
 have s1:sm (p.2.1-p.1.1):=by have:=k.a;have:=k.c;unfold small at*;unfold sm;omega
 have s2:sm (p.2.2-p.1.2):=by have:=k.b;have:=k.d;unfold small at*;unfold sm;omega
 obtain⟨r,fr,hL⟩:=Gj j.wa j.wb j.sh g1 g2 s1 s2 (BK k) sD sX sY;obtain⟨u1,u2,L,O,hU⟩:=MH (D:=D) g1 g2 j.fa j.fb (rk k.a) (rk k.b) sD sX sY;obtain⟨v1,v2,T,fv2,hV⟩:=MH (D:=D) g1 g2 j.ta j.tb (rk k.c) (rk k.d) sD sX sY;obtain⟨re,im,o,_,hT⟩:=Gi L O T fv2 (BJ m.x m.d k.a) (BJ m.y m.d k.b) (BJ m.x m.d k.c)<|BJ m.y m.d k.d;have HL:=hid hL;have HU:=hid hU;have HV:=hid hV;have HT:=hid hT;have q1:=oL fr jU;have q2:(C.format.order re 0 == K .lt||C.format.order re 0 == K .eq)=decide ((X-p.1.1*D)*(X-p.2.1*D)+(b-p.1.2*D)*(b-p.2.2*D)<=0):=by
  rw[vf o jU,oL o jU,<-Bool.decide_or];exact decide_eq_decide.2 U
 have Q:=YH X b D p m.d.1;unfold lf at Q;rw[<-q1,<-q2] at Q;rw[<-Q];clear Q q1 q2 hL hU hV hT fr o L O T fv2 j k m g1 g2 sX sY sD s1 s2;obtain⟨R,i,sh,t,fb,x,P⟩:=xb;simp only[EB.cells] at*;generalize BN:(C.format.order r 0 == K Ordering.eq)=B1 at*;have hE:((w.alloc<|.cells #[A C R i,aA C sh,A C t fb,A C x P] 124).alloc<|.cells #[A C na nb,I J D] 83).heap[w.heap.size]?=K (.cells #[A C R i,aA C sh,A C t fb,A C x P] 124 (0,0)):=by
  rw[ad _ _ _ E];exact aa _ _
 have hP:((w.alloc<|.cells #[A C R i,aA C sh,A C t fb,A C x P] 124).alloc<|.cells #[A C na nb,I J D] 83).heap[w.heap.size+1]?=K (.cells #[A C na nb,I J D] 83 (0,0)):=by
  have:=aa (w.alloc<|.cells #[A C R i,aA C sh,A C t fb,A C x P] 124)<|.cells #[A C na nb,I J D] 83;simpa using this
 have hb0:Below w.heap.size w ((w.alloc<|.cells #[A C R i,aA C sh,A C t fb,A C x P] 124).alloc<|.cells #[A C na nb,I J D] 83):=((Below.refl _ _).alloc (aX _) _).alloc E _;have hsz:w.heap.size+2=((w.alloc<|.cells #[A C R i,aA C sh,A C t fb,A C x P] 124).alloc<|.cells #[A C na nb,I J D] 83).heap.size:=E;go_enter func62,ntmps62;go_wp2_with fail;generalize(w.alloc<|.cells #[A C R i,aA C sh,A C t fb,A C x P] 124).alloc (.cells #[A C na nb,I J D] 83)=W at*;generalize hB:w.heap.size=B at*;have d:B<W.heap.size:=U;have s:B+1<W.heap.size:=U;obtain⟨z0,z1,z2,z3⟩:=ajG hE;have z4:=bz hP;have z5:=bw hP;cases B1
 .refine aN (S:=(λw'=>w'.cell? ⟨B,0,Z⟩=K (A C R i)/\w'.cell? ⟨B,1,Z⟩=K (aA C sh)/\w'.cell? ⟨B,2,Z⟩=K (A C t fb)/\w'.cell? ⟨B,3,Z⟩=K (A C x P)/\w'.cell? ⟨B+1,0,Z⟩=K (A C na nb)/\w'.cell? ⟨B+1,1,Z⟩=K (I J D))) z ⟨z0,z1,z2,z3,z4,z5⟩ (λhHeld=>?_)
  iterate 3
   (
    refine gY (oi:=⟨_,_,_,_,_,_⟩) (v:=?_) rfl rfl (by rfl) hHeld ?_ ?_;rotate_left
    .intro w' q;obtain⟨s0,s1,s2,s3,s4,s5⟩:=q;go_simp
     try with_reducible rfl
    simp only[Act.put,dh,di,cQ])
  refine aI (rs:=[3]) z E ?_;refine aK rfl (λa hK=>?_) AllReadyH.nil;go_simp;refine(HL.out _).mono ?_;rintro e w5 ⟨rfl,c⟩;obtain⟨l0,l1,l2,l3⟩:=ajE c d z0 z1 z2 z3;have l4:=aR c z4 s;have l5:=aR c z5 s;go_wp2_with fail;refine hK.out _ _ ⟨l0,l1,l2,l3,l4,l5⟩<|λhHeld=>?_;clear hK a
  try simp only[Act.put,dh,di,cQ]
  iterate 2
   (
    refine gY (oi:=⟨_,_,_,_,_,_⟩) (v:=?_) rfl rfl (by rfl) hHeld ?_ ?_;rotate_left
    .intro w' q;obtain⟨s0,s1,s2,s3,s4,s5⟩:=q;go_simp
     try with_reducible rfl
    simp only[Act.put,dh,di,cQ])
  iterate 11
   (
    refine pL (oi:=⟨_,_,_,_,_,_⟩) rfl rfl hHeld ?_;simp only[Act.put,dh,di,cQ])
  iterate 2
   (
    refine gY (oi:=⟨_,_,_,_,_,_⟩) (v:=?_) rfl rfl (by rfl) hHeld ?_ ?_;rotate_left
    .intro w' q;obtain⟨s0,s1,s2,s3,s4,s5⟩:=q;go_simp
     try with_reducible rfl
    simp only[Act.put,dh,di,cQ])
  refine aO z ?_ _;go_wp2_with fail;go_ret;exact⟨rfl,by rw[hB];exact hb0.drew.trans<|c.mono<|du d⟩
 .go_region_held3 (λw'=>apQ w' B (A C R i) (aA C sh) (A C t fb) (A C x P)/\apR w' (B+1) (A C na nb) (I J D)) (go_keep) (first
   |(go_at_call 97;refine(HL.out _).mono ?_;rintro e w5 ⟨rfl,c⟩;have l:B<w5.heap.size:=bg d c.size;have y:B+1<w5.heap.size:=bg s c.size;obtain⟨l0,l1,l2,l3⟩:=ajE c d z0 z1 z2 z3;have l4:=aR c z4 s;have l5:=(aR c z5 s))
   |(go_at_call_of 99 (A C t fb);refine(HU.out _).mono ?_;rintro e w6 ⟨rfl,f⟩;have n:B<w6.heap.size:=bg l f.size;have F:B+1<w6.heap.size:=bg y f.size;obtain⟨u0,u1,u2,u3⟩:=ajE f l l0 l1 l2 l3;have u4:=aR f l4 y;have u5:=(aR f l5 y))
   |(go_at_call_of 99 (A C x P);refine(HV.out _).mono ?_;rintro e w7 ⟨rfl,g⟩;have hva:B<w7.heap.size:=bg n g.size;have hvb:B+1<w7.heap.size:=bg F g.size;obtain⟨v0,v1,v2,v3⟩:=ajE g n u0 u1 u2 u3;have v4:=aR g u4 F;have v5:=(aR g u5 F))
   |(go_at_call 98;refine(HT.out _).mono ?_;rintro e w8 ⟨rfl,hw8⟩;subst hw8))
  go_wp2_with fail;go_ret;refine⟨nD E,?_⟩;rw[hB];exact((hb0.drew.trans<|c.mono<|du d).trans<|f.mono<|du l).trans<|g.mono<|du n
theorem YJ(k l a b x o P y:Nat)(c d:Int)(w:G)
  (R:H (∀w,M 152 #[u #[A C a b,I J d],A C k l] w λe w'=>e=aJ (A C x o)/\Below w.heap.size w w'/\w.drawn<=w'.drawn))
  (S:H (∀w,M 152 #[u #[A C k l,I J c],A C a b] w λe w'=>e=aJ (A C P y)/\Below w.heap.size w w'/\w.drawn<=w'.drawn)):
  M 100 #[u #[A C k l,I J c],u #[A C a b,I J d]] w λe w'=>e=aJ (aC<|C.format.order x P == K .lt)/\Below w.heap.size w w':=by
 have t:((w.alloc<|.cells #[A C k l,I J c] 83).alloc<|.cells #[A C a b,I J d] 83).heap[w.heap.size]?=K (.cells #[A C k l,I J c] 83 (0,0)):=by
  rw[ad _ _ _ E];exact aa _ _
 have v:((w.alloc<|.cells #[A C k l,I J c] 83).alloc<|.cells #[A C a b,I J d] 83).heap[w.heap.size+1]?=K (.cells #[A C a b,I J d] 83 (0,0)):=by
  have:=aa (w.alloc<|.cells #[A C k l,I J c] 83)<|.cells #[A C a b,I J d] 83;simpa using this
 have q:Below w.heap.size w ((w.alloc<|.cells #[A C k l,I J c] 83).alloc<|.cells #[A C a b,I J d] 83):=((Below.refl _ _).alloc (aX _) _).alloc E _;have j:w.heap.size+2=((w.alloc<|.cells #[A C k l,I J c] 83).alloc<|.cells #[A C a b,I J d] 83).heap.size:=E;go_enter func100,ntmps100;go_wp2_with fail;generalize(w.alloc<|.cells #[A C k l,I J c] 83).alloc (.cells #[A C a b,I J d] 83)=W at*;generalize i:w.heap.size=B at*;have m:B<W.heap.size:=U;have p:B+1<W.heap.size:=U;have N:=bz t;have O:=bw t;have T:=bz v;have z3:=bw v;go_region_held3 (λw'=>apR w' B (A C k l) (I J c)/\apR w' (B+1) (A C a b) (I J d)) (go_keep) (first
   |(go_at_call_of 152 (A C k l);refine(R.o _).mono ?_;rintro e Q ⟨rfl,f,_⟩;have n:B<Q.heap.size:=bg m f.size;have s:B+1<Q.heap.size:=bg p f.size;have z:=aR f N m;have F:=aR f O m;have L:=aR f T p;have u3:=(aR f z3 p))
   |(go_at_call_of 152 (A C a b);refine(S.o _).mono ?_;rintro e w7 ⟨rfl,g,_⟩;have v0:=aR g z n;have V:=aR g F n;have X:=aR g L s;have v3:=(aR g u3 s)))
 all_goals
  have r:=(q.drew.trans<|f.mono<|du m).trans<|g.mono<|du n;clear f g q;go_wp2_with fail;go_ret;exact⟨rfl,by rw[i];exact r⟩
theorem BO{X Y D:Int}{y E:Int}(p:Fl na X)(q:Fl nb Y)(r:Fl a x)(s:Fl b y)(f:sm x)(g:sm y)(h:sm D)(k:sm E)(l:sm X)(m:sm Y)(w:G):
  M 100 #[u #[A C na nb,I J D],u #[A C a b,I J E]] w (ai (aC<|decide (X*E<x*D)) w):=by
 obtain⟨v,B,n,R,c⟩:=xR a b E p q l m k;obtain⟨P,Q,t,S,d⟩:=xR na nb D r s f g h;rw[<-vf n t];exact YJ na nb a b v B P Q D E w c d
theorem YK(xb:EB)(c:Ed){X a D:Int}(Q:jV xb c)(p:cM c)(V:Fl na X)(g2:Fl nb a)(F:eM X a D)(w:G):
  M 63 #[u xb.cells,u #[A C na nb,I J D]] w λe w'=>e=aJ (I J<|N.fr (X,a) D c.1 c.2)/\Below w.heap.size w w':=by
 have sX:sm X:=by have:=F.x;unfold sm;omega
 have sY:sm a:=by have:=F.y;unfold sm;omega
 have sD:sm D:=by have:=F.d;unfold sm;omega
 have s1:sm (c.2.1-c.1.1):=by have:=p.a;have:=p.c;unfold small at*;unfold sm;omega
 have s2:sm (c.2.2-c.1.2):=by have:=p.b;have:=p.d;unfold small at*;unfold sm;omega
 obtain⟨r,fr,hL⟩:=Gj Q.wa Q.wb Q.sh V g2 s1 s2 (BK p) sD sX sY;have HL:=hid hL;have y:sm 1:=by unfold sm;decide
 have HU:=hid<|λw=>BO V g2 Q.fa Q.fb (rk p.a) (rk p.b) sD y sX sY w;have HV:=hid<|λw=>BO V g2 Q.ta Q.tb (rk p.c) (rk p.d) sD y sX sY w;have q1:=BI fr jU;have q2:=vf fr jU;have S:=YI X a D c F.d.1;unfold lf at S;rw[S];generalize(c.2.1-c.1.1)*a-(c.2.2-c.1.2)*X-((c.2.1-c.1.1)*c.1.2-(c.2.2-c.1.2)*c.1.1)*D=L at*;generalize hFA:decide (X*1<c.1.1*D)=O at*;generalize hTA:decide (X*1<c.2.1*D)=T at*;have o:(if ¬X*1<c.1.1*D/\X*1<c.2.1*D/\0<L then(1:Int) else if X*1<c.1.1*D/\¬X*1<c.2.1*D/\L<0 then -1 else 0)=(if O=aQ/\T=aP/\0<L then 1 else if O=aP/\T=aQ/\L<0 then -1 else 0):=by
  rw[<-hFA,<-hTA];simp
 rw[o];obtain⟨t,v,sh,m,fb,q,s⟩:=xb;simp only[EB.cells] at*;have z:((w.alloc<|.cells #[A C t v,aA C sh,A C m fb,A C q s] 124).alloc<|.cells #[A C na nb,I J D] 83).heap[w.heap.size]?=K (.cells #[A C t v,aA C sh,A C m fb,A C q s] 124 (0,0)):=by
  rw[ad _ _ _ E];exact aa _ _
 have hP:((w.alloc<|.cells #[A C t v,aA C sh,A C m fb,A C q s] 124).alloc<|.cells #[A C na nb,I J D] 83).heap[w.heap.size+1]?=K (.cells #[A C na nb,I J D] 83 (0,0)):=by
  have:=aa (w.alloc<|.cells #[A C t v,aA C sh,A C m fb,A C q s] 124)<|.cells #[A C na nb,I J D] 83;simpa using this
 have hb0:Below w.heap.size w ((w.alloc<|.cells #[A C t v,aA C sh,A C m fb,A C q s] 124).alloc<|.cells #[A C na nb,I J D] 83):=((Below.refl _ _).alloc (aX _) _).alloc E _;have hsz:w.heap.size+2=((w.alloc<|.cells #[A C t v,aA C sh,A C m fb,A C q s] 124).alloc<|.cells #[A C na nb,I J D] 83).heap.size:=E;go_enter func63,ntmps63;go_wp2_with fail;generalize(w.alloc<|.cells #[A C t v,aA C sh,A C m fb,A C q s] 124).alloc (.cells #[A C na nb,I J D] 83)=W at*;generalize n:w.heap.size=B at*;have l:B<W.heap.size:=U;have R:B+1<W.heap.size:=U;obtain⟨z0,z1,z2,z3⟩:=ajG z;have z4:=bz hP;have z5:=bw hP;go_region_held3 (λw'=>apQ w' B (A C t v) (aA C sh) (A C m fb) (A C q s)/\apR w' (B+1) (A C na nb) (I J D)) (go_keep) (first
   |(go_at_call_of 100 (u #[A C m fb,I J 1]);refine(HU.out _).mono ?_;rintro e w6 ⟨rfl,f⟩;have k:B<w6.heap.size:=bg l f.size;have P:B+1<w6.heap.size:=bg R f.size;obtain⟨u0,u1,u2,u3⟩:=ajE f l z0 z1 z2 z3;have u4:=aR f z4 R;have u5:=(aR f z5 R))
   |(go_at_call_of 100 (u #[A C q s,I J 1]);refine(HV.out _).mono ?_;rintro e w7 ⟨rfl,g⟩;have j:B<w7.heap.size:=bg k g.size;have hvb:B+1<w7.heap.size:=bg P g.size;obtain⟨v0,v1,v2,v3⟩:=ajE g k u0 u1 u2 u3;have v4:=aR g u4 P;have v5:=(aR g u5 P)))
 have d:Below w.heap.size w w7:=by
  rw[n];exact(hb0.drew.trans<|f.mono<|du l).trans<|g.mono<|du k
 cases O<;>cases T
 .go_wp2_with fail;go_ret;exact⟨rfl,by rw[n] at d;exact d⟩
 .go_wp2_with fail;refine(HL.out _).mono ?_;rintro e w8 ⟨rfl,x⟩;have b:=d.trans<|x.mono (by rw[n];exact du j);by_cases i:0<L
  .have hq:(C.format.order r 0 == K Ordering.gt)=aP:=by rw[q1];simp[i]
   go_wp2_with fail;go_ret;exact⟨rfl,by rw[n] at b;exact b⟩
  .have hq:(C.format.order r 0 == K Ordering.gt)=aQ:=by rw[q1];simp[i]
   go_wp2_with fail;go_ret;exact⟨rfl,by rw[n] at b;exact b⟩
 .go_wp2_with fail;refine(HL.out _).mono ?_;rintro e w8 ⟨rfl,x⟩;have b:=d.trans<|x.mono (by rw[n];exact du j);by_cases i:L<0
  .have hq:(C.format.order r 0 == K Ordering.lt)=aP:=by rw[q2];simp[i]
   go_wp2_with fail;go_ret;exact⟨rfl,by rw[n] at b;exact b⟩
  .have hq:(C.format.order r 0 == K Ordering.lt)=aQ:=by rw[q2];simp[i]
   go_wp2_with fail;go_ret;exact⟨rfl,by rw[n] at b;exact b⟩
 .go_wp2_with fail;go_ret;exact⟨rfl,by rw[n] at d;exact d⟩
end
end Go.Proofs.YtkjhhooecopolaaGreatDoor

import Derived.Test.YtkjhhooecopolaaGreatDoorAz15
set_option maxRecDepth 100000
set_option maxHeartbeats 4000000
namespace Go.Proofs.YtkjhhooecopolaaGreatDoor
open Go.Proofs.Tryz
open Value renaming int->I,complex->A,float->aA,agg->u,slice->D
open IntKind renaming i64->J
open FloatKind renaming f64->C
open Ending renaming returned->aJ
open Go renaming World->G,floatOfInt->aM
open Option renaming some->K,none->Z
section
open Go.RowKit
theorem Cs(p q:Int)(b cap:Nat)(w:G)(e:w.cell? ⟨b,0,Z⟩=K (I J p))(f:w.cell? ⟨b,1,Z⟩=K (I J q)):
  M 182 #[D (K ⟨b,0,Z⟩) 2 cap] w λr w'=>r=aJ (I J (if p=0 then q else p))/\w'=w:=by go_enter func182,ntmps182;go_wp2_with fail;go_loopg [8] 2 (λn d wr=>wr=w/\((n=2/\d=I J 0)\/(n=1/\d=I J 1/\p=0)\/(n=0/\d=I J 2/\p=0/\q=0)));(case atStart=>exact⟨rfl,j ⟨rfl,rfl⟩⟩);case round=>obtain⟨rfl,⟨rfl,rfl⟩|⟨rfl,rfl,a⟩|⟨rfl,rfl,a,c⟩⟩:=hrel;(.by_cases a:p=0;(.subst a;go_wp2_with fail;go_roundg 1;(case measure=>omega);case rel=>exact⟨rfl,F<|j ⟨rfl,rfl,trivial⟩⟩);go_wp2_with fail;go_ret;exact⟨E,rfl⟩);(.subst a;by_cases c:q=0;(.subst c;go_wp2_with fail;go_roundg 0;(case measure=>omega);case rel=>exact⟨rfl,F<|F ⟨rfl,rfl,E⟩⟩);go_wp2_with fail;go_ret;exact⟨E,rfl⟩);subst a;subst c;go_wp2_with fail;go_ret;exact⟨E,rfl⟩
theorem NR{n:N.Nd}(h:eM n.1 n.2.1 n.2.2):sm n.1/\sm n.2.1/\sm n.2.2:=by have:=h.x;have:=h.y;have:=h.d;unfold sm;omega
theorem aaZ(g k d f V T j i:Nat)(P Q p q R:Int)(w:G)
  (HO:H (∀b cap w,w.cell? ⟨b,0,Z⟩=K (I J p)->w.cell? ⟨b,1,Z⟩=K (I J q)->M 182 #[D (K ⟨b,0,Z⟩) 2 cap] w λr w'=>r=aJ (I J R)/\w'=w))
  (HM:H (∀w,M 152 #[u #[A C d f,I J Q],A C g k] w λe w'=>e=aJ (A C V T)/\Below w.heap.size w w'/\w.drawn<=w'.drawn))
  (HT:H (∀w,M 152 #[u #[A C g k,I J P],A C d f] w λe w'=>e=aJ (A C j i)/\Below w.heap.size w w'/\w.drawn<=w'.drawn))
  (o:H (∀w,M 183 #[aA C V,aA C j] w λr w'=>r=aJ (I J p)/\w'=w))
  (y:H (∀w,M 183 #[aA C T,aA C i] w λr w'=>r=aJ (I J q)/\w'=w)):
  M 125 #[u #[A C g k,I J P],u #[A C d f,I J Q]] w λr w'=>r=aJ (I J R)/\Below w.heap.size w w'/\w.drawn<=w'.drawn:=by go_enter func125,ntmps125;go_wp2_with fail;have F:((w.alloc<|.cells #[A C g k,I J P] 83).alloc<|.cells #[A C d f,I J Q] 83).heap[w.heap.size]?=K (.cells #[A C g k,I J P] 83 (0,0)):=(by rw[ad _ _ _ E];exact aa _ _);have L:((w.alloc<|.cells #[A C g k,I J P] 83).alloc<|.cells #[A C d f,I J Q] 83).heap[w.heap.size+1]?=K (.cells #[A C d f,I J Q] 83 (0,0)):=(by have:=aa (w.alloc<|.cells #[A C g k,I J P] 83)<|.cells #[A C d f,I J Q] 83;simpa using this);have s:Below w.heap.size w ((w.alloc<|.cells #[A C g k,I J P] 83).alloc<|.cells #[A C d f,I J Q] 83):=((Below.refl _ _).alloc (aX _) _).alloc E _;have l:w.heap.size+1<((w.alloc<|.cells #[A C g k,I J P] 83).alloc<|.cells #[A C d f,I J Q] 83).heap.size:=E;have v:w.drawn<=((w.alloc<|.cells #[A C g k,I J P] 83).alloc<|.cells #[A C d f,I J Q] 83).drawn:=aX _;generalize(w.alloc<|.cells #[A C g k,I J P] 83).alloc (.cells #[A C d f,I J Q] 83)=W at*;generalize hB:w.heap.size=B at*;have a0:=bz F;have a1:=bw F;have a2:=bz L;have a3:=bw L;clear F L;go_region_held3 (λw'=>atb w' B (A C g k) (I J P)/\atb w' (B+1) (A C d f) (I J Q)) (go_keep) (first|(go_at_call_of 152 (A C g k);refine(HM.o _).mono ?_;rintro e w6 ⟨rfl,a,x⟩;have m:B+1<w6.heap.size:=bg l a.size;have b0:=aR a a0<|eb l;have b1:=aR a a1<|eb l;have b2:=aR a a2 l;have b3:=(aR a a3 l))|(go_at_call_of 152 (A C d f);refine(HT.o _).mono ?_;rintro e X ⟨rfl,c,S⟩;have hcz:B+1<X.heap.size:=bg m c.size;have c0:=aR c b0 (eb m);have c1:=aR c b1 (eb m);have c2:=aR c b2 m;have c3:=(aR c b3 m)));have t:=(s.drew.trans<|a.mono<|du<|eb l).trans<|c.mono<|du<|eb m;have HD:H (w.drawn<=X.drawn):=(by have h1:W.drawn<=W.drew.drawn:=lX _;exact el v<|el h1<|el x S);clear a c s x S v;go_wp2_with fail;refine(o.o _).mono ?_;rintro e w8 ⟨rfl,rfl⟩;go_wp2_with fail;refine(y.o _).mono ?_;rintro e N ⟨rfl,rfl⟩;go_wp2_with fail;have O:=aa N<|.cells #[I J p,I J q] 3;have n:=t.alloc U<|.cells #[I J p,I J q] 3;have z:H (w.drawn<=(N.alloc<|.cells #[I J p,I J q] 3).drawn):=HD;generalize N.alloc (.cells #[I J p,I J q] 3)=WO at*;refine(HO.o _ _ _ (apL O 0)<|apL O 1).mono ?_;rintro e w10 ⟨rfl,rfl⟩;go_wp2_with fail;go_ret;exact⟨rfl,by rw[hB];exact n,z.o⟩
theorem yy(n m:N.Nd)(e:eM n.1 n.2.1 n.2.2)(d:eM m.1 m.2.1 m.2.2)(p:N.Can n)(l:N.Can m)(w:G):
  M 125 #[iQ n,iQ m] w λr w'=>r=aJ (I J<|N.pc (N.T n)<|N.T m)/\ag w w'/\w.drawn<=w'.drawn:=by obtain⟨f,g⟩:=nU e;obtain⟨h,k⟩:=nU d;obtain⟨i,j,o⟩:=NR e;obtain⟨u,y,t3⟩:=NR d;obtain⟨S,R,q,s,P⟩:=xR (aM C m.1) (aM C m.2.1) m.2.2 f g i j t3;obtain⟨c,a,t,v,Q⟩:=xR (aM C n.1) (aM C n.2.1) n.2.2 h k u y o;rw[N.Cn p l];exact aaZ _ _ _ _ S R c a n.2.2 m.2.2 _ _ _ w (λb cap w x B=>Cs _ _ b cap w x B) P Q (λw=>tF q t w)<|λw=>tF s v w
end
end Go.Proofs.YtkjhhooecopolaaGreatDoor

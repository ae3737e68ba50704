import Derived.Test.YtkjhhooecopolaaGreatDoorAz42
import Derived.Test.YtkjhhooecopolaaGreatDoorCards
import Derived.Test.YtkjhhooecopolaaGreatDoorTie
set_option maxRecDepth 100000
set_option maxHeartbeats 4000000
namespace Go.Proofs.YtkjhhooecopolaaGreatDoor
open Go.Proofs.Tryz
open Value renaming int->I,complex->A,agg->u,bool->aC,string->aD,slice->D
open IntKind renaming i64->J
open FloatKind renaming f64->C
open Go renaming World->G,Value->Y
open Option renaming some->K,none->Z
open Bool renaming true->aP,false->aQ
section
open Go.RowKit
theorem aiQ(x y d r:Int)(s:ByteArray)(w:G)(t:s.size<=maxLen)(g:Gl w):
  M 27 #[u #[I J 4,I J x,I J y,I J d,I .u8 r,aD s]] w (ai (aC aP) w):=by obtain⟨_,_,_,⟨⟨T,a,P,_,l⟩,_⟩,_⟩:=Ts s r w t g [];have B:H (∀w1,Gl w1->M 18 #[aD s,I .u8 r] w1 (ai (u #[aD (ba T),I J (a:Nat),I J (P:Nat)]) w1)):=λw1 k=>(agB s r w1 t k).mono λe w' h=>(by obtain⟨⟨o,S,i,R,m⟩,Q⟩:=h;obtain⟨rfl,rfl,rfl⟩:=m.eq l rfl λ_=>rfl;exact⟨R,Q⟩);have v:=hid<|λw1 k=>aiP s r w1 t k l;clear l;generalize ba T=j at*;go_enter func27,ntmps27;go_wp2_with fail;refine(v.o _<|g.alloc _).mono ?_;rintro e w1 ⟨rfl,b⟩;have n:Gl w1:=(g.alloc _).below b (g.alloc _).sz;have:=(b.cell (p:=⟨w.heap.size,5,Z⟩) E).trans<|apL (aa _ _) 5;have:=(b.cell (p:=⟨w.heap.size,4,Z⟩) E).trans<|apL (aa _ _) 4;go_wp2_with fail;refine(B.o _ n).mono ?_;rintro e z ⟨rfl,q⟩;go_wp2_with fail;go_ret;have c:ag w (w.alloc<|.cells #[I J 4,I J x,I J y,I J d,I .u8 r,aD s] 26):=aj _ _;have f:=(c.trans<|b.mono c.size).trans<|q.mono (c.trans<|b.mono c.size).size;exact⟨rfl,f.alloc f.size _⟩
end
section
open Go.RowKit Go.Deep
theorem aiS(P:Option Addr)(n cap:Nat)(w:G)(L:Gl w)(C:Eb w P n)(_:n<=maxLen):
  M 13 #[D P n cap,I J 4,I J 4] w (ai (I J<|-1) w):=by have v:H (Eb w P n):=C;clear C;go_enter func13,ntmps13;go_wp2_with fail;go_loopg [7] n (λg V wr=>∃k:Nat,k+g=n/\V=I J k/\H (ag w wr/\Gl wr));(case atStart=>exact⟨0,U,rfl,Below.refl _ _,L⟩);case round=>obtain⟨k,N,rfl,Q⟩:=hrel;obtain⟨c,f⟩:=Q.o;by_cases l:k<n/\k<1152921504606846976;(.obtain⟨l,O⟩:=l;obtain⟨b,o,a,x,y,d,r,s,rfl,m,T,R,S,i,j,u,z⟩:=v.o k l;have q:(k:Int)<(n:Int):=U;have B:(k:Int)<1152921504606846976:=U;have:wr.cell? ⟨b,o+k*6,Z⟩=K (I J a):=aR c R m;have:wr.cell? ⟨b,o+k*6+1,Z⟩=K (I J x):=aR c S m;have:wr.cell? ⟨b,o+k*6+2,Z⟩=K (I J y):=aR c i m;have:wr.cell? ⟨b,o+k*6+3,Z⟩=K (I J d):=aR c j m;have:wr.cell? ⟨b,o+k*6+4,Z⟩=K (I .u8 r):=aR c u m;have:wr.cell? ⟨b,o+k*6+5,Z⟩=K (aD s):=aR c z m;have:b<wr.heap.size:=(by have:=c.size;omega);have:H (ag w wr):=c;have t:H (∀F,ag w<|wr.alloc F):=λF=>c.alloc c.size _;clear R S i j u z c Q v;by_cases A:a=4;(.subst A;go_wp2_with fail;refine(aiQ x y d r s _ T<|f.alloc _).mono ?_;rintro e Y ⟨rfl,p⟩;go_wp2_with fail;go_roundg (gk-1);(case measure=>omega);case rel=>exact⟨k+1,U,af,(t.o _).trans<|p.mono (t.o _).size,(f.alloc _).below p (f.alloc _).sz⟩);.rcases VS A with h|h;(.have W:decide (4<=a)=aQ:=aq;go_wp2_with fail;go_roundg (gk-1);(case measure=>omega);case rel=>exact⟨k+1,U,af,t.o _,f.alloc _⟩);.have W:decide (4<=a)=aP:=aq;have:decide (a<=4)=aQ:=aq;go_wp2_with fail;go_roundg (gk-1);(case measure=>omega);case rel=>exact⟨k+1,U,af,t.o _,f.alloc _⟩);clear v;by_cases X:k<n;have:1152921504606846976<=k:=U;have q:(k:Int)<(n:Int):=U;have B:decide ((k:Int)<1152921504606846976)=aQ:=aq;clear l;go_wp2_with fail;go_ret;exact⟨rfl,c⟩;have q:decide ((k:Int)<(n:Int))=aQ:=aq;clear l;go_wp2_with fail;go_ret;exact⟨rfl,c⟩
theorem aiT(a:Option Addr)(n cap:Nat)(w:G)(f:Gl w)(b:Eb w a n)(c:n<=maxLen):
  M 8 #[D a n cap] w (ai (aC aP) w):=by have d:H (M 13 #[D a n cap,I J 4,I J 4] w (ai (I J<|-1) w)):=aiS a n cap w f b c;clear b c;go_enter func8,ntmps8;go_wp2_with fail;refine d.o.mono ?_;rintro e w1 ⟨rfl,g⟩;go_wp2_with fail;go_ret;exact⟨rfl,g⟩
end
section
open Go.ChangeShapes Go.WideShapes Go.ChangeAt Go.RowKit Go.Deep
theorem ajf(os:Os)(started:os.Started)(H:Type)(enc:TypeId×Y->H):
  ReturnsInHanded {} Tryz.checked os 8 .any (λw a=>(Rows.fixesSpec.pre enc prog Tryz.f8 [] aQ w a/\laidMetH prog Rows.fixesRow.laid w)/\sizedMet enc prog Tryz.f8 (OpenSpec.ofChange Rows.fixesSpec) aQ w a)
   (Rows.fixesSpec.post enc prog Tryz.f8 aQ aP aQ aQ):=by
 refine aq2 (C:=Tryz.checked) (X:=λw _=>laidMetH prog Rows.fixesRow.laid w) (λ_ _ _ i h=>h.of_heap i) own started z func8
  (aq3 (enc:=enc) (C:=Tryz.checked) (os:=os) (X:=λw _=>laidMetH prog Rows.fixesRow.laid w) aQ (World.doorLaid prog 400 os) #[D Z 0 0] 8 rfl (World.shaped_of_RefB z z) z z z (ai6 os _)) ?_
 intro W base a s J before b m _ _ B _;have c:∀(j:Nat) t v,Tryz.f8.params[j]?=K t->a[j]?=K v->Value.okWide prog W .any base t v:=b;have d:=m;obtain⟨p,q,f,Q,rfl,S,u⟩:=m;have l:DataW.TrodAll enc prog W 0 (λ_=>aP) aP Tryz.f8.params.toList a.toList s p:=f;rw[Tryz.params8] at l c;obtain⟨v0,I,rfl,rfl,k⟩:=trodAll_one l;obtain⟨rfl,rfl⟩:=trodVars_none Q;obtain⟨A,n,cap,rfl⟩:=okWide_slice underlying22<|c 0 22 v0 rfl rfl;clear f b;simp only[lY] at d;have g:∀x∈p,x.block<W.heap.size:=λx y=>by simpa using d.lt x y
 obtain⟨o,P⟩:=aiR k;refine(aiT A n cap W (ai5 B) P o).mono λe F⟨R,r⟩=>?_;subst R;refine⟨_,rfl,_,_,_,[],p,[],d,trodAll_mk1<|shut_bool underlying4 _,trodAll_mk1<|Below.trod laidOut z (ft z) k r g,rfl,r.frame _,λh=>by cases h⟩
theorem ajg:Rows.FixesSaid:=
 aq4 8 Tryz.f8 rfl rfl rfl rfl rfl rfl rfl ⟨rfl,rfl,rfl,rfl,rfl⟩ rfl rfl rfl rfl rfl z func8 aje
  (ft z) (by unfold Func.isWrapper;first |(rw[y<|by decide+kernel];kernel_rfl)|(rw[X<|by decide+kernel];exact⟨rfl,rfl⟩))
  (λos started H enc _=>ajf os started H enc)
end
section
theorem fixes_card:Rows.FixesCardSaid:=
 aq5 .later [] [.data,.data,.data,.sentinel,.sentinel] aP Rows.fixesCard.stood.harness aP
  ajg (λ_ h=>by cases h) z (λ_ h=>by cases h) fixes_row_tie rfl ⟨rfl,rfl⟩ z rfl
  (λf c e a=>by
   obtain rfl:f=8:=fV ((show Tryz.prog.funcNamed "mend/mendlaw.Fixes" =some 8 by kernel_rfl).symm.trans e) |>.symm
   obtain rfl:c=Tryz.f8:=(fV<|func8.symm.trans a).symm;exact⟨aiX,λj t b=>by
    rw[Tryz.params8] at b;have d:t=22:=by
     rcases j with _|j
     .simpa using b.symm
     .simp at b
    subst d;exact(show Tryz.prog.wantsStandIn 22=aQ by kernel_rfl)⟩)
  ajd
end
section
open Go.RowKit Go.Deep
theorem aqP(A:Option Addr)(n cap:Nat)(w:G)(W:Gl w)(X:Eb w A n)(_:n<=maxLen):
  M 13 #[D A n cap,I J 1,I J 4] w (ai (I J<|-1) w):=by have i:=hid X;have P:H (∀(K x y d r:Int)(s:ByteArray)(w1:G),1<=K->K<=4->s.size<=maxLen->Gl w1->M 27 #[u #[I J K,I J x,I J y,I J d,I .u8 r,aD s]] w1 (ai (aC aP) w1)):=λK x y d r s w1 p Q m B=>(by rcases(show K=1\/K=2\/K=3\/K=4 by omega) with rfl|rfl|rfl|rfl;exact anT x y d (I .u8 r) s w1 m B;exact aqO x y d (I .u8 r) s w1 m B;exact ap9 x y d (I .u8 r) s w1 m B;exact aiQ x y d r s w1 m B);go_enter func13,ntmps13;go_wp2_with fail;go_loopg [7] n (λg iv wr=>∃k:Nat,k+g=n/\iv=I J k/\H (ag w wr/\Gl wr));(case atStart=>exact⟨0,U,rfl,Below.refl _ _,W⟩);case round=>obtain⟨k,Y,rfl,C⟩:=hrel;obtain⟨a,c⟩:=C.o;by_cases f:k<n/\k<1152921504606846976;(.obtain⟨f,Z⟩:=f;obtain⟨b,o,K,x,y,d,r,s,rfl,l,m,F,L,N,O,T,V⟩:=i.o k f;have t:(k:Int)<(n:Int):=U;have R:(k:Int)<1152921504606846976:=U;have:=aR a F l;have:=aR a L l;have:=aR a N l;have:=aR a O l;have:=aR a T l;have:=aR a V l;have:b<wr.heap.size:=(by have:=a.size;omega);have v:H (∀j,ag w<|wr.alloc j):=λj=>a.alloc a.size _;by_cases p:1<=K;(.by_cases Q:K<=4;(.have z:decide (1<=K)=aP:=(by simpa using p);have q2:decide (K<=4)=aP:=(by simpa using Q);have S:H (1<=K/\K<=4):=⟨p,Q⟩;go_wp2_with fail;refine(P.o K x y d r s _ S.o.1 S.o.2 m<|c.alloc _).mono ?_;rintro e w5 ⟨rfl,q⟩;go_wp2_with fail;go_roundg (gk-1);(case measure=>omega);case rel=>exact⟨k+1,U,af,(v.o _).trans<|q.mono (v.o _).size,(c.alloc _).below q (c.alloc _).sz⟩);.have z:decide (1<=K)=aP:=(by simpa using p);have q2:decide (K<=4)=aQ:=aq;go_wp2_with fail;go_roundg (gk-1);(case measure=>omega);case rel=>exact⟨k+1,U,af,v.o _,c.alloc _⟩);.have z:decide (1<=K)=aQ:=aq;go_wp2_with fail;go_roundg (gk-1);(case measure=>omega);case rel=>exact⟨k+1,U,af,v.o _,c.alloc _⟩);clear i;by_cases p:k<n;have:1152921504606846976<=k:=U;have t:(k:Int)<(n:Int):=U;have R:decide ((k:Int)<1152921504606846976)=aQ:=aq;go_wp2_with fail;go_ret;exact⟨rfl,a⟩;have t:decide ((k:Int)<(n:Int))=aQ:=aq;go_wp2_with fail;go_ret;exact⟨rfl,a⟩
theorem aqQ(a:Option Addr)(n cap:Nat)(w:G)(c:Gl w)(d:Eb w a n)(g:n<=maxLen):
  M 12 #[D a n cap] w (ai (aC aP) w):=by have b:=hid<|aqP a n cap w c d g;go_enter func12,ntmps12;go_wp2_with fail;refine b.o.mono ?_;rintro e w1 ⟨rfl,f⟩;go_wp2_with fail;go_ret;exact⟨rfl,f⟩
end
section
open Go.ChangeShapes Go.WideShapes Go.ChangeAt Go.RowKit Go.Deep
theorem aqZ(os:Os)(started:os.Started)(H:Type)(enc:TypeId×Y->H):
  ReturnsInHanded {} Tryz.checked os 12 .any (λw a=>(Rows.allSpec.pre enc prog Tryz.f12 [] aQ w a/\laidMetH prog Rows.allRow.laid w)/\sizedMet enc prog Tryz.f12 (OpenSpec.ofChange Rows.allSpec) aQ w a)
   (Rows.allSpec.post enc prog Tryz.f12 aQ aP aQ aQ):=by
 refine aq2 (C:=Tryz.checked) (X:=λw _=>laidMetH prog Rows.allRow.laid w) (λ_ _ _ Q h=>h.of_heap Q) own started z func12
  (aq3 (enc:=enc) (C:=Tryz.checked) (os:=os) (X:=λw _=>laidMetH prog Rows.allRow.laid w) aQ (World.doorLaid prog 400 os) #[D Z 0 0] 8 rfl (World.shaped_of_RefB z z) z z z (ai6 os _)) ?_
 intro W base a y A before b m _ _ s _;have c:=b;have d:=m;obtain⟨p,q,f,v,rfl,P,S⟩:=m;have l:=f;rw[Tryz.params12] at l c;obtain⟨v0,u,rfl,rfl,k⟩:=trodAll_one l;obtain⟨rfl,rfl⟩:=trodVars_none v;obtain⟨j,n,cap,rfl⟩:=okWide_slice underlying22<|c 0 22 v0 rfl rfl;clear f b;simp only[lY] at d;have g:∀x∈p,x.block<W.heap.size:=λx i=>by simpa using d.lt x i
 obtain⟨R,t⟩:=aiR k;refine(aqQ j n cap W (ai5 s) t R).mono λe o⟨B,r⟩=>?_;subst B;refine⟨_,rfl,_,_,_,[],p,[],d,trodAll_mk1<|shut_bool underlying4 _,trodAll_mk1<|Below.trod laidOut z (ft z) k r g,rfl,r.frame _,λh=>by cases h⟩
theorem aq0:Rows.AllSaid:=
 aq4 12 Tryz.f12 rfl rfl rfl rfl rfl rfl rfl ⟨rfl,rfl,rfl,rfl,rfl⟩ rfl rfl rfl rfl rfl z func12 aqY
  (ft z) (by unfold Func.isWrapper;first |(rw[y<|by decide+kernel];kernel_rfl)|(rw[X<|by decide+kernel];exact⟨rfl,rfl⟩))
  (λos started H enc _=>aqZ os started H enc)
end
section
theorem all_card:Rows.AllCardSaid:=
 aq5 .later [] [.data,.data,.data,.sentinel,.sentinel] aP Rows.allCard.stood.harness aP
  aq0 (λ_ h=>by cases h) z (λ_ h=>by cases h) all_row_tie rfl ⟨rfl,rfl⟩ z rfl
  (λf c e a=>by
   obtain rfl:f=12:=fV ((show Tryz.prog.funcNamed "mend/mendlaw.All" =some 12 by kernel_rfl).symm.trans e) |>.symm
   obtain rfl:c=Tryz.f12:=(fV<|func12.symm.trans a).symm;exact⟨aiX,λj t b=>by
    rw[Tryz.params12] at b;have d:t=22:=by
     rcases j with _|j
     .simpa using b.symm
     .simp at b
    subst d;exact(show Tryz.prog.wantsStandIn 22=aQ by kernel_rfl)⟩)
  aqX
end
end Go.Proofs.YtkjhhooecopolaaGreatDoor

import Derived.Test.YtkjhhooecopolaaGreatDoorMz23
import Derived.Laws.OwnMore
import Derived.Shelf.LaySoft
import Derived.Shelf.Lay
import Derived.Shelf.SlGeneric
import Derived.Shelf.SlSortCmp.NoneTotal
import Derived.Ground.SlsfProg
import Derived.Test.YtkjhhooecopolaaGreatDoorProg
import Derived.Deep.LoopGhost
import Derived.Deep.RegionHeld3
import Derived.Deep.QuietTactic
set_option maxRecDepth 100000
set_option maxHeartbeats 4000000
namespace Go.Proofs.YtkjhhooecopolaaGreatDoor
open Go.RowKit
structure AP(es:List Ed)(l:List Ge.Nd)(L:List PB):Prop where
 mem:∀p∈L,∃e∈es,pE p.wa p.wb p.sh (Ge.gU (Ge.bY e))/\(p.f,p.t)∈Ge.nexts (Ge.held e l)
 all:∀e∈es,∀q∈Ge.nexts (Ge.held e l),∃p∈L,(p.f,p.t)=q
theorem AP.nil(l:List Ge.Nd):AP [] l []:=⟨fun p h=>by simp at h,fun e h=>by simp at h⟩
theorem AP.snoc{es:List Ed}{l:List Ge.Nd}{L:List PB}(h:AP es l L)(e:Ed){a b s:Nat}(hw:pE a b s (Ge.gU (Ge.bY e))):AP (es++[e]) l (L++eO a b s e l):=by
 refine⟨fun p hp=>?_,fun f hf q hq=>?_⟩
 ·rcases bW.1 hp with hp|hp
  ·obtain⟨f,hf,h1⟩:=h.mem p hp;exact⟨f,by simp[hf],h1⟩
  ·unfold eO at hp;obtain⟨q,hq,rfl⟩:=aX.1 hp;exact⟨e,by simp,hw,hq⟩
 ·rcases bW.1 hf with hf|hf
  ·obtain⟨p,hp,h1⟩:=h.all f hf q hq;exact⟨p,by simp[hp],h1⟩
  ·rw[bJ.1 hf] at hq;exact⟨⟨a,b,s,q.1,q.2⟩,BH _ (aX.2 ⟨q,hq,rfl⟩),rfl⟩
theorem ag4{P:Program}{w:World}(base:Nat)(t ty e:TypeId)(i:TypeInfo)(size:Nat)(ht:P.underlying t=some (.slice e))(hi:P.info? e=some i)
  (v:Value)(n:Nat)(xs:List Value)(hown:w.ownsRow base e size v n xs)(xo:Option Addr)(c:Nat):
  (Builtin.append_ #[t,t] ty #[v,.slice xo 0 c]).run P w=.ok v w:=by
 rcases hown.2 with⟨rfl,rfl⟩|⟨g,cap,cur,rfl,_,_,hnc,_⟩
 ·cases xo<;>simp[Builtin.append_,run_underlying ht,sizeOf,typeInfo,hi,Builtin.lenOf,Builtin.firstCells,loadCells,loadCellsFrom]
 ·cases xo<;>simp[Builtin.append_,run_underlying ht,sizeOf,typeInfo,hi,Builtin.lenOf,Builtin.firstCells,hnc,storeCells,loadCells,loadCellsFrom]
theorem Wl{P:Program}{w:World}{ops:Array Oper}{rest:List Oper}{o:Oper}{a:Act}{Q:Exit->Act->World->Prop}(hgd:o.guard=none)(s x:Operand)(t:TypeId)
  (ho:o.op=.call {callee:=.builtin .append,args:= #[s,x],argTypes:= #[t,t]})(base:Nat)(e:TypeId)(i:TypeInfo)(size:Nat)(ht:P.underlying t=some (.slice e))(hi:P.info? e=some i)
  (v:Value)(n:Nat)(xs:List Value)(hs:a.eval s=v)(hown:w.ownsRow base e size v n xs)(xo:Option Addr)(c:Nat)(hx:a.eval x=.slice xo 0 c)
  (h:wpList P ops Q rest (a.put o.dst v) w):wpList P ops Q (o::rest) a w:=
 wpList_plain hgd fun _ hK=>by
  have hr:=ag4 (P:=P) (w:=w) base t o.type e i size ht hi v n xs hown xo c;unfold Oper.wp execOp;simp only[ho,resolve,invoke,builtin,Sem.run_bind,Sem.run_pure,Result.andThen_ok,List.map_toArray,gK,QY,hs,hx,hr];exact hK _ _ h
theorem ag5{w w':World}{v:Value}{l:List Ge.Nd}(h:iq w v l)(hb:Below w.heap.size w w'):iq w' v l:=Hr h fun k _cur hc=>hb.block k (lt_of_heap hc)
theorem Wm(l:List PB):∀u∈cI l,u.oneCell'=true:=by
 intro u hu;obtain⟨x,_,h⟩:=tW.1 hu;simp[PB.cells] at h;rcases h with rfl|rfl|rfl|rfl|rfl|rfl<;>rfl
theorem PL.fresh{w:World}{v:Value}{L:List PB}{wr:World}(h:PL w v L wr)(hL:0<L.length):∃g cap,v=.slice (some ⟨g,0,none⟩) L.length cap/\w.heap.size<=g/\∀j u,(cI L)[j]?=some u->wr.cell? ((⟨g,0,none⟩:Addr).add j)=some u:=by
 rcases h.1.2 with⟨_,h0⟩|⟨g,cap,cur,hv,hg,hr⟩
 ·omega
 ·exact⟨g,cap,hv,hg,h.1.cells (by rw[hv];rfl)⟩
theorem ag6(a b:List PB):cI (a++b)=cI a++cI b:=by simp[cI]
theorem AR(l:List PB):(cI l).length=l.length*6:=by
 induction l with
 |nil=>rfl
 |cons x r ih=>
  have e:cI (x::r)=x.cells++cI r:=by simp[cI]
  rw[e,aS,ih,bO];show 6+_=_;omega
theorem ag7(es:List Ed)(v:Value)(w:World)(hR:gu w v es)(hl:es.length<=402)(hs:∀e∈es,fg e)
  (Q:List PB->Value->World->Prop)
  (HS:Hid (∀l,l.map Ge.aj=Ge.fX es->(∀n∈l,Ge.Can n)->∀lv L wr,PL w lv L wr->AP es l L->L.length<=85000000->Calls Tryz.prog 156 #[lv,.func (.func 157) #[] #[]] wr fun r w'=>r=.returned (.tuple #[])/\Calls Tryz.prog 158 #[lv,.func (.func 159) #[] #[]] w' fun r w''=>∃v' Ps,r=.returned v'/\Q Ps v' w'')):
  Calls Tryz.prog 104 #[v] w fun r w'=>∃v' Ps,r=.returned v'/\Q Ps v' w':=by
 obtain⟨so,cap,rfl⟩:=CU hR;obtain⟨i0,hi,hz0,hz1,hz2⟩:=info_parts VZ;have HR:Hid (gu w (.slice so es.length cap) es):=hR;have HN:Hid (Calls Tryz.prog 72 #[.slice so es.length cap] w fun e w'=>∃v' l,e=.returned v'/\iq w' v' l/\Below w.heap.size w w'/\l.map Ge.aj=Ge.fX es/\(∀n∈l,dm n.1 n.2.1 n.2.2)/\l.length<=200000/\(∀n∈l,Ge.Can n)):=agZ es _ w hR hl hs
 have HSE:Hid (∀e∈es,fg e):=hs;clear hR hs
 go_enter Tryz.func104,Tryz.ntmps104
 go_wp2_with fail
 refine HN.out.mono ?_;rintro r w1 ⟨nv,l,rfl,qV,hb1,mr,hin,hll,jF⟩;obtain⟨ns,nc,rfl⟩:=Iu qV;have Wn:Hid (iq w1 (.slice ns l.length nc) l):=qV;have HNI:Hid (∀n∈l,dm n.1 n.2.1 n.2.2):=hin;have Wo:Hid (l.map Ge.aj=Ge.fX es/\(∀n∈l,Ge.Can n)):=⟨mr,jF⟩;clear qV hin mr jF HN;have bh:Hid (∃L,PL w (.slice none 0 0) L w1/\(∀k,(Value.slice none 0 0).ownBlock=some k->w1.heap.size<=k)/\Below w1.heap.size w1 w1/\AP (es.take 0) l L/\L.length<=0):=⟨[],⟨World.ownsRow_nil _ _ _ _,hb1⟩,(fun k h=>by cases h),Below.refl _ _,by simpa using AP.nil l,by simp⟩
 go_wp2_with fail
 go_loopg [4,11] es.length (fun m lv iv wr=>∃k:Nat,k+m=es.length/\iv=.int .i64 k/\Hid (∃L,PL w lv L wr/\(∀k,lv.ownBlock=some k->w1.heap.size<=k)/\Below w1.heap.size w1 wr/\AP (es.take k) l L/\L.length<=k*200000))
 case atStart=>exact⟨0,by omega,rfl,by simpa using bh⟩
 case round=>
  obtain⟨k,hkn,rfl,HE⟩:=hrel;clear bh;by_cases hlt:k<es.length
  ·obtain⟨L,uV,eK,wJ,qW,jE⟩:=HE.out;have M8:Hid (∀k,u4.ownBlock=some k->w1.heap.size<=k):=eK;have hLk:L.length<=(k+1)*200000:=dS jE (zj _ (lO k));obtain⟨e,lY⟩:∃e,es[k]?=some e:=⟨_,ay hlt⟩;obtain⟨b,x,rfl,hb,hok,c0,c1,c2,c3⟩:=CV HR.out lY;have ag:=uV.2;have r0:=(ag.cell (p:=⟨b,k*4,none⟩) hb).trans c0;have r1:=(ag.cell (p:=⟨b,k*4+1,none⟩) hb).trans c1;have r2:=(ag.cell (p:=⟨b,k*4+2,none⟩) hb).trans c2;have r3:=(ag.cell (p:=⟨b,k*4+3,none⟩) hb).trans c3;have hbr:b<wr.heap.size:=aL hb ag.size;have eD:(k:Int)<(es.length:Int):=by omega
   have hmem:=aY lY;have jm:=HSE.out e hmem;obtain⟨ra,rb,rs,hfl,qc⟩:=af5 (l:=Ge.bY e) (a:=x.wa) (b:=x.wb) (s:=x.sh) ⟨hok.wa,hok.wb,hok.sh⟩;have II:Hid (AP (es.take (k+1)) l (L++eO ra rb rs e l)):=by
    have htk:es.take (k+1)=es.take k++[e]:=by rw[jx,lY];rfl
    rw[htk];exact qW.snoc e hfl
   have hcl:=V3 ra rb rs e l;have AJ:Hid (∀v' w',iq w' v' l->Calls Tryz.prog 155 #[.agg #[.complex .f64 x.wa x.wb,.float .f64 x.sh,.complex .f64 x.fa x.fb,.complex .f64 x.ta x.tb],v'] w' fun r w''=>∃v'',r=.returned v''/\PL w' v'' (eO ra rb rs e l) w''):=fun v' w' hv=>agC x e l v' w' hok jm hv HNI.out hll qc
   obtain⟨wa,wb,sh,fa,fb,ta,tb⟩:=x;simp only at r0 r1 r2 r3 AJ;have AW:Hid (PL w u4 L wr):=uV;have Wp:iq (wr.alloc (.cells #[.complex .f64 wa wb,.float .f64 sh,.complex .f64 fa fb,.complex .f64 ta tb] 124)) (.slice ns l.length nc) l:=ag5 Wn.out (wJ.alloc wJ.size _);have Wq:Hid (iq (wr.alloc (.cells #[.complex .f64 wa wb,.float .f64 sh,.complex .f64 fa fb,.complex .f64 ta tb] 124)) (.slice ns l.length nc) l):=Wp;have hb0:Below wr.heap.size wr (wr.alloc (.cells #[.complex .f64 wa wb,.float .f64 sh,.complex .f64 fa fb,.complex .f64 ta tb] 124)):=(Below.refl _ _).alloc (ae _) _;clear c0 c1 c2 c3 lY hok jm hmem qc hfl qW uV Wp HE
   go_wp2_with (simp only[fA,lX];go_simp)
   generalize wr.alloc (.cells #[.complex .f64 wa wb,.float .f64 sh,.complex .f64 fa fb,.complex .f64 ta tb] 124)=W0 at*;refine(AJ.out _ _ Wq.out).mono ?_;rintro r w2 ⟨cv,rfl,hC⟩;have hb2:Below wr.heap.size wr w2:=hb0.trans (hC.2.mono hb0.size);have gb:w2.ownsRow w.heap.size 171 6 u4 L.length (cI L):=aJ AW.out.1 fun k hk=>hb2.block k (au AW.out.1 k hk).2
   have pC:Below w.heap.size w w2:=ag.trans (hb2.mono ag.size);have IJ:Below w1.heap.size w1 w2:=wJ.trans (hb2.mono wJ.size);clear r0 r1 r2 r3 hb0 AJ Wq;by_cases hc0:0<(eO ra rb rs e l).length
   ·obtain⟨g,cp,rfl,hg,hcells⟩:=hC.fresh hc0;have hone:=Wm (eO ra rb rs e l);have hrl:=AR (eO ra rb rs e l);generalize hCL:eO ra rb rs e l=C at*
    go_wp2_with (at_builtin;refine wpList_append_lies _ rfl (.tmp 15) (.tmp 18) 168 rfl w.heap.size 171 i0 _ 6 72 Tryz.underlying168 hi hz0 hz1 hz2 rfl (by decide) u4 L.length (cI L) rfl gb ⟨g,0,none⟩ C.length cp (cI C) rfl hrl hcells hone hc0 (by unfold maxLen;omega) (by omega) pC.size w2.heap.size rfl ?_;intro g' cap' w8 cH aZ gA pY)
    have cC:Hid (∃L',PL w (.slice (some ⟨g',0,none⟩) (L.length+C.length) cap') L' w8/\(∀k,(Value.slice (some ⟨g',0,none⟩) (L.length+C.length) cap').ownBlock=some k->w1.heap.size<=k)/\Below w1.heap.size w1 w8/\AP (es.take (k+1)) l L'/\L'.length<=(k+1)*200000):=by
     refine⟨L++C,⟨?_,pC.grown aZ pC.size (fun k hk=>(au gb k hk).1)⟩,fun k hk=>?_,IJ.grown aZ IJ.size (fun k hk=>M8.out k hk),II.out,?_⟩
     ·rw[ag6,aS];exact cH
     ·injection hk with hk;subst hk;rcases gA with h8|h8
      ·exact M8.out _ h8
      ·show w1.heap.size<=g';rw[h8];exact IJ.size
     ·rw[aS,F6,QX];omega
    clear aZ cH gb hcells hone hrl hC AW II
    go_wp2_with fail
    go_roundg (gk-1)
    case measure=>omega
    case rel=>exact⟨k+1,by omega,by go_num,cC⟩
   ·have Ws:(eO ra rb rs e l).length=0:=by omega
    have Wt:eO ra rb rs e l=[]:=gq.1 Ws;obtain⟨xo,xc,rfl⟩:∃xo xc,cv=.slice xo 0 xc:=by
     rcases hC.1.2 with⟨hv,_⟩|⟨gg,cc,cur,hv,_⟩
     ·exact⟨none,0,hv⟩
     ·exact⟨_,cc,by rw[hv,Ws]⟩
    have cC:Hid (∃L',PL w u4 L' w2/\(∀k,u4.ownBlock=some k->w1.heap.size<=k)/\Below w1.heap.size w1 w2/\AP (es.take (k+1)) l L'/\L'.length<=(k+1)*200000):=by
     have h:=II.out;rw[Wt,rA] at h;exact⟨L,⟨gb,pC⟩,M8.out,IJ,h,hLk⟩
    clear hC AW II Wt
    go_wp2_with (at_builtin;refine Wl rfl (.tmp 15) (.tmp 18) 168 rfl w.heap.size 171 i0 6 Tryz.underlying168 hi u4 L.length (cI L) rfl gb xo xc rfl ?_)
    go_roundg (gk-1)
    case measure=>omega
    case rel=>exact⟨k+1,by omega,by go_num,cC⟩
  ·have hk:k=es.length:=by omega
   subst hk;obtain⟨L,uV,_,wJ,qW,jE⟩:=HE.out;rw[dI] at qW;have HC:=HS.out l Wo.out.1 Wo.out.2 _ L _ uV qW (by omega)
   have Eb:Hid (Calls Tryz.prog 156 #[u4,.func (.func 157) #[] #[]] wr fun r w'=>r=.returned (.tuple #[])/\Calls Tryz.prog 158 #[u4,.func (.func 159) #[] #[]] w' fun r w''=>∃v' Ps,r=.returned v'/\Q Ps v' w''):=HC
   clear HC HS HE uV qW HR Wn
   go_wp2_with fail
   refine Eb.out.mono ?_;rintro r w5 ⟨rfl,Wu⟩;have HC5:Hid (Calls Tryz.prog 158 #[u4,.func (.func 159) #[] #[]] w5 fun r w''=>∃v' Ps,r=.returned v'/\Q Ps v' w''):=Wu
   clear Wu Eb
   go_wp2_with fail
   refine HC5.out.mono ?_;rintro r w6 ⟨v',Ps,rfl,hQ⟩;have HQ:Hid (Q Ps v' w6):=hQ;clear hQ
   go_wp2_with fail
   go_ret
   exact⟨v',Ps,rfl,HQ.out⟩
end Go.Proofs.YtkjhhooecopolaaGreatDoor
namespace Go.Proofs
open Go.Shelf
shelf_try shelf_lay_g SlLaysF0.n6 Slsf 6 at Tryz 156 as Tryz.sortPc
shelf_tried
end Go.Proofs
namespace Go.Proofs.YtkjhhooecopolaaGreatDoor
open Go.RowKit
def jn(x y:PB):Prop:=AH x y<0
theorem M9{a b:Ge.Nd}(ha:Ge.Can a)(hb:Ge.Can b):Ge.lt (Ge.aj a) (Ge.aj b)\/a=b\/Ge.lt (Ge.aj b) (Ge.aj a):=by
 by_cases h:Ge.lt (Ge.aj b) (Ge.aj a)
 ·exact Or.inr (Or.inr h)
 ·by_cases e:a=b
  ·exact Or.inr (Or.inl e)
  ·exact Or.inl (Ge.Ay ha hb h e)
theorem qX{x y:PB}(hx:cM x)(hy:cM y):jn x y↔Ge.lt (Ge.aj x.f) (Ge.aj y.f)\/(x.f=y.f/\Ge.lt (Ge.aj x.t) (Ge.aj y.t)):=by
 unfold jn AH aW Ge.lt;by_cases h:Ge.pc (Ge.aj x.f) (Ge.aj y.f)=0
 ·have e:=Ge.uM hx.cf hy.cf h;rw[if_pos h];constructor
  ·exact fun k=>Or.inr ⟨e,k⟩
  ·rintro(k|⟨_,k⟩)
   ·omega
   ·exact k
 ·rw[if_neg h];constructor
  ·exact Or.inl
  ·rintro(k|⟨e,_⟩)
   ·exact k
   ·exact absurd (by rw[e];exact Ge.xS _) h
theorem Wv{x y z:PB}(hx:cM x)(hy:cM y)(hz:cM z)(h1:jn x y)(h2:jn y z):jn x z:=by
 rw[qX hx hy] at h1;rw[qX hy hz] at h2;rw[qX hx hz];rcases h1 with h1|⟨e1,h1⟩<;>rcases h2 with h2|⟨e2,h2⟩
 ·exact Or.inl (Ge.lt_trans (Ge.cL hx.cf) (Ge.cL hy.cf) (Ge.cL hz.cf) h1 h2)
 ·exact Or.inl (by rw[<-e2];exact h1)
 ·exact Or.inl (by rw[e1];exact h2)
 ·exact Or.inr ⟨e1.trans e2,Ge.lt_trans (Ge.cL hx.ct) (Ge.cL hy.ct) (Ge.cL hz.ct) h1 h2⟩
theorem Na{x y:PB}(hx:cM x)(hy:cM y):jn x y\/(x.f=y.f/\x.t=y.t)\/jn y x:=by
 rw[qX hx hy,qX hy hx];rcases M9 hx.cf hy.cf with h|h|h
 ·exact Or.inl (Or.inl h)
 ·rcases M9 hx.ct hy.ct with k|k|k
  ·exact Or.inl (Or.inr ⟨h,k⟩)
  ·exact Or.inr (Or.inl ⟨h,k⟩)
  ·exact Or.inr (Or.inr (Or.inr ⟨h.symm,k⟩))
 ·exact Or.inr (Or.inr (Or.inl h))
theorem Ww(x:PB):¬jn x x:=by
 unfold jn AH aW;rw[if_pos (Ge.xS _),Ge.xS];decide
abbrev VP:={x:PB //cM x}
def iY(x:VP):List Value:=x.1.cells
def AX(x y:VP):Int:=AH x.1 y.1
theorem ahc [Inhabited VP](blk off size:Nat)(w:World):CmpLays Tryz.prog 157 #[] iY 6 AX blk off size w:=
 fun _ _ _ _ x y=>(agr x.1 y.1 x.2 y.2 _).mono fun _ _⟨h1,h2,h3⟩=>⟨h1,IG h2 h3⟩
theorem IK{x y:VP}:ltOf AX x y=true↔jn x.1 y.1:=by
 unfold ltOf AX jn;exact decide_eq_true_iff
theorem Ec{x y:VP}:ltOf AX x y=false↔¬jn x.1 y.1:=by
 rw[<-IK];simp
theorem ahd:Sort.SWO (ltOf AX) where
 irrefl x:=Ec.2 (Ww _)
 trans x y z h1 h2:=IK.2 (Wv x.2 y.2 z.2 (IK.1 h1) (IK.1 h2))
 ntrans x y z h1 h2:=Ec.2 fun h=>by
  have k1:=Ec.1 h1;have k2:=Ec.1 h2;rcases Na x.2 y.2 with a|⟨a,b⟩|a
  ·exact k1 a
  ·refine k2 ?_;rw[qX y.2 z.2,<-a,<-b,<-qX x.2 z.2];exact h
  ·exact k2 (Wv y.2 x.2 z.2 a h)
theorem Wx:∀(L:List PB),(∀n∈L,cM n)->∃d:List VP,d.map Subtype.val=L
 |[],_=>⟨[],rfl⟩
 |n::L,h1=>by
  obtain⟨d,hd⟩:=Wx L (fun m hm=>h1 m (by simp[hm]))
  exact⟨⟨n,h1 n (by simp)⟩::d,by simp[hd]⟩
theorem IL:∀(l:List PB)(k:Nat)(e:PB),l[k]?=some e->∀j,j<6->(cI l)[k*6+j]?=e.cells[j]?
 |[],_,_,h,_,_=>by simp at h
 |q::r,0,e,h,j,hj=>by
  simp at h;subst h;have e1:cI (q::r)=q.cells++cI r:=by simp[cI]
  rw[e1,dZ (by show _<6;omega)]
  simp
 |q::r,k+1,e,h,j,hj=>by
  have ih:=IL r k e (by simpa using h) j hj
  have e1:cI (q::r)=q.cells++cI r:=by simp[cI]
  have e0:q.cells.length=6:=rfl;rw[e1,nI (by omega)]
  have e2:(k+1)*6+j-q.cells.length=k*6+j:=by omega
  rw[e2,ih]
theorem Wy [Inhabited VP](d:Array VP):(Sort.flatK iY 6 d).toList=cI (d.toList.map Subtype.val):=by
 apply BJ;intro t;by_cases ht:t<d.size*6
 ·have h1:t/6<d.size:=by omega
  have hx:(d.toList.map Subtype.val)[t/6]?=some (d[t/6]!).1:=by
   rw[gm,iQ,nM h1,getElem!_pos d _ h1];rfl
  have h2:=IL _ _ _ hx (t%6) (KD _ (by decide))
  have e1:t/6*6+t%6=t:=by omega
  rw[e1] at h2;have h3:=Sort.get_flatK iY 6 d t ht;have hs:t<(Sort.flatK iY 6 d).size:=by rw[Sort.size_flatK];exact ht
  rw[getElem!_pos (Sort.flatK iY 6 d) t hs] at h3;rw[h2,iQ,nM hs,h3];have hl:t%6<(iY d[t/6]!).length:=KD _ (by decide)
  rw[getElem!_pos (iY d[t/6]!) (t%6) hl];exact(ay hl).symm
 ·rw[xh (by rw[iG,Sort.size_flatK];omega),xh (by rw[AR];simp;omega)]
theorem ahe [Inhabited VP](d':Array VP)(n:Nat)(os:Array Obj){wr:World}{g:Nat}{cur:Array Value}{t:TypeId}{fr:Nat×Nat}(hb:wr.heap[g]?=some (.cells cur t fr)):
  (sortWorldK iY 6 wr g 0 n d' os).heap[g]?=some (.cells (Sort.putCells id 0 (Sort.flatK iY 6 d') cur) t fr):=by
 have hg:=lt_of_heap hb;show((wr.heap.modify g (Sort.onCells (Sort.putCells id 0 (Sort.flatK iY 6 d'))))++os)[g]?=_;rw[F7 (by simpa using hg),zi,if_pos rfl,hb]
 rfl
theorem ahf [Inhabited VP](d':Array VP)(n:Nat)(os:Array Obj){wr:World}{g k:Nat}(hk:k<wr.heap.size)(hne:g≠k):
  (sortWorldK iY 6 wr g 0 n d' os).heap[k]?=wr.heap[k]?:=by
 show((wr.heap.modify g (Sort.onCells (Sort.putCells id 0 (Sort.flatK iY 6 d'))))++os)[k]?=_;rw[F7 (by simpa using hk),zi,if_neg hne]
theorem ahg [Inhabited VP](d':Array VP)(n:Nat)(os:Array Obj)(wr:World)(g:Nat):wr.heap.size<=(sortWorldK iY 6 wr g 0 n d' os).heap.size:=by
 show _<=((wr.heap.modify g (Sort.onCells (Sort.putCells id 0 (Sort.flatK iY 6 d'))))++os).size;rw[acb,acd];omega
theorem ahh [Inhabited VP](w:World)(lv:Value)(L:List PB)(wr:World)(h:PL w lv L wr)(hv:∀x∈L,cM x)(hl:L.length<=85000000):
  Calls Tryz.prog 156 #[lv,.func (.func 157) #[] #[]] wr fun r w'=>r=.returned (.tuple #[])/\∃S,PL w lv S w'/\S.Perm L/\S.Pairwise (fun x y=>¬jn y x):=by
 obtain⟨hlen,jC⟩:=h.1;rcases jC with⟨rfl,h0⟩|⟨g,cap,cur,rfl,hg,hblk,hnc,hcm,hcs,htk⟩
 ·have hL:L=[]:=gq.1 h0;subst hL;refine(AnyF.slices_SortFunc_none Tryz.sortPc none 0 _ wr).mono ?_;rintro e w' ⟨rfl,rfl⟩;exact⟨rfl,[],h,xw _,List.Pairwise.nil⟩
 ·obtain⟨d,hd⟩:=Wx L hv;have hgl:g<wr.heap.size:=lt_of_heap hblk;have hsz:L.length=d.toArray.size:=by rw[<-hd];simp
  have hfl:(Sort.flatK iY 6 d.toArray).toList=cur.toList.take (L.length*6):=by rw[Wy,htk,<-hd]
  have hH:Sort.HoldsK iY 6 wr g 0 d.toArray:=by
   intro j hj;have hj':=hj;rw[Sort.size_flatK,<-hsz] at hj';have M6:cur[j]?=some (Sort.flatK iY 6 d.toArray)[j]! :=by
    have e1:(Sort.flatK iY 6 d.toArray).toList[j]?=(cur.toList.take (L.length*6))[j]?:=by rw[hfl]
    rw[j6,if_pos hj',iQ,iQ,nM hj] at e1;rw[<-e1,getElem!_pos (Sort.flatK iY 6 d.toArray) j hj]
   refine⟨?_,aB hblk _⟩;rw[jd];unfold World.cell?;rw[hblk];exact M6
  have eg:∀args w,(callFunc 157 args).run Tryz.prog w=.ok (.enter 157 args) w:=enters_of Tryz.func157 (by kernel_rfl) rfl
  have hone:∀x:VP,∀v∈iY x,v.oneCell'=true:=fun x v hv=>by
   simp[iY,PB.cells] at hv;rcases hv with rfl|rfl|rfl|rfl|rfl|rfl<;>rfl
  have hcon:=AnyQ.slices_SortFunc Tryz.sortPc 6 Tryz.isAgg171 Tryz.sizeOf171 iY (fun _=>rfl) hone AX ahd 157 #[] g 0 cap d.toArray wr eg (ahc _ _ _ _) hH hgl (by rw[<-hsz];omega)
  change Calls Tryz.prog 156 _ _ _ at hcon
  rw[<-hsz] at hcon;refine hcon.mono ?_;rintro e w' ⟨rfl,d',n,os,hp,hs,rfl⟩;obtain⟨hps,_,Ea⟩:=hp;have hs1:d'.size=L.length:=by rw[hps,hsz]
  have hperm:d'.toList.Perm d:=by
   have e1:d'.extract 0 L.length=d':=by rw[<-hs1];exact KM
   have e2:d.toArray.extract 0 L.length=d.toArray:=by rw[hsz];exact KM
   rw[e1,e2] at Ea;exact Ea
  have wI:(d'.toList.map Subtype.val).length=L.length:=by simp[hs1]
  have hpm:(d'.toList.map Subtype.val).Perm L:=by rw[<-hd];exact hperm.map _
  refine⟨rfl,d'.toList.map Subtype.val,⟨⟨by rw[AR],Or.inr ⟨g,cap,_,by rw[wI],hg,ahe d' n os hblk,by rw[wI];exact hnc,hcm,?_,?_⟩⟩,?_⟩,hpm,?_⟩
  ·unfold Sort.putCells;rw[Re];exact hcs
  ·have e1:(d'.toList.map Subtype.val).length*6=(Sort.flatK iY 6 d').size:=by rw[Sort.size_flatK,wI,hs1]
   rw[e1,Wi _ _ (by rw[Sort.size_flatK,hs1,hcs];omega),Wy]
  ·exact h.2.trans ⟨rfl,rfl,rfl,ahg d' n os wr g,fun k hk=>ahf d' n os (aL hk h.2.size) (by omega)⟩
  ·rw[nJ,mM];intro i j hi hj hij;have hi':i<d'.size:=by simpa using hi
   have hj':j<d'.size:=by simpa using hj
   have hx:=hs i j (iz _) hij (by omega)
   rw[getElem!_pos d' i hi',getElem!_pos d' j hj'] at hx;exact Ec.1 hx
def same(x y:PB):Bool:=decide (x.f=y.f)&&decide (x.t=y.t)
def kept [Inhabited PB](S:Array PB)(j:Nat):Bool:=decide (j=0)|| !same S[j]! S[j-1]!
def fY [Inhabited PB](S:Array PB):Nat->List PB
 |0=>[]
 |m+1=>fY S m++(if kept S m then[S[m]!] else[])
theorem IM [Inhabited PB](S:Array PB):∀m,m<=S.size->(∀j,j<m->kept S j=true)->fY S m=S.toList.take m
 |0,_,_=>by simp[fY]
 |m+1,hm,h=>by
  have hlt:m<S.toList.length:=by rw[iG];omega
  have e:S[m]! =S.toList[m]:=by rw[getElem!_pos S m (by omega)];simp
  rw[fY,IM S m (by omega) (fun j hj=>h j (by omega)),h m (by omega),if_pos rfl,oK hlt,e]
structure KI [Inhabited PB](S:Array PB)(m k:Nat)(T:Array PB):Prop where
 size:T.size=S.size
 lt:k<m
 le:m<=S.size
 low:T.toList.take k=fY S m
 high:∀j,k<=j->T[j]! =S[j]!
theorem KI.start [Inhabited PB]{S:Array PB}{k0:Nat}(hk:k0<S.size)(hall:∀j,j<k0->kept S j=true)(h:kept S k0=false):KI S (k0+1) k0 S:=
 ⟨rfl,Nat.lt_succ_self _,hk,by rw[fY,h,IM S k0 (by omega) hall];simp,fun _ _=>rfl⟩
theorem KI.skip [Inhabited PB]{S T:Array PB}{m k:Nat}(h:KI S m k T)(hm:m<S.size)(hk:kept S m=false):KI S (m+1) k T:=
 ⟨h.size,by have:=h.lt;omega,hm,by rw[fY,hk,h.low];simp,h.high⟩
theorem KI.keep [Inhabited PB]{S T:Array PB}{m k:Nat}(h:KI S m k T)(hm:m<S.size)(hk:kept S m=true):KI S (m+1) (k+1) (T.setIfInBounds k S[m]!):=by
 have hl:=h.lt;have hs:=h.size;refine⟨by rw[xt];exact hs,by omega,hm,?_,fun j hj=>?_⟩
 ·rw[fY,hk,if_pos rfl,<-h.low,KH];have hkl:k<(T.toList.set k S[m]!).length:=by rw[KN,iG];omega
  rw[oK hkl,List.getElem_set_self,List.take_set_of_le (ae _)]
 ·have hne:j≠k:=by omega
  rw[<-h.high j (by omega)]
  by_cases IP:j<T.size
  ·rw[getElem!_pos _ j (by rw[xt];exact IP),getElem!_pos T j IP,Array.getElem_setIfInBounds,if_neg (Ne.symm hne)]
  ·rw[getElem!_neg _ j (by rw[xt];exact IP),getElem!_neg T j IP]
structure iZ(w:World)(g cap n:Nat)(d:Array PB)(wr:World):Prop where
 size:d.size=n
 own:wr.ownsRow w.heap.size 171 6 (.slice (some ⟨g,0,none⟩) n cap) n (cI d.toList)
 below:Below w.heap.size w wr
theorem iZ.blk{w:World}{g cap n:Nat}{d:Array PB}{wr:World}(h:iZ w g cap n d wr):∃cur,w.heap.size<=g/\wr.heap[g]?=some (.cells cur 171 (0,0))/\n<=cap/\cap<=maxLen/\cur.size=cap*6/\cur.toList.take (n*6)=cI d.toList:=by
 rcases h.own.2 with⟨hv,_⟩|⟨g',cap',cur,hv,h1,h2,h3,h4,h5,h6⟩
 ·simp at hv
 ·simp only[Value.slice.injEq,Option.some.injEq,Addr.mk.injEq] at hv;obtain⟨⟨rfl,_⟩,_,rfl⟩:=hv;exact⟨cur,h1,h2,h3,h4,h5,h6⟩
theorem iZ.cells [Inhabited PB]{w:World}{g cap n:Nat}{d:Array PB}{wr:World}(h:iZ w g cap n d wr)(i:Nat)(hi:i<n):
  wr.cell? ⟨g,i*6,none⟩=some (.complex .f64 (d[i]!).wa (d[i]!).wb)/\wr.cell? ⟨g,i*6+1,none⟩=some (.float .f64 (d[i]!).sh)/\wr.cell? ⟨g,i*6+2,none⟩=some (.complex .f64 (floatOfInt .f64 (d[i]!).f.1) (floatOfInt .f64 (d[i]!).f.2.1))/\wr.cell? ⟨g,i*6+3,none⟩=some (.int .i64 (d[i]!).f.2.2)/\wr.cell? ⟨g,i*6+4,none⟩=some (.complex .f64 (floatOfInt .f64 (d[i]!).t.1) (floatOfInt .f64 (d[i]!).t.2.1))/\wr.cell? ⟨g,i*6+5,none⟩=some (.int .i64 (d[i]!).t.2.2)/\∀o,wr.frozen? ⟨g,o,none⟩=false:=by
 obtain⟨cur,_,hb,_,_,hs,htk⟩:=h.blk;have hd:i<d.size:=by rw[h.size];exact hi
 have hx:d.toList[i]?=some d[i]! :=by rw[iQ,nM hd,getElem!_pos d i hd]
 have key:∀j,j<6->wr.cell? ⟨g,i*6+j,none⟩=(d[i]!).cells[j]?:=fun j hj=>by
  have k0:=IL _ _ _ hx j hj;rw[<-htk,j6,if_pos (by omega),iQ] at k0
  unfold World.cell?;rw[hb];exact k0
 exact⟨key 0 (by omega),key 1 (by omega),key 2 (by omega),key 3 (by omega),key 4 (by omega),key 5 (by omega),fun o=>aB hb _⟩
def Nb(w:World)(g o:Nat)(x:PB):World:=w.setCells g o x.cells
theorem Wz:∀(l:List PB)(k:Nat)(x:PB),k<l.length->cI (l.set k x)=(cI l).take (k*6)++x.cells++(cI l).drop (k*6+6)
 |[],_,_,h=>by simp at h
 |a::l,0,x,_=>by
  have e:∀(b:PB)(r:List PB),cI (b::r)=b.cells++cI r:=fun b r=>by simp[cI]
  rw[aD,e,e];have e0:a.cells.length=6:=rfl;rw[show 0*6=0 from rfl,List.take_zero,vA,show 0+6=a.cells.length from rfl,ace]
 |a::l,k+1,x,h=>by
  have ih:=Wz l k x (by simpa using h)
  have e:∀(b:PB)(r:List PB),cI (b::r)=b.cells++cI r:=fun b r=>by simp[cI]
  rw[aA,e,e,ih];have e1:(k+1)*6=a.cells.length+k*6:=by show _=6+_;omega
  have e2:a.cells.length+k*6+6=a.cells.length+(k*6+6):=by omega
  rw[e1,e2,Rf,List.drop_append,rI (acf _ _),zh (acf _ _)];simp
theorem ahj{w:World}{g o:Nat}{x:PB}{cur:Array Value}{t:TypeId}(hb:w.heap[g]?=some (.cells cur t (0,0)))(ho:o+6<=cur.size):
  (Nb w g o x)=w.setRow g (cur.toList.take o++x.cells++cur.toList.drop (o+6)).toArray:=by
 have one:∀v∈x.cells,v.oneCell'=true:=fun v hv=>Wm [x] v (by simpa[cI] using hv)
 have h6:x.cells.length=6:=rfl;unfold Nb;generalize x.cells=C at*;have hst:=run_storeCells_at Tryz.prog g o t C 0 cur w hb (by rw[h6];omega) one
 have Nc:=run_storeCells_cells (P:=Tryz.prog) g o C 0 w (fun j hj=>by
  rw[h6] at hj;unfold World.cell?;rw[hb];simp only[tY];rw[nM (by omega)]
  rfl) (fun j _=>aB hb _) one
 rw[tY] at hst Nc;rw[h6] at hst;rw[hst] at Nc;injection Nc with _ h2;exact h2.symm
theorem iZ.set{w:World}{g cap n:Nat}{d:Array PB}{wr:World}(h:iZ w g cap n d wr)(k:Nat)(hk:k<n)(x:PB):iZ w g cap n (d.setIfInBounds k x) (Nb wr g (k*6) x):=by
 obtain⟨cur,hg,hb,hnc,hcm,hs,htk⟩:=h.blk;have hd:k<d.toList.length:=by rw[iG,h.size];exact hk
 have h6:x.cells.length=6:=rfl;rw[ahj hb (by omega)]
 have DR:=setRow_heap wr g cur (cur.toList.take (k*6)++x.cells++cur.toList.drop (k*6+6)).toArray _ _ hb;refine⟨by rw[xt];exact h.size,⟨?_,Or.inr ⟨g,cap,_,rfl,hg,DR,hnc,hcm,?_,?_⟩⟩,h.below.trans ⟨rfl,rfl,rfl,by simp,fun j hj=>setRow_other _ _ _ _ (by omega)⟩⟩
 ·rw[AR,iG,xt,h.size]
 ·simp only[aca,aS,ig,rD,iG,h6,hs];omega
 ·rw[KH,Wz _ _ _ hd,<-htk];show(cur.toList.take (k*6)++x.cells++cur.toList.drop (k*6+6)).take (n*6)=_;have l1:(cur.toList.take (k*6)).length=k*6:=by rw[ig,iG,hs];omega
  rw[fD,Rf,l1,Rf,h6,BX,BX,List.take_drop];have m1:min (n*6) (k*6)=k*6:=by omega
  have m2:min (k*6) (n*6)=k*6:=by omega
  have m3:x.cells.take (n*6-k*6)=x.cells:=rI (by rw[h6];omega)
  have m4:k*6+6+(n*6-k*6-6)=n*6:=by omega
  rw[m1,m2,m3,m4,fD]
theorem iZ.keep{w:World}{g cap n:Nat}{d:Array PB}{wr w':World}(h:iZ w g cap n d wr)(hb:Below wr.heap.size wr w'):iZ w g cap n d w':=
 ⟨h.size,aJ h.own fun k hk=>hb.block k (au h.own k hk).2,h.below.trans (hb.mono h.below.size)⟩
theorem iZ.rd{w:World}{g cap n:Nat}{d:Array PB}{wr:World}(h:iZ w g cap n d wr):qU wr (.slice (some ⟨g,0,none⟩) n cap) d.toList:=by
 obtain⟨cur,hg,hb,hnc,hcm,hs,htk⟩:=h.blk;have e:d.toList.length=n:=by rw[iG,h.size]
 exact⟨by rw[AR],Or.inr ⟨g,cap,cur,by rw[e],iz _,hb,by rw[e];exact hnc,hcm,hs,by rw[e];exact htk⟩⟩
end Go.Proofs.YtkjhhooecopolaaGreatDoor

import Derived.Test.YtkjhhooecopolaaGreatDoorMz05
import Derived.Laws.ComplexArith
import Derived.Deep.RegionHeld3
set_option maxRecDepth 100000
set_option maxHeartbeats 4000000
namespace Go.Proofs.YtkjhhooecopolaaGreatDoor
open Go.RowKit
theorem CK(x y:Int)(w:World):
  Calls Tryz.prog 38 #[.int .i64 x,.int .i64 y] w fun e w'=>e=.returned (.complex .f64 (floatOfInt .f64 x) (floatOfInt .f64 y))/\w'=w:=by
 go_enter Tryz.func38,Tryz.ntmps38
 go_wp2
 go_ret
 exact⟨rfl,rfl⟩
theorem adA:(Tryz.prog.info? 81).map (fun i=>(i.zero,i.size,i.bytes))=some (some (.complex .f64 0 0),1,16):=by kernel_rfl
theorem adB(hO:mW)(rb:Nat)(s:ByteArray)(A r:List Pl.Tk)(x y:Pl.Tk)(rg:List (List (Int×Int)))(q:List (Int×Int))(w:World)(cx:Cx rb s A)(hR:RD rb s A (x::y::r) (rg++[q]) w)(hG:Gl w)
  (hx:x.k=110)(hy:y.k=110)(hq:q.length<=1000)(hrg:rg.length<=1000):
  Calls Tryz.prog 196 #[.pointer (some ⟨rb,0,none⟩)] w fun e w'=>e=.returned (.bool true)/\RD rb s A r (rg++[q++[(x.n,y.n)]]) w'/\Below rb w w':=by
 obtain⟨i0,hi,hz0,hz1,hz2⟩:=info_parts adA;have hlt:=hR.lt;obtain⟨t',r',hl,c0,c1,c2,c3,c4⟩:=hR.cells;injection hl with h1 h2;subst h1 h2
 go_enter Tryz.func196,Tryz.ntmps196
 go_wp2_with fail
 refine(LH hO rb s A (y::r) x _ _ cx (hR.alloc _) (hG.alloc _) hx).mono ?_;rintro e w1 ⟨rfl,dJ,hb1,hk1⟩;clear c0 c1 c2 c3 c4;have CL:=hk1 w.heap.size _ (by omega) ((hR.nt w.heap.size (ae _)).below hlt ((Below.refl _ _).alloc (ae _) _)) (heap_alloc_new w _)
 obtain⟨t',r',hl,c0,c1,c2,c3,c4⟩:=dJ.cells;injection hl with h1 h2;subst h1 h2;have cz:Gl w1:=(hG.alloc _).below hb1 cx.rb
 go_wp2_with fail
 refine(LH hO rb s A r y _ _ cx (dJ.alloc _) (cz.alloc _) hy).mono ?_;rintro e w2 ⟨rfl,cu,hb2,hk2⟩;clear c0 c1 c2 c3 c4;have vO:=dJ.lt;have hby:=hk2 w1.heap.size _ (by omega) ((dJ.nt w1.heap.size (ae _)).below vO ((Below.refl _ _).alloc (ae _) _)) (heap_alloc_new w1 _)
 have dK:=hk2 w.heap.size _ (by omega) (CL.2.below vO ((Below.refl _ _).alloc (ae _) _)) ((Below.heap_alloc _ _ _ (lt_of_heap CL.1)).trans CL.1)
 have LJ:w2.cell? ⟨w.heap.size,2,none⟩=some (.int .i64 x.n):=cell_of dK.1 2;have LK:w2.cell? ⟨w1.heap.size,2,none⟩=some (.int .i64 y.n):=cell_of hby.1 2;obtain⟨c,t,r0,tv,rv,hc,hl,hbk,hown,LM⟩:=id cu;obtain⟨gr,cap,qv,rfl,hgr,⟨cur,fU,SV⟩,vQ,hfin⟩:=LM.push;have c6:w2.cell? ⟨rb,6,none⟩=some (.slice (some ⟨gr,0,none⟩) (rg.length+1) cap):=cell_of hbk 6;have ce:w2.cell? ⟨gr,rg.length,none⟩=some qv:=(cell_of fU rg.length).trans SV;have nR:=cu.lt;have hnc:(rg.length:Int)<(rg.length:Int)+1:=by omega
 go_wp2_with fail
 refine Till.start (S:=fun w'=>w'.cell? ⟨rb,6,none⟩=some (.slice (some ⟨gr,0,none⟩) (rg.length+1) cap)/\w'.cell? ⟨gr,rg.length,none⟩=some qv/\w'.cell? ⟨w.heap.size,2,none⟩=some (.int .i64 x.n)/\w'.cell? ⟨w1.heap.size,2,none⟩=some (.int .i64 y.n)) (n:=20) (by kernel_rfl) ?_
 have hS:w2.drew.cell? ⟨rb,6,none⟩=some (.slice (some ⟨gr,0,none⟩) (rg.length+1) cap)/\w2.drew.cell? ⟨gr,rg.length,none⟩=some qv/\w2.drew.cell? ⟨w.heap.size,2,none⟩=some (.int .i64 x.n)/\w2.drew.cell? ⟨w1.heap.size,2,none⟩=some (.int .i64 y.n):=⟨c6,ce,LJ,LK⟩;refine Till.take (i:=0) (v:=?_) rfl (by kernel_rfl) (by kernel_rfl) (by kernel_rfl) (by kernel_rfl) (fun _ _ _ h=>h) (Or.inl ⟨by rfl,?_⟩) hS ?_
 rotate_left
 ·intro w' aw;obtain⟨s1,s2,s3,s4⟩:=aw
  go_simp
  try with_reducible rfl
 simp only[Act.put,aC];refine Till.take (i:=1) (v:=?_) rfl (by kernel_rfl) (by kernel_rfl) (by kernel_rfl) (by kernel_rfl) (fun _ _ _ h=>h) (Or.inl ⟨by rfl,?_⟩) hS ?_
 rotate_left
 ·intro w' aw;obtain⟨s1,s2,s3,s4⟩:=aw
  go_simp
  try with_reducible rfl
 simp only[Act.put];refine Till.take (i:=2) (v:=?_) rfl (by kernel_rfl) (by kernel_rfl) (by kernel_rfl) (by kernel_rfl) (fun _ _ _ h=>h) (Or.inl ⟨by rfl,?_⟩) hS ?_
 rotate_left
 ·intro w' aw;obtain⟨s1,s2,s3,s4⟩:=aw
  go_simp
  try with_reducible rfl
 simp only[Act.put];refine Till.take (i:=3) (v:=?_) rfl (by kernel_rfl) (by kernel_rfl) (by kernel_rfl) (by kernel_rfl) (fun _ _ _ h=>h) (Or.inl ⟨by rfl,?_⟩) hS ?_
 rotate_left
 ·intro w' aw;obtain⟨s1,s2,s3,s4⟩:=aw
  go_simp
  try with_reducible rfl
 simp only[Act.put];refine Till.take (i:=4) (v:=?_) rfl (by kernel_rfl) (by kernel_rfl) (by kernel_rfl) (by kernel_rfl) (fun _ _ _ h=>h) (Or.inl ⟨by rfl,?_⟩) hS ?_
 rotate_left
 ·intro w' aw;obtain⟨s1,s2,s3,s4⟩:=aw
  go_simp
  try with_reducible rfl
 simp only[Act.put];refine Till.take (i:=5) (v:=?_) rfl (by kernel_rfl) (by kernel_rfl) (by kernel_rfl) (by kernel_rfl) (fun _ _ _ h=>h) (Or.inl ⟨by rfl,?_⟩) hS ?_
 rotate_left
 ·intro w' aw;obtain⟨s1,s2,s3,s4⟩:=aw
  go_simp
  try with_reducible rfl
 simp only[Act.put];refine Till.take (i:=6) (v:=?_) rfl (by kernel_rfl) (by kernel_rfl) (by kernel_rfl) (by kernel_rfl) (fun _ _ _ h=>h) (Or.inl ⟨by rfl,?_⟩) hS ?_
 rotate_left
 ·intro w' aw;obtain⟨s1,s2,s3,s4⟩:=aw
  go_simp
  try with_reducible rfl
 simp only[Act.put];refine Till.take (i:=7) (v:=?_) rfl (by kernel_rfl) (by kernel_rfl) (by kernel_rfl) (by kernel_rfl) (fun _ _ _ h=>h) (Or.inl ⟨by rfl,?_⟩) hS ?_
 rotate_left
 ·intro w' aw;obtain⟨s1,s2,s3,s4⟩:=aw
  go_simp
  try with_reducible rfl
 simp only[Act.put];refine Till.take (i:=8) (v:=?_) rfl (by kernel_rfl) (by kernel_rfl) (by kernel_rfl) (by kernel_rfl) (fun _ _ _ h=>h) (Or.inl ⟨by rfl,?_⟩) hS ?_
 rotate_left
 ·intro w' aw;obtain⟨s1,s2,s3,s4⟩:=aw
  go_simp
  try with_reducible rfl
 simp only[Act.put];refine Till.take (i:=9) (v:=?_) rfl (by kernel_rfl) (by kernel_rfl) (by kernel_rfl) (by kernel_rfl) (fun _ _ _ h=>h) (Or.inl ⟨by rfl,?_⟩) hS ?_
 rotate_left
 ·intro w' aw;obtain⟨s1,s2,s3,s4⟩:=aw
  go_simp
  try with_reducible rfl
 simp only[Act.put];refine Till.take (i:=10) (v:=?_) rfl (by kernel_rfl) (by kernel_rfl) (by kernel_rfl) (by kernel_rfl) (fun _ _ _ h=>h) (Or.inl ⟨by rfl,?_⟩) hS ?_
 rotate_left
 ·intro w' aw;obtain⟨s1,s2,s3,s4⟩:=aw
  go_simp
  try with_reducible rfl
 simp only[Act.put];refine Till.take (i:=11) (v:=?_) rfl (by kernel_rfl) (by kernel_rfl) (by kernel_rfl) (by kernel_rfl) (fun _ _ _ h=>h) (Or.inl ⟨by rfl,?_⟩) hS ?_
 rotate_left
 ·intro w' aw;obtain⟨s1,s2,s3,s4⟩:=aw
  go_simp
  try with_reducible rfl
 simp only[Act.put];refine Till.take (i:=12) (v:=?_) rfl (by kernel_rfl) (by kernel_rfl) (by kernel_rfl) (by kernel_rfl) (fun _ _ _ h=>h) (Or.inl ⟨by rfl,?_⟩) hS ?_
 rotate_left
 ·intro w' aw;obtain⟨s1,s2,s3,s4⟩:=aw
  go_simp
  try with_reducible rfl
 simp only[Act.put];refine Till.take (i:=13) (v:=?_) rfl (by kernel_rfl) (by kernel_rfl) (by kernel_rfl) (by kernel_rfl) (fun _ _ _ h=>h) (Or.inl ⟨by rfl,?_⟩) hS ?_
 rotate_left
 ·intro w' aw;obtain⟨s1,s2,s3,s4⟩:=aw
  go_simp
  try with_reducible rfl
 simp only[Act.put];refine Till.take (i:=14) (v:=?_) rfl (by kernel_rfl) (by kernel_rfl) (by kernel_rfl) (by kernel_rfl) (fun _ _ _ h=>h) (Or.inl ⟨by rfl,?_⟩) hS ?_
 rotate_left
 ·intro w' aw;obtain⟨s1,s2,s3,s4⟩:=aw
  go_simp
  try with_reducible rfl
 simp only[Act.put];refine Till.take (i:=15) (v:=?_) rfl (by kernel_rfl) (by kernel_rfl) (by kernel_rfl) (by kernel_rfl) (fun _ _ _ h=>h) (Or.inl ⟨by rfl,?_⟩) hS ?_
 rotate_left
 ·intro w' aw;obtain⟨s1,s2,s3,s4⟩:=aw
  go_simp
  try with_reducible rfl
 simp only[Act.put];refine Till.one (i:=16) rfl (by kernel_rfl) (fun K hK=>?_)
 go_simp
 refine(CK _ _ _).mono ?_;rintro e w' ⟨rfl,rfl⟩
 go_wp2_with fail
 refine hK _ _ (fun _=>hS) ?_
 clear hK K
 try simp only[Act.put,aC,aD,aA]
 refine Till.one (i:=17) rfl (by kernel_rfl) (fun K hK=>?_)
 go_simp
 refine hK _ _ (fun _=>⟨(World.cell?_alloc_lt _ _ _ (World.block_lt_of_cell? _ _ c6)).trans c6,(World.cell?_alloc_lt _ _ _ (World.block_lt_of_cell? _ _ ce)).trans ce,(World.cell?_alloc_lt _ _ _ (World.block_lt_of_cell? _ _ LJ)).trans LJ,(World.cell?_alloc_lt _ _ _ (World.block_lt_of_cell? _ _ LK)).trans LK⟩) ?_
 clear hK K
 try simp only[Act.put,aC,aD,aA]
 refine Till.one (i:=18) rfl (by kernel_rfl) (fun K hK=>?_)
 refine step_append_lies _ rfl (.tmp 37) (.tmp 43) 127 rfl (rb+1) 81 i0 _ 1 16 Tryz.underlying127 hi hz0 hz1 hz2 rfl (by decide) qv q.length (pR q) rfl (aJ vQ (fun k hk=>Below.heap_alloc _ _ _ (au vQ k hk).2)) ⟨w2.heap.size,0,none⟩ 1 1 [xM (x.n,y.n)] rfl rfl (World.news_of_block (cs:= #[xM (x.n,y.n)]) (t:=81) (fr:=(0,0)) (heap_alloc_new w2 _)) (by simp[Value.oneCell',xM]) (by decide) (by unfold maxLen;omega) (by omega) (by show rb+1<=(w2.alloc _).heap.size;simp;omega) (w2.heap.size+1) (by show(w2.alloc _).heap.size=_;simp) ?_
 intro g cap' w5 ho hgrow hat uo;have k6:=(rR hgrow rb cu.lt (rT vQ rb (by omega))).trans hbk
 have kg:=(rR hgrow gr (lt_of_heap fU) (nP vQ fU (by decide))).trans fU
 have kx:=(rR hgrow w.heap.size (lt_of_heap dK.1) (nP vQ dK.1 (by decide))).trans dK.1
 have ky:=(rR hgrow w1.heap.size (lt_of_heap hby.1) (nP vQ hby.1 (by decide))).trans hby.1
 have d6:w5.cell? ⟨rb,6,none⟩=some (.slice (some ⟨gr,0,none⟩) (rg.length+1) cap):=cell_of k6 6;have de:w5.cell? ⟨gr,rg.length,none⟩=some qv:=(cell_of kg rg.length).trans SV;have dx:w5.cell? ⟨w.heap.size,2,none⟩=some (.int .i64 x.n):=cell_of kx 2;have dy:w5.cell? ⟨w1.heap.size,2,none⟩=some (.int .i64 y.n):=cell_of ky 2;have fe:w5.frozen? ⟨gr,rg.length,none⟩=false:=aB kg _;refine hK _ _ (fun _=>⟨d6,de,dx,dy⟩) ?_
 clear hK K
 try simp only[Act.put,aC]
 refine Till.one (i:=19) rfl (by kernel_rfl) (fun K hK=>?_)
 go_simp
 refine hK _ _ (fun _=>⟨d6,de,dx,dy⟩) ?_
 clear hK K
 try simp only[Act.put,aC,aD,aA]
 refine Till.one (i:=20) rfl (by kernel_rfl) (fun K hK=>?_)
 go_simp
 refine hK _ _ (fun h=>absurd rfl h) ?_
 clear hK K;refine Till.done (by kernel_rfl) ?_ _
 go_wp2_with fail
 go_ret
 refine⟨rfl,⟨c,t,r0,tv,_,hc,hl,(bg (by omega) _).trans k6,aJ hown fun k hk=>?_,hfin w5 g cap' _ _ hgrow ho hat⟩,?_⟩
 ·obtain⟨c9,uq⟩:=nQ hown hk;have hkg:k≠gr:=fun e=>by
   rw[e,fU] at uq;injection uq with uq;injection uq with _ uq _;cases uq
  rw[bg hkg];exact rR hgrow k (au hown k hk).2 (nP vQ uq (by decide))
 ·have e1:Below rb w w2:=(((((Below.refl rb w).alloc (by omega) _).trans hb1).alloc (by omega) _).trans hb2)
  have e2:Below rb w w5:=((e1.alloc (eo cu.lt) _).drew).grown hgrow (by have:=cu.lt;show rb<=(w2.alloc _).heap.size;simp;omega) (fun k hk=>by have:=(au vQ k hk).1;omega)
  exact e2.setCell (by show rb<=gr;omega) _
end Go.Proofs.YtkjhhooecopolaaGreatDoor
namespace Go.Proofs.YtkjhhooecopolaaGreatDoor
open Ieee
def Dn(d:Datum)(n:Int):Prop:=∃s m i,d=.number s m i/\ -2148<=i/\signed s m (i+2148).toNat=n*2 ^ 2148
def D1(d:Datum)(n:Int):Prop:=∃s m i,d=.number s m i/\ -1074<=i/\signed s m (i+1074).toNat=n*2 ^ 1074
def Fl(b:Nat)(n:Int):Prop:=D1 (double.read b) n
theorem oQ(s:Bool)(m k:Nat):signed s m k=(if s then -1 else 1)*((m*2 ^ k:Nat):Int):=by
 unfold signed;rw[abP];cases s<;>simp
theorem zR(s:Bool)(m k j:Nat):signed s m (k+j)=signed s m k*2 ^ j:=by
 rw[oQ,oQ,rG,<-BK];generalize(if s=true then(-1:Int) else 1)=c
 rw[Ky (m*2 ^ k),QS]
 push_cast
 rfl
theorem SY{m:Nat}(k:Nat)(hm:m≠0):(m*2 ^ k).log2=m.log2+k:=by
 have hp:=pP k;have hne:m*2 ^ k≠0:=Q0 (FZ (abQ hm) hp);rw[abR hne];have⟨h1,h2⟩:=(abR hm (k:=m.log2)).1 rfl;refine⟨?_,?_⟩
 ·rw[rG];exact zj _ h1
 ·have:m.log2+k+1=(m.log2+1)+k:=by omega
  rw[this,rG];exact ank h2 hp
theorem SZ(s:Bool)(m k:Nat):(signed s m k).natAbs=m*2 ^ k:=by
 rw[oQ];cases s<;>simp[Int.natAbs_mul,Int.natAbs_pow]
theorem CM(k:Nat):(0:Int)<2 ^ k:=by
 have:=pP k;have h:((2 ^ k:Nat):Int)=(2:Int) ^ k:=by push_cast;rfl
 omega
theorem S0{s:Bool}{m:Nat}{i n:Int}(P Z:Nat)(hi: -(P:Int)<=i)(LN:P<=Z)(h:signed s m (i+P).toNat=n*2 ^ P):
  signed s m (i+Z).toNat=n*2 ^ Z:=by
 have e:(i+Z).toNat=(i+P).toNat+(Z-P):=by omega
 have e':Z=P+(Z-P):=by omega
 rw[e,zR,h,QS,<-Int.pow_add,<-e']
theorem adC(s:Bool)(m k:Nat):signed (!s) m k= -signed s m k:=by
 cases s<;>simp[signed]
theorem D1.S3{d:Datum}{n:Int}(h:D1 d n):D1 d.opposite (-n):=by
 obtain⟨s,m,i,rfl,h2,h3⟩:=h;refine⟨!s,m,i,rfl,h2,?_⟩;rw[adC,h3,iw]
theorem S4(t:Int)(c:Bool)(k:Nat):signed (if t=0 then c else decide (t<0)) t.natAbs k=t*2 ^ k:=by
 rw[oQ,Ky,Int.natCast_pow];have e3:((2:Nat):Int)=2:=rfl;rw[e3,<-QS];congr 1;by_cases h:t=0
 ·simp[h]
 ·rw[if_neg h];by_cases h2:t<0
  ·simp only[h2,decide_true,if_true];omega
  ·simp only[h2,decide_false,iP,if_false];omega
theorem adD{s t c:Bool}{m k:Nat}{i j x y:Int}(P Z:Nat)(hi: -(P:Int)<=i)(hj: -(P:Int)<=j)(LN:P<=Z)
  (hx:signed s m (i+P).toNat=x*2 ^ P)(hy:signed t k (j+P).toNat=y*2 ^ P):
  signed (if signed s m (i-min i j).toNat+signed t k (j-min i j).toNat=0 then c else decide (signed s m (i-min i j).toNat+signed t k (j-min i j).toNat<0))
   (signed s m (i-min i j).toNat+signed t k (j-min i j).toNat).natAbs (min i j+Z).toNat=(x+y)*2 ^ Z:=by
 rw[S4,Int.add_mul,<-zR,<-zR];have e1:(i-min i j).toNat+(min i j+Z).toNat=(i+Z).toNat:=by omega
 have e2:(j-min i j).toNat+(min i j+Z).toNat=(j+Z).toNat:=by omega
 rw[e1,e2,S0 P Z hi LN hx,S0 P Z hj LN hy,Int.add_mul]
theorem D1.sum{d e:Datum}{x y:Int}(hd:D1 d x)(he:D1 e y):∃r,d.sum e=some r/\Dn r (x+y):=by
 obtain⟨s,m,i,rfl,hi,hx⟩:=hd;obtain⟨t,k,j,rfl,hj,hy⟩:=he;refine⟨_,rfl,_,_,_,rfl,by omega,?_⟩
 exact adD 1074 2148 hi hj (by decide) hx hy
theorem adE(s t:Bool)(m k a b:Nat):signed (s ^^ t) (m*k) (a+b)=signed s m a*signed t k b:=by
 rw[oQ,oQ,oQ,rG];have e:m*k*(2 ^ a*2 ^ b)=(m*2 ^ a)*(k*2 ^ b):=by ac_rfl
 rw[e,Ky (m*2 ^ a)];cases s<;>cases t<;>simp[Int.neg_mul,Int.mul_neg]
theorem adF{s t:Bool}{m k:Nat}{i j x y:Int}(P:Nat)(hi: -(P:Int)<=i)(hj: -(P:Int)<=j)
  (hx:signed s m (i+P).toNat=x*2 ^ P)(hy:signed t k (j+P).toNat=y*2 ^ P):signed (s ^^ t) (m*k) (i+j+(P+P:Nat)).toNat=x*y*2 ^ (P+P):=by
 have e:(i+j+(P+P:Nat)).toNat=(i+P).toNat+(j+P).toNat:=by omega
 rw[e,adE,hx,hy,Int.pow_add]
 ac_rfl
theorem D1.product{d e:Datum}{x y:Int}(hd:D1 d x)(he:D1 e y):∃r,d.product e=some r/\Dn r (x*y):=by
 obtain⟨s,m,i,rfl,hi,hx⟩:=hd;obtain⟨t,k,j,rfl,hj,hy⟩:=he;refine⟨_,rfl,_,_,_,rfl,by omega,?_⟩
 exact adF 1074 hi hj hx hy
theorem S5(a b p:Int)(hp:0<p):compare (a*p) (b*p)=compare a b:=by
 rcases fk a b with h|h|h
 ·rw[Kz.2 h,Kz.2 (Q3 h hp)]
 ·subst h;rw[KA.2 rfl,KA.2 rfl]
 ·rw[KB.2 h,KB.2 (Q3 h hp)]
theorem adG{s t:Bool}{m k:Nat}{i j x y:Int}(P:Nat)(hi: -(P:Int)<=i)(hj: -(P:Int)<=j)
  (hx:signed s m (i+P).toNat=x*2 ^ P)(hy:signed t k (j+P).toNat=y*2 ^ P):
  compare (signed s m (i-min i j).toNat) (signed t k (j-min i j).toNat)=compare x y:=by
 rw[<-S5 _ _ (2 ^ (min i j+P).toNat) (CM _),<-zR,<-zR];have e1:(i-min i j).toNat+(min i j+P).toNat=(i+P).toNat:=by omega
 have e2:(j-min i j).toNat+(min i j+P).toNat=(j+P).toNat:=by omega
 rw[e1,e2,hx,hy,S5 _ _ _ (CM _)]
theorem Fl.order{a b:Nat}{x y:Int}(ha:Fl a x)(hb:Fl b y):double.order a b=some (compare x y):=by
 unfold Format.order;obtain⟨s,m,i,e1,hi,hx⟩:=ha;obtain⟨t,k,j,e2,hj,hy⟩:=hb;rw[e1,e2];exact congrArg some (adG 1074 hi hj hx hy)
theorem adH(neg:Bool)(n:Nat):Toward.even.cut neg n 0=n:=by
 simp[Toward.cut,Nat.mod_one]
theorem S6(way:Toward)(neg:Bool)(q drop:Nat)(hq:0<q):way.cut neg (q*2 ^ drop) drop=q:=by
 have hl:drop<=(q*2 ^ drop).log2:=by
  have hne:q*2 ^ drop≠0:=Q0 (FZ hq (pP _));rw[Nat.le_log2 hne];exact anl _ hq
 have hm:min drop ((q*2 ^ drop).log2+2)=drop:=by omega
 have hp:=pP drop;cases way<;>simp[Toward.cut,hm,Nat.shiftLeft_eq,Nat.mul_div_cancel _ hp]
 all_goals omega
theorem adI{m N L:Nat}{i:Int}(Z:Nat)(s:Bool)(hL:L<=52)(hi: -(Z:Int)<=i)(h52:52<=Z)(hN:N≠0)
  (lW:m*2 ^ (i+Z).toNat=N*2 ^ Z):
  Toward.even.cut s (m <<<(i-((L:Int)-52)).toNat) (((L:Int)-52)-i).toNat=N*2 ^ (52-L):=by
 rcases(show i<(L:Int)-52\/(L:Int)-52<=i by omega) with hc|hc
 ·have e0:(i-((L:Int)-52)).toNat=0:=by omega
  rw[e0,abT];have e2:Z=(52-L)+((((L:Int)-52)-i).toNat+(i+Z).toNat):=by omega
  have e3:N*2 ^ Z=N*2 ^ (52-L)*2 ^ (((L:Int)-52)-i).toNat*2 ^ (i+Z).toNat:=by
   rw[BK,BK,<-rG,<-rG,<-e2]
  rw[e3] at lW;have e4:=abU (pP _) lW;rw[e4];exact S6 _ _ _ _ (FZ (abQ hN) (pP _))
 ·have e0:(((L:Int)-52)-i).toNat=0:=by omega
  rw[e0,adH,abP];have e1:(i+Z).toNat=(i-((L:Int)-52)).toNat+(Z-(52-L)):=by omega
  have e2:(52-L)+(Z-(52-L))=Z:=by omega
  rw[e1,rG,<-BK] at lW;have e3:N*2 ^ Z=N*2 ^ (52-L)*2 ^ (Z-(52-L)):=by rw[BK,<-rG,e2]
  rw[e3] at lW;exact abU (pP _) lW
theorem adJ{m N L:Nat}{i:Int}(s:Bool)(hL:L<=52)(hm:m≠0)(hl:i+m.log2=L)(hK2:N*2 ^ (52-L)<2 ^ 53)
  (hk:Toward.even.cut s (m <<<(i-((L:Int)-52)).toNat) (((L:Int)-52)-i).toNat=N*2 ^ (52-L)):
  double.nearest s m i=double.word s ((L+1022)*2 ^ 52+N*2 ^ (52-L)):=by
 have hlast:max (i+m.log2-52) (-1074)=(L:Int)-52:=by omega
 unfold Format.nearest;rw[if_neg hm];have e1:double.leastPlace= -1074:=by decide
 have e2:((double.fractionBits:Nat):Int)=52:=rfl;have e3:double.binade=2 ^ 52:=rfl;have e4:double.infRung=2047*2 ^ 52:=rfl;simp only[e1,e2,e3,e4,hlast,hk];have e5:((L:Int)-52- -1074).toNat=L+1022:=by omega
 rw[e5];generalize N*2 ^ (52-L)=K at*;have e6:(L+1022)*2 ^ 52+K<=2047*2 ^ 52:=by omega
 rw[KC e6]
theorem adK(s:Bool)(L K:Nat)(hL:L<=52)(S7:2 ^ 52<=K)(hK2:K<2 ^ 53):
  double.read (double.word s ((L+1022)*2 ^ 52+K))=.number s K ((L:Int)-52):=by
 unfold Format.read;have e1:double.leastPlace= -1074:=by decide
 have e3:double.binade=2 ^ 52:=rfl;have e4:double.infRung=2047*2 ^ 52:=rfl;have e5:double.signWeight=2 ^ 63:=rfl;have r1:double.word s ((L+1022)*2 ^ 52+K)%2 ^ 63=(L+1022)*2 ^ 52+K:=by
  unfold Format.word;rw[e5];split<;>omega
 have r2:(double.word s ((L+1022)*2 ^ 52+K)/2 ^ 63%2 == 1)=s:=by
  unfold Format.word;rw[e5];cases s
  ·simp only[iP,if_false,beq_eq_false_iff_ne];omega
  ·simp only[if_true,beq_iff_eq];omega
 simp only[e1,e3,e4,e5,r1,r2];rw[if_neg (by omega),if_pos (by omega)]
 have q1:2 ^ 52+((L+1022)*2 ^ 52+K)%2 ^ 52=K:=by omega
 have q2:((L+1022)*2 ^ 52+K)/2 ^ 52-1=L+1022:=by omega
 rw[q1,q2];have q3:(-1074:Int)+((L+1022:Nat):Int)=(L:Int)-52:=by omega
 rw[q3]
theorem S8{s:Bool}{q:Nat}{n p:Int}(hp:0<p)(hq:0<q)(hv:(if s then -1 else 1)*(q:Int)=n*p):(s=true/\n<0)\/(s=false/\0<n):=by
 cases s
 ·right;refine⟨rfl,?_⟩;simp only[iP,if_false,BM] at hv;rcases fk n 0 with h|h|h
  ·have:=Kq h hp;omega
  ·subst h;rw[BN] at hv;omega
  ·exact h
 ·left;refine⟨rfl,?_⟩;simp only[if_true] at hv;rcases fk n 0 with h|h|h
  ·exact h
  ·subst h;rw[BN] at hv;omega
  ·have:=aP h hp;omega
theorem value_of{s:Bool}{N L:Nat}{n:Int}(P:Nat)(hP:P=1074)(hL:L<=52)(hN:n.natAbs=N)(hs:(s=true/\n<0)\/(s=false/\0<n)):
  signed s (N*2 ^ (52-L)) ((L:Int)-52+1074).toNat=n*2 ^ P:=by
 rw[oQ];have e1:((L:Int)-52+1074).toNat=L+1022:=by omega
 rw[e1,BK,<-rG];have e2:52-L+(L+1022)=P:=by omega
 rw[e2,Ky,Int.natCast_pow];have e3:((2:Nat):Int)=2:=rfl;rw[e3];rcases hs with⟨rfl,hs⟩|⟨rfl,hs⟩
 ·have:(N:Int)= -n:=by omega
  rw[this];simp only[if_true];rw[iw,BM,iw,Kr]
 ·have:(N:Int)=n:=by omega
  rw[this];simp only[iP,if_false,BM]
theorem adL(s:Bool)(i:Int):double.read (double.nearest s 0 i)=.number s 0 (-1074):=by
 have e:double.nearest s 0 i=double.word s 0:=by simp[Format.nearest]
 rw[e];cases s<;>decide
theorem adM{n:Int}(Z P:Nat)(hZ:Z=2148)(hP:P=1074){s:Bool}{m:Nat}{i:Int}(hi: -(Z:Int)<=i)
  (hv:signed s m (i+Z).toNat=n*2 ^ Z)(hn:n.natAbs<2 ^ 53):
  ∃s' m' i',double.read (double.nearest s m i)=.number s' m' i'/\ -1074<=i'/\signed s' m' (i'+1074).toNat=n*2 ^ P:=by
 have lW:m*2 ^ (i+Z).toNat=n.natAbs*2 ^ Z:=by
  have:=congrArg Int.natAbs hv;rw[SZ,nK,abS] at this;exact this
 by_cases hm:m=0
 ·subst hm;have hn0:n=0:=by
   rw[zk] at lW;rcases Nat.mul_eq_zero.1 lW.symm with h|h
   ·exact Int.natAbs_eq_zero.1 h
   ·exact absurd h (Q0 (pP _))
  subst hn0;refine⟨s,0, -1074,adL s i,Int.le_refl _,?_⟩;rw[oQ,zk,BN];simp
 ·have hN:n.natAbs≠0:=by
   intro h;rw[h,zk] at lW;rcases Nat.mul_eq_zero.1 lW with h|h
   ·exact absurd h hm
   ·exact absurd h (Q0 (pP _))
  have hl:m.log2+(i+Z).toNat=n.natAbs.log2+Z:=by
   rw[<-SY (i+Z).toNat hm,<-SY Z hN,lW]
  have hL:n.natAbs.log2<=52:=Nat.le_of_lt_succ ((Nat.log2_lt hN (k:=53)).2 hn);have⟨hlo,hhi⟩:=(abR hN (k:=n.natAbs.log2)).1 rfl;have hs:(s=true/\n<0)\/(s=false/\0<n):=by
   rw[oQ] at hv;exact S8 (CM Z) (FZ (abQ hm) (pP _)) hv
  have hk:=adI Z s hL hi (by omega) hN lW
  clear hv lW;generalize hLe:n.natAbs.log2=L at*;have S7:2 ^ 52<=n.natAbs*2 ^ (52-L):=by
   have:2 ^ 52=2 ^ L*2 ^ (52-L):=by rw[<-rG];congr 1;omega
   rw[this];exact zj _ hlo
  have hK2:n.natAbs*2 ^ (52-L)<2 ^ 53:=by
   have:2 ^ 53=2 ^ (L+1)*2 ^ (52-L):=by rw[<-rG];congr 1;omega
   rw[this];exact ank hhi (pP _)
  rw[adJ s hL hm (by omega) hK2 hk]
  exact⟨_,_,_,adK s L _ hL S7 hK2,by omega,value_of P hP hL rfl hs⟩
theorem GS{d:Datum}{n:Int}(h:Dn d n)(hn:n.natAbs<2 ^ 53):Fl (double.write d) n:=by
 obtain⟨s,m,i,rfl,hi,hv⟩:=h;exact adM 2148 1074 rfl rfl hi hv hn
theorem adN(way:Toward)(neg:Bool)(n:Nat):way.cut neg n 0=n:=by
 cases way<;>simp[Toward.cut,Nat.mod_one]
theorem adO{s:Bool}{m:Nat}{i n:Int}(P:Nat)(hi: -(P:Int)<=i)(h:signed s m (i+P).toNat=n*2 ^ P):
  signed s (Toward.zero.cut s (m <<<i.toNat) (-i).toNat) 0=n:=by
 rcases(show 0<=i\/i<0 by omega) with hc|hc
 ·have e0:(-i).toNat=0:=by omega
  rw[e0,adN];have e1:(i+P).toNat=i.toNat+P:=by omega
  rw[e1,zR] at h;have h2:=Q4 (abV (CM P)) h;rw[<-h2];unfold signed;rw[abT]
 ·have e0:i.toNat=0:=by omega
  rw[e0,abT];have lW:m*2 ^ (i+P).toNat=n.natAbs*2 ^ P:=by
   have:=congrArg Int.natAbs h;rw[SZ,nK,abS] at this;exact this
  have e2:P=(-i).toNat+(i+P).toNat:=by omega
  have e3:n.natAbs*2 ^ P=n.natAbs*2 ^ (-i).toNat*2 ^ (i+P).toNat:=by rw[BK,<-rG,<-e2]
  rw[e3] at lW;have hm:=abU (pP _) lW;by_cases hn:n=0
  ·subst hn;have:m=0:=by rw[hm];simp
   subst this;have:Toward.zero.cut s 0 (-i).toNat=0:=by simp[Toward.cut]
   rw[this];cases s<;>rfl
  ·have hN:0<n.natAbs:=Int.natAbs_pos.2 hn;rw[hm,S6 _ _ _ _ hN];have hmp:0<m:=by rw[hm];exact FZ hN (pP _)
   rw[oQ] at h;rcases S8 (CM P) (FZ hmp (pP _)) h with⟨rfl,hs⟩|⟨rfl,hs⟩
   ·rw[oQ];simp only[if_true];omega
   ·rw[oQ];simp only[iP,if_false];omega
theorem Fl.toInt{b:Nat}{n:Int}(h:Fl b n):(double.read b).toInt .zero=some n:=by
 obtain⟨s,m,i,e,hi,hx⟩:=h;rw[e];exact congrArg some (adO 1074 hi hx)
theorem Fl.add{a b:Nat}{x y:Int}(ha:Fl a x)(hb:Fl b y)(hn:(x+y).natAbs<2 ^ 53):∃r,floatBits .add .f64 a b=some r/\Fl r (x+y):=by
 obtain⟨r,h1,h2⟩:=D1.sum ha hb;refine⟨double.write r,?_,GS h2 hn⟩;show(Datum.sum (double.read a) (double.read b)).map double.write=_;rw[h1];rfl
theorem Fl.sub{a b:Nat}{x y:Int}(ha:Fl a x)(hb:Fl b y)(hn:(x-y).natAbs<2 ^ 53):∃r,floatBits .sub .f64 a b=some r/\Fl r (x-y):=by
 obtain⟨r,h1,h2⟩:=D1.sum ha (D1.S3 hb);refine⟨double.write r,?_,GS (n:=x-y) (by rw[Int.sub_eq_add_neg];exact h2) hn⟩
 show(Datum.sum (double.read a) (double.read b).opposite).map double.write=_;rw[h1];rfl
theorem Fl.mul{a b:Nat}{x y:Int}(ha:Fl a x)(hb:Fl b y)(hn:(x*y).natAbs<2 ^ 53):∃r,floatBits .mul .f64 a b=some r/\Fl r (x*y):=by
 obtain⟨r,h1,h2⟩:=D1.product ha hb;refine⟨double.write r,?_,GS h2 hn⟩;show(Datum.product (double.read a) (double.read b)).map double.write=_;rw[h1];rfl
theorem pS{n:Int}(hn:n.natAbs<2 ^ 53):Fl (floatOfInt .f64 n) n:=by
 refine GS (d:=.number (n<0) n.natAbs 0) ⟨_,_,_,rfl,by decide,?_⟩ hn
 have h:=S4 n false ((0:Int)+2148).toNat;have e:(if n=0 then false else decide (n<0))=decide (n<0):=by
  split
  ·rename_i h;subst h;rfl
  ·rfl
 rw[e] at h;exact h
theorem Fl.int{b:Nat}{n:Int}(h:Fl b n)(h1: -9223372036854775808<=n)(h2:n<=9223372036854775807):floatToIntVal .f64 b .i64=some n:=by
 unfold floatToIntVal;have e:(FloatKind.decode .f64 b).toInt .zero=some n:=h.toInt;rw[e];have e1:IntKind.min .i64= -9223372036854775808:=by decide
 have e2:IntKind.max .i64=9223372036854775807:=by decide
 simp only[e1,e2,h1,h2,and_self,if_true]
theorem adP(b:Nat):double.read (Op.negFloat .f64 b)=(double.read b).opposite:=by
 have e:Op.negFloat .f64 b=b ^^^ 2 ^ 63:=rfl;have e1:double.signWeight=2 ^ 63:=rfl;have h1:(b ^^^ 2 ^ 63)%2 ^ 63=b%2 ^ 63:=by rw[Nat.xor_mod_two_pow];simp
 have h2:((b ^^^ 2 ^ 63)/2 ^ 63%2 == 1)= !(b/2 ^ 63%2 == 1):=by
  rw[Nat.xor_div_two_pow];have:(2:Nat) ^ 63/2 ^ 63=1:=by decide
  rw[this];have h3:(b/2 ^ 63 ^^^ 1)%2=(b/2 ^ 63%2) ^^^ 1:=by
   have:=Nat.xor_mod_two_pow (a:=b/2 ^ 63) (b:=1) (n:=1);simpa using this
  rw[h3];rcases Nat.mod_two_eq_zero_or_one (b/2 ^ 63) with h|h<;>rw[h]<;>decide
 unfold Format.read;rw[e,e1];simp only[h1,h2];split
 ·rfl
 ·split
  ·rfl
  ·split<;>rfl
theorem Fl.neg{b:Nat}{n:Int}(h:Fl b n):Fl (Op.negFloat .f64 b) (-n):=by
 unfold Fl;rw[adP];exact D1.S3 h
theorem adQ{a b c d:Nat}{x y u v:Int}(h1:Fl a x)(h2:Fl b y)(h3:Fl c u)(h4:Fl d v)(n1:(x+u).natAbs<2 ^ 53)(n2:(y+v).natAbs<2 ^ 53):
  ∃re im,cSumBits .add .f64 a b c d=some (re,im)/\Fl re (x+u)/\Fl im (y+v):=by
 obtain⟨r,e1,f1⟩:=h1.add h3 n1;obtain⟨i,e2,f2⟩:=h2.add h4 n2;exact⟨r,i,by simp[cSumBits,e1,e2],f1,f2⟩
theorem LO{a b c d:Nat}{x y u v:Int}(h1:Fl a x)(h2:Fl b y)(h3:Fl c u)(h4:Fl d v)(n1:(x-u).natAbs<2 ^ 53)(n2:(y-v).natAbs<2 ^ 53):
  ∃re im,cSumBits .sub .f64 a b c d=some (re,im)/\Fl re (x-u)/\Fl im (y-v):=by
 obtain⟨r,e1,f1⟩:=h1.sub h3 n1;obtain⟨i,e2,f2⟩:=h2.sub h4 n2;exact⟨r,i,by simp[cSumBits,e1,e2],f1,f2⟩
theorem LP{a b c d:Nat}{x y u v:Int}(h1:Fl a x)(h2:Fl b y)(h3:Fl c u)(h4:Fl d v)
  (n1:(x*u).natAbs<2 ^ 53)(n2:(y*v).natAbs<2 ^ 53)(n3:(x*u-y*v).natAbs<2 ^ 53)
  (n4:(x*v).natAbs<2 ^ 53)(n5:(y*u).natAbs<2 ^ 53)(n6:(x*v+y*u).natAbs<2 ^ 53):
  ∃re im,cMulBits a b c d=some (re,im)/\Fl re (x*u-y*v)/\Fl im (x*v+y*u):=by
 obtain⟨ac,e1,f1⟩:=h1.mul h3 n1;obtain⟨bd,e2,f2⟩:=h2.mul h4 n2;obtain⟨re,e3,f3⟩:=f1.sub f2 n3;obtain⟨ad,e4,f4⟩:=h1.mul h4 n4;obtain⟨bc,e5,f5⟩:=h2.mul h3 n5;obtain⟨im,e6,f6⟩:=f4.add f5 n6;exact⟨re,im,by simp[cMulBits,e1,e2,e3,e4,e5,e6],f3,f6⟩
end Go.Proofs.YtkjhhooecopolaaGreatDoor
namespace Go.Proofs.YtkjhhooecopolaaGreatDoor.Ge
theorem LQ{k z:Int}(hk:0<k):(k*z).sign=z.sign:=by
 rw[Q5,pM hk,BM]
theorem S9(g:List Pt):(closing g).length=g.length:=by
 cases g with
 |nil=>rfl
 |cons a r=>simp[closing]
def vR(g:List Pt)(n:Nat):Option Pt:=if n+1<g.length then g[n+1]? else g[0]?
theorem Ta{g:List Pt}{n:Nat}{p q:Pt}(hp:g[n]?=some p)(hq:vR g n=some q):(closing g)[n]?=some (p,q):=by
 cases g with
 |nil=>simp at hp
 |cons a r=>
  show((a::r).zip (r++[a]))[n]?=_;rw[abW];refine⟨hp,?_⟩;unfold vR at hq;by_cases h:n+1<(a::r).length
  ·rw[if_pos h] at hq;simp only[bO] at h;rw[dZ (by omega)]
   simpa using hq
  ·rw[if_neg h] at hq;have hn:n<(a::r).length:=(bT.1 hp).1;simp only[bO] at h hn;have e:n=r.length:=by omega
   rw[e,nI (ae _)];simpa using hq
def jN(g:List Pt)(n:Nat):List (Pt×Pt):=((closing g).take n).filter fun e=>decide (e.1≠e.2)
theorem adR(g:List Pt):jN g 0=[]:=by simp[jN]
theorem LS(g:List Pt):jN g g.length=fH g:=by
 unfold jN fH;rw[<-S9 g,dI]
theorem adS{g:List Pt}{n:Nat}{p q:Pt}(hp:g[n]?=some p)(hq:vR g n=some q)(h:p=q):jN g (n+1)=jN g n:=by
 obtain⟨hlt,he⟩:=bT.1 (Ta hp hq);unfold jN;rw[oK hlt,he,F4];simp[h]
theorem adT{g:List Pt}{n:Nat}{p q:Pt}(hp:g[n]?=some p)(hq:vR g n=some q)(h:p≠q):jN g (n+1)=jN g n++[(p,q)]:=by
 obtain⟨hlt,he⟩:=bT.1 (Ta hp hq);unfold jN;rw[oK hlt,he,F4];simp[h]
theorem LU(g:List Pt)(n:Nat):(jN g n).length<=g.length:=by
 unfold jN;refine dS (F5 _ _) ?_;rw[ig,S9];omega
theorem all_append(a b:List (List Pt)):aa (a++b)=aa a++aa b:=by simp[aa]
theorem adU{p:List (List Pt)}{k:Nat}{g:List Pt}(h:p[k]?=some g):aa (p.take (k+1))=aa (p.take k)++fH g:=by
 obtain⟨hlt,he⟩:=bT.1 h;rw[oK hlt,he,all_append];simp[aa]
theorem LV(B:Nat):∀(p:List (List Pt)),(∀g∈p,g.length<=B)->(aa p).length<=p.length*B
 |[],_=>by simp[aa]
 |g::p,h=>by
  have e:aa (g::p)=fH g++aa p:=tV;have h1:=LV B p (fun x hx=>h x (by simp[hx]))
  have h2:=h g (by simp)
  have h3:(fH g).length<=g.length:=by rw[<-LS];exact LU g _
  rw[e,aS,bO,F6];omega
theorem Tb(B C:Nat):∀(ps:List (List (List Pt))),(∀p∈ps,p.length<=C/\∀g∈p,g.length<=B)->(aa ps.flatten).length<=ps.length*(C*B)
 |[],_=>by simp[aa]
 |p::ps,h=>by
  rw[BO,all_append,aS,bO,F6];have h1:=Tb B C ps (fun x hx=>h x (by simp[hx]))
  have h2:=h p (by simp)
  have h3:=LV B p h2.2;have h4:=zj B h2.1;omega
theorem adV{g:List Pt}{e:Pt×Pt}(h:e∈fH g):e.1∈g/\e.2∈g:=by
 unfold fH at h;have h1:=(jw.1 h).1;cases g with
 |nil=>simp[closing] at h1
 |cons a r=>
  obtain⟨x,y⟩:=e;have h2:=List.of_mem_zip h1;refine⟨h2.1,?_⟩;have:=h2.2;simp at this⊢;rcases this with h|h
  ·exact Or.inr h
  ·exact Or.inl h
theorem adW{rg:List (List Pt)}{e:Pt×Pt}(h:e∈aa rg):∃g∈rg,e.1∈g/\e.2∈g:=by
 unfold aa at h;obtain⟨g,hg,he⟩:=tW.1 h;exact⟨g,hg,adV he⟩
theorem LW{rg:List (List Pt)}{e:Pt×Pt}(h:e∈aa rg):e.1≠e.2:=by
 unfold aa at h;obtain⟨g,hg,he⟩:=tW.1 h;unfold fH at he;simpa using(jw.1 he).2
end Go.Proofs.YtkjhhooecopolaaGreatDoor.Ge
namespace Go.Proofs.YtkjhhooecopolaaGreatDoor
open Go.RowKit
theorem fA(P:Program)(w:World)(a:Addr)(k:FloatKind)(x y:Nat)(m:Mode):(store a (.complex k x y) m).run P w=stored P w a (.complex k x y) m:=run_store P w a _ m rfl
theorem lX(P:Program)(w:World)(a:Addr)(k:FloatKind)(x:Nat)(m:Mode):(store a (.float k x) m).run P w=stored P w a (.float k x) m:=run_store P w a _ m rfl
def sm(z:Int):Prop:=z.natAbs<=33554432
theorem adX(a b:Nat)(w:World):
  Calls Tryz.prog 151 #[.complex .f64 a b] w fun e w'=>e=.returned (.complex .f64 a (Op.negFloat .f64 b))/\w'=w:=by
 have hop:∀w,(Op.unary .neg (.float .f64 b)).run Tryz.prog w=.ok (.float .f64 (Op.negFloat .f64 b)) w:=fun _=>rfl
 go_enter Tryz.func151,Tryz.ntmps151
 go_wp2_with (simp only[hop])
 go_ret
 exact⟨rfl,rfl⟩
theorem oU{x y:Int}(hx:sm x)(hy:sm y):(x*y).natAbs<=1125899906842624:=by
 rw[nK];exact BP hx hy
theorem LX{a b c d:Nat}{x y u v:Int}(h1:Fl a x)(h2:Fl b y)(h3:Fl c u)(h4:Fl d v)(b1:sm x)(b2:sm y)(b3:sm u)(b4:sm v):
  ∃re im,Fl re (x*u+y*v)/\Fl im (x*v-y*u)/\∀w,Calls Tryz.prog 98 #[.complex .f64 a b,.complex .f64 c d] w fun e w'=>e=.returned (.complex .f64 re im)/\w'=w:=by
 have m1:=oU b1 b3;have m2:=oU b2 b4;have m3:=oU b1 b4;have m4:=oU b2 b3;have n2:(-y*v).natAbs<=1125899906842624:=by rw[iw,zm];exact m2
 have n4:(-y*u).natAbs<=1125899906842624:=by rw[iw,zm];exact m4
 obtain⟨re,im,e,f1,f2⟩:=LP h1 h2.neg h3 h4 (by omega) (by omega) (by omega) (by omega) (by omega) (by omega)
 refine⟨re,im,?_,?_,fun w=>?_⟩
 ·have:x*u+y*v=x*u- -y*v:=by rw[iw];omega
  rw[this];exact f1
 ·have:x*v-y*u=x*v+ -y*u:=by rw[iw];omega
  rw[this];exact f2
 ·have hop:=fun t w=>run_complex_mul (P:=Tryz.prog) w t a (Op.negFloat .f64 b) c d re im e
  have HM:Hid (∀w1,Calls Tryz.prog 151 #[.complex .f64 a b] w1 fun e w'=>e=.returned (.complex .f64 a (Op.negFloat .f64 b))/\w'=w1):=fun w1=>adX a b w1
  clear m1 m2 m3 m4 n2 n4 e f1 f2;generalize Op.negFloat .f64 b=nb at*
  go_enter Tryz.func98,Tryz.ntmps98
  go_wp2_with fail
  refine(HM.out _).mono ?_;rintro e w1 ⟨rfl,rfl⟩
  go_wp2_with (simp only)
  go_ret
  exact⟨rfl,rfl⟩
theorem CN{a b c d:Nat}{x y u v:Int}(h1:Fl a x)(h2:Fl b y)(h3:Fl c u)(h4:Fl d v)(b1:sm x)(b2:sm y)(b3:sm u)(b4:sm v):
  ∃im,Fl im (x*v-y*u)/\∀w,Calls Tryz.prog 101 #[.complex .f64 a b,.complex .f64 c d] w fun e w'=>e=.returned (.float .f64 im)/\w'=w:=by
 obtain⟨re,im,_,f2,ht⟩:=LX h1 h2 h3 h4 b1 b2 b3 b4;refine⟨im,f2,fun w=>?_⟩
 have HT:Hid (∀w,Calls Tryz.prog 98 #[.complex .f64 a b,.complex .f64 c d] w fun e w'=>e=.returned (.complex .f64 re im)/\w'=w):=ht
 clear ht
 go_enter Tryz.func101,Tryz.ntmps101
 go_wp2_with fail
 refine(HT.out _).mono ?_;rintro e w1 ⟨rfl,rfl⟩
 go_wp2_with fail
 go_ret
 exact⟨rfl,rfl⟩
theorem adY{a b c d:Nat}{x y u v:Int}(h1:Fl a x)(h2:Fl b y)(h3:Fl c u)(h4:Fl d v)(b1:x.natAbs<=50)(b2:y.natAbs<=50)(b3:u.natAbs<=50)(b4:v.natAbs<=50):
  ∃wa wb sh,Fl wa (u-x)/\Fl wb (v-y)/\Fl sh ((u-x)*y-(v-y)*x)/\∀w,Calls Tryz.prog 64 #[.complex .f64 a b,.complex .f64 c d] w fun e w'=>e=.returned (.agg #[.complex .f64 wa wb,.float .f64 sh])/\Below w.heap.size w w':=by
 obtain⟨wa,wb,e,f1,f2⟩:=LO h3 h4 h1 h2 (by omega) (by omega)
 obtain⟨sh,f3,hl⟩:=CN f1 f2 h1 h2 (by unfold sm;omega) (by unfold sm;omega) (by unfold sm;omega) (by unfold sm;omega)
 refine⟨wa,wb,sh,f1,f2,f3,fun w=>?_⟩
 have hop:=fun t w=>run_complex_sum (P:=Tryz.prog) w .sub (Or.inr rfl) t .f64 c d a b wa wb e
 have HL:Hid (∀w,Calls Tryz.prog 101 #[.complex .f64 wa wb,.complex .f64 a b] w fun e w'=>e=.returned (.float .f64 sh)/\w'=w):=hl
 clear hl
 go_enter Tryz.func64,Tryz.ntmps64
 go_wp2_with (simp only[hop])
 have hE:=heap_alloc_new w (.cells #[.complex .f64 0 0,.float .f64 0] 122);have hb0:Below w.heap.size w (w.alloc (.cells #[.complex .f64 0 0,.float .f64 0] 122)):=(Below.refl _ _).alloc (ae _) _;generalize w.alloc (.cells #[.complex .f64 0 0,.float .f64 0] 122)=W at*;refine(HL.out _).mono ?_;rintro e w1 ⟨rfl,rfl⟩;have e0:w1.cell? ⟨w.heap.size,0,none⟩=some (.complex .f64 0 0):=cell_of hE 0;have e1:w1.cell? ⟨w.heap.size,1,none⟩=some (.float .f64 0):=cell_of hE 1;have z0:w1.frozen? ⟨w.heap.size,0,none⟩=false:=aB hE 0;have z1:w1.frozen? ⟨w.heap.size,1,none⟩=false:=aB hE 1
 go_wp2_with (simp only[fA,lX];go_simp)
 refine bodyPost_ret (v:=.agg #[.complex .f64 wa wb,.float .f64 sh]) (by simp[results,Tryz.results64,go_sem,e0,e1]) rfl ⟨rfl,?_⟩
 exact(hb0.setCell (ae _) _).setCell (ae _) _
end Go.Proofs.YtkjhhooecopolaaGreatDoor

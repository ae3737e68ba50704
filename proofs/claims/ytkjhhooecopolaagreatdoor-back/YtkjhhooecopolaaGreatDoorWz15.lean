import Derived.Test.YtkjhhooecopolaaGreatDoorWz14
set_option maxRecDepth 100000
set_option maxHeartbeats 4000000
namespace Go.Proofs.YtkjhhooecopolaaGreatDoor
open Go.RowKit
namespace Ge
theorem Uz:∀(l:List Nd)(y x:Nd),l.getLast?=some y->cS (l++[x])=if x=y then cS l else cS l++[x]
 |[],_,_,h=>by simp at h
 |[a],y,x,h=>by
  have e:a=y:=by simpa using h
  subst e;have e1:cS [a,x]=if a=x then cS [x] else a::cS [x]:=by simp[cS]
  have e2:∀z:Nd,cS [z]=[z]:=fun z=>by rw[cS]
  show cS [a,x]=_;rw[e1,e2,e2];by_cases hx:x=a
  ·subst hx;rw[aj rfl,aj rfl]
  ·rw[af (fun h=>hx h.symm),af hx]
   rfl
 |a::b::r,y,x,h=>by
  have ih:=Uz (b::r) y x (by simpa using h)
  show cS (a::b::(r++[x]))=_;have e1:cS (a::b::(r++[x]))=if a=b then cS (b::(r++[x])) else a::cS (b::(r++[x])):=by rw[cS]
  have e2:cS (a::b::r)=if a=b then cS (b::r) else a::cS (b::r):=by rw[cS]
  have e3:cS (b::(r++[x]))=if x=y then cS (b::r) else cS (b::r)++[x]:=ih
  rw[e1,e2,e3];by_cases hx:x=y
  ·simp only[hx,gD]
  ·by_cases hab:a=b<;>simp[hx,hab]
theorem UA(zs:List Nd):∀m,m<=zs.length->Lib.compactUpTo zs.toArray m=cS (zs.take m)
 |0,_=>by simp[Lib.compactUpTo,cS]
 |m+1,h=>by
  have hlt:m<zs.length:=h;rw[Lib.compactUpTo_succ,UA zs m (by omega),uX hlt]
  have hg:zs.toArray[m]! =zs[m]:=by rw[ik zs.toArray m (by simpa using hlt)];simp
  rcases Nat.eq_zero_or_pos m with h0|h0
  ·subst h0;rw[Lib.keeps_lt_one _ 0 (by omega),hg]
   simp[cS]
  ·have hp:m-1<zs.length:=by omega
   have hl:(zs.take m).getLast?=some zs[m-1]:=by
    rw[mH,iE,show min m zs.length-1=m-1 by omega,kj,aj (by omega),aC hp]
   have hg2:zs.toArray[m-1]! =zs[m-1]:=by rw[ik zs.toArray (m-1) (by simpa using hp)];simp
   rw[Uz _ _ _ hl];by_cases hx:zs[m]=zs[m-1]
   ·rw[Lib.keeps_neg h0 (by rw[hg,hg2];exact hx),aj hx]
    simp
   ·rw[Lib.keeps_pos (by rw[hg,hg2];exact hx),af hx,hg]
    simp
theorem UB(d:Array Nd):Lib.compactUpTo d d.size=cS d.toList:=by
 have h:=UA d.toList d.toList.length (ay _);rw[gm] at h;simpa using h
end Ge
theorem Dp(L:List Ge.Nd):(dF L).length=L.length*2:=by
 induction L with
 |nil=>rfl
 |cons n L ih=>
  have e:dF (n::L)=ib n++dF L:=by simp[dF]
  rw[e,aX,ih,cN];show 2+_=_;omega
structure RW(w:World)(g cap n:Nat)(d:Array Ge.Nd)(wr:World):Prop where
 size:d.size=n
 own:wr.ownsRow w.heap.size 83 2 (.slice (some ⟨g,0,none⟩) n cap) n (dF d.toList)
 below:Below w.heap.size w wr
theorem UC:∀(l:List Ge.Nd)(k:Nat),(dF l).take (k*2)=dF (l.take k)
 |[],k=>by simp[dF]
 |a::l,0=>by simp[dF]
 |a::l,k+1=>by
  have ih:=UC l k;have e:∀(b:Ge.Nd)(r:List Ge.Nd),dF (b::r)=.complex .f64 (floatOfInt .f64 b.1) (floatOfInt .f64 b.2.1):: .int .i64 b.2.2::dF r:=fun b r=>by simp[dF,ib]
  rw[Bx,e,e,<-ih];have e1:(k+1)*2=k*2+1+1:=by omega
  rw[e1,Bx,Bx]
theorem RW.blk{w:World}{g cap n:Nat}{d:Array Ge.Nd}{wr:World}(h:RW w g cap n d wr):∃cur,w.heap.size<=g/\wr.heap[g]?=some (.cells cur 83 (0,0))/\n<=cap/\cap<=maxLen/\cur.size=cap*2/\cur.toList.take (n*2)=dF d.toList:=by
 rcases h.own.2 with⟨hv,_⟩|⟨g',cap',cur,hv,h1,h2,h3,h4,h5,h6⟩
 ·simp at hv
 ·simp only[Value.slice.injEq,Option.some.injEq,Addr.mk.injEq] at hv;obtain⟨⟨rfl,_⟩,_,rfl⟩:=hv;exact⟨cur,h1,h2,h3,h4,h5,h6⟩
theorem RW.cells{w:World}{g cap n:Nat}{d:Array Ge.Nd}{wr:World}(h:RW w g cap n d wr)(i:Nat)(hi:i<n):
  wr.cell? ⟨g,i*2,none⟩=some (.complex .f64 (floatOfInt .f64 (d[i]!).1) (floatOfInt .f64 (d[i]!).2.1))/\wr.cell? ⟨g,i*2+1,none⟩=some (.int .i64 (d[i]!).2.2)/\wr.frozen? ⟨g,i*2,none⟩=false/\wr.frozen? ⟨g,i*2+1,none⟩=false:=by
 obtain⟨cur,_,hb,_,_,hs,htk⟩:=h.blk;have hd:i<d.size:=by rw[h.size];exact hi
 have hx:d.toList[i]?=some d[i]! :=by rw[jb,nB hd,ik d i hd]
 have k0:=De _ _ _ hx 0 (by omega)
 have k1:=De _ _ _ hx 1 (by omega)
 rw[<-htk,kj,aj (by omega),jb] at k0 k1
 refine⟨?_,?_,bw hb _,bw hb _⟩
 ·unfold World.cell?;rw[hb];exact k0
 ·unfold World.cell?;rw[hb];exact k1
theorem UD:∀(l:List Ge.Nd)(k:Nat)(x:Ge.Nd),k<l.length->dF (l.set k x)=((dF l).set (k*2) (.complex .f64 (floatOfInt .f64 x.1) (floatOfInt .f64 x.2.1))).set (k*2+1) (.int .i64 x.2.2)
 |[],_,_,h=>by simp at h
 |a::l,0,x,_=>by simp[dF,ib]
 |a::l,k+1,x,h=>by
  have ih:=UD l k x (by simpa using h)
  have e:∀(b:Ge.Nd)(r:List Ge.Nd),dF (b::r)=.complex .f64 (floatOfInt .f64 b.1) (floatOfInt .f64 b.2.1):: .int .i64 b.2.2::dF r:=fun b r=>by simp[dF,ib]
  rw[aG,e,e,ih];have e1:(k+1)*2=k*2+1+1:=by omega
  rw[e1,aG,aG,aG,aG]
theorem RW.set{w:World}{g cap n:Nat}{d:Array Ge.Nd}{wr:World}(h:RW w g cap n d wr)(k:Nat)(hk:k<n)(x:Ge.Nd):
  RW w g cap n (d.setIfInBounds k x) ((wr.setCell ⟨g,k*2,none⟩ (.complex .f64 (floatOfInt .f64 x.1) (floatOfInt .f64 x.2.1))).setCell ⟨g,k*2+1,none⟩ (.int .i64 x.2.2)):=by
 obtain⟨cur,hg,hb,hnc,hcm,hs,htk⟩:=h.blk;have hb1:(wr.setCell ⟨g,k*2,none⟩ (.complex .f64 (floatOfInt .f64 x.1) (floatOfInt .f64 x.2.1))).heap[g]?=some (.cells (cur.setIfInBounds (k*2) (.complex .f64 (floatOfInt .f64 x.1) (floatOfInt .f64 x.2.1))) 83 (0,0)):=by
  rw[setCell_eq_setRow wr g (k*2) cur 83 (0,0) _ hb];exact setRow_heap _ _ _ _ _ _ hb
 have hb2:((wr.setCell ⟨g,k*2,none⟩ (.complex .f64 (floatOfInt .f64 x.1) (floatOfInt .f64 x.2.1))).setCell ⟨g,k*2+1,none⟩ (.int .i64 x.2.2)).heap[g]?=some (.cells ((cur.setIfInBounds (k*2) (.complex .f64 (floatOfInt .f64 x.1) (floatOfInt .f64 x.2.1))).setIfInBounds (k*2+1) (.int .i64 x.2.2)) 83 (0,0)):=by
  rw[setCell_eq_setRow _ g (k*2+1) _ 83 (0,0) _ hb1];exact setRow_heap _ _ _ _ _ _ hb1
 have hd:k<d.toList.length:=by rw[iQ,h.size];exact hk
 refine⟨by rw[xe];exact h.size,⟨?_,ah ⟨g,cap,_,rfl,hg,hb2,hnc,hcm,?_,?_⟩⟩,(h.below.setCell hg _).setCell hg _⟩
 ·rw[Dp,iQ,xe,h.size]
 ·rw[xe,xe];exact hs
 ·rw[KB,KB,KB,UD _ _ _ hd,<-htk,aaQ,aaQ]
theorem RW.clear{w:World}{g cap n:Nat}{d:Array Ge.Nd}{wr:World}(h:RW w g cap n d wr)(k:Nat)(hk:k<n)(c:Nat):
  ∃w',(∀ty,(Builtin.clear_ #[138] ty #[.slice (some ⟨g,k*2,none⟩) (n-k) c]).run Tryz.prog wr=.ok (.tuple #[]) w')/\Below w.heap.size w w'/\iy w' (.slice (some ⟨g,0,none⟩) k cap) (d.toList.take k):=by
 obtain⟨cur,hg,hb,hnc,hcm,hs,htk⟩:=h.blk;have hzl:(Builtin.zeroCells (Value.agg #[.complex .f64 0 0,.int .i64 0]).cells (n-k)).toList.length=(n-k)*2:=by
  rw[iQ];unfold Builtin.zeroCells;rw[Array.size_map,Array.size_range];rfl
 have hone:∀v∈(Builtin.zeroCells (Value.agg #[.complex .f64 0 0,.int .i64 0]).cells (n-k)).toList,v.oneCell'=true:=by
  intro v hv;unfold Builtin.zeroCells at hv;simp only[Array.toList_map,aN] at hv;obtain⟨i,_,rfl⟩:=hv;have e:(Value.agg #[.complex .f64 0 0,.int .i64 0]).cells= #[.complex .f64 0 0,.int .i64 0]:=rfl;rw[e];show(#[Value.complex .f64 0 0,.int .i64 0][i%2]!).oneCell'=true;have h2:i%2=0\/i%2=1:=by omega
  rcases h2 with h2|h2<;>rw[h2]<;>rfl
 have hst:=run_storeCells_at Tryz.prog g (k*2) 83 _ 0 cur wr hb (by rw[hzl,hs];omega) hone
 simp only[pD] at hst;rw[hzl] at hst;generalize lD:(Builtin.zeroCells (Value.agg #[.complex .f64 0 0,.int .i64 0]).cells (n-k)).toList=Z at*;have zN:=setRow_heap wr g cur (cur.toList.take (k*2)++Z++cur.toList.drop (k*2+(n-k)*2)).toArray _ _ hb;refine⟨wr.setRow g (cur.toList.take (k*2)++Z++cur.toList.drop (k*2+(n-k)*2)).toArray,fun ty=>?_,?_,?_,ah ⟨g,cap,_,?_,iD _,zN,?_,hcm,?_,?_⟩⟩
 ·obtain⟨m,hm⟩:∃m,n-k=m+1:=⟨n-k-1,by omega⟩
  rw[hm] at hst lD⊢;simp[Builtin.clear_,run_underlying Tryz.underlying138,lD,hst]
 ·refine h.below.trans ⟨rfl,rfl,rfl,by simp,fun j hj=>setRow_other _ _ _ _ (by omega)⟩
 ·rw[Dp]
 ·have e:(d.toList.take k).length=k:=by rw[iE,iQ,h.size];omega
  rw[e]
 ·rw[iE,iQ,h.size];omega
 ·simp only[abe,aX,iE,rp,iQ,hzl,hs];omega
 ·have e:(d.toList.take k).length=k:=by rw[iE,iQ,h.size];omega
  rw[e];show((cur.toList.take (k*2)++_++_).take (k*2))=_;rw[fB,amy (by rw[iE,iQ,hs];omega),BI,Nat.min_self]
  have e2:cur.toList.take (k*2)=(cur.toList.take (n*2)).take (k*2):=by rw[BI,aaX (by omega)]
  rw[e2,htk];exact UC _ _
theorem UE{d:Array Ge.Nd}(h:∀j,j<d.size->Lib.keeps d j=true):Ge.cS d.toList=d.toList:=by
 rw[<-Ge.UB,Lib.compactUpTo_all _ _ h,Lib.range_map_get]
theorem RW.rd{w:World}{g cap n:Nat}{d:Array Ge.Nd}{wr:World}(h:RW w g cap n d wr):iy wr (.slice (some ⟨g,0,none⟩) n cap) d.toList:=by
 obtain⟨cur,hg,hb,hnc,hcm,hs,htk⟩:=h.blk;have e:d.toList.length=n:=by rw[iQ,h.size]
 exact⟨by rw[Dp],ah ⟨g,cap,cur,by rw[e],iD _,hb,by rw[e];exact hnc,hcm,hs,by rw[e];exact htk⟩⟩
theorem UF(x y:Ge.Nd)(hx:dM x.1 x.2.1 x.2.2)(hy:dM y.1 y.2.1 y.2.2)(w:World):
  (Op.equalIn 10000 83 (.agg #[.complex .f64 (floatOfInt .f64 x.1) (floatOfInt .f64 x.2.1),.int .i64 x.2.2]) (.agg #[.complex .f64 (floatOfInt .f64 y.1) (floatOfInt .f64 y.2.1),.int .i64 y.2.2])).run Tryz.prog w=.ok (decide (x=y)) w:=by
 obtain⟨a1,a2⟩:=qD hx;obtain⟨b1,b2⟩:=qD hy;have q1:=rP a1 b1;have q2:=rP a2 b2;obtain⟨x1,x2,x3⟩:=x;obtain⟨y1,y2,y3⟩:=y;simp only at q1 q2⊢;generalize floatOfInt .f64 x1=X1 at*;generalize floatOfInt .f64 x2=X2 at*;generalize floatOfInt .f64 y1=Y1 at*;generalize floatOfInt .f64 y2=Y2 at*;have hdec:decide ((x1,x2,x3)=(y1,y2,y3))=(decide (x1=y1)&&decide (x2=y2)&&decide (x3=y3)):=by
  simp[Prod.mk.injEq,Bool.and_assoc]
 have e1:Op.floatEq .f64 X1 Y1=decide (x1=y1):=q1;have e2:Op.floatEq .f64 X2 Y2=decide (x2=y2):=q2;rw[hdec];rw[run_equalIn_agg w 9999 83 _ _ (by kernel_rfl) (by kernel_rfl)]
 have hc:∀w,(Op.equalIn 9999 81 (.complex .f64 X1 X2) (.complex .f64 Y1 Y2)).run Tryz.prog w=.ok (decide (x1=y1)&&decide (x2=y2)) w:=fun w=>by
  show(Op.equalIn (9998+1) 81 (.complex .f64 X1 X2) (.complex .f64 Y1 Y2)).run Tryz.prog w=_;rw[Op.equalIn,Sem.run_bind,run_underlying Tryz.underlying81,Result.andThen_ok,<-e1,<-e2];rfl
 clear q1 q2 e1 e2 hdec;simp[go_sem,hc]
 by_cases h1:x1=y1<;>by_cases h2:x2=y2<;>by_cases h3:x3=y3<;>simp[h1,h2,h3]
theorem Dq(x y:Ge.Nd)(hx:dM x.1 x.2.1 x.2.2)(hy:dM y.1 y.2.1 y.2.2)(w:World):
  (binOp .eql 83 (.agg #[.complex .f64 (floatOfInt .f64 x.1) (floatOfInt .f64 x.2.1),.int .i64 x.2.2]) (.agg #[.complex .f64 (floatOfInt .f64 y.1) (floatOfInt .f64 y.2.1),.int .i64 y.2.2])).run Tryz.prog w=.ok (.bool (decide (x=y))) w:=by
 rw[run_eql_struct,UF x y hx hy w];rfl
theorem aeR(x y:Ge.Nd)(hx:dM x.1 x.2.1 x.2.2)(hy:dM y.1 y.2.1 y.2.2)(w:World):
  (binOp .neq 83 (.agg #[.complex .f64 (floatOfInt .f64 x.1) (floatOfInt .f64 x.2.1),.int .i64 x.2.2]) (.agg #[.complex .f64 (floatOfInt .f64 y.1) (floatOfInt .f64 y.2.1),.int .i64 y.2.2])).run Tryz.prog w=.ok (.bool (!decide (x=y))) w:=by
 rw[run_neq_struct,UF x y hx hy w];rfl
structure lF(n:Ge.Nd):Prop where
 x:n.1.natAbs<=3000000
 y:n.2.1.natAbs<=3000000
 d:0<n.2.2/\n.2.2<=20000
theorem lF.inn{n:Ge.Nd}(h:lF n):dM n.1 n.2.1 n.2.2:=⟨by have:=h.x;omega,by have:=h.y;omega,by have:=h.d;omega⟩
theorem aeS{a b s c d t:Nat}{l m:Ge.Ln}(hl:oN a b s l)(hm:oN c d t m)(b1:sm l.1)(b2:sm l.2.1)(b3:sm m.1)(b4:sm m.2.1)(w:World):
  Calls Tryz.prog 161 #[.agg #[.complex .f64 a b,.float .f64 s],.agg #[.complex .f64 c d,.float .f64 t]] w fun e w'=>e=.returned (.int .i64 (l.1*m.1+l.2.1*m.2.1).sign)/\Below w.heap.size w w':=by
 obtain⟨re,im,f1,_,ht⟩:=LG hl.a hl.b hm.a hm.b b1 b2 b3 b4;have hc:=fun w=>xU f1 kM w
 have e1:(l.1*m.1+l.2.1*m.2.1-0).sign=(l.1*m.1+l.2.1*m.2.1).sign:=by rw[yQ]
 rw[e1] at hc;have HT:Hid (∀w,Calls Tryz.prog 98 #[.complex .f64 a b,.complex .f64 c d] w fun e w'=>e=.returned (.complex .f64 re im)/\w'=w):=ht
 have HC:Hid (∀w,Calls Tryz.prog 183 #[.float .f64 re,.float .f64 0] w fun r w'=>r=.returned (.int .i64 (l.1*m.1+l.2.1*m.2.1).sign)/\w'=w):=hc
 generalize(l.1*m.1+l.2.1*m.2.1).sign=R at*;clear ht hc f1 e1;have hb0:Below w.heap.size w ((w.alloc (.cells #[.complex .f64 a b,.float .f64 s] 122)).alloc (.cells #[.complex .f64 c d,.float .f64 t] 122)):=((Below.refl _ _).alloc (ay _) _).alloc (by simp) _
 go_enter Tryz.func161,Tryz.ntmps161
 go_wp2_with fail
 refine(HT.out _).mono ?_;rintro e w1 ⟨rfl,rfl⟩
 go_wp2_with fail
 refine(HC.out _).mono ?_;rintro e w2 ⟨rfl,rfl⟩
 go_wp2_with fail
 go_ret
 exact⟨rfl,hb0⟩
structure PB where
 wa:Nat
 wb:Nat
 sh:Nat
 f:Ge.Nd
 t:Ge.Nd
def PB.cells(x:PB):List Value:=[.complex .f64 x.wa x.wb,.float .f64 x.sh,.complex .f64 (floatOfInt .f64 x.f.1) (floatOfInt .f64 x.f.2.1),.int .i64 x.f.2.2,.complex .f64 (floatOfInt .f64 x.t.1) (floatOfInt .f64 x.t.2.1),.int .i64 x.t.2.2]
theorem aeT(x:PB)(hf:lF x.f)(ht:lF x.t):
  ∃n:Ge.Nd,Ge.Can n/\Ge.ax n=(Ge.aW (x.f.1+x.t.1) (x.f.2.2+x.t.2.2),Ge.aW (x.f.2.1+x.t.2.1) (x.f.2.2+x.t.2.2))/\dM n.1 n.2.1 n.2.2/\∀w,Calls Tryz.prog 160 #[.agg x.cells.toArray] w fun e w'=>e=.returned (gZ n)/\Below w.heap.size w w':=by
 obtain⟨a1,a2⟩:=qD hf.inn;obtain⟨b1,b2⟩:=qD ht.inn;have hfx:=hf.x;have hfy:=hf.y;have hfd:=hf.d;have htx:=ht.x;have hty:=ht.y;have htd:=ht.d;obtain⟨re,im,e,f1,f2⟩:=acP a1 a2 b1 b2 (by omega) (by omega)
 obtain⟨n,hc,hq,hn,hN⟩:=Ie (x.f.2.2+x.t.2.2) f1 f2 (by omega) (by omega) (by omega)
 refine⟨n,hc,hq,hn,fun w=>?_⟩
 have HN:Hid (∀w,Calls Tryz.prog 37 #[.complex .f64 re im,.int .i64 (x.f.2.2+x.t.2.2)] w fun e w'=>e=.returned (gZ n)/\Below w.heap.size w w'):=hN
 have hop:=fun t w=>run_complex_sum (P:=Tryz.prog) w .add (ag rfl) t .f64 _ _ _ _ re im e
 unfold gZ at HN⊢;obtain⟨wa,wb,sh,⟨x1,x2,x3⟩,y1,y2,y3⟩:=x;simp only[PB.cells] at*;generalize floatOfInt .f64 x1=X1 at*;generalize floatOfInt .f64 x2=X2 at*;generalize floatOfInt .f64 y1=Y1 at*;generalize floatOfInt .f64 y2=Y2 at*;clear hN hq e f1 f2 a1 a2 b1 b2 hc hn hf ht;generalize floatOfInt .f64 n.1=N1 at*;generalize floatOfInt .f64 n.2.1=N2 at*;have hw3:IntKind.i64.wrap (x3+y3)=x3+y3:=by rw[IntKind.wrap_i64];omega
 have hb0:Below w.heap.size w ((w.alloc (.cells #[.complex .f64 wa wb,.float .f64 sh,.complex .f64 X1 X2,.int .i64 x3,.complex .f64 Y1 Y2,.int .i64 y3] 171)).alloc (.cells #[.complex .f64 0 0,.int .i64 0] 83)):=((Below.refl _ _).alloc (ay _) _).alloc (by simp) _
 have hE:=heap_alloc_new (w.alloc (.cells #[.complex .f64 wa wb,.float .f64 sh,.complex .f64 X1 X2,.int .i64 x3,.complex .f64 Y1 Y2,.int .i64 y3] 171)) (.cells #[.complex .f64 0 0,.int .i64 0] 83);have hz:(w.alloc (.cells #[.complex .f64 wa wb,.float .f64 sh,.complex .f64 X1 X2,.int .i64 x3,.complex .f64 Y1 Y2,.int .i64 y3] 171)).heap.size=w.heap.size+1:=by simp
 have hz2:((w.alloc (.cells #[.complex .f64 wa wb,.float .f64 sh,.complex .f64 X1 X2,.int .i64 x3,.complex .f64 Y1 Y2,.int .i64 y3] 171)).alloc (.cells #[.complex .f64 0 0,.int .i64 0] 83)).heap.size=w.heap.size+2:=by simp
 rw[hz] at hE
 go_enter Tryz.func160,Tryz.ntmps160
 go_wp2_with (simp only[hop])
 generalize(w.alloc (.cells #[.complex .f64 wa wb,.float .f64 sh,.complex .f64 X1 X2,.int .i64 x3,.complex .f64 Y1 Y2,.int .i64 y3] 171)).alloc (.cells #[.complex .f64 0 0,.int .i64 0] 83)=W at*;refine(HN.out _).mono ?_;rintro e w1 ⟨rfl,hb1⟩;have mS:=(hb1.block (w.heap.size+1) (by omega)).trans hE
 have e0:w1.cell? ⟨w.heap.size+1,0,none⟩=some (.complex .f64 0 0):=cell_of mS 0;have e1:w1.cell? ⟨w.heap.size+1,1,none⟩=some (.int .i64 0):=cell_of mS 1;have z0:w1.frozen? ⟨w.heap.size+1,0,none⟩=false:=bw mS 0;have z1:w1.frozen? ⟨w.heap.size+1,1,none⟩=false:=bw mS 1;have aw:=hb0.trans (hb1.mono hb0.size);clear hop hw3
 go_wp2_with (simp only[fW];go_simp)
 refine bodyPost_ret (v:=.agg #[.complex .f64 N1 N2,.int .i64 n.2.2]) (by simp[results,Tryz.results160,go_sem,e0,e1]) rfl ⟨rfl,?_⟩
 exact(aw.setCell (p:=⟨w.heap.size+1,0,none⟩) (ny _) _).setCell (p:=⟨w.heap.size+1,1,none⟩) (ny _) _
def bn(x y:Ge.Nd):Int:=Ge.pc (Ge.ax x) (Ge.ax y)
def Ae(x y:PB):Int:=if bn x.f y.f=0 then bn x.t y.t else bn x.f y.f
structure dh(x:PB):Prop where
 f:lF x.f
 t:lF x.t
 cf:Ge.Can x.f
 ct:Ge.Can x.t
theorem aeU(a1 b1 s1 a2 b2 s2 F1 F2 T1 T2 G1 G2 H1 H2:Nat)(F3 T3 G3 H3 p q R:Int)(w:World)
  (HO:Hid (∀b cap w,w.cell? ⟨b,0,none⟩=some (.int .i64 p)->w.cell? ⟨b,1,none⟩=some (.int .i64 q)->Calls Tryz.prog 182 #[.slice (some ⟨b,0,none⟩) 2 cap] w fun r w'=>r=.returned (.int .i64 R)/\w'=w))
  (HF:Hid (∀w,Calls Tryz.prog 125 #[.agg #[.complex .f64 F1 F2,.int .i64 F3],.agg #[.complex .f64 G1 G2,.int .i64 G3]] w fun e w'=>e=.returned (.int .i64 p)/\Below w.heap.size w w'/\w.drawn<=w'.drawn))
  (HT:Hid (∀w,Calls Tryz.prog 125 #[.agg #[.complex .f64 T1 T2,.int .i64 T3],.agg #[.complex .f64 H1 H2,.int .i64 H3]] w fun e w'=>e=.returned (.int .i64 q)/\Below w.heap.size w w'/\w.drawn<=w'.drawn)):
  Calls Tryz.prog 157 #[.agg #[.complex .f64 a1 b1,.float .f64 s1,.complex .f64 F1 F2,.int .i64 F3,.complex .f64 T1 T2,.int .i64 T3],.agg #[.complex .f64 a2 b2,.float .f64 s2,.complex .f64 G1 G2,.int .i64 G3,.complex .f64 H1 H2,.int .i64 H3]] w fun e w'=>e=.returned (.int .i64 R)/\Below w.heap.size w w'/\w.drawn<=w'.drawn:=by
 have hX:((w.alloc (.cells #[.complex .f64 a1 b1,.float .f64 s1,.complex .f64 F1 F2,.int .i64 F3,.complex .f64 T1 T2,.int .i64 T3] 171)).alloc (.cells #[.complex .f64 a2 b2,.float .f64 s2,.complex .f64 G1 G2,.int .i64 G3,.complex .f64 H1 H2,.int .i64 H3] 171)).heap[w.heap.size]?=some (.cells #[.complex .f64 a1 b1,.float .f64 s1,.complex .f64 F1 F2,.int .i64 F3,.complex .f64 T1 T2,.int .i64 T3] 171 (0,0)):=by
  rw[Below.heap_alloc _ _ _ (by simp)];exact heap_alloc_new _ _
 have hY:((w.alloc (.cells #[.complex .f64 a1 b1,.float .f64 s1,.complex .f64 F1 F2,.int .i64 F3,.complex .f64 T1 T2,.int .i64 T3] 171)).alloc (.cells #[.complex .f64 a2 b2,.float .f64 s2,.complex .f64 G1 G2,.int .i64 G3,.complex .f64 H1 H2,.int .i64 H3] 171)).heap[w.heap.size+1]?=some (.cells #[.complex .f64 a2 b2,.float .f64 s2,.complex .f64 G1 G2,.int .i64 G3,.complex .f64 H1 H2,.int .i64 H3] 171 (0,0)):=by
  have:=heap_alloc_new (w.alloc (.cells #[.complex .f64 a1 b1,.float .f64 s1,.complex .f64 F1 F2,.int .i64 F3,.complex .f64 T1 T2,.int .i64 T3] 171)) (.cells #[.complex .f64 a2 b2,.float .f64 s2,.complex .f64 G1 G2,.int .i64 G3,.complex .f64 H1 H2,.int .i64 H3] 171);simpa using this
 have hb0:Below w.heap.size w ((w.alloc (.cells #[.complex .f64 a1 b1,.float .f64 s1,.complex .f64 F1 F2,.int .i64 F3,.complex .f64 T1 T2,.int .i64 T3] 171)).alloc (.cells #[.complex .f64 a2 b2,.float .f64 s2,.complex .f64 G1 G2,.int .i64 G3,.complex .f64 H1 H2,.int .i64 H3] 171)):=((Below.refl _ _).alloc (ay _) _).alloc (by simp) _
 have dJ:w.heap.size+2=((w.alloc (.cells #[.complex .f64 a1 b1,.float .f64 s1,.complex .f64 F1 F2,.int .i64 F3,.complex .f64 T1 T2,.int .i64 T3] 171)).alloc (.cells #[.complex .f64 a2 b2,.float .f64 s2,.complex .f64 G1 G2,.int .i64 G3,.complex .f64 H1 H2,.int .i64 H3] 171)).heap.size:=by simp
 have hd0:w.drawn<=((w.alloc (.cells #[.complex .f64 a1 b1,.float .f64 s1,.complex .f64 F1 F2,.int .i64 F3,.complex .f64 T1 T2,.int .i64 T3] 171)).alloc (.cells #[.complex .f64 a2 b2,.float .f64 s2,.complex .f64 G1 G2,.int .i64 G3,.complex .f64 H1 H2,.int .i64 H3] 171)).drawn:=ay _
 go_enter Tryz.func157,Tryz.ntmps157
 go_wp2_with fail
 generalize(w.alloc (.cells #[.complex .f64 a1 b1,.float .f64 s1,.complex .f64 F1 F2,.int .i64 F3,.complex .f64 T1 T2,.int .i64 T3] 171)).alloc (.cells #[.complex .f64 a2 b2,.float .f64 s2,.complex .f64 G1 G2,.int .i64 G3,.complex .f64 H1 H2,.int .i64 H3] 171)=W at*;generalize hB:w.heap.size=B at*;have cZ:B<W.heap.size:=by omega
 have hzb:B+1<W.heap.size:=by omega
 have a0:W.cell? ⟨B,2,none⟩=some (.complex .f64 F1 F2):=cell_of hX 2;have a1:W.cell? ⟨B,3,none⟩=some (.int .i64 F3):=cell_of hX 3;have a2:W.cell? ⟨B,4,none⟩=some (.complex .f64 T1 T2):=cell_of hX 4;have a3:W.cell? ⟨B,5,none⟩=some (.int .i64 T3):=cell_of hX 5;have a4:W.cell? ⟨B+1,2,none⟩=some (.complex .f64 G1 G2):=cell_of hY 2;have a5:W.cell? ⟨B+1,3,none⟩=some (.int .i64 G3):=cell_of hY 3;have a6:W.cell? ⟨B+1,4,none⟩=some (.complex .f64 H1 H2):=cell_of hY 4;have a7:W.cell? ⟨B+1,5,none⟩=some (.int .i64 H3):=cell_of hY 5;clear hX hY
 go_region_held3 (fun w'=>w'.cell? ⟨B,2,none⟩=some (.complex .f64 F1 F2)/\w'.cell? ⟨B,3,none⟩=some (.int .i64 F3)/\w'.cell? ⟨B,4,none⟩=some (.complex .f64 T1 T2)/\w'.cell? ⟨B,5,none⟩=some (.int .i64 T3)/\w'.cell? ⟨B+1,2,none⟩=some (.complex .f64 G1 G2)/\w'.cell? ⟨B+1,3,none⟩=some (.int .i64 G3)/\w'.cell? ⟨B+1,4,none⟩=some (.complex .f64 H1 H2)/\w'.cell? ⟨B+1,5,none⟩=some (.int .i64 H3)) (go_keep) (first
   |(go_at_call_of 125 (Value.agg #[Value.complex FloatKind.f64 F1 F2,Value.int IntKind.i64 F3]);refine(HF.out _).mono ?_;rintro e w6 ⟨rfl,aF,Db⟩;have iV:B<w6.heap.size:=bu cZ aF.size;have kN:B+1<w6.heap.size:=bu hzb aF.size;have b0:=(aF.cell (p:=⟨B,2,none⟩) cZ).trans a0;have b1:=(aF.cell (p:=⟨B,3,none⟩) cZ).trans a1;have b2:=(aF.cell (p:=⟨B,4,none⟩) cZ).trans a2;have b3:=(aF.cell (p:=⟨B,5,none⟩) cZ).trans a3;have b4:=(aF.cell (p:=⟨B+1,2,none⟩) hzb).trans a4;have b5:=(aF.cell (p:=⟨B+1,3,none⟩) hzb).trans a5;have b6:=(aF.cell (p:=⟨B+1,4,none⟩) hzb).trans a6;have b7:=(aF.cell (p:=⟨B+1,5,none⟩) hzb).trans a7)
   |(go_at_call_of 125 (Value.agg #[Value.complex FloatKind.f64 T1 T2,Value.int IntKind.i64 T3]);refine(HT.out _).mono ?_;rintro e w7 ⟨rfl,aV,Dc⟩;have pI:B<w7.heap.size:=bu iV aV.size;have hvb:B+1<w7.heap.size:=bu kN aV.size;have c0:=(aV.cell (p:=⟨B,2,none⟩) iV).trans b0;have c1:=(aV.cell (p:=⟨B,3,none⟩) iV).trans b1;have c2:=(aV.cell (p:=⟨B,4,none⟩) iV).trans b2;have c3:=(aV.cell (p:=⟨B,5,none⟩) iV).trans b3;have c4:=(aV.cell (p:=⟨B+1,2,none⟩) kN).trans b4;have c5:=(aV.cell (p:=⟨B+1,3,none⟩) kN).trans b5;have c6:=(aV.cell (p:=⟨B+1,4,none⟩) kN).trans b6;have c7:=(aV.cell (p:=⟨B+1,5,none⟩) kN).trans b7)
   |(go_at_call 182;refine(HO.out _ _ _ (cell_of (heap_alloc_new _ _) 0) (cell_of (heap_alloc_new _ _) 1)).mono ?_;rintro e w8 ⟨rfl,qy⟩;have nE:Below w7.heap.size w7 w8:=(by(rw[qy];exact(Below.refl _ _).alloc (ay _) _));have UG:w7.drawn<=w8.drawn:=(by(subst qy;exact ay _));clear qy;have d0:=(nE.cell (p:=⟨B,2,none⟩) pI).trans c0;have d1:=(nE.cell (p:=⟨B,3,none⟩) pI).trans c1;have d2:=(nE.cell (p:=⟨B,4,none⟩) pI).trans c2;have d3:=(nE.cell (p:=⟨B,5,none⟩) pI).trans c3;have d4:=(nE.cell (p:=⟨B+1,2,none⟩) hvb).trans c4;have d5:=(nE.cell (p:=⟨B+1,3,none⟩) hvb).trans c5;have d6:=(nE.cell (p:=⟨B+1,4,none⟩) hvb).trans c6;have d7:=(nE.cell (p:=⟨B+1,5,none⟩) hvb).trans c7))
 all_goals
  have aw:=((hb0.drew.trans (aF.mono (eJ cZ))).trans (aV.mono (eJ iV))).trans (nE.mono (eJ pI));have HD:Hid (w.drawn<=w8.drawn):=by
   have h1:W.drawn<=W.drew.drawn:=ny _;exact fg hd0 (fg h1 (fg Db (fg Dc UG)))
  clear aF aV nE hb0 Db Dc UG hd0
  go_wp2_with fail
  go_ret
  exact⟨rfl,by rw[hB];exact aw,HD.out⟩
theorem aeV(x y:PB)(hx:dh x)(hy:dh y)(w:World):
  Calls Tryz.prog 157 #[.agg x.cells.toArray,.agg y.cells.toArray] w fun r w'=>r=.returned (.int .i64 (Ae x y))/\Below w.heap.size w w'/\w.drawn<=w'.drawn:=
 aeU _ _ _ _ _ _ _ _ _ _ _ _ _ _ _ _ _ _ _ _ _ w (fun b cap w h0 h1=>Ii _ _ b cap w h0 h1) (fun w=>Dd x.f y.f hx.f.inn hy.f.inn hx.cf hy.cf w) (fun w=>Dd x.t y.t hx.t.inn hy.t.inn hx.ct hy.ct w)
theorem aeW(a1 b1 s1 a2 b2 s2 F1 F2 T1 T2 G1 G2 H1 H2:Nat)(F3 T3 G3 H3:Int)(p q:Bool)(w:World)
  (CD:∀w,(binOp .eql 83 (.agg #[.complex .f64 F1 F2,.int .i64 F3]) (.agg #[.complex .f64 G1 G2,.int .i64 G3])).run Tryz.prog w=.ok (.bool p) w)
  (vH:∀w,(binOp .eql 83 (.agg #[.complex .f64 T1 T2,.int .i64 T3]) (.agg #[.complex .f64 H1 H2,.int .i64 H3])).run Tryz.prog w=.ok (.bool q) w):
  Calls Tryz.prog 159 #[.agg #[.complex .f64 a1 b1,.float .f64 s1,.complex .f64 F1 F2,.int .i64 F3,.complex .f64 T1 T2,.int .i64 T3],.agg #[.complex .f64 a2 b2,.float .f64 s2,.complex .f64 G1 G2,.int .i64 G3,.complex .f64 H1 H2,.int .i64 H3]] w fun e w'=>e=.returned (.bool (p&&q))/\Below w.heap.size w w':=by
 have hb0:Below w.heap.size w ((w.alloc (.cells #[.complex .f64 a1 b1,.float .f64 s1,.complex .f64 F1 F2,.int .i64 F3,.complex .f64 T1 T2,.int .i64 T3] 171)).alloc (.cells #[.complex .f64 a2 b2,.float .f64 s2,.complex .f64 G1 G2,.int .i64 G3,.complex .f64 H1 H2,.int .i64 H3] 171)):=((Below.refl _ _).alloc (ay _) _).alloc (by simp) _
 cases p
 ·go_enter Tryz.func159,Tryz.ntmps159
  go_wp2_with (simp only[CD,vH])
  go_ret
  exact⟨rfl,hb0⟩
 ·go_enter Tryz.func159,Tryz.ntmps159
  go_wp2_with (simp only[CD,vH])
  go_ret
  exact⟨rfl,hb0⟩
theorem UH(x y:PB)(hx:dh x)(hy:dh y)(w:World):
  Calls Tryz.prog 159 #[.agg x.cells.toArray,.agg y.cells.toArray] w fun r w'=>r=.returned (.bool (decide (x.f=y.f)&&decide (x.t=y.t)))/\Below w.heap.size w w':=
 aeW _ _ _ _ _ _ _ _ _ _ _ _ _ _ _ _ _ _ _ _ w (fun w=>Dq x.f y.f hx.f.inn hy.f.inn w) (fun w=>Dq x.t y.t hx.t.inn hy.t.inn w)
def PB.rev(x:PB):PB:=⟨Op.negFloat .f64 x.wa,Op.negFloat .f64 x.wb,Op.negFloat .f64 x.sh,x.t,x.f⟩
theorem aeX(a b s A B' S F1 F2 T1 T2:Nat)(F3 T3:Int)(w:World)
  (HR:Hid (∀w,Calls Tryz.prog 162 #[.agg #[.complex .f64 a b,.float .f64 s]] w fun e w'=>e=.returned (.agg #[.complex .f64 A B',.float .f64 S])/\Below w.heap.size w w')):
  Calls Tryz.prog 107 #[.agg #[.complex .f64 a b,.float .f64 s,.complex .f64 F1 F2,.int .i64 F3,.complex .f64 T1 T2,.int .i64 T3]] w fun e w'=>e=.returned (.agg #[.complex .f64 A B',.float .f64 S,.complex .f64 T1 T2,.int .i64 T3,.complex .f64 F1 F2,.int .i64 F3])/\Below w.heap.size w w':=by
 have hX:((w.alloc (.cells #[.complex .f64 a b,.float .f64 s,.complex .f64 F1 F2,.int .i64 F3,.complex .f64 T1 T2,.int .i64 T3] 171)).alloc (.cells #[.complex .f64 0 0,.float .f64 0,.complex .f64 0 0,.int .i64 0,.complex .f64 0 0,.int .i64 0] 171)).heap[w.heap.size]?=some (.cells #[.complex .f64 a b,.float .f64 s,.complex .f64 F1 F2,.int .i64 F3,.complex .f64 T1 T2,.int .i64 T3] 171 (0,0)):=by
  rw[Below.heap_alloc _ _ _ (by simp)];exact heap_alloc_new _ _
 have hY:((w.alloc (.cells #[.complex .f64 a b,.float .f64 s,.complex .f64 F1 F2,.int .i64 F3,.complex .f64 T1 T2,.int .i64 T3] 171)).alloc (.cells #[.complex .f64 0 0,.float .f64 0,.complex .f64 0 0,.int .i64 0,.complex .f64 0 0,.int .i64 0] 171)).heap[w.heap.size+1]?=some (.cells #[.complex .f64 0 0,.float .f64 0,.complex .f64 0 0,.int .i64 0,.complex .f64 0 0,.int .i64 0] 171 (0,0)):=by
  have:=heap_alloc_new (w.alloc (.cells #[.complex .f64 a b,.float .f64 s,.complex .f64 F1 F2,.int .i64 F3,.complex .f64 T1 T2,.int .i64 T3] 171)) (.cells #[.complex .f64 0 0,.float .f64 0,.complex .f64 0 0,.int .i64 0,.complex .f64 0 0,.int .i64 0] 171);simpa using this
 have hb0:Below w.heap.size w ((w.alloc (.cells #[.complex .f64 a b,.float .f64 s,.complex .f64 F1 F2,.int .i64 F3,.complex .f64 T1 T2,.int .i64 T3] 171)).alloc (.cells #[.complex .f64 0 0,.float .f64 0,.complex .f64 0 0,.int .i64 0,.complex .f64 0 0,.int .i64 0] 171)):=((Below.refl _ _).alloc (ay _) _).alloc (by simp) _
 have dJ:w.heap.size+2=((w.alloc (.cells #[.complex .f64 a b,.float .f64 s,.complex .f64 F1 F2,.int .i64 F3,.complex .f64 T1 T2,.int .i64 T3] 171)).alloc (.cells #[.complex .f64 0 0,.float .f64 0,.complex .f64 0 0,.int .i64 0,.complex .f64 0 0,.int .i64 0] 171)).heap.size:=by simp
 go_enter Tryz.func107,Tryz.ntmps107
 go_wp2_with fail
 generalize(w.alloc (.cells #[.complex .f64 a b,.float .f64 s,.complex .f64 F1 F2,.int .i64 F3,.complex .f64 T1 T2,.int .i64 T3] 171)).alloc (.cells #[.complex .f64 0 0,.float .f64 0,.complex .f64 0 0,.int .i64 0,.complex .f64 0 0,.int .i64 0] 171)=W at*;generalize hB:w.heap.size=B at*;have cZ:B<W.heap.size:=by omega
 have hzb:B+1<W.heap.size:=by omega
 have a0:W.cell? ⟨B,0,none⟩=some (.complex .f64 a b):=cell_of hX 0;have a1:W.cell? ⟨B,1,none⟩=some (.float .f64 s):=cell_of hX 1;have a2:W.cell? ⟨B,2,none⟩=some (.complex .f64 F1 F2):=cell_of hX 2;have a3:W.cell? ⟨B,3,none⟩=some (.int .i64 F3):=cell_of hX 3;have a4:W.cell? ⟨B,4,none⟩=some (.complex .f64 T1 T2):=cell_of hX 4;have a5:W.cell? ⟨B,5,none⟩=some (.int .i64 T3):=cell_of hX 5;have z0:W.frozen? ⟨B+1,0,none⟩=false:=bw hY 0;have z1:W.frozen? ⟨B+1,1,none⟩=false:=bw hY 1;have z2:W.frozen? ⟨B+1,2,none⟩=false:=bw hY 2;have z3:W.frozen? ⟨B+1,3,none⟩=false:=bw hY 3;have z4:W.frozen? ⟨B+1,4,none⟩=false:=bw hY 4;have z5:W.frozen? ⟨B+1,5,none⟩=false:=bw hY 5
 go_region_held3 (fun w'=>w'.cell? ⟨B,0,none⟩=some (.complex .f64 a b)/\w'.cell? ⟨B,1,none⟩=some (.float .f64 s)/\w'.cell? ⟨B,2,none⟩=some (.complex .f64 F1 F2)/\w'.cell? ⟨B,3,none⟩=some (.int .i64 F3)/\w'.cell? ⟨B,4,none⟩=some (.complex .f64 T1 T2)/\w'.cell? ⟨B,5,none⟩=some (.int .i64 T3)/\w'.frozen? ⟨B+1,0,none⟩=false/\w'.frozen? ⟨B+1,1,none⟩=false/\w'.frozen? ⟨B+1,2,none⟩=false/\w'.frozen? ⟨B+1,3,none⟩=false/\w'.frozen? ⟨B+1,4,none⟩=false/\w'.frozen? ⟨B+1,5,none⟩=false) (go_keep) (first
   |(go_at_call 162;refine(HR.out _).mono ?_;rintro e w5 ⟨rfl,az⟩;have b0:=(az.cell (p:=⟨B,0,none⟩) cZ).trans a0;have b1:=(az.cell (p:=⟨B,1,none⟩) cZ).trans a1;have b2:=(az.cell (p:=⟨B,2,none⟩) cZ).trans a2;have b3:=(az.cell (p:=⟨B,3,none⟩) cZ).trans a3;have b4:=(az.cell (p:=⟨B,4,none⟩) cZ).trans a4;have b5:=(az.cell (p:=⟨B,5,none⟩) cZ).trans a5;have mR:=(az.block (B+1) hzb).trans hY;have y0:w5.frozen? ⟨B+1,0,none⟩=false:=bw mR 0;have y1:w5.frozen? ⟨B+1,1,none⟩=false:=bw mR 1;have y2:w5.frozen? ⟨B+1,2,none⟩=false:=bw mR 2;have y3:w5.frozen? ⟨B+1,3,none⟩=false:=bw mR 3;have y4:w5.frozen? ⟨B+1,4,none⟩=false:=bw mR 4;have y5:w5.frozen? ⟨B+1,5,none⟩=false:=bw mR 5;have e0:w5.cell? ⟨B+1,0,none⟩=some (.complex .f64 0 0):=cell_of mR 0;have e1:w5.cell? ⟨B+1,1,none⟩=some (.float .f64 0):=cell_of mR 1;have e2:w5.cell? ⟨B+1,2,none⟩=some (.complex .f64 0 0):=cell_of mR 2;have e3:w5.cell? ⟨B+1,3,none⟩=some (.int .i64 0):=cell_of mR 3;have e4:w5.cell? ⟨B+1,4,none⟩=some (.complex .f64 0 0):=cell_of mR 4;have e5:w5.cell? ⟨B+1,5,none⟩=some (.int .i64 0):=cell_of mR 5)
   |(simp only[fW,oD];go_simp))
 all_goals
  go_wp2_with fail
  refine bodyPost_ret (v:=.agg #[.complex .f64 A B',.float .f64 S,.complex .f64 T1 T2,.int .i64 T3,.complex .f64 F1 F2,.int .i64 F3]) (by simp[results,Tryz.results107,go_sem,e0,e1,e2,e3,e4,e5]) rfl ⟨rfl,?_⟩
  have aw:=hb0.drew.trans (az.mono (eJ cZ));rw[hB];exact((((((aw.setCell (p:=⟨B+1,0,none⟩) (ny _) _).setCell (p:=⟨B+1,1,none⟩) (ny _) _).setCell (p:=⟨B+1,2,none⟩) (ny _) _).setCell (p:=⟨B+1,3,none⟩) (ny _) _).setCell (p:=⟨B+1,4,none⟩) (ny _) _).setCell (p:=⟨B+1,5,none⟩) (ny _) _)
theorem aeY(x:PB)(w:World):
  Calls Tryz.prog 107 #[.agg x.cells.toArray] w fun e w'=>e=.returned (.agg x.rev.cells.toArray)/\Below w.heap.size w w':=
 aeX _ _ _ _ _ _ _ _ _ _ _ _ w (fun w=>T9 _ _ _ w)
theorem UI{w w':World}{v:Value}{es:List Ed}(h:iW w v es)(hb:Below w.heap.size w w'):iW w' v es:=by
 obtain⟨xs,h1,h2,h3⟩:=h;exact⟨xs,h1,Ta h2 fun k cur hc=>hb.block k (lt_of_heap hc),h3⟩
end Go.Proofs.YtkjhhooecopolaaGreatDoor

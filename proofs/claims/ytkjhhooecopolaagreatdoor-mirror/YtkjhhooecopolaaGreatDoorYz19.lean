import Derived.Test.YtkjhhooecopolaaGreatDoorYz18
set_option maxRecDepth 100000
set_option maxHeartbeats 4000000
namespace Go.Proofs.YtkjhhooecopolaaGreatDoor
open Go.RowKit
namespace Ge
theorem Wj:∀(l:List Nd)(y x:Nd),l.getLast?=some y->cL (l++[x])=if x=y then cL l else cL l++[x]
 |[],_,_,h=>by simp at h
 |[a],y,x,h=>by
  have e:a=y:=by simpa using h
  subst e;have e1:cL [a,x]=if a=x then cL [x] else a::cL [x]:=by simp[cL]
  have e2:∀z:Nd,cL [z]=[z]:=fun z=>by rw[cL]
  show cL [a,x]=_;rw[e1,e2,e2];by_cases hx:x=a
  ·subst hx;rw[ah rfl,ah rfl]
  ·rw[aa (fun h=>hx h.symm),aa hx]
   rfl
 |a::b::r,y,x,h=>by
  have ih:=Wj (b::r) y x (by simpa using h)
  show cL (a::b::(r++[x]))=_;have e1:cL (a::b::(r++[x]))=if a=b then cL (b::(r++[x])) else a::cL (b::(r++[x])):=by rw[cL]
  have e2:cL (a::b::r)=if a=b then cL (b::r) else a::cL (b::r):=by rw[cL]
  have e3:cL (b::(r++[x]))=if x=y then cL (b::r) else cL (b::r)++[x]:=ih
  rw[e1,e2,e3];by_cases hx:x=y
  ·simp only[hx,fZ]
  ·by_cases hab:a=b<;>simp[hx,hab]
theorem Wl(zs:List Nd):∀m,m<=zs.length->Lib.compactUpTo zs.toArray m=cL (zs.take m)
 |0,_=>by simp[Lib.compactUpTo,cL]
 |m+1,h=>by
  have hlt:m<zs.length:=h;rw[Lib.compactUpTo_succ,Wl zs m (by omega),oY hlt]
  have hg:zs.toArray[m]! =zs[m]:=by rw[iz zs.toArray m (by simpa using hlt)];simp
  rcases Nat.eq_zero_or_pos m with h0|h0
  ·subst h0;rw[Lib.keeps_lt_one _ 0 (by omega),hg]
   simp[cL]
  ·have hp:m-1<zs.length:=by omega
   have hl:(zs.take m).getLast?=some zs[m-1]:=by
    rw[pY,iy,show min m zs.length-1=m-1 by omega,kC,ah (by omega),aD hp]
   have hg2:zs.toArray[m-1]! =zs[m-1]:=by rw[iz zs.toArray (m-1) (by simpa using hp)];simp
   rw[Wj _ _ _ hl];by_cases hx:zs[m]=zs[m-1]
   ·rw[Lib.keeps_neg h0 (by rw[hg,hg2];exact hx),ah hx]
    simp
   ·rw[Lib.keeps_pos (by rw[hg,hg2];exact hx),aa hx,hg]
    simp
theorem Wm(d:Array Nd):Lib.compactUpTo d d.size=cL d.toList:=by
 have h:=Wl d.toList d.toList.length (ai _);rw[dN] at h;simpa using h
end Ge
theorem El(L:List Ge.Nd):(dv L).length=L.length*2:=by
 induction L with
 |nil=>rfl
 |cons n L ih=>
  have e:dv (n::L)=ij n++dv L:=by simp[dv]
  rw[e,aX,ih,bW];show 2+_=_;omega
structure RW(w:World)(g cap n:Nat)(d:Array Ge.Nd)(wr:World):Prop where
 size:d.size=n
 own:wr.ownsRow w.heap.size 83 2 (.slice (some ⟨g,0,none⟩) n cap) n (dv d.toList)
 below:Below w.heap.size w wr
theorem Wn:∀(l:List Ge.Nd)(k:Nat),(dv l).take (k*2)=dv (l.take k)
 |[],k=>by simp[dv]
 |a::l,0=>by simp[dv]
 |a::l,k+1=>by
  have ih:=Wn l k;have e:∀(b:Ge.Nd)(r:List Ge.Nd),dv (b::r)=.complex .f64 (floatOfInt .f64 b.1) (floatOfInt .f64 b.2.1):: .int .i64 b.2.2::dv r:=fun b r=>by simp[dv,ij]
  rw[K1,e,e,<-ih];have e1:(k+1)*2=k*2+1+1:=by omega
  rw[e1,K1,K1]
theorem RW.blk{w:World}{g cap n:Nat}{d:Array Ge.Nd}{wr:World}(h:RW w g cap n d wr):∃cur,w.heap.size<=g/\wr.heap[g]?=some (.cells cur 83 (0,0))/\n<=cap/\cap<=maxLen/\cur.size=cap*2/\cur.toList.take (n*2)=dv d.toList:=by
 rcases h.own.2 with⟨hv,_⟩|⟨g',cap',cur,hv,h1,h2,h3,h4,h5,h6⟩
 ·simp at hv
 ·simp only[Value.slice.injEq,Option.some.injEq,Addr.mk.injEq] at hv;obtain⟨⟨rfl,_⟩,_,rfl⟩:=hv;exact⟨cur,h1,h2,h3,h4,h5,h6⟩
theorem RW.cells{w:World}{g cap n:Nat}{d:Array Ge.Nd}{wr:World}(h:RW w g cap n d wr)(i:Nat)(hi:i<n):
  wr.cell? ⟨g,i*2,none⟩=some (.complex .f64 (floatOfInt .f64 (d[i]!).1) (floatOfInt .f64 (d[i]!).2.1))/\wr.cell? ⟨g,i*2+1,none⟩=some (.int .i64 (d[i]!).2.2)/\wr.frozen? ⟨g,i*2,none⟩=false/\wr.frozen? ⟨g,i*2+1,none⟩=false:=by
 obtain⟨cur,_,hb,_,_,hs,htk⟩:=h.blk;have hd:i<d.size:=by rw[h.size];exact hi
 have hx:d.toList[i]?=some d[i]! :=by rw[ja,nX hd,iz d i hd]
 have k0:=Eb _ _ _ hx 0 (by omega)
 have k1:=Eb _ _ _ hx 1 (by omega)
 rw[<-htk,kC,ah (by omega),ja] at k0 k1
 refine⟨?_,?_,aH hb _,aH hb _⟩
 ·unfold World.cell?;rw[hb];exact k0
 ·unfold World.cell?;rw[hb];exact k1
theorem Wo:∀(l:List Ge.Nd)(k:Nat)(x:Ge.Nd),k<l.length->dv (l.set k x)=((dv l).set (k*2) (.complex .f64 (floatOfInt .f64 x.1) (floatOfInt .f64 x.2.1))).set (k*2+1) (.int .i64 x.2.2)
 |[],_,_,h=>by simp at h
 |a::l,0,x,_=>by simp[dv,ij]
 |a::l,k+1,x,h=>by
  have ih:=Wo l k x (by simpa using h)
  have e:∀(b:Ge.Nd)(r:List Ge.Nd),dv (b::r)=.complex .f64 (floatOfInt .f64 b.1) (floatOfInt .f64 b.2.1):: .int .i64 b.2.2::dv r:=fun b r=>by simp[dv,ij]
  rw[aG,e,e,ih];have e1:(k+1)*2=k*2+1+1:=by omega
  rw[e1,aG,aG,aG,aG]
theorem RW.set{w:World}{g cap n:Nat}{d:Array Ge.Nd}{wr:World}(h:RW w g cap n d wr)(k:Nat)(hk:k<n)(x:Ge.Nd):
  RW w g cap n (d.setIfInBounds k x) ((wr.setCell ⟨g,k*2,none⟩ (.complex .f64 (floatOfInt .f64 x.1) (floatOfInt .f64 x.2.1))).setCell ⟨g,k*2+1,none⟩ (.int .i64 x.2.2)):=by
 obtain⟨cur,hg,hb,hnc,hcm,hs,htk⟩:=h.blk;have hb1:(wr.setCell ⟨g,k*2,none⟩ (.complex .f64 (floatOfInt .f64 x.1) (floatOfInt .f64 x.2.1))).heap[g]?=some (.cells (cur.setIfInBounds (k*2) (.complex .f64 (floatOfInt .f64 x.1) (floatOfInt .f64 x.2.1))) 83 (0,0)):=by
  rw[setCell_eq_setRow wr g (k*2) cur 83 (0,0) _ hb];exact setRow_heap _ _ _ _ _ _ hb
 have hb2:((wr.setCell ⟨g,k*2,none⟩ (.complex .f64 (floatOfInt .f64 x.1) (floatOfInt .f64 x.2.1))).setCell ⟨g,k*2+1,none⟩ (.int .i64 x.2.2)).heap[g]?=some (.cells ((cur.setIfInBounds (k*2) (.complex .f64 (floatOfInt .f64 x.1) (floatOfInt .f64 x.2.1))).setIfInBounds (k*2+1) (.int .i64 x.2.2)) 83 (0,0)):=by
  rw[setCell_eq_setRow _ g (k*2+1) _ 83 (0,0) _ hb1];exact setRow_heap _ _ _ _ _ _ hb1
 have hd:k<d.toList.length:=by rw[iP,h.size];exact hk
 refine⟨by rw[xW];exact h.size,⟨?_,af ⟨g,cap,_,rfl,hg,hb2,hnc,hcm,?_,?_⟩⟩,(h.below.setCell hg _).setCell hg _⟩
 ·rw[El,iP,xW,h.size]
 ·rw[xW,xW];exact hs
 ·rw[Lb,Lb,Lb,Wo _ _ _ hd,<-htk,aci,aci]
theorem RW.clear{w:World}{g cap n:Nat}{d:Array Ge.Nd}{wr:World}(h:RW w g cap n d wr)(k:Nat)(hk:k<n)(c:Nat):
  ∃w',(∀ty,(Builtin.clear_ #[138] ty #[.slice (some ⟨g,k*2,none⟩) (n-k) c]).run Tryz.prog wr=.ok (.tuple #[]) w')/\Below w.heap.size w w'/\iD w' (.slice (some ⟨g,0,none⟩) k cap) (d.toList.take k):=by
 obtain⟨cur,hg,hb,hnc,hcm,hs,htk⟩:=h.blk;have hzl:(Builtin.zeroCells (Value.agg #[.complex .f64 0 0,.int .i64 0]).cells (n-k)).toList.length=(n-k)*2:=by
  rw[iP];unfold Builtin.zeroCells;rw[Array.size_map,Array.size_range];rfl
 have hone:∀v∈(Builtin.zeroCells (Value.agg #[.complex .f64 0 0,.int .i64 0]).cells (n-k)).toList,v.oneCell'=true:=by
  intro v hv;unfold Builtin.zeroCells at hv;simp only[Array.toList_map,bh] at hv;obtain⟨i,_,rfl⟩:=hv;have e:(Value.agg #[.complex .f64 0 0,.int .i64 0]).cells= #[.complex .f64 0 0,.int .i64 0]:=rfl;rw[e];show(#[Value.complex .f64 0 0,.int .i64 0][i%2]!).oneCell'=true;have h2:i%2=0\/i%2=1:=by omega
  rcases h2 with h2|h2<;>rw[h2]<;>rfl
 have hst:=run_storeCells_at Tryz.prog g (k*2) 83 _ 0 cur wr hb (by rw[hzl,hs];omega) hone
 simp only[ux] at hst;rw[hzl] at hst;generalize lO:(Builtin.zeroCells (Value.agg #[.complex .f64 0 0,.int .i64 0]).cells (n-k)).toList=Z at*;have Em:=setRow_heap wr g cur (cur.toList.take (k*2)++Z++cur.toList.drop (k*2+(n-k)*2)).toArray _ _ hb;refine⟨wr.setRow g (cur.toList.take (k*2)++Z++cur.toList.drop (k*2+(n-k)*2)).toArray,fun ty=>?_,?_,?_,af ⟨g,cap,_,?_,iI _,Em,?_,hcm,?_,?_⟩⟩
 ·obtain⟨m,hm⟩:∃m,n-k=m+1:=⟨n-k-1,by omega⟩
  rw[hm] at hst lO⊢;simp[Builtin.clear_,run_underlying Tryz.underlying138,lO,hst]
 ·refine h.below.trans ⟨rfl,rfl,rfl,by simp,fun j hj=>setRow_other _ _ _ _ (by omega)⟩
 ·rw[El]
 ·have e:(d.toList.take k).length=k:=by rw[iy,iP,h.size];omega
  rw[e]
 ·rw[iy,iP,h.size];omega
 ·simp only[acG,aX,iy,rP,iP,hzl,hs];omega
 ·have e:(d.toList.take k).length=k:=by rw[iy,iP,h.size];omega
  rw[e];show((cur.toList.take (k*2)++_++_).take (k*2))=_;rw[fI,anV (by rw[iy,iP,hs];omega),CE,Nat.min_self]
  have e2:cur.toList.take (k*2)=(cur.toList.take (n*2)).take (k*2):=by rw[CE,K6 (by omega)]
  rw[e2,htk];exact Wn _ _
theorem Wp{d:Array Ge.Nd}(h:∀j,j<d.size->Lib.keeps d j=true):Ge.cL d.toList=d.toList:=by
 rw[<-Ge.Wm,Lib.compactUpTo_all _ _ h,Lib.range_map_get]
theorem RW.rd{w:World}{g cap n:Nat}{d:Array Ge.Nd}{wr:World}(h:RW w g cap n d wr):iD wr (.slice (some ⟨g,0,none⟩) n cap) d.toList:=by
 obtain⟨cur,hg,hb,hnc,hcm,hs,htk⟩:=h.blk;have e:d.toList.length=n:=by rw[iP,h.size]
 exact⟨by rw[El],af ⟨g,cap,cur,by rw[e],iI _,hb,by rw[e];exact hnc,hcm,hs,by rw[e];exact htk⟩⟩
theorem Wq(x y:Ge.Nd)(hx:dC x.1 x.2.1 x.2.2)(hy:dC y.1 y.2.1 y.2.2)(w:World):
  (Op.equalIn 10000 83 (.agg #[.complex .f64 (floatOfInt .f64 x.1) (floatOfInt .f64 x.2.1),.int .i64 x.2.2]) (.agg #[.complex .f64 (floatOfInt .f64 y.1) (floatOfInt .f64 y.2.1),.int .i64 y.2.2])).run Tryz.prog w=.ok (decide (x=y)) w:=by
 obtain⟨a1,a2⟩:=rf hx;obtain⟨b1,b2⟩:=rf hy;have q1:=sG a1 b1;have q2:=sG a2 b2;obtain⟨x1,x2,x3⟩:=x;obtain⟨y1,y2,y3⟩:=y;simp only at q1 q2⊢;generalize floatOfInt .f64 x1=X1 at*;generalize floatOfInt .f64 x2=X2 at*;generalize floatOfInt .f64 y1=Y1 at*;generalize floatOfInt .f64 y2=Y2 at*;have hdec:decide ((x1,x2,x3)=(y1,y2,y3))=(decide (x1=y1)&&decide (x2=y2)&&decide (x3=y3)):=by
  simp[Prod.mk.injEq,Bool.and_assoc]
 have e1:Op.floatEq .f64 X1 Y1=decide (x1=y1):=q1;have e2:Op.floatEq .f64 X2 Y2=decide (x2=y2):=q2;rw[hdec];rw[run_equalIn_agg w 9999 83 _ _ (by kernel_rfl) (by kernel_rfl)]
 have hc:∀w,(Op.equalIn 9999 81 (.complex .f64 X1 X2) (.complex .f64 Y1 Y2)).run Tryz.prog w=.ok (decide (x1=y1)&&decide (x2=y2)) w:=fun w=>by
  show(Op.equalIn (9998+1) 81 (.complex .f64 X1 X2) (.complex .f64 Y1 Y2)).run Tryz.prog w=_;rw[Op.equalIn,Sem.run_bind,run_underlying Tryz.underlying81,Result.andThen_ok,<-e1,<-e2];rfl
 clear q1 q2 e1 e2 hdec;simp[go_sem,hc]
 by_cases h1:x1=y1<;>by_cases h2:x2=y2<;>by_cases h3:x3=y3<;>simp[h1,h2,h3]
theorem En(x y:Ge.Nd)(hx:dC x.1 x.2.1 x.2.2)(hy:dC y.1 y.2.1 y.2.2)(w:World):
  (binOp .eql 83 (.agg #[.complex .f64 (floatOfInt .f64 x.1) (floatOfInt .f64 x.2.1),.int .i64 x.2.2]) (.agg #[.complex .f64 (floatOfInt .f64 y.1) (floatOfInt .f64 y.2.1),.int .i64 y.2.2])).run Tryz.prog w=.ok (.bool (decide (x=y))) w:=by
 rw[run_eql_struct,Wq x y hx hy w];rfl
theorem agP(x y:Ge.Nd)(hx:dC x.1 x.2.1 x.2.2)(hy:dC y.1 y.2.1 y.2.2)(w:World):
  (binOp .neq 83 (.agg #[.complex .f64 (floatOfInt .f64 x.1) (floatOfInt .f64 x.2.1),.int .i64 x.2.2]) (.agg #[.complex .f64 (floatOfInt .f64 y.1) (floatOfInt .f64 y.2.1),.int .i64 y.2.2])).run Tryz.prog w=.ok (.bool (!decide (x=y))) w:=by
 rw[run_neq_struct,Wq x y hx hy w];rfl
structure lQ(n:Ge.Nd):Prop where
 x:n.1.natAbs<=3000000
 y:n.2.1.natAbs<=3000000
 d:0<n.2.2/\n.2.2<=20000
theorem lQ.aF{n:Ge.Nd}(h:lQ n):dC n.1 n.2.1 n.2.2:=⟨by have:=h.x;omega,by have:=h.y;omega,by have:=h.d;omega⟩
theorem agQ{a b s c d t:Nat}{l m:Ge.Ln}(hl:pP a b s l)(hm:pP c d t m)(b1:sm l.1)(b2:sm l.2.1)(b3:sm m.1)(b4:sm m.2.1)(w:World):
  Calls Tryz.prog 161 #[.agg #[.complex .f64 a b,.float .f64 s],.agg #[.complex .f64 c d,.float .f64 t]] w fun e w'=>e=.returned (.int .i64 (l.1*m.1+l.2.1*m.2.1).sign)/\Below w.heap.size w w':=by
 obtain⟨re,im,f1,_,ht⟩:=Mu hl.a hl.b hm.a hm.b b1 b2 b3 b4;have hc:=fun w=>yS f1 kO w
 have e1:(l.1*m.1+l.2.1*m.2.1-0).sign=(l.1*m.1+l.2.1*m.2.1).sign:=by rw[zH]
 rw[e1] at hc;have HT:Hid (∀w,Calls Tryz.prog 98 #[.complex .f64 a b,.complex .f64 c d] w fun e w'=>e=.returned (.complex .f64 re im)/\w'=w):=ht
 have HC:Hid (∀w,Calls Tryz.prog 183 #[.float .f64 re,.float .f64 0] w fun r w'=>r=.returned (.int .i64 (l.1*m.1+l.2.1*m.2.1).sign)/\w'=w):=hc
 generalize(l.1*m.1+l.2.1*m.2.1).sign=R at*;clear ht hc f1 e1;have hb0:Below w.heap.size w ((w.alloc (.cells #[.complex .f64 a b,.float .f64 s] 122)).alloc (.cells #[.complex .f64 c d,.float .f64 t] 122)):=((Below.refl _ _).alloc (ai _) _).alloc (by simp) _
 go_enter Tryz.func161,Tryz.ntmps161
 go_wp2_with fail
 refine(HT.out _).mono ?_;rintro e w1 ⟨rfl,rfl⟩
 go_wp2_with fail
 refine(HC.out _).mono ?_;rintro e w2 ⟨rfl,rfl⟩
 go_wp2_with fail
 go_ret
 exact⟨rfl,hb0⟩
structure PB where
 wa:Nat
 wb:Nat
 sh:Nat
 f:Ge.Nd
 t:Ge.Nd
def PB.cells(x:PB):List Value:=[.complex .f64 x.wa x.wb,.float .f64 x.sh,.complex .f64 (floatOfInt .f64 x.f.1) (floatOfInt .f64 x.f.2.1),.int .i64 x.f.2.2,.complex .f64 (floatOfInt .f64 x.t.1) (floatOfInt .f64 x.t.2.1),.int .i64 x.t.2.2]
theorem agR(x:PB)(hf:lQ x.f)(ht:lQ x.t):
  ∃n:Ge.Nd,Ge.Can n/\Ge.ay n=(Ge.aW (x.f.1+x.t.1) (x.f.2.2+x.t.2.2),Ge.aW (x.f.2.1+x.t.2.1) (x.f.2.2+x.t.2.2))/\dC n.1 n.2.1 n.2.2/\∀w,Calls Tryz.prog 160 #[.agg x.cells.toArray] w fun e w'=>e=.returned (ie n)/\Below w.heap.size w w':=by
 obtain⟨a1,a2⟩:=rf hf.aF;obtain⟨b1,b2⟩:=rf ht.aF;have hfx:=hf.x;have hfy:=hf.y;have hfd:=hf.d;have htx:=ht.x;have hty:=ht.y;have htd:=ht.d;obtain⟨re,im,e,f1,f2⟩:=aej a1 a2 b1 b2 (by omega) (by omega)
 obtain⟨n,hc,hq,hn,hN⟩:=IW (x.f.2.2+x.t.2.2) f1 f2 (by omega) (by omega) (by omega)
 refine⟨n,hc,hq,hn,fun w=>?_⟩
 have HN:Hid (∀w,Calls Tryz.prog 37 #[.complex .f64 re im,.int .i64 (x.f.2.2+x.t.2.2)] w fun e w'=>e=.returned (ie n)/\Below w.heap.size w w'):=hN
 have hop:=fun t w=>run_complex_sum (P:=Tryz.prog) w .add (ae rfl) t .f64 _ _ _ _ re im e
 unfold ie at HN⊢;obtain⟨wa,wb,sh,⟨x1,x2,x3⟩,y1,y2,y3⟩:=x;simp only[PB.cells] at*;generalize floatOfInt .f64 x1=X1 at*;generalize floatOfInt .f64 x2=X2 at*;generalize floatOfInt .f64 y1=Y1 at*;generalize floatOfInt .f64 y2=Y2 at*;clear hN hq e f1 f2 a1 a2 b1 b2 hc hn hf ht;generalize floatOfInt .f64 n.1=N1 at*;generalize floatOfInt .f64 n.2.1=N2 at*;have hw3:IntKind.i64.wrap (x3+y3)=x3+y3:=by rw[IntKind.wrap_i64];omega
 have hb0:Below w.heap.size w ((w.alloc (.cells #[.complex .f64 wa wb,.float .f64 sh,.complex .f64 X1 X2,.int .i64 x3,.complex .f64 Y1 Y2,.int .i64 y3] 171)).alloc (.cells #[.complex .f64 0 0,.int .i64 0] 83)):=((Below.refl _ _).alloc (ai _) _).alloc (by simp) _
 have hE:=heap_alloc_new (w.alloc (.cells #[.complex .f64 wa wb,.float .f64 sh,.complex .f64 X1 X2,.int .i64 x3,.complex .f64 Y1 Y2,.int .i64 y3] 171)) (.cells #[.complex .f64 0 0,.int .i64 0] 83);have hz:(w.alloc (.cells #[.complex .f64 wa wb,.float .f64 sh,.complex .f64 X1 X2,.int .i64 x3,.complex .f64 Y1 Y2,.int .i64 y3] 171)).heap.size=w.heap.size+1:=by simp
 have hz2:((w.alloc (.cells #[.complex .f64 wa wb,.float .f64 sh,.complex .f64 X1 X2,.int .i64 x3,.complex .f64 Y1 Y2,.int .i64 y3] 171)).alloc (.cells #[.complex .f64 0 0,.int .i64 0] 83)).heap.size=w.heap.size+2:=by simp
 rw[hz] at hE
 go_enter Tryz.func160,Tryz.ntmps160
 go_wp2_with (simp only[hop])
 generalize(w.alloc (.cells #[.complex .f64 wa wb,.float .f64 sh,.complex .f64 X1 X2,.int .i64 x3,.complex .f64 Y1 Y2,.int .i64 y3] 171)).alloc (.cells #[.complex .f64 0 0,.int .i64 0] 83)=W at*;refine(HN.out _).mono ?_;rintro e w1 ⟨rfl,hb1⟩;have jJ:=(hb1.block (w.heap.size+1) (by omega)).trans hE
 have e0:w1.cell? ⟨w.heap.size+1,0,none⟩=some (.complex .f64 0 0):=cell_of jJ 0;have e1:w1.cell? ⟨w.heap.size+1,1,none⟩=some (.int .i64 0):=cell_of jJ 1;have z0:w1.frozen? ⟨w.heap.size+1,0,none⟩=false:=aH jJ 0;have z1:w1.frozen? ⟨w.heap.size+1,1,none⟩=false:=aH jJ 1;have ak:=hb0.trans (hb1.mono hb0.size);clear hop hw3
 go_wp2_with (simp only[fL];go_simp)
 refine bodyPost_ret (v:=.agg #[.complex .f64 N1 N2,.int .i64 n.2.2]) (by simp[results,Tryz.results160,go_sem,e0,e1]) rfl ⟨rfl,?_⟩
 exact(ak.setCell (p:=⟨w.heap.size+1,0,none⟩) (l8 _) _).setCell (p:=⟨w.heap.size+1,1,none⟩) (l8 _) _
def bg(x y:Ge.Nd):Int:=Ge.pc (Ge.ay x) (Ge.ay y)
def Bo(x y:PB):Int:=if bg x.f y.f=0 then bg x.t y.t else bg x.f y.f
structure cU(x:PB):Prop where
 f:lQ x.f
 t:lQ x.t
 cf:Ge.Can x.f
 ct:Ge.Can x.t
theorem agS(a1 b1 s1 a2 b2 s2 F1 F2 T1 T2 G1 G2 H1 H2:Nat)(F3 T3 G3 H3 p q R:Int)(w:World)
  (HO:Hid (∀b cap w,w.cell? ⟨b,0,none⟩=some (.int .i64 p)->w.cell? ⟨b,1,none⟩=some (.int .i64 q)->Calls Tryz.prog 182 #[.slice (some ⟨b,0,none⟩) 2 cap] w fun r w'=>r=.returned (.int .i64 R)/\w'=w))
  (HF:Hid (∀w,Calls Tryz.prog 125 #[.agg #[.complex .f64 F1 F2,.int .i64 F3],.agg #[.complex .f64 G1 G2,.int .i64 G3]] w fun e w'=>e=.returned (.int .i64 p)/\Below w.heap.size w w'/\w.drawn<=w'.drawn))
  (HT:Hid (∀w,Calls Tryz.prog 125 #[.agg #[.complex .f64 T1 T2,.int .i64 T3],.agg #[.complex .f64 H1 H2,.int .i64 H3]] w fun e w'=>e=.returned (.int .i64 q)/\Below w.heap.size w w'/\w.drawn<=w'.drawn)):
  Calls Tryz.prog 157 #[.agg #[.complex .f64 a1 b1,.float .f64 s1,.complex .f64 F1 F2,.int .i64 F3,.complex .f64 T1 T2,.int .i64 T3],.agg #[.complex .f64 a2 b2,.float .f64 s2,.complex .f64 G1 G2,.int .i64 G3,.complex .f64 H1 H2,.int .i64 H3]] w fun e w'=>e=.returned (.int .i64 R)/\Below w.heap.size w w'/\w.drawn<=w'.drawn:=by
 have hX:((w.alloc (.cells #[.complex .f64 a1 b1,.float .f64 s1,.complex .f64 F1 F2,.int .i64 F3,.complex .f64 T1 T2,.int .i64 T3] 171)).alloc (.cells #[.complex .f64 a2 b2,.float .f64 s2,.complex .f64 G1 G2,.int .i64 G3,.complex .f64 H1 H2,.int .i64 H3] 171)).heap[w.heap.size]?=some (.cells #[.complex .f64 a1 b1,.float .f64 s1,.complex .f64 F1 F2,.int .i64 F3,.complex .f64 T1 T2,.int .i64 T3] 171 (0,0)):=by
  rw[Below.heap_alloc _ _ _ (by simp)];exact heap_alloc_new _ _
 have hY:((w.alloc (.cells #[.complex .f64 a1 b1,.float .f64 s1,.complex .f64 F1 F2,.int .i64 F3,.complex .f64 T1 T2,.int .i64 T3] 171)).alloc (.cells #[.complex .f64 a2 b2,.float .f64 s2,.complex .f64 G1 G2,.int .i64 G3,.complex .f64 H1 H2,.int .i64 H3] 171)).heap[w.heap.size+1]?=some (.cells #[.complex .f64 a2 b2,.float .f64 s2,.complex .f64 G1 G2,.int .i64 G3,.complex .f64 H1 H2,.int .i64 H3] 171 (0,0)):=by
  have:=heap_alloc_new (w.alloc (.cells #[.complex .f64 a1 b1,.float .f64 s1,.complex .f64 F1 F2,.int .i64 F3,.complex .f64 T1 T2,.int .i64 T3] 171)) (.cells #[.complex .f64 a2 b2,.float .f64 s2,.complex .f64 G1 G2,.int .i64 G3,.complex .f64 H1 H2,.int .i64 H3] 171);simpa using this
 have hb0:Below w.heap.size w ((w.alloc (.cells #[.complex .f64 a1 b1,.float .f64 s1,.complex .f64 F1 F2,.int .i64 F3,.complex .f64 T1 T2,.int .i64 T3] 171)).alloc (.cells #[.complex .f64 a2 b2,.float .f64 s2,.complex .f64 G1 G2,.int .i64 G3,.complex .f64 H1 H2,.int .i64 H3] 171)):=((Below.refl _ _).alloc (ai _) _).alloc (by simp) _
 have dF:w.heap.size+2=((w.alloc (.cells #[.complex .f64 a1 b1,.float .f64 s1,.complex .f64 F1 F2,.int .i64 F3,.complex .f64 T1 T2,.int .i64 T3] 171)).alloc (.cells #[.complex .f64 a2 b2,.float .f64 s2,.complex .f64 G1 G2,.int .i64 G3,.complex .f64 H1 H2,.int .i64 H3] 171)).heap.size:=by simp
 have hd0:w.drawn<=((w.alloc (.cells #[.complex .f64 a1 b1,.float .f64 s1,.complex .f64 F1 F2,.int .i64 F3,.complex .f64 T1 T2,.int .i64 T3] 171)).alloc (.cells #[.complex .f64 a2 b2,.float .f64 s2,.complex .f64 G1 G2,.int .i64 G3,.complex .f64 H1 H2,.int .i64 H3] 171)).drawn:=ai _
 go_enter Tryz.func157,Tryz.ntmps157
 go_wp2_with fail
 generalize(w.alloc (.cells #[.complex .f64 a1 b1,.float .f64 s1,.complex .f64 F1 F2,.int .i64 F3,.complex .f64 T1 T2,.int .i64 T3] 171)).alloc (.cells #[.complex .f64 a2 b2,.float .f64 s2,.complex .f64 G1 G2,.int .i64 G3,.complex .f64 H1 H2,.int .i64 H3] 171)=W at*;generalize hB:w.heap.size=B at*;have cQ:B<W.heap.size:=by omega
 have hzb:B+1<W.heap.size:=by omega
 have a0:W.cell? ⟨B,2,none⟩=some (.complex .f64 F1 F2):=cell_of hX 2;have a1:W.cell? ⟨B,3,none⟩=some (.int .i64 F3):=cell_of hX 3;have a2:W.cell? ⟨B,4,none⟩=some (.complex .f64 T1 T2):=cell_of hX 4;have a3:W.cell? ⟨B,5,none⟩=some (.int .i64 T3):=cell_of hX 5;have a4:W.cell? ⟨B+1,2,none⟩=some (.complex .f64 G1 G2):=cell_of hY 2;have a5:W.cell? ⟨B+1,3,none⟩=some (.int .i64 G3):=cell_of hY 3;have a6:W.cell? ⟨B+1,4,none⟩=some (.complex .f64 H1 H2):=cell_of hY 4;have a7:W.cell? ⟨B+1,5,none⟩=some (.int .i64 H3):=cell_of hY 5;clear hX hY
 go_region_held3 (fun w'=>w'.cell? ⟨B,2,none⟩=some (.complex .f64 F1 F2)/\w'.cell? ⟨B,3,none⟩=some (.int .i64 F3)/\w'.cell? ⟨B,4,none⟩=some (.complex .f64 T1 T2)/\w'.cell? ⟨B,5,none⟩=some (.int .i64 T3)/\w'.cell? ⟨B+1,2,none⟩=some (.complex .f64 G1 G2)/\w'.cell? ⟨B+1,3,none⟩=some (.int .i64 G3)/\w'.cell? ⟨B+1,4,none⟩=some (.complex .f64 H1 H2)/\w'.cell? ⟨B+1,5,none⟩=some (.int .i64 H3)) (go_keep) (first
   |(go_at_call_of 125 (Value.agg #[Value.complex FloatKind.f64 F1 F2,Value.int IntKind.i64 F3]);refine(HF.out _).mono ?_;rintro e w6 ⟨rfl,aC,D8⟩;have iT:B<w6.heap.size:=aQ cQ aC.size;have kP:B+1<w6.heap.size:=aQ hzb aC.size;have b0:=(aC.cell (p:=⟨B,2,none⟩) cQ).trans a0;have b1:=(aC.cell (p:=⟨B,3,none⟩) cQ).trans a1;have b2:=(aC.cell (p:=⟨B,4,none⟩) cQ).trans a2;have b3:=(aC.cell (p:=⟨B,5,none⟩) cQ).trans a3;have b4:=(aC.cell (p:=⟨B+1,2,none⟩) hzb).trans a4;have b5:=(aC.cell (p:=⟨B+1,3,none⟩) hzb).trans a5;have b6:=(aC.cell (p:=⟨B+1,4,none⟩) hzb).trans a6;have b7:=(aC.cell (p:=⟨B+1,5,none⟩) hzb).trans a7)
   |(go_at_call_of 125 (Value.agg #[Value.complex FloatKind.f64 T1 T2,Value.int IntKind.i64 T3]);refine(HT.out _).mono ?_;rintro e w7 ⟨rfl,aY,D9⟩;have qi:B<w7.heap.size:=aQ iT aY.size;have hvb:B+1<w7.heap.size:=aQ kP aY.size;have c0:=(aY.cell (p:=⟨B,2,none⟩) iT).trans b0;have c1:=(aY.cell (p:=⟨B,3,none⟩) iT).trans b1;have c2:=(aY.cell (p:=⟨B,4,none⟩) iT).trans b2;have c3:=(aY.cell (p:=⟨B,5,none⟩) iT).trans b3;have c4:=(aY.cell (p:=⟨B+1,2,none⟩) kP).trans b4;have c5:=(aY.cell (p:=⟨B+1,3,none⟩) kP).trans b5;have c6:=(aY.cell (p:=⟨B+1,4,none⟩) kP).trans b6;have c7:=(aY.cell (p:=⟨B+1,5,none⟩) kP).trans b7)
   |(go_at_call 182;refine(HO.out _ _ _ (cell_of (heap_alloc_new _ _) 0) (cell_of (heap_alloc_new _ _) 1)).mono ?_;rintro e w8 ⟨rfl,qO⟩;have lH:Below w7.heap.size w7 w8:=(by(rw[qO];exact(Below.refl _ _).alloc (ai _) _));have Ws:w7.drawn<=w8.drawn:=(by(subst qO;exact ai _));clear qO;have d0:=(lH.cell (p:=⟨B,2,none⟩) qi).trans c0;have d1:=(lH.cell (p:=⟨B,3,none⟩) qi).trans c1;have d2:=(lH.cell (p:=⟨B,4,none⟩) qi).trans c2;have d3:=(lH.cell (p:=⟨B,5,none⟩) qi).trans c3;have d4:=(lH.cell (p:=⟨B+1,2,none⟩) hvb).trans c4;have d5:=(lH.cell (p:=⟨B+1,3,none⟩) hvb).trans c5;have d6:=(lH.cell (p:=⟨B+1,4,none⟩) hvb).trans c6;have d7:=(lH.cell (p:=⟨B+1,5,none⟩) hvb).trans c7))
 all_goals
  have ak:=((hb0.drew.trans (aC.mono (eF cQ))).trans (aY.mono (eF iT))).trans (lH.mono (eF qi));have HD:Hid (w.drawn<=w8.drawn):=by
   have h1:W.drawn<=W.drew.drawn:=l8 _;exact dY hd0 (dY h1 (dY D8 (dY D9 Ws)))
  clear aC aY lH hb0 D8 D9 Ws hd0
  go_wp2_with fail
  go_ret
  exact⟨rfl,by rw[hB];exact ak,HD.out⟩
theorem agT(x y:PB)(hx:cU x)(hy:cU y)(w:World):
  Calls Tryz.prog 157 #[.agg x.cells.toArray,.agg y.cells.toArray] w fun r w'=>r=.returned (.int .i64 (Bo x y))/\Below w.heap.size w w'/\w.drawn<=w'.drawn:=
 agS _ _ _ _ _ _ _ _ _ _ _ _ _ _ _ _ _ _ _ _ _ w (fun b cap w h0 h1=>I0 _ _ b cap w h0 h1) (fun w=>Ea x.f y.f hx.f.aF hy.f.aF hx.cf hy.cf w) (fun w=>Ea x.t y.t hx.t.aF hy.t.aF hx.ct hy.ct w)
theorem agU(a1 b1 s1 a2 b2 s2 F1 F2 T1 T2 G1 G2 H1 H2:Nat)(F3 T3 G3 H3:Int)(p q:Bool)(w:World)
  (Dj:∀w,(binOp .eql 83 (.agg #[.complex .f64 F1 F2,.int .i64 F3]) (.agg #[.complex .f64 G1 G2,.int .i64 G3])).run Tryz.prog w=.ok (.bool p) w)
  (wL:∀w,(binOp .eql 83 (.agg #[.complex .f64 T1 T2,.int .i64 T3]) (.agg #[.complex .f64 H1 H2,.int .i64 H3])).run Tryz.prog w=.ok (.bool q) w):
  Calls Tryz.prog 159 #[.agg #[.complex .f64 a1 b1,.float .f64 s1,.complex .f64 F1 F2,.int .i64 F3,.complex .f64 T1 T2,.int .i64 T3],.agg #[.complex .f64 a2 b2,.float .f64 s2,.complex .f64 G1 G2,.int .i64 G3,.complex .f64 H1 H2,.int .i64 H3]] w fun e w'=>e=.returned (.bool (p&&q))/\Below w.heap.size w w':=by
 have hb0:Below w.heap.size w ((w.alloc (.cells #[.complex .f64 a1 b1,.float .f64 s1,.complex .f64 F1 F2,.int .i64 F3,.complex .f64 T1 T2,.int .i64 T3] 171)).alloc (.cells #[.complex .f64 a2 b2,.float .f64 s2,.complex .f64 G1 G2,.int .i64 G3,.complex .f64 H1 H2,.int .i64 H3] 171)):=((Below.refl _ _).alloc (ai _) _).alloc (by simp) _
 cases p
 ·go_enter Tryz.func159,Tryz.ntmps159
  go_wp2_with (simp only[Dj,wL])
  go_ret
  exact⟨rfl,hb0⟩
 ·go_enter Tryz.func159,Tryz.ntmps159
  go_wp2_with (simp only[Dj,wL])
  go_ret
  exact⟨rfl,hb0⟩
theorem Wt(x y:PB)(hx:cU x)(hy:cU y)(w:World):
  Calls Tryz.prog 159 #[.agg x.cells.toArray,.agg y.cells.toArray] w fun r w'=>r=.returned (.bool (decide (x.f=y.f)&&decide (x.t=y.t)))/\Below w.heap.size w w':=
 agU _ _ _ _ _ _ _ _ _ _ _ _ _ _ _ _ _ _ _ _ w (fun w=>En x.f y.f hx.f.aF hy.f.aF w) (fun w=>En x.t y.t hx.t.aF hy.t.aF w)
def PB.rev(x:PB):PB:=⟨Op.negFloat .f64 x.wa,Op.negFloat .f64 x.wb,Op.negFloat .f64 x.sh,x.t,x.f⟩
theorem agV(a b s A B' S F1 F2 T1 T2:Nat)(F3 T3:Int)(w:World)
  (HR:Hid (∀w,Calls Tryz.prog 162 #[.agg #[.complex .f64 a b,.float .f64 s]] w fun e w'=>e=.returned (.agg #[.complex .f64 A B',.float .f64 S])/\Below w.heap.size w w')):
  Calls Tryz.prog 107 #[.agg #[.complex .f64 a b,.float .f64 s,.complex .f64 F1 F2,.int .i64 F3,.complex .f64 T1 T2,.int .i64 T3]] w fun e w'=>e=.returned (.agg #[.complex .f64 A B',.float .f64 S,.complex .f64 T1 T2,.int .i64 T3,.complex .f64 F1 F2,.int .i64 F3])/\Below w.heap.size w w':=by
 have hX:((w.alloc (.cells #[.complex .f64 a b,.float .f64 s,.complex .f64 F1 F2,.int .i64 F3,.complex .f64 T1 T2,.int .i64 T3] 171)).alloc (.cells #[.complex .f64 0 0,.float .f64 0,.complex .f64 0 0,.int .i64 0,.complex .f64 0 0,.int .i64 0] 171)).heap[w.heap.size]?=some (.cells #[.complex .f64 a b,.float .f64 s,.complex .f64 F1 F2,.int .i64 F3,.complex .f64 T1 T2,.int .i64 T3] 171 (0,0)):=by
  rw[Below.heap_alloc _ _ _ (by simp)];exact heap_alloc_new _ _
 have hY:((w.alloc (.cells #[.complex .f64 a b,.float .f64 s,.complex .f64 F1 F2,.int .i64 F3,.complex .f64 T1 T2,.int .i64 T3] 171)).alloc (.cells #[.complex .f64 0 0,.float .f64 0,.complex .f64 0 0,.int .i64 0,.complex .f64 0 0,.int .i64 0] 171)).heap[w.heap.size+1]?=some (.cells #[.complex .f64 0 0,.float .f64 0,.complex .f64 0 0,.int .i64 0,.complex .f64 0 0,.int .i64 0] 171 (0,0)):=by
  have:=heap_alloc_new (w.alloc (.cells #[.complex .f64 a b,.float .f64 s,.complex .f64 F1 F2,.int .i64 F3,.complex .f64 T1 T2,.int .i64 T3] 171)) (.cells #[.complex .f64 0 0,.float .f64 0,.complex .f64 0 0,.int .i64 0,.complex .f64 0 0,.int .i64 0] 171);simpa using this
 have hb0:Below w.heap.size w ((w.alloc (.cells #[.complex .f64 a b,.float .f64 s,.complex .f64 F1 F2,.int .i64 F3,.complex .f64 T1 T2,.int .i64 T3] 171)).alloc (.cells #[.complex .f64 0 0,.float .f64 0,.complex .f64 0 0,.int .i64 0,.complex .f64 0 0,.int .i64 0] 171)):=((Below.refl _ _).alloc (ai _) _).alloc (by simp) _
 have dF:w.heap.size+2=((w.alloc (.cells #[.complex .f64 a b,.float .f64 s,.complex .f64 F1 F2,.int .i64 F3,.complex .f64 T1 T2,.int .i64 T3] 171)).alloc (.cells #[.complex .f64 0 0,.float .f64 0,.complex .f64 0 0,.int .i64 0,.complex .f64 0 0,.int .i64 0] 171)).heap.size:=by simp
 go_enter Tryz.func107,Tryz.ntmps107
 go_wp2_with fail
 generalize(w.alloc (.cells #[.complex .f64 a b,.float .f64 s,.complex .f64 F1 F2,.int .i64 F3,.complex .f64 T1 T2,.int .i64 T3] 171)).alloc (.cells #[.complex .f64 0 0,.float .f64 0,.complex .f64 0 0,.int .i64 0,.complex .f64 0 0,.int .i64 0] 171)=W at*;generalize hB:w.heap.size=B at*;have cQ:B<W.heap.size:=by omega
 have hzb:B+1<W.heap.size:=by omega
 have a0:W.cell? ⟨B,0,none⟩=some (.complex .f64 a b):=cell_of hX 0;have a1:W.cell? ⟨B,1,none⟩=some (.float .f64 s):=cell_of hX 1;have a2:W.cell? ⟨B,2,none⟩=some (.complex .f64 F1 F2):=cell_of hX 2;have a3:W.cell? ⟨B,3,none⟩=some (.int .i64 F3):=cell_of hX 3;have a4:W.cell? ⟨B,4,none⟩=some (.complex .f64 T1 T2):=cell_of hX 4;have a5:W.cell? ⟨B,5,none⟩=some (.int .i64 T3):=cell_of hX 5;have z0:W.frozen? ⟨B+1,0,none⟩=false:=aH hY 0;have z1:W.frozen? ⟨B+1,1,none⟩=false:=aH hY 1;have z2:W.frozen? ⟨B+1,2,none⟩=false:=aH hY 2;have z3:W.frozen? ⟨B+1,3,none⟩=false:=aH hY 3;have z4:W.frozen? ⟨B+1,4,none⟩=false:=aH hY 4;have z5:W.frozen? ⟨B+1,5,none⟩=false:=aH hY 5
 go_region_held3 (fun w'=>w'.cell? ⟨B,0,none⟩=some (.complex .f64 a b)/\w'.cell? ⟨B,1,none⟩=some (.float .f64 s)/\w'.cell? ⟨B,2,none⟩=some (.complex .f64 F1 F2)/\w'.cell? ⟨B,3,none⟩=some (.int .i64 F3)/\w'.cell? ⟨B,4,none⟩=some (.complex .f64 T1 T2)/\w'.cell? ⟨B,5,none⟩=some (.int .i64 T3)/\w'.frozen? ⟨B+1,0,none⟩=false/\w'.frozen? ⟨B+1,1,none⟩=false/\w'.frozen? ⟨B+1,2,none⟩=false/\w'.frozen? ⟨B+1,3,none⟩=false/\w'.frozen? ⟨B+1,4,none⟩=false/\w'.frozen? ⟨B+1,5,none⟩=false) (go_keep) (first
   |(go_at_call 162;refine(HR.out _).mono ?_;rintro e w5 ⟨rfl,ax⟩;have b0:=(ax.cell (p:=⟨B,0,none⟩) cQ).trans a0;have b1:=(ax.cell (p:=⟨B,1,none⟩) cQ).trans a1;have b2:=(ax.cell (p:=⟨B,2,none⟩) cQ).trans a2;have b3:=(ax.cell (p:=⟨B,3,none⟩) cQ).trans a3;have b4:=(ax.cell (p:=⟨B,4,none⟩) cQ).trans a4;have b5:=(ax.cell (p:=⟨B,5,none⟩) cQ).trans a5;have nK:=(ax.block (B+1) hzb).trans hY;have y0:w5.frozen? ⟨B+1,0,none⟩=false:=aH nK 0;have y1:w5.frozen? ⟨B+1,1,none⟩=false:=aH nK 1;have y2:w5.frozen? ⟨B+1,2,none⟩=false:=aH nK 2;have y3:w5.frozen? ⟨B+1,3,none⟩=false:=aH nK 3;have y4:w5.frozen? ⟨B+1,4,none⟩=false:=aH nK 4;have y5:w5.frozen? ⟨B+1,5,none⟩=false:=aH nK 5;have e0:w5.cell? ⟨B+1,0,none⟩=some (.complex .f64 0 0):=cell_of nK 0;have e1:w5.cell? ⟨B+1,1,none⟩=some (.float .f64 0):=cell_of nK 1;have e2:w5.cell? ⟨B+1,2,none⟩=some (.complex .f64 0 0):=cell_of nK 2;have e3:w5.cell? ⟨B+1,3,none⟩=some (.int .i64 0):=cell_of nK 3;have e4:w5.cell? ⟨B+1,4,none⟩=some (.complex .f64 0 0):=cell_of nK 4;have e5:w5.cell? ⟨B+1,5,none⟩=some (.int .i64 0):=cell_of nK 5)
   |(simp only[fL,nH];go_simp))
 all_goals
  go_wp2_with fail
  refine bodyPost_ret (v:=.agg #[.complex .f64 A B',.float .f64 S,.complex .f64 T1 T2,.int .i64 T3,.complex .f64 F1 F2,.int .i64 F3]) (by simp[results,Tryz.results107,go_sem,e0,e1,e2,e3,e4,e5]) rfl ⟨rfl,?_⟩
  have ak:=hb0.drew.trans (ax.mono (eF cQ));rw[hB];exact((((((ak.setCell (p:=⟨B+1,0,none⟩) (l8 _) _).setCell (p:=⟨B+1,1,none⟩) (l8 _) _).setCell (p:=⟨B+1,2,none⟩) (l8 _) _).setCell (p:=⟨B+1,3,none⟩) (l8 _) _).setCell (p:=⟨B+1,4,none⟩) (l8 _) _).setCell (p:=⟨B+1,5,none⟩) (l8 _) _)
theorem agW(x:PB)(w:World):
  Calls Tryz.prog 107 #[.agg x.cells.toArray] w fun e w'=>e=.returned (.agg x.rev.cells.toArray)/\Below w.heap.size w w':=
 agV _ _ _ _ _ _ _ _ _ _ _ _ w (fun w=>VO _ _ _ w)
theorem Nv{w w':World}{v:Value}{es:List Ed}(h:gG w v es)(hb:Below w.heap.size w w'):gG w' v es:=by
 obtain⟨xs,h1,h2,h3⟩:=h;exact⟨xs,h1,Iq h2 fun k cur hc=>hb.block k (lt_of_heap hc),h3⟩
theorem agX(x y d:Int):Pl.Bb x y d=(decide (d<1)||decide (60<d)|| !kR 100000 x|| !kR 100000 y):=by
 unfold Pl.Bb kR;rw[nj];simp only[Ru,wh,Lc,Ld];omega
theorem Wu(s:ByteArray)(x y d:Int)(w:World)(hm:s.size<=maxLen)(oH:Gl w):
  Calls Tryz.prog 17 #[.string s,.int .i64 x,.int .i64 y,.int .i64 d] w fun e w'=>e=.returned (Pl.Bc (Pl.dQ s.data.toList x y d))/\Below w.heap.size w w':=by
 by_cases h0:(Pl.err s.data.toList).1=0
 ·have hp2:=(yK h0).2.1;obtain⟨hro,hrl,jx,hel⟩:=IH h0;have HR:Hid (∀w1,Gl w1->Calls Tryz.prog 33 #[.string s] w1 fun e w'=>Below w1.heap.size w1 w'/\∃rb rv,e=.returned (.tuple #[.pointer (some ⟨rb,0,none⟩),.int .i64 0,.int .i64 0])/\
    w'.cell? ⟨rb,6,none⟩=some rv/\rb<w'.heap.size/\vg w' rv (Pl.rings s.data.toList)):=fun w1 g1=>by
   refine(Io s w1 hm g1).mono ?_;rintro e w' ⟨hb,pv,rfl,fT⟩;obtain⟨rb,rfl,_,hR⟩:=fT h0;obtain⟨c,t,r,tv,rv,hc,hl',hbk,hown,Nw⟩:=hR;exact⟨hb,rb,rv,by rw[h0,hp2];rfl,cell_of hbk 6,lt_of_heap hbk,Vj Nw⟩
  have rh:Hid (∀w1,Calls Tryz.prog 34 #[.int .i64 x,.int .i64 100000] w1 fun e w'=>e=.returned (.bool (kR 100000 x))/\w'=w1):=fun w1=>Ie x 100000 w1 (by omega) (by omega)
  have tL:Hid (∀w1,Calls Tryz.prog 34 #[.int .i64 y,.int .i64 100000] w1 fun e w'=>e=.returned (.bool (kR 100000 y))/\w'=w1):=fun w1=>Ie y 100000 w1 (by omega) (by omega)
  have hbad:=agX x y d;have hwd:Pl.Bb x y d=true->Pl.dQ s.data.toList x y d=(0,false,5,0):=fun h=>by unfold Pl.dQ;rw[ah h0,ah h]
  by_cases h1:d<1
  ·rw[hwd (by rw[hbad];simp[h1])]
   simp only[Pl.Bc];clear hwd hbad rh tL
   go_enter Tryz.func17,Tryz.ntmps17
   go_wp2_with fail
   refine(HR.out _ oH).mono ?_;rintro e w1 ⟨hb1,rb,rv,rfl,c6,hlt,rp⟩
   go_wp2_with fail
   refine bodyPost_ret (v:=.tuple #[.int .i64 0,.bool false,.int .i64 5,.int .i64 0]) (by simp[results,Tryz.results17,go_sem]) rfl ⟨rfl,hb1⟩
  ·by_cases h2:60<d
   ·rw[hwd (by rw[hbad];simp[h2])]
    simp only[Pl.Bc];clear hwd hbad rh tL
    go_enter Tryz.func17,Tryz.ntmps17
    go_wp2_with fail
    refine(HR.out _ oH).mono ?_;rintro e w1 ⟨hb1,rb,rv,rfl,c6,hlt,rp⟩
    go_wp2_with fail
    refine bodyPost_ret (v:=.tuple #[.int .i64 0,.bool false,.int .i64 5,.int .i64 0]) (by simp[results,Tryz.results17,go_sem]) rfl ⟨rfl,hb1⟩
   ·cases rq:kR 100000 x
    ·rw[hwd (by rw[hbad,rq];simp)]
     rw[rq] at rh;simp only[Pl.Bc];clear hwd hbad tL rq
     go_enter Tryz.func17,Tryz.ntmps17
     go_wp2_with fail
     refine(HR.out _ oH).mono ?_;rintro e w1 ⟨hb1,rb,rv,rfl,c6,hlt,rp⟩
     go_wp2_with fail
     refine(rh.out _).mono ?_;rintro e w2 ⟨rfl,rfl⟩
     go_wp2_with fail
     refine bodyPost_ret (v:=.tuple #[.int .i64 0,.bool false,.int .i64 5,.int .i64 0]) (by simp[results,Tryz.results17,go_sem]) rfl ⟨rfl,hb1⟩
    ·cases y8:kR 100000 y
     ·rw[hwd (by rw[hbad,y8];simp)]
      rw[rq] at rh;rw[y8] at tL;simp only[Pl.Bc];clear hwd hbad rq y8
      go_enter Tryz.func17,Tryz.ntmps17
      go_wp2_with fail
      refine(HR.out _ oH).mono ?_;rintro e w1 ⟨hb1,rb,rv,rfl,c6,hlt,rp⟩
      go_wp2_with fail
      refine(rh.out _).mono ?_;rintro e w2 ⟨rfl,rfl⟩
      go_wp2_with fail
      refine(tL.out _).mono ?_;rintro e w2 ⟨rfl,rfl⟩
      go_wp2_with fail
      refine bodyPost_ret (v:=.tuple #[.int .i64 0,.bool false,.int .i64 5,.int .i64 0]) (by simp[results,Tryz.results17,go_sem]) rfl ⟨rfl,hb1⟩
     ·have Wv:Pl.Bb x y d=false:=by rw[hbad,rq,y8];simp[h1,h2]
      have hxr: -100000<=x/\x<=100000:=eW rq;have hyr: -100000<=y/\y<=100000:=eW y8;obtain⟨G,vp⟩:∃G,Int.gcd (Int.gcd x y:Nat) d=G:=⟨_,rfl⟩;have uO:0<G:=by rw[<-vp];exact sI (by omega)
      have vq:(G:Int)∣(Int.gcd x y:Nat):=by rw[<-vp];exact xR _ _
      have dx:(G:Int)∣x:=xV vq (xR _ _);have dy:(G:Int)∣y:=xV vq (vY _ _);have dd:(G:Int)∣d:=by rw[<-vp];exact vY _ _
      have ex:=(rU dx).symm;have ey:=(rU dy).symm;have ed:=(rU dd).symm;rw[af8 h0 Wv (show(0:Int)<G by omega) ex ey ed]
      have lx:=Mw ex uO;have ly:=Mw ey uO;have ld:=Mw ed uO;have fx:Fl (floatOfInt .f64 x) x:=qh (by omega)
      have fy:Fl (floatOfInt .f64 y) y:=qh (by omega)
      have HNA:Hid (∀w1,Calls Tryz.prog 37 #[.complex .f64 (floatOfInt .f64 x) (floatOfInt .f64 y),.int .i64 d] w1 fun e w'=>e=.returned (.agg #[.complex .f64 (floatOfInt .f64 (x.tdiv G)) (floatOfInt .f64 (y.tdiv G)),.int .i64 (d.tdiv G)])/\Below w1.heap.size w1 w'):=fun w1=>Ue d fx fy (by omega) (by omega) (by omega) G vp w1
      have HPA:Hid (∀w1,Calls Tryz.prog 38 #[.int .i64 x,.int .i64 y] w1 fun e w'=>e=.returned (.complex .f64 (floatOfInt .f64 x) (floatOfInt .f64 y))/\w'=w1):=fun w1=>De x y w1
      have hDp:0<d.tdiv (G:Int):=by
       rcases fD (d.tdiv (G:Int)) 0 with h|h|h
       ·have:=vV (show(0:Int)<G by omega) h;omega
       ·rw[h] at ed;omega
       ·exact h
      have Eo:Hid (∀v w1,gG w1 v (Ge.ag (Pl.rings s.data.toList))->Calls Tryz.prog 35 #[v,.agg #[.complex .f64 (floatOfInt .f64 (x.tdiv G)) (floatOfInt .f64 (y.tdiv G)),.int .i64 (d.tdiv G)]] w1 fun e w'=>e=.returned (if(Ge.ag (Pl.rings s.data.toList)).any (Ge.fo (x.tdiv G,y.tdiv G) (d.tdiv G)) then .tuple #[.int .i64 0,.bool true] else .tuple #[.int .i64 (Ge.total (Ge.fr (x.tdiv G,y.tdiv G) (d.tdiv G)) (Ge.ag (Pl.rings s.data.toList))),.bool false])/\Below w1.heap.size w1 w'):=fun v w1 hv=>
       aex _ v w1 hv hel jx (qh (by omega)) (qh (by omega)) ⟨by omega,by omega,by omega⟩
      have kV:Hid (∀v w1,vg w1 v (Pl.rings s.data.toList)->Calls Tryz.prog 36 #[v] w1 fun e w'=>∃v,e=.returned v/\gG w' v (Ge.ag (Pl.rings s.data.toList))/\Below w1.heap.size w1 w'):=fun v w1 hv=>Vl _ v w1 hv hro hrl
      rw[rq] at rh;rw[y8] at tL;clear hwd hbad Wv rq y8 vq dx dy dd ex ey ed lx ly ld fx fy hDp vp hel jx hro hrl hp2 h0;generalize Pl.rings s.data.toList=RG at*;generalize Ge.ag RG=ES at*;generalize x.tdiv (G:Int)=XQ at*;generalize y.tdiv (G:Int)=YQ at*;generalize d.tdiv (G:Int)=DQ at*
      go_enter Tryz.func17,Tryz.ntmps17
      go_wp2_with fail
      refine(HR.out _ oH).mono ?_;rintro e w1 ⟨hb1,rb,rv,rfl,c6,hlt,rp⟩
      go_wp2_with fail
      refine(rh.out _).mono ?_;rintro e w2 ⟨rfl,rfl⟩
      go_wp2_with fail
      refine(tL.out _).mono ?_;rintro e w2 ⟨rfl,rfl⟩
      go_wp2_with fail
      refine(kV.out _ _ rp).mono ?_;rintro e w3 ⟨ev,rfl,sA,hb3⟩;have jZ:=hb1.trans (hb3.mono hb1.size)
      go_wp2_with fail
      refine(HPA.out _).mono ?_;rintro e w4 ⟨rfl,rfl⟩
      go_wp2_with fail
      refine(HNA.out _).mono ?_;rintro e w5 ⟨rfl,ax⟩;have kK:=jZ.trans (ax.mono jZ.size);have ag1:=Nv sA ax
      go_wp2_with fail
      refine(Eo.out _ _ ag1).mono ?_;rintro e w6 ⟨rfl,aC⟩;have Ww:=kK.trans (aC.mono kK.size);by_cases ha:ES.any (Ge.fo (XQ,YQ) DQ)=true
      ·rw[ah ha]
       go_wp2_with fail
       refine bodyPost_ret (v:=.tuple #[.int .i64 0,.bool true,.int .i64 0,.int .i64 0]) (by simp[results,Tryz.results17,go_sem]) rfl ⟨?_,Ww⟩
       first
        |rfl
        |(rw[ah ha];rfl)
      ·rw[aa ha]
       go_wp2_with fail
       refine bodyPost_ret (v:=.tuple #[.int .i64 (Ge.total (Ge.fr (XQ,YQ) DQ) ES),.bool false,.int .i64 0,.int .i64 0]) (by simp[results,Tryz.results17,go_sem]) rfl ⟨?_,Ww⟩
       first
        |rfl
        |(rw[aa ha];rfl)
 ·have hw:Pl.dQ s.data.toList x y d=(0,false,Pl.err s.data.toList):=aa h0;rw[hw];have hne:(((Pl.err s.data.toList).1:Int) != 0)=true:=by rw[vX];omega
  have HR:Hid (∀w1,Gl w1->Calls Tryz.prog 33 #[.string s] w1 fun e w'=>Below w1.heap.size w1 w'/\∃pv,e=.returned (.tuple #[.pointer pv,.int .i64 (Pl.err s.data.toList).1,.int .i64 (Pl.err s.data.toList).2])):=fun w1 g1=>by
   refine(Io s w1 hm g1).mono ?_;rintro e w' ⟨hb,pv,rfl,_⟩;exact⟨hb,pv,rfl⟩
  simp only[Pl.Bc];generalize(Pl.err s.data.toList).1=E at*;generalize(Pl.err s.data.toList).2=Pp at*;clear hw h0
  go_enter Tryz.func17,Tryz.ntmps17
  go_wp2_with fail
  refine(HR.out _ oH).mono ?_;rintro e w1 ⟨hb1,pv,rfl⟩
  go_wp2_with fail
  refine bodyPost_ret (v:=.tuple #[.int .i64 0,.bool false,.int .i64 E,.int .i64 Pp]) (by simp[results,Tryz.results17,go_sem]) rfl ⟨rfl,hb1⟩
end Go.Proofs.YtkjhhooecopolaaGreatDoor

import Derived.Test.YtkjhhooecopolaaGreatDoorWz17
set_option maxRecDepth 100000
set_option maxHeartbeats 4000000
namespace Go.Proofs.YtkjhhooecopolaaGreatDoor
open Go.RowKit
def same(x y:PB):Bool:=decide (x.f=y.f)&&decide (x.t=y.t)
def kept [Inhabited PB](S:Array PB)(j:Nat):Bool:=decide (j=0)|| !same S[j]! S[j-1]!
def gb [Inhabited PB](S:Array PB):Nat->List PB
 |0=>[]
 |m+1=>gb S m++(if kept S m then[S[m]!] else[])
theorem II [Inhabited PB](S:Array PB):∀m,m<=S.size->(∀j,j<m->kept S j=true)->gb S m=S.toList.take m
 |0,_,_=>by simp[gb]
 |m+1,hm,h=>by
  have hlt:m<S.toList.length:=by rw[iQ];omega
  have e:S[m]! =S.toList[m]:=by rw[ik S m (by omega)];simp
  rw[gb,II S m (by omega) (fun j hj=>h j (by omega)),h m (by omega),aj rfl,uX hlt,e]
structure KI [Inhabited PB](S:Array PB)(m k:Nat)(T:Array PB):Prop where
 size:T.size=S.size
 lt:k<m
 le:m<=S.size
 low:T.toList.take k=gb S m
 high:∀j,k<=j->T[j]! =S[j]!
theorem KI.start [Inhabited PB]{S:Array PB}{k0:Nat}(hk:k0<S.size)(hall:∀j,j<k0->kept S j=true)(h:kept S k0=false):KI S (k0+1) k0 S:=
 ⟨rfl,Nat.lt_succ_self _,hk,by rw[gb,h,II S k0 (by omega) hall];simp,fun _ _=>rfl⟩
theorem KI.skip [Inhabited PB]{S T:Array PB}{m k:Nat}(h:KI S m k T)(hm:m<S.size)(hk:kept S m=false):KI S (m+1) k T:=
 ⟨h.size,by have:=h.lt;omega,hm,by rw[gb,hk,h.low];simp,h.high⟩
theorem KI.keep [Inhabited PB]{S T:Array PB}{m k:Nat}(h:KI S m k T)(hm:m<S.size)(hk:kept S m=true):KI S (m+1) (k+1) (T.setIfInBounds k S[m]!):=by
 have hl:=h.lt;have hs:=h.size;refine⟨by rw[xe];exact hs,by omega,hm,?_,fun j hj=>?_⟩
 ·rw[gb,hk,aj rfl,<-h.low,KB];have hkl:k<(T.toList.set k S[m]!).length:=by rw[KF,iQ];omega
  rw[uX hkl,List.getElem_set_self,List.take_set_of_le (ay _)]
 ·have hne:j≠k:=by omega
  rw[<-h.high j (by omega)]
  by_cases IJ:j<T.size
  ·rw[ik _ j (by rw[xe];exact IJ),ik T j IJ,Array.getElem_setIfInBounds,af (Ne.symm hne)]
  ·rw[getElem!_neg _ j (by rw[xe];exact IJ),getElem!_neg T j IJ]
structure jm(w:World)(g cap n:Nat)(d:Array PB)(wr:World):Prop where
 size:d.size=n
 own:wr.ownsRow w.heap.size 171 6 (.slice (some ⟨g,0,none⟩) n cap) n (cV d.toList)
 below:Below w.heap.size w wr
theorem jm.blk{w:World}{g cap n:Nat}{d:Array PB}{wr:World}(h:jm w g cap n d wr):∃cur,w.heap.size<=g/\wr.heap[g]?=some (.cells cur 171 (0,0))/\n<=cap/\cap<=maxLen/\cur.size=cap*6/\cur.toList.take (n*6)=cV d.toList:=by
 rcases h.own.2 with⟨hv,_⟩|⟨g',cap',cur,hv,h1,h2,h3,h4,h5,h6⟩
 ·simp at hv
 ·simp only[Value.slice.injEq,Option.some.injEq,Addr.mk.injEq] at hv;obtain⟨⟨rfl,_⟩,_,rfl⟩:=hv;exact⟨cur,h1,h2,h3,h4,h5,h6⟩
theorem jm.cells [Inhabited PB]{w:World}{g cap n:Nat}{d:Array PB}{wr:World}(h:jm w g cap n d wr)(i:Nat)(hi:i<n):
  wr.cell? ⟨g,i*6,none⟩=some (.complex .f64 (d[i]!).wa (d[i]!).wb)/\wr.cell? ⟨g,i*6+1,none⟩=some (.float .f64 (d[i]!).sh)/\wr.cell? ⟨g,i*6+2,none⟩=some (.complex .f64 (floatOfInt .f64 (d[i]!).f.1) (floatOfInt .f64 (d[i]!).f.2.1))/\wr.cell? ⟨g,i*6+3,none⟩=some (.int .i64 (d[i]!).f.2.2)/\wr.cell? ⟨g,i*6+4,none⟩=some (.complex .f64 (floatOfInt .f64 (d[i]!).t.1) (floatOfInt .f64 (d[i]!).t.2.1))/\wr.cell? ⟨g,i*6+5,none⟩=some (.int .i64 (d[i]!).t.2.2)/\∀o,wr.frozen? ⟨g,o,none⟩=false:=by
 obtain⟨cur,_,hb,_,_,hs,htk⟩:=h.blk;have hd:i<d.size:=by rw[h.size];exact hi
 have hx:d.toList[i]?=some d[i]! :=by rw[jb,nB hd,ik d i hd]
 have key:∀j,j<6->wr.cell? ⟨g,i*6+j,none⟩=(d[i]!).cells[j]?:=fun j hj=>by
  have k0:=IH _ _ _ hx j hj;rw[<-htk,kj,aj (by omega),jb] at k0
  unfold World.cell?;rw[hb];exact k0
 exact⟨key 0 (by omega),key 1 (by omega),key 2 (by omega),key 3 (by omega),key 4 (by omega),key 5 (by omega),fun o=>bw hb _⟩
def MB(w:World)(g o:Nat)(x:PB):World:=w.setCells g o x.cells
theorem Vl:∀(l:List PB)(k:Nat)(x:PB),k<l.length->cV (l.set k x)=(cV l).take (k*6)++x.cells++(cV l).drop (k*6+6)
 |[],_,_,h=>by simp at h
 |a::l,0,x,_=>by
  have e:∀(b:PB)(r:List PB),cV (b::r)=b.cells++cV r:=fun b r=>by simp[cV]
  rw[aI,e,e];have e0:a.cells.length=6:=rfl;rw[show 0*6=0 from rfl,List.take_zero,qd,show 0+6=a.cells.length from rfl,abh]
 |a::l,k+1,x,h=>by
  have ih:=Vl l k x (by simpa using h)
  have e:∀(b:PB)(r:List PB),cV (b::r)=b.cells++cV r:=fun b r=>by simp[cV]
  rw[aG,e,e,ih];have e1:(k+1)*6=a.cells.length+k*6:=by show _=6+_;omega
  have e2:a.cells.length+k*6+6=a.cells.length+(k*6+6):=by omega
  rw[e1,e2,Qy,List.drop_append,uZ (abj _ _),Kq (abj _ _)];simp
theorem afL{w:World}{g o:Nat}{x:PB}{cur:Array Value}{t:TypeId}(hb:w.heap[g]?=some (.cells cur t (0,0)))(ho:o+6<=cur.size):
  (MB w g o x)=w.setRow g (cur.toList.take o++x.cells++cur.toList.drop (o+6)).toArray:=by
 have one:∀v∈x.cells,v.oneCell'=true:=fun v hv=>U9 [x] v (by simpa[cV] using hv)
 have h6:x.cells.length=6:=rfl;unfold MB;generalize x.cells=C at*;have hst:=run_storeCells_at Tryz.prog g o t C 0 cur w hb (by rw[h6];omega) one
 have MC:=run_storeCells_cells (P:=Tryz.prog) g o C 0 w (fun j hj=>by
  rw[h6] at hj;unfold World.cell?;rw[hb];simp only[pD];rw[nB (by omega)]
  rfl) (fun j _=>bw hb _) one
 rw[pD] at hst MC;rw[h6] at hst;rw[hst] at MC;injection MC with _ h2;exact h2.symm
theorem jm.set{w:World}{g cap n:Nat}{d:Array PB}{wr:World}(h:jm w g cap n d wr)(k:Nat)(hk:k<n)(x:PB):jm w g cap n (d.setIfInBounds k x) (MB wr g (k*6) x):=by
 obtain⟨cur,hg,hb,hnc,hcm,hs,htk⟩:=h.blk;have hd:k<d.toList.length:=by rw[iQ,h.size];exact hk
 have h6:x.cells.length=6:=rfl;rw[afL hb (by omega)]
 have zN:=setRow_heap wr g cur (cur.toList.take (k*6)++x.cells++cur.toList.drop (k*6+6)).toArray _ _ hb;refine⟨by rw[xe];exact h.size,⟨?_,ah ⟨g,cap,_,rfl,hg,zN,hnc,hcm,?_,?_⟩⟩,h.below.trans ⟨rfl,rfl,rfl,by simp,fun j hj=>setRow_other _ _ _ _ (by omega)⟩⟩
 ·rw[Al,iQ,xe,h.size]
 ·simp only[abe,aX,iE,rp,iQ,h6,hs];omega
 ·rw[KB,Vl _ _ _ hd,<-htk];show(cur.toList.take (k*6)++x.cells++cur.toList.drop (k*6+6)).take (n*6)=_;have l1:(cur.toList.take (k*6)).length=k*6:=by rw[iE,iQ,hs];omega
  rw[fB,Qy,l1,Qy,h6,BI,BI,List.take_drop];have m1:min (n*6) (k*6)=k*6:=by omega
  have m2:min (k*6) (n*6)=k*6:=by omega
  have m3:x.cells.take (n*6-k*6)=x.cells:=uZ (by rw[h6];omega)
  have m4:k*6+6+(n*6-k*6-6)=n*6:=by omega
  rw[m1,m2,m3,m4,fB]
theorem jm.keep{w:World}{g cap n:Nat}{d:Array PB}{wr w':World}(h:jm w g cap n d wr)(hb:Below wr.heap.size wr w'):jm w g cap n d w':=
 ⟨h.size,aU h.own fun k hk=>hb.block k (aB h.own k hk).2,h.below.trans (hb.mono h.below.size)⟩
theorem jm.rd{w:World}{g cap n:Nat}{d:Array PB}{wr:World}(h:jm w g cap n d wr):qE wr (.slice (some ⟨g,0,none⟩) n cap) d.toList:=by
 obtain⟨cur,hg,hb,hnc,hcm,hs,htk⟩:=h.blk;have e:d.toList.length=n:=by rw[iQ,h.size]
 exact⟨by rw[Al],ah ⟨g,cap,cur,by rw[e],iD _,hb,by rw[e];exact hnc,hcm,hs,by rw[e];exact htk⟩⟩
theorem Vm:∀(l:List PB)(k:Nat),(cV l).take (k*6)=cV (l.take k)
 |[],k=>by simp[cV]
 |a::l,0=>by simp[cV]
 |a::l,k+1=>by
  have ih:=Vm l k;have e:∀(b:PB)(r:List PB),cV (b::r)=b.cells++cV r:=fun b r=>by simp[cV]
  have e1:(k+1)*6=a.cells.length+k*6:=by show _=6+_;omega
  rw[Bx,e,e,<-ih,e1,Qy,uZ (abj _ _)];simp
theorem jm.clear{w:World}{g cap n:Nat}{d:Array PB}{wr:World}(h:jm w g cap n d wr)(k:Nat)(hk:k<n)(c:Nat):
  ∃w',(∀ty,(Builtin.clear_ #[168] ty #[.slice (some ⟨g,k*6,none⟩) (n-k) c]).run Tryz.prog wr=.ok (.tuple #[]) w')/\Below w.heap.size w w'/\qE w' (.slice (some ⟨g,0,none⟩) k cap) (d.toList.take k):=by
 obtain⟨cur,hg,hb,hnc,hcm,hs,htk⟩:=h.blk;have hzl:(Builtin.zeroCells (Value.agg #[.complex .f64 0 0,.float .f64 0,.complex .f64 0 0,.int .i64 0,.complex .f64 0 0,.int .i64 0]).cells (n-k)).toList.length=(n-k)*6:=by
  rw[iQ];unfold Builtin.zeroCells;rw[Array.size_map,Array.size_range];rfl
 have hone:∀v∈(Builtin.zeroCells (Value.agg #[.complex .f64 0 0,.float .f64 0,.complex .f64 0 0,.int .i64 0,.complex .f64 0 0,.int .i64 0]).cells (n-k)).toList,v.oneCell'=true:=by
  intro v hv;unfold Builtin.zeroCells at hv;simp only[Array.toList_map,aN] at hv;obtain⟨i,_,rfl⟩:=hv;have e:(Value.agg #[.complex .f64 0 0,.float .f64 0,.complex .f64 0 0,.int .i64 0,.complex .f64 0 0,.int .i64 0]).cells= #[.complex .f64 0 0,.float .f64 0,.complex .f64 0 0,.int .i64 0,.complex .f64 0 0,.int .i64 0]:=rfl;rw[e];show(#[Value.complex .f64 0 0,.float .f64 0,.complex .f64 0 0,.int .i64 0,.complex .f64 0 0,.int .i64 0][i%6]!).oneCell'=true;have h2:i%6=0\/i%6=1\/i%6=2\/i%6=3\/i%6=4\/i%6=5:=by omega
  rcases h2 with h2|h2|h2|h2|h2|h2<;>rw[h2]<;>rfl
 have hst:=run_storeCells_at Tryz.prog g (k*6) 171 _ 0 cur wr hb (by rw[hzl,hs];omega) hone
 simp only[pD] at hst;rw[hzl] at hst;generalize lD:(Builtin.zeroCells (Value.agg #[.complex .f64 0 0,.float .f64 0,.complex .f64 0 0,.int .i64 0,.complex .f64 0 0,.int .i64 0]).cells (n-k)).toList=Z at*;have zN:=setRow_heap wr g cur (cur.toList.take (k*6)++Z++cur.toList.drop (k*6+(n-k)*6)).toArray _ _ hb;refine⟨wr.setRow g (cur.toList.take (k*6)++Z++cur.toList.drop (k*6+(n-k)*6)).toArray,fun ty=>?_,?_,?_,ah ⟨g,cap,_,?_,iD _,zN,?_,hcm,?_,?_⟩⟩
 ·obtain⟨m,hm⟩:∃m,n-k=m+1:=⟨n-k-1,by omega⟩
  rw[hm] at hst lD⊢;simp[Builtin.clear_,run_underlying Tryz.underlying168,lD,hst]
 ·refine h.below.trans ⟨rfl,rfl,rfl,by simp,fun j hj=>setRow_other _ _ _ _ (by omega)⟩
 ·rw[Al]
 ·have e:(d.toList.take k).length=k:=by rw[iE,iQ,h.size];omega
  rw[e]
 ·rw[iE,iQ,h.size];omega
 ·simp only[abe,aX,iE,rp,iQ,hzl,hs];omega
 ·have e:(d.toList.take k).length=k:=by rw[iE,iQ,h.size];omega
  rw[e];show((cur.toList.take (k*6)++_++_).take (k*6))=_;rw[fB,amy (by rw[iE,iQ,hs];omega),BI,Nat.min_self]
  have e2:cur.toList.take (k*6)=(cur.toList.take (n*6)).take (k*6):=by rw[BI,aaX (by omega)]
  rw[e2,htk];exact Vm _ _
theorem Vn [Inhabited PB](d:Array PB)(j:Nat)(hj:j<1):kept d j=true:=by
 have e:j=0:=by omega
 unfold kept;rw[e];rfl
theorem afM [Inhabited PB](w:World)(g cap n:Nat)(d:Array PB)(x8:World)(h:jm w g cap n d x8)(hd:∀i,i<n->dh (d[i]!))(hn:n<=85000000)(hc:n<=cap):
  Calls Tryz.prog 158 #[.slice (some ⟨g,0,none⟩) n cap,.func (.func 159) #[] #[]] x8 fun r w'=>∃v',r=.returned v'/\qE w' v' (gb d n)/\Below w.heap.size w w':=by
 have HR:Hid (jm w g cap n d x8):=h;have HD:Hid (∀i,i<n->dh (d[i]!)):=hd;have hds:d.size=n:=h.size;clear h hd;by_cases h2:n<2
 ·go_enter Tryz.func158,Tryz.ntmps158
  go_wp2_with fail
  go_ret
  refine⟨_,rfl,?_,HR.out.below⟩;have e:gb d n=d.toList:=by
   rw[II d n (by omega) (fun j hj=>Vn d j (by omega)),<-hds,<-iQ,gm]
  rw[e];exact HR.out.rd
 ·go_enter Tryz.func158,Tryz.ntmps158
  go_wp2_with fail
  go_loopg [5] n (fun gk s5 wr=>∃k:Nat,1<=k/\k<=n/\n-k<=gk/\s5=.int .i64 k/\Hid (jm w g cap n d wr/\∀j,j<k->kept d j=true))
  case atStart=>exact⟨1,ay _,by omega,by omega,rfl,HR.out,Vn d⟩
  case round=>
   obtain⟨k,hk1,hk,hg,rfl,HI⟩:=hrel;obtain⟨m,hm⟩:∃m,k=m+1:=⟨k-1,by omega⟩
   by_cases hlt:k<n
   ·obtain⟨a0,a1,a2,a3,a4,a5,_⟩:=HI.out.1.cells k hlt;obtain⟨b0,b1,b2,b3,b4,b5,_⟩:=HI.out.1.cells m (by omega)
    have fN:(k:Int)<(n:Int):=by omega
    have yg:(m:Int)<(n:Int):=by omega
    have hwk:IntKind.i64.wrap ((k:Int)-1)=(m:Int):=by rw[IntKind.wrap_i64];omega
    have hm0:(0:Int)<=(m:Int):=by omega
    have anG:m<n:=by omega
    have HMK:Hid (k=m+1):=hm;have dH:g<wr.heap.size:=by obtain⟨_,_,hb,_⟩:=HI.out.1.blk;exact lt_of_heap hb
    have hcall:=fun w=>UH d[k]! d[m]! (HD.out k hlt) (HD.out m (by omega)) w
    have Ap:Hid (kept d k= !same d[k]! d[m]!):=by
     have e0:decide (k=0)=false:=gv (by omega)
     have e1:k-1=m:=by omega
     show kept d k=_;unfold kept;rw[e0,e1,Qw]
    have MD:Hid (kept d k= !(decide (d[k]!.f=d[m]!.f)&&decide (d[k]!.t=d[m]!.t))):=Ap;generalize ME:(decide (d[k]!.f=d[m]!.f)&&decide (d[k]!.t=d[m]!.t))=bq at hcall MD;clear ME Ap;simp only[PB.cells] at hcall;generalize d[k]!.wa=A1 at*;generalize d[k]!.wb=A2 at*;generalize d[k]!.sh=A3 at*;generalize floatOfInt .f64 d[k]!.f.1=A4 at*;generalize floatOfInt .f64 d[k]!.f.2.1=A5 at*;generalize d[k]!.f.2.2=A6 at*;generalize floatOfInt .f64 d[k]!.t.1=A7 at*;generalize floatOfInt .f64 d[k]!.t.2.1=A8 at*;generalize d[k]!.t.2.2=A9 at*;generalize d[m]!.wa=B1 at*;generalize d[m]!.wb=B2 at*;generalize d[m]!.sh=B3 at*;generalize floatOfInt .f64 d[m]!.f.1=B4 at*;generalize floatOfInt .f64 d[m]!.f.2.1=B5 at*;generalize d[m]!.f.2.2=B6 at*;generalize floatOfInt .f64 d[m]!.t.1=B7 at*;generalize floatOfInt .f64 d[m]!.t.2.1=B8 at*;generalize d[m]!.t.2.2=B9 at*;have DR:Hid (∀w,Calls Tryz.prog 159 #[.agg #[.complex .f64 A1 A2,.float .f64 A3,.complex .f64 A4 A5,.int .i64 A6,.complex .f64 A7 A8,.int .i64 A9],.agg #[.complex .f64 B1 B2,.float .f64 B3,.complex .f64 B4 B5,.int .i64 B6,.complex .f64 B7 B8,.int .i64 B9]] w fun r w'=>r=.returned (.bool bq)/\Below w.heap.size w w'):=hcall
    clear hcall hm
    go_wp2_with fail
    go_region_held3 (fun w'=>w'.cell? ⟨g,k*6,none⟩=some (.complex .f64 A1 A2)/\w'.cell? ⟨g,k*6+1,none⟩=some (.float .f64 A3)/\w'.cell? ⟨g,k*6+2,none⟩=some (.complex .f64 A4 A5)/\w'.cell? ⟨g,k*6+3,none⟩=some (.int .i64 A6)/\w'.cell? ⟨g,k*6+4,none⟩=some (.complex .f64 A7 A8)/\w'.cell? ⟨g,k*6+5,none⟩=some (.int .i64 A9)/\w'.cell? ⟨g,m*6,none⟩=some (.complex .f64 B1 B2)/\w'.cell? ⟨g,m*6+1,none⟩=some (.float .f64 B3)/\w'.cell? ⟨g,m*6+2,none⟩=some (.complex .f64 B4 B5)/\w'.cell? ⟨g,m*6+3,none⟩=some (.int .i64 B6)/\w'.cell? ⟨g,m*6+4,none⟩=some (.complex .f64 B7 B8)/\w'.cell? ⟨g,m*6+5,none⟩=some (.int .i64 B9)) (go_keep) (first
      |(go_at_call 159;refine(DR.out _).mono ?_;rintro r w5 ⟨rfl,az⟩;have c0:=(az.cell (p:=⟨g,k*6,none⟩) dH).trans a0;have c1:=(az.cell (p:=⟨g,k*6+1,none⟩) dH).trans a1;have c2:=(az.cell (p:=⟨g,k*6+2,none⟩) dH).trans a2;have c3:=(az.cell (p:=⟨g,k*6+3,none⟩) dH).trans a3;have c4:=(az.cell (p:=⟨g,k*6+4,none⟩) dH).trans a4;have c5:=(az.cell (p:=⟨g,k*6+5,none⟩) dH).trans a5;have e0:=(az.cell (p:=⟨g,m*6,none⟩) dH).trans b0;have e1:=(az.cell (p:=⟨g,m*6+1,none⟩) dH).trans b1;have e2:=(az.cell (p:=⟨g,m*6+2,none⟩) dH).trans b2;have e3:=(az.cell (p:=⟨g,m*6+3,none⟩) dH).trans b3;have e4:=(az.cell (p:=⟨g,m*6+4,none⟩) dH).trans b4;have e5:=(az.cell (p:=⟨g,m*6+5,none⟩) dH).trans b5))
    have mi:Below wr.heap.size wr w5:=(Below.refl _ _).drew.trans az;have IK:Hid (jm w g cap n d w5/\∀j,j<k->kept d j=true):=⟨HI.out.1.keep mi,HI.out.2⟩;clear a0 b0 c0 e0 a1 b1 c1 e1 a2 b2 c2 e2 a3 b3 c3 e3 a4 b4 c4 e4 a5 b5 c5 e5 az mi HI DR;cases bq
    ·have HK:Hid (kept d k=true):=MD.out
     go_wp2_with fail
     go_roundg (n-(k+1))
     case measure=>omega
     case rel=>
      refine⟨k+1,by omega,by omega,ay _,by go_num,IK.out.1,fun j hj=>?_⟩
      by_cases e:j=k
      ·subst e;exact HK.out
      ·exact IK.out.2 j (by omega)
    ·have HK:Hid (kept d k=false):=MD.out;have hkc:k<=cap:=by omega
     clear hwk HMK
     go_wp2_with fail
     go_loopg [5,7] n (fun gk s5 s7 wr2=>∃(kk k2:Nat)(dk:Array PB),s5=.int .i64 kk/\s7=.int .i64 k2/\1<=k2/\k+k2<=n/\n-(k+k2)<=gk/\Hid (jm w g cap n dk wr2/\KI d (k+k2) kk dk))
     case atStart=>exact⟨k,1,d,rfl,rfl,ay _,by omega,by omega,IK.out.1,KI.start (by omega) IK.out.2 HK.out⟩
     case round=>
      obtain⟨kk,k2,dk,rfl,rfl,h1,hle,hg2,HJ⟩:=hrel;obtain⟨m2,hm2⟩:∃m2,k2=m2+1:=⟨k2-1,by omega⟩
      have hkk:=HJ.out.2.lt;by_cases qw:k+k2<n
      ·obtain⟨a0,a1,a2,a3,a4,a5,_⟩:=HJ.out.1.cells (k+k2) qw;obtain⟨b0,b1,b2,b3,b4,b5,_⟩:=HJ.out.1.cells (k+m2) (by omega)
       obtain⟨q0,q1,q2,q3,q4,q5,z0⟩:=HJ.out.1.cells kk (by omega)
       rw[HJ.out.2.high (k+k2) (by omega),show(k+k2)*6=k*6+k2*6 by omega] at a0 a1 a2 a3 a4 a5
       rw[HJ.out.2.high (k+m2) (by omega),show(k+m2)*6=k*6+m2*6 by omega] at b0 b1 b2 b3 b4 b5
       have afO:(k2:Int)<(n:Int)-(k:Int):=by omega
       have Mv:k2<n-k:=by omega
       have anH:m2<n-k:=by omega
       have anI:(m2:Int)<(n:Int)-(k:Int):=by omega
       have anJ:(0:Int)<=(m2:Int):=by omega
       have anK:IntKind.i64.wrap ((k2:Int)-1)=(m2:Int):=by rw[IntKind.wrap_i64];omega
       have U3:(kk:Int)<(n:Int):=by omega
       have gK:g<wr.heap.size:=by obtain⟨_,_,hb,_⟩:=HJ.out.1.blk;exact lt_of_heap hb
       have hcall:=fun w=>UH d[k+k2]! d[k+m2]! (HD.out (k+k2) qw) (HD.out (k+m2) (by omega)) w
       have Ap:Hid (kept d (k+k2)= !(decide (d[k+k2]!.f=d[k+m2]!.f)&&decide (d[k+k2]!.t=d[k+m2]!.t))):=by
        have e0:decide (k+k2=0)=false:=gv (by omega)
        have e1:k+k2-1=k+m2:=by omega
        show kept d (k+k2)=_;unfold kept;rw[e0,e1,Qw];rfl
       have HST:Hid (∀w',Below wr.heap.size wr w'->jm w g cap n (dk.setIfInBounds kk d[k+k2]!) (w'.setCells g (kk*6) (d[k+k2]!).cells)):=fun w' hb=>(HJ.out.1.keep hb).set kk (by omega) _
       generalize ME:(decide (d[k+k2]!.f=d[k+m2]!.f)&&decide (d[k+k2]!.t=d[k+m2]!.t))=bq at hcall Ap;clear ME hm2;simp only[PB.cells] at hcall HST;generalize d[k+k2]!.wa=P1 at*;generalize d[k+k2]!.wb=P2 at*;generalize d[k+k2]!.sh=P3 at*;generalize floatOfInt .f64 d[k+k2]!.f.1=P4 at*;generalize floatOfInt .f64 d[k+k2]!.f.2.1=P5 at*;generalize d[k+k2]!.f.2.2=P6 at*;generalize floatOfInt .f64 d[k+k2]!.t.1=P7 at*;generalize floatOfInt .f64 d[k+k2]!.t.2.1=P8 at*;generalize d[k+k2]!.t.2.2=P9 at*;generalize d[k+m2]!.wa=R1 at*;generalize d[k+m2]!.wb=R2 at*;generalize d[k+m2]!.sh=R3 at*;generalize floatOfInt .f64 d[k+m2]!.f.1=R4 at*;generalize floatOfInt .f64 d[k+m2]!.f.2.1=R5 at*;generalize d[k+m2]!.f.2.2=R6 at*;generalize floatOfInt .f64 d[k+m2]!.t.1=R7 at*;generalize floatOfInt .f64 d[k+m2]!.t.2.1=R8 at*;generalize d[k+m2]!.t.2.2=R9 at*;have DR:Hid (∀w,Calls Tryz.prog 159 #[.agg #[.complex .f64 P1 P2,.float .f64 P3,.complex .f64 P4 P5,.int .i64 P6,.complex .f64 P7 P8,.int .i64 P9],.agg #[.complex .f64 R1 R2,.float .f64 R3,.complex .f64 R4 R5,.int .i64 R6,.complex .f64 R7 R8,.int .i64 R9]] w fun r w'=>r=.returned (.bool bq)/\Below w.heap.size w w'):=hcall
       clear hcall
       go_wp2_with fail
       go_region_held3 (fun w'=>w'.cell? ⟨g,k*6+k2*6,none⟩=some (.complex .f64 P1 P2)/\w'.cell? ⟨g,k*6+k2*6+1,none⟩=some (.float .f64 P3)/\w'.cell? ⟨g,k*6+k2*6+2,none⟩=some (.complex .f64 P4 P5)/\w'.cell? ⟨g,k*6+k2*6+3,none⟩=some (.int .i64 P6)/\w'.cell? ⟨g,k*6+k2*6+4,none⟩=some (.complex .f64 P7 P8)/\w'.cell? ⟨g,k*6+k2*6+5,none⟩=some (.int .i64 P9)/\w'.cell? ⟨g,k*6+m2*6,none⟩=some (.complex .f64 R1 R2)/\w'.cell? ⟨g,k*6+m2*6+1,none⟩=some (.float .f64 R3)/\w'.cell? ⟨g,k*6+m2*6+2,none⟩=some (.complex .f64 R4 R5)/\w'.cell? ⟨g,k*6+m2*6+3,none⟩=some (.int .i64 R6)/\w'.cell? ⟨g,k*6+m2*6+4,none⟩=some (.complex .f64 R7 R8)/\w'.cell? ⟨g,k*6+m2*6+5,none⟩=some (.int .i64 R9)) (go_keep) (first
         |(go_at_call 159;refine(DR.out _).mono ?_;rintro r w6 ⟨rfl,aF⟩;have c0:=(aF.cell (p:=⟨g,k*6+k2*6,none⟩) gK).trans a0;have c1:=(aF.cell (p:=⟨g,k*6+k2*6+1,none⟩) gK).trans a1;have c2:=(aF.cell (p:=⟨g,k*6+k2*6+2,none⟩) gK).trans a2;have c3:=(aF.cell (p:=⟨g,k*6+k2*6+3,none⟩) gK).trans a3;have c4:=(aF.cell (p:=⟨g,k*6+k2*6+4,none⟩) gK).trans a4;have c5:=(aF.cell (p:=⟨g,k*6+k2*6+5,none⟩) gK).trans a5;have e0:=(aF.cell (p:=⟨g,k*6+m2*6,none⟩) gK).trans b0;have e1:=(aF.cell (p:=⟨g,k*6+m2*6+1,none⟩) gK).trans b1;have e2:=(aF.cell (p:=⟨g,k*6+m2*6+2,none⟩) gK).trans b2;have e3:=(aF.cell (p:=⟨g,k*6+m2*6+3,none⟩) gK).trans b3;have e4:=(aF.cell (p:=⟨g,k*6+m2*6+4,none⟩) gK).trans b4;have e5:=(aF.cell (p:=⟨g,k*6+m2*6+5,none⟩) gK).trans b5))
       have vW:Below wr.heap.size wr w6:=(Below.refl _ _).drew.trans aF;have Mn:Hid (jm w g cap n dk w6):=HJ.out.1.keep vW;have Vo:Hid (KI d (k+k2) kk dk):=HJ.out.2;have Vq:=HST.out w6 vW;have Vr:Hid (jm w g cap n (dk.setIfInBounds kk d[k+k2]!) (w6.setCells g (kk*6) [.complex .f64 P1 P2,.float .f64 P3,.complex .f64 P4 P5,.int .i64 P6,.complex .f64 P7 P8,.int .i64 P9])):=Vq;have x0:=(aF.cell (p:=⟨g,kk*6,none⟩) gK).trans q0;have x1:=(aF.cell (p:=⟨g,kk*6+1,none⟩) gK).trans q1;have x2:=(aF.cell (p:=⟨g,kk*6+2,none⟩) gK).trans q2;have x3:=(aF.cell (p:=⟨g,kk*6+3,none⟩) gK).trans q3;have x4:=(aF.cell (p:=⟨g,kk*6+4,none⟩) gK).trans q4;have x5:=(aF.cell (p:=⟨g,kk*6+5,none⟩) gK).trans q5;have y0:w6.frozen? ⟨g,kk*6,none⟩=false:=(aF.frozen (p:=⟨g,kk*6,none⟩) gK).trans (z0 _);have y1:w6.frozen? ⟨g,kk*6+1,none⟩=false:=(aF.frozen (p:=⟨g,kk*6+1,none⟩) gK).trans (z0 _);have y2:w6.frozen? ⟨g,kk*6+2,none⟩=false:=(aF.frozen (p:=⟨g,kk*6+2,none⟩) gK).trans (z0 _);have y3:w6.frozen? ⟨g,kk*6+3,none⟩=false:=(aF.frozen (p:=⟨g,kk*6+3,none⟩) gK).trans (z0 _);have y4:w6.frozen? ⟨g,kk*6+4,none⟩=false:=(aF.frozen (p:=⟨g,kk*6+4,none⟩) gK).trans (z0 _);have y5:w6.frozen? ⟨g,kk*6+5,none⟩=false:=(aF.frozen (p:=⟨g,kk*6+5,none⟩) gK).trans (z0 _);clear a0 b0 e0 q0 a1 b1 e1 q1 a2 b2 e2 q2 a3 b3 e3 q3 a4 b4 e4 q4 a5 b5 e5 q5 aF vW HJ DR HST Vq z0;cases bq
       ·have x9:Hid (kept d (k+k2)=true):=Ap.out
        go_wp2_with (simp only[fW,oD];go_simp)
        go_roundg (n-(k+(k2+1)))
        case measure=>omega
        case rel=>exact⟨kk+1,k2+1,dk.setIfInBounds kk d[k+k2]!,by go_num,by go_num,by omega,by omega,ay _,Vr.out,Vo.out.keep (by omega) x9.out⟩
       ·have x9:Hid (kept d (k+k2)=false):=Ap.out;clear c0 x0 y0 c1 x1 y1 c2 x2 y2 c3 x3 y3 c4 x4 y4 c5 x5 y5 Vr
        go_wp2_with fail
        go_roundg (n-(k+(k2+1)))
        case measure=>omega
        case rel=>exact⟨kk,k2+1,dk,rfl,by go_num,by omega,by omega,ay _,Mn.out,Vo.out.skip (by omega) x9.out⟩
      ·have hend:k+k2=n:=by omega
       obtain⟨w',hcl,aw,lZ⟩:=HJ.out.1.clear kk (by omega) (cap-kk)
       have DG:Hid (qE w' (.slice (some ⟨g,0,none⟩) kk cap) (gb d n)):=by
        have hI:=HJ.out.2.low;rw[hend] at hI;rw[<-hI];exact lZ
       have DI:Hid (Below w.heap.size w w'):=aw;have Mv:¬k2<n-k:=by omega
       have U3:kk<=n:=by omega
       have afi:kk<=cap:=by omega
       clear lZ aw
       go_wp2_with fail
       go_ret
       exact⟨_,rfl,DG.out,DI.out⟩
   ·have hkn:k=n:=by omega
    subst hkn;have e:gb d k=d.toList:=by
     rw[II d k (by omega) HI.out.2,<-hds,<-iQ,gm]
    have DG:Hid (qE wr (.slice (some ⟨g,0,none⟩) k cap) (gb d k)):=by
     rw[e];exact HI.out.1.rd
    have DI:Hid (Below w.heap.size w wr):=HI.out.1.below;clear e HI hds
    go_wp2_with fail
    go_ret
    exact⟨_,rfl,DG.out,DI.out⟩
theorem Vs{x y:PB}:same x y=true↔x.f=y.f/\x.t=y.t:=by unfold same;simp
theorem Vt{x x' y:PB}(hx:dh x)(hx':dh x')(hy:dh y)(hf:x.f=x'.f)(ht:x.t=x'.t):jx x y↔jx x' y:=by
 rw[qJ hx hy,qJ hx' hy,hf,ht]
structure KL [Inhabited PB](S:Array PB)(m:Nat):Prop where
 mem:∀p∈gb S m,∃j,j<m/\p=S[j]!
 all:∀j,j<m->∃p∈gb S m,p.f=S[j]!.f/\p.t=S[j]!.t
 oP:(gb S m).Pairwise jx
theorem Vu [Inhabited PB](S:Array PB)(hv:∀j,j<S.size->dh S[j]!)(hp:∀i j,i<j->j<S.size->¬jx S[j]! S[i]!):∀m,m<=S.size->KL S m
 |0,_=>⟨fun p h=>by simp[gb] at h,fun j h=>by omega,by simp[gb]⟩
 |m+1,hm=>by
  have ih:=Vu S hv hp m (by omega)
  have DT:=hv m (by omega)
  cases hk:kept S m
  ·have e:gb S (m+1)=gb S m:=by rw[gb,hk];simp
   have hs:same S[m]! S[m-1]! =true/\0<m:=by
    unfold kept at hk;rcases Nat.eq_zero_or_pos m with h0|h0
    ·rw[h0] at hk;simp at hk
    ·refine⟨?_,h0⟩;cases h:same S[m]! S[m-1]!
     ·rw[h] at hk;simp at hk
     ·rfl
   refine⟨fun p h=>?_,fun j hj=>?_,by rw[e];exact ih.oP⟩
   ·rw[e] at h;obtain⟨j,hj,h⟩:=ih.mem p h;exact⟨j,by omega,h⟩
   ·rw[e];by_cases hjm:j<m
    ·exact ih.all j hjm
    ·have:j=m:=by omega
     subst this;obtain⟨p,hp1,hp2,qA⟩:=ih.all (j-1) (by omega)
     have h2:=Vs.1 hs.1;exact⟨p,hp1,by rw[hp2,h2.1],by rw[qA,h2.2]⟩
  ·have e:gb S (m+1)=gb S m++[S[m]!]:=by rw[gb,hk];simp
   refine⟨fun p h=>?_,fun j hj=>?_,?_⟩
   ·rw[e] at h;rcases bQ.1 h with h|h
    ·obtain⟨j,hj,h⟩:=ih.mem p h;exact⟨j,by omega,h⟩
    ·exact⟨m,by omega,bY.1 h⟩
   ·rw[e];by_cases hjm:j<m
    ·obtain⟨p,hp1,hp2⟩:=ih.all j hjm;exact⟨p,nr _ hp1,hp2⟩
    ·have:j=m:=by omega
     subst this;exact⟨S[j]!,by simp,rfl,rfl⟩
   ·rw[e,FC];refine⟨ih.oP,by simp,fun p h y hy=>?_⟩
    rw[bY.1 hy];obtain⟨j,hj,rfl⟩:=ih.mem p h;have Vv:=hv j (by omega)
    rcases MA Vv DT with h1|⟨h1,h2⟩|h1
    ·exact h1
    ·exfalso;have hv1:=hv (m-1) (by omega)
     have hns:same S[m]! S[m-1]! =false:=by
      unfold kept at hk;have e0:decide (m=0)=false:=gv (by omega)
      rw[e0,Qw] at hk;cases hx:same S[m]! S[m-1]!
      ·rfl
      ·rw[hx] at hk;cases hk
     have h3:¬jx S[m]! S[m-1]! :=hp (m-1) m (by omega) (by omega)
     rcases MA hv1 DT with h4|⟨h4,h5⟩|h4
     ·by_cases Lj:j=m-1
      ·subst Lj;have:jx S[m]! S[m]! :=(Vt hv1 DT DT h1 h2).1 h4;exact Vi _ this
      ·refine hp j (m-1) (by omega) (by omega) ?_
       rw[qJ hv1 Vv,h1,h2,<-qJ hv1 DT];exact h4
     ·have:=Vs.2 ⟨h4.symm,h5.symm⟩;rw[this] at hns;cases hns
     ·exact h3 h4
    ·exact absurd h1 (hp j m (by omega) (by omega))
structure nO(es:List Ed)(l:List Ge.Nd)(Ps:List PB):Prop where
 ap:AP es l Ps
 v:∀p∈Ps,dh p
 oP:Ps.Pairwise jx
theorem IL:∀{m:List Ge.Nd}{q:Ge.Nd×Ge.Nd},q∈Ge.nexts m->q.1∈m/\q.2∈m
 |[],_,h=>by simp[Ge.nexts] at h
 |[_],_,h=>by simp[Ge.nexts] at h
 |a::b::r,q,h=>by
  rcases aP.1 h with h|h
  ·rw[h];simp
  ·have ih:=IL h;exact⟨aT _ ih.1,aT _ ih.2⟩
theorem AP.v{es:List Ed}{l:List Ge.Nd}{L:List PB}(h:AP es l L)(hs:∀e∈es,eO e)(hl:l.map Ge.ax=Ge.gV es)(hc:∀n∈l,Ge.Can n):∀p∈L,dh p:=by
 intro p hp;obtain⟨e,_,_,hq⟩:=h.mem p hp;have hm:=IL hq;have h1:p.f∈l:=(eY.1 hm.1).1;have h2:p.t∈l:=(eY.1 hm.2).1;have hn:∀n∈l,lF n:=fun n hn=>afu hs (hc n hn) (((Ge.xP es).2.2 _).1 (by rw[<-hl];exact aN.2 ⟨n,hn,rfl⟩))
 exact⟨hn _ h1,hn _ h2,hc _ h1,hc _ h2⟩
theorem afP(es:List Ed)(v:Value)(w:World)(hR:iW w v es)(hl:es.length<=402)(hs:∀e∈es,eO e):
  Calls Tryz.prog 104 #[v] w fun r w'=>∃v' Ps,r=.returned v'/\qE w' v' Ps/\Below w.heap.size w w'/\Ps.length<=85000000/\∃l,l.map Ge.ax=Ge.gV es/\(∀n∈l,Ge.Can n)/\nO es l Ps:=by
 haveI:Inhabited PB:=⟨⟨0,0,0,(0,0,1),(0,0,1)⟩⟩;haveI:Inhabited VP:=⟨⟨⟨0,0,0,(0,0,1),(0,0,1)⟩,⟨by decide,by decide,by decide⟩,⟨by decide,by decide,by decide⟩,⟨by decide,by decide⟩,⟨by decide,by decide⟩⟩⟩
 refine(afz es v w hR hl hs (fun Ps v' w'=>qE w' v' Ps/\Below w.heap.size w w'/\Ps.length<=85000000/\∃l,l.map Ge.ax=Ge.gV es/\(∀n∈l,Ge.Can n)/\nO es l Ps) ?_).mono fun r w' h=>h
 intro l mh fZ lv L wr uy qI jN;have hv:=qI.v hs mh fZ;refine(afJ w lv L wr uy hv jN).mono ?_;rintro r w' ⟨rfl,S,hS,hperm,hpw⟩;refine⟨rfl,?_⟩;have hSl:S.length=L.length:=hperm.length_eq;have MF:∀p∈S,dh p:=fun p hp=>hv p (hperm.mem_iff.1 hp)
 have tW:AP es l S:=⟨fun p hp=>qI.mem p (hperm.mem_iff.1 hp),fun e he q hq=>by
  obtain⟨p,hp,h⟩:=qI.all e he q hq;exact⟨p,hperm.mem_iff.2 hp,h⟩⟩
 have get:∀j(hj:j<S.length),S.toArray[j]! =S[j]:=fun j hj=>by rw[ik S.toArray j (by simpa using hj)];simp
 have Ac:∀j,j<S.length->dh S.toArray[j]! :=fun j hj=>by rw[get j hj];exact MF _ (gw hj)
 have hK:=Vu S.toArray (fun j hj=>Ac j (by simpa using hj)) (fun i j hij hj=>by
  have hj':j<S.length:=by simpa using hj
  rw[get j hj',get i (by omega)]
  exact(kE.1 hpw) i j (by omega) hj' hij) S.length (by simp)
 have hfin:nO es l (gb S.toArray S.length):=by
  have hm:∀p∈gb S.toArray S.length,p∈S:=fun p hp=>by
   obtain⟨j,hj,rfl⟩:=hK.mem p hp;rw[get j hj];exact gw hj
  refine⟨⟨fun p hp=>tW.mem p (hm p hp),fun e he q hq=>?_⟩,fun p hp=>MF p (hm p hp),hK.oP⟩
  obtain⟨p,hp,h⟩:=tW.all e he q hq;obtain⟨j,hj,hjp⟩:=iO.1 hp;obtain⟨p',hp',h1,h2⟩:=hK.all j hj;rw[get j hj,hjp] at h1 h2;exact⟨p',hp',by rw[h1,h2];exact h⟩
 have hlen:(gb S.toArray S.length).length<=S.length:=by
  have:∀m,(gb S.toArray m).length<=m:=fun m=>by
   induction m with
   |zero=>simp[gb]
   |succ m ih=>
    rw[gb,aX];split
    ·simp;omega
    ·simp;omega
  exact this _
 rcases hS.1.2 with⟨rfl,h0⟩|⟨g,cap,cur,rfl,hg,hblk,hnc,hcm,hcs,htk⟩
 ·have hS0:S=[]:=gF.1 h0;subst hS0;have HB:Hid (Below w.heap.size w w'):=hS.2;have HF:Hid (nO es l []):=hfin;have HM:Hid (l.map Ge.ax=Ge.gV es/\(∀n∈l,Ge.Can n)):=⟨mh,fZ⟩;clear hfin hlen hK Ac get tW MF hSl hpw hperm hS uy qI hv h0 mh fZ
  go_enter Tryz.func158,Tryz.ntmps158
  go_wp2_with fail
  go_ret
  exact⟨_,[],rfl,World.ownsRow_nil _ _ _ _,HB.out,by simp,l,HM.out.1,HM.out.2,HF.out⟩
 ·have hR:jm w g cap S.length S.toArray w':=⟨by simp,hS.1,hS.2⟩
  refine(afM w g cap S.length S.toArray w' hR Ac (by omega) hnc).mono ?_
  rintro r w2 ⟨v',rfl,lZ,hb⟩;exact⟨v',_,rfl,lZ,hb,by omega,l,mh,fZ,hfin⟩
namespace Ge
def canon(x y d:Int):Nd:=let g:Int:=Int.gcd (Int.gcd x y:Nat) d;(x.tdiv g,y.tdiv g,d.tdiv g)
theorem MG(x y:Int){d:Int}(hd:0<d):Can (canon x y d)/\ax (canon x y d)=(aW x d,aW y d):=by
 obtain⟨G,hG⟩:∃G,Int.gcd (Int.gcd x y:Nat) d=G:=⟨_,rfl⟩;have CH:0<G:=by rw[<-hG];exact ue (by omega)
 have DL:(G:Int)∣(Int.gcd x y:Nat):=by rw[<-hG];exact BF _ _
 have dx:(G:Int)∣x:=BH DL (BF _ _);have dy:(G:Int)∣y:=BH DL (yY _ _);have dd:(G:Int)∣d:=by rw[<-hG];exact yY _ _
 have ed:=(xa dd).symm;have hp:0<d.tdiv (G:Int):=by
  rcases eK (d.tdiv (G:Int)) 0 with h|h|h
  ·have:=wT (show(0:Int)<G by omega) h;omega
  ·rw[h] at ed;omega
  ·exact h
 unfold canon;rw[hG];exact Ib (by omega) (xa dx).symm (xa dy).symm ed hp (by rw[hG];simp)
end Ge
def dv(f t:Ge.Nd):Ge.Nd:=Ge.canon (f.1+t.1) (f.2.1+t.2.1) (f.2.2+t.2.2)
theorem afT{x:PB}{n:Ge.Nd}(hf:lF x.f)(ht:lF x.t)(h:U2 x n):n=dv x.f x.t:=by
 have h1:=hf.d;have h2:=ht.d;obtain⟨c,q⟩:=Ge.MG (x.f.1+x.t.1) (x.f.2.1+x.t.2.1) (d:=x.f.2.2+x.t.2.2) (by omega)
 exact Ge.zT h.1 c (by rw[h.2.1];exact q.symm)
def bU(f t:Ge.Nd):Ge.Ln:=(t.1*f.2.2-f.1*t.2.2,t.2.1*f.2.2-f.2.1*t.2.2,0)
def rising(a b:Int):Prop:=0<a\/(a=0/\0<b)
theorem MH{a b c d:Int}(h1:rising a b)(h2:rising c d)(hc:a*d=b*c):0<a*c+b*d:=by
 rcases h1 with h1|⟨h1,h1'⟩
 ·rcases h2 with h2|⟨h2,h2'⟩
  ·have e:a*(a*c+b*d)=(a*a+b*b)*c:=by
    calc a*(a*c+b*d)=a*a*c+b*(a*d):=by grind
     _=(a*a+b*b)*c:=by rw[hc];grind
   have hs:0<a*a+b*b:=by
    have k1:=aR h1 h1;have k2:0<=b*b:=by
     rcases Bq 0 b with h|h
     ·exact iN h h
     ·exact qZ h h
    omega
   have hp:=aR hs h2;rw[<-e] at hp;exact(G7 h1).1.1 hp
  ·exfalso;rw[h2,y8] at hc;have:=aR h1 h2';omega
 ·rw[h1,uW] at hc;have hc0:c=0:=by
   rcases eK c 0 with h|h|h
   ·have:=wT h1' h;omega
   ·exact h
   ·have:=aR h1' h;omega
  rcases h2 with h2|⟨h2,h2'⟩
  ·omega
  ·rw[h1,hc0];have:=aR h1' h2';omega
theorem IM{a b c d x y:Int}(hc:a*d=b*c)(hd:0<a*c+b*d)(h2:0<c*c+d*d):(a*x+b*y).sign=(c*x+d*y).sign:=by
 have e:(c*c+d*d)*(a*x+b*y)=(a*c+b*d)*(c*x+d*y):=by
  have e1:(c*c+d*d)*(a*x+b*y)-(a*c+b*d)*(c*x+d*y)=(a*d-b*c)*(d*x-c*y):=by grind
  have e2:a*d-b*c=0:=by omega
  rw[e2,uW] at e1;omega
 have k1:=Qq (c*c+d*d) (a*x+b*y);have k2:=Qq (a*c+b*d) (c*x+d*y);rw[pq h2,tM] at k1;rw[pq hd,tM] at k2;rw[<-k1,<-k2,e]
theorem Vw{e:Ed}(hne:e.1≠e.2):rising (Ge.ia (Ge.cH e)).1 (Ge.ia (Ge.cH e)).2.1:=by
 obtain⟨⟨a,b⟩,c,d⟩:=e;have h:¬(a=c/\b=d):=fun h=>hne (by simp[h.1,h.2])
 unfold Ge.ia Ge.down Ge.cH Ge.zX rising;simp only;split
 ·rename_i hd
  simp only[aaL,pj,xf] at hd;simp only;omega
 ·rename_i hd
  simp only[aaL,pj,xf] at hd;simp only;omega
theorem IP{n:Ge.Nd}{e:Ed}(hn:0<n.2.2)(h:Ge.fo (n.1,n.2.1) n.2.2 e=true):lf n.1 n.2.1 n.2.2 e=0:=by
 unfold Ge.fo Ge.on at h;rw[pj,xf] at h;have:=LJ n.1 n.2.1 n.2.2 e;rw[h.1] at this;exact(G7 hn).2.2.1 this
theorem Vx{f t:Ge.Nd}(hf:Ge.Can f)(ht:Ge.Can t)(hlt:Ge.lt (Ge.ax f) (Ge.ax t)):rising (bU f t).1 (bU f t).2.1:=by
 unfold Ge.lt at hlt;rw[Ge.Ia hf ht] at hlt;unfold rising bU;simp only;generalize f.1*t.2.2=p1 at*;generalize t.1*f.2.2=p2 at*;generalize f.2.1*t.2.2=p3 at*;generalize t.2.1*f.2.2=p4 at*;rcases eK (p1-p2) 0 with h|h|h
 ·exact ag (by omega)
 ·rw[aj (by rw[h];rfl)] at hlt
  refine ah ⟨by omega,?_⟩
  rcases eK (p3-p4) 0 with k|k|k
  ·omega
  ·rw[k] at hlt;simp at hlt
  ·rw[pq k] at hlt;omega
 ·have hs:=pq h;rw[hs,af (by decide)] at hlt
  omega
theorem Vy{e:Ed}{f t:Ge.Nd}(l1:lf f.1 f.2.1 f.2.2 e=0)(l2:lf t.1 t.2.1 t.2.2 e=0):(Ge.cH e).1*(bU f t).2.1=(Ge.cH e).2.1*(bU f t).1:=by
 unfold lf at l1 l2;unfold Ge.cH bU;simp only;have k:(e.2.1-e.1.1)*(t.2.1*f.2.2-f.2.1*t.2.2)-(e.2.2-e.1.2)*(t.1*f.2.2-f.1*t.2.2)=f.2.2*((e.2.1-e.1.1)*t.2.1-(e.2.2-e.1.2)*t.1-((e.2.1-e.1.1)*e.1.2-(e.2.2-e.1.2)*e.1.1)*t.2.2)-t.2.2*((e.2.1-e.1.1)*f.2.1-(e.2.2-e.1.2)*f.1-((e.2.1-e.1.1)*e.1.2-(e.2.2-e.1.2)*e.1.1)*f.2.2):=by grind
 rw[l1,l2,y8,y8] at k;omega
theorem afU{e:Ed}{f t:Ge.Nd}(hne:e.1≠e.2)(hf:Ge.Can f)(ht:Ge.Can t)(h1:Ge.fo (f.1,f.2.1) f.2.2 e=true)(h2:Ge.fo (t.1,t.2.1) t.2.2 e=true)(hlt:Ge.lt (Ge.ax f) (Ge.ax t))(x y:Int):
  ((Ge.ia (Ge.cH e)).1*x+(Ge.ia (Ge.cH e)).2.1*y).sign=((bU f t).1*x+(bU f t).2.1*y).sign:=by
 have l1:=IP hf.pos h1;have l2:=IP ht.pos h2;have hr:=Vw hne;have hd:=Vx hf ht hlt;have hc:=Vy l1 l2;have hc':(Ge.ia (Ge.cH e)).1*(bU f t).2.1=(Ge.ia (Ge.cH e)).2.1*(bU f t).1:=by
  unfold Ge.ia;split
  ·show -(Ge.cH e).1*_= -(Ge.cH e).2.1*_;rw[iC,iC,hc]
  ·exact hc
 have hdd:0<(bU f t).1*(bU f t).1+(bU f t).2.1*(bU f t).2.1:=MH hd hd (dX _ _);exact IM hc' (MH hr hd hc') hdd
def pR(es:List Ed)(f t:Ge.Nd):Int:=Ge.total (Ge.fr ((dv f t).1,(dv f t).2.1) (dv f t).2.2) es+Ge.total (Ge.fa (dv f t) (bU f t)) es
def nP(es:List Ed)(f t:Ge.Nd):Int:=Ge.total (Ge.fr ((dv f t).1,(dv f t).2.1) (dv f t).2.2) es
theorem afV(p:PB)(es:List Ed)(l:List Ge.Nd)(hes:∀e∈es,e.1≠e.2)(hv:dh p)(hlt:Ge.lt (Ge.ax p.f) (Ge.ax p.t))(hm:∃e∈es,oN p.wa p.wb p.sh (Ge.ia (Ge.cH e))/\(p.f,p.t)∈Ge.nexts (Ge.held e l))(hl:es.length<=402)(hs:∀e∈es,eO e):
  ∀v w,iW w v es->Calls Tryz.prog 105 #[.agg p.cells.toArray,v] w fun r w'=>r=.returned (.tuple #[.int .i64 (pR es p.f p.t),.int .i64 (nP es p.f p.t)])/\Below w.heap.size w w':=by
 obtain⟨e,he,hfl,hq⟩:=hm;have kq:=hs e he;have b1:sm (Ge.ia (Ge.cH e)).1:=by
  have:=kq.a;have:=kq.c;unfold small at*;unfold Ge.ia Ge.zX Ge.cH sm;split<;>simp only<;>omega
 have b2:sm (Ge.ia (Ge.cH e)).2.1:=by
  have:=kq.b;have:=kq.d;unfold small at*;unfold Ge.ia Ge.zX Ge.cH sm;split<;>simp only<;>omega
 obtain⟨n,hi,hc⟩:=afe p _ es hfl b1 b2 hv.f hv.t hl hs;have en:=afT hv.f hv.t hi;subst en;have hm2:=IL hq;have f1:=(eY.1 hm2.1).2;have f2:=(eY.1 hm2.2).2;have hfa:∀a b,Ge.fa (dv p.f p.t) (Ge.ia (Ge.cH e)) a b=Ge.fa (dv p.f p.t) (bU p.f p.t) a b:=fun a b=>by
  unfold Ge.fa;rw[afU (hes e he) hv.cf hv.ct f1 f2 hlt]
 intro v w hR;have h:=hc v w hR;rw[Ge.ad9 es hfa] at h;exact h
end Go.Proofs.YtkjhhooecopolaaGreatDoor

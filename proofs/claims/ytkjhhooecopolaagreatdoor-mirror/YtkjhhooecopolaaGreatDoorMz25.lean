import Derived.Test.YtkjhhooecopolaaGreatDoorMz24
import Derived.Deep.LoopGhost
import Derived.Deep.RegionHeld3
import Derived.Deep.QuietTactic
set_option maxRecDepth 100000
set_option maxHeartbeats 4000000
namespace Go.Proofs.YtkjhhooecopolaaGreatDoor
open Go.RowKit
theorem WA:∀(l:List PB)(k:Nat),(cI l).take (k*6)=cI (l.take k)
 |[],k=>by simp[cI]
 |a::l,0=>by simp[cI]
 |a::l,k+1=>by
  have ih:=WA l k;have e:∀(b:PB)(r:List PB),cI (b::r)=b.cells++cI r:=fun b r=>by simp[cI]
  have e1:(k+1)*6=a.cells.length+k*6:=by show _=6+_;omega
  rw[Kw,e,e,<-ih,e1,Rf,rI (acf _ _)];simp
theorem iZ.clear{w:World}{g cap n:Nat}{d:Array PB}{wr:World}(h:iZ w g cap n d wr)(k:Nat)(hk:k<n)(c:Nat):
  ∃w',(∀ty,(Builtin.clear_ #[168] ty #[.slice (some ⟨g,k*6,none⟩) (n-k) c]).run Tryz.prog wr=.ok (.tuple #[]) w')/\Below w.heap.size w w'/\qU w' (.slice (some ⟨g,0,none⟩) k cap) (d.toList.take k):=by
 obtain⟨cur,hg,hb,hnc,hcm,hs,htk⟩:=h.blk;have hzl:(Builtin.zeroCells (Value.agg #[.complex .f64 0 0,.float .f64 0,.complex .f64 0 0,.int .i64 0,.complex .f64 0 0,.int .i64 0]).cells (n-k)).toList.length=(n-k)*6:=by
  rw[iG];unfold Builtin.zeroCells;rw[Array.size_map,Array.size_range];rfl
 have hone:∀v∈(Builtin.zeroCells (Value.agg #[.complex .f64 0 0,.float .f64 0,.complex .f64 0 0,.int .i64 0,.complex .f64 0 0,.int .i64 0]).cells (n-k)).toList,v.oneCell'=true:=by
  intro v hv;unfold Builtin.zeroCells at hv;simp only[Array.toList_map,aX] at hv;obtain⟨i,_,rfl⟩:=hv;have e:(Value.agg #[.complex .f64 0 0,.float .f64 0,.complex .f64 0 0,.int .i64 0,.complex .f64 0 0,.int .i64 0]).cells= #[.complex .f64 0 0,.float .f64 0,.complex .f64 0 0,.int .i64 0,.complex .f64 0 0,.int .i64 0]:=rfl;rw[e];show(#[Value.complex .f64 0 0,.float .f64 0,.complex .f64 0 0,.int .i64 0,.complex .f64 0 0,.int .i64 0][i%6]!).oneCell'=true;have h2:i%6=0\/i%6=1\/i%6=2\/i%6=3\/i%6=4\/i%6=5:=by omega
  rcases h2 with h2|h2|h2|h2|h2|h2<;>rw[h2]<;>rfl
 have hst:=run_storeCells_at Tryz.prog g (k*6) 171 _ 0 cur wr hb (by rw[hzl,hs];omega) hone
 simp only[tY] at hst;rw[hzl] at hst;generalize lD:(Builtin.zeroCells (Value.agg #[.complex .f64 0 0,.float .f64 0,.complex .f64 0 0,.int .i64 0,.complex .f64 0 0,.int .i64 0]).cells (n-k)).toList=Z at*;have DR:=setRow_heap wr g cur (cur.toList.take (k*6)++Z++cur.toList.drop (k*6+(n-k)*6)).toArray _ _ hb;refine⟨wr.setRow g (cur.toList.take (k*6)++Z++cur.toList.drop (k*6+(n-k)*6)).toArray,fun ty=>?_,?_,?_,Or.inr ⟨g,cap,_,?_,iz _,DR,?_,hcm,?_,?_⟩⟩
 ·obtain⟨m,hm⟩:∃m,n-k=m+1:=⟨n-k-1,by omega⟩
  rw[hm] at hst lD⊢;simp[Builtin.clear_,run_underlying Tryz.underlying168,lD,hst]
 ·refine h.below.trans ⟨rfl,rfl,rfl,by simp,fun j hj=>setRow_other _ _ _ _ (by omega)⟩
 ·rw[AR]
 ·have e:(d.toList.take k).length=k:=by rw[ig,iG,h.size];omega
  rw[e]
 ·rw[ig,iG,h.size];omega
 ·simp only[aca,aS,ig,rD,iG,hzl,hs];omega
 ·have e:(d.toList.take k).length=k:=by rw[ig,iG,h.size];omega
  rw[e];show((cur.toList.take (k*6)++_++_).take (k*6))=_;rw[fD,ans (by rw[ig,iG,hs];omega),BX,Nat.min_self]
  have e2:cur.toList.take (k*6)=(cur.toList.take (n*6)).take (k*6):=by rw[BX,KC (by omega)]
  rw[e2,htk];exact WA _ _
theorem WB [Inhabited PB](d:Array PB)(j:Nat)(hj:j<1):kept d j=true:=by
 have e:j=0:=by omega
 unfold kept;rw[e];rfl
theorem ahk [Inhabited PB](w:World)(g cap n:Nat)(d:Array PB)(yD:World)(h:iZ w g cap n d yD)(hd:∀i,i<n->cM (d[i]!))(hn:n<=85000000)(hc:n<=cap):
  Calls Tryz.prog 158 #[.slice (some ⟨g,0,none⟩) n cap,.func (.func 159) #[] #[]] yD fun r w'=>∃v',r=.returned v'/\qU w' v' (fY d n)/\Below w.heap.size w w':=by
 have HR:Hid (iZ w g cap n d yD):=h;have HD:Hid (∀i,i<n->cM (d[i]!)):=hd;have hds:d.size=n:=h.size;clear h hd;by_cases h2:n<2
 ·go_enter Tryz.func158,Tryz.ntmps158
  go_wp2_with fail
  go_ret
  refine⟨_,rfl,?_,HR.out.below⟩;have e:fY d n=d.toList:=by
   rw[IM d n (by omega) (fun j hj=>WB d j (by omega)),<-hds,<-iG,dI]
  rw[e];exact HR.out.rd
 ·go_enter Tryz.func158,Tryz.ntmps158
  go_wp2_with fail
  go_loopg [5] n (fun gk s5 wr=>∃k:Nat,1<=k/\k<=n/\n-k<=gk/\s5=.int .i64 k/\Hid (iZ w g cap n d wr/\∀j,j<k->kept d j=true))
  case atStart=>exact⟨1,ae _,by omega,by omega,rfl,HR.out,WB d⟩
  case round=>
   obtain⟨k,hk1,hk,hg,rfl,HI⟩:=hrel;obtain⟨m,hm⟩:∃m,k=m+1:=⟨k-1,by omega⟩
   by_cases hlt:k<n
   ·obtain⟨a0,a1,a2,a3,a4,a5,_⟩:=HI.out.1.cells k hlt;obtain⟨b0,b1,b2,b3,b4,b5,_⟩:=HI.out.1.cells m (by omega)
    have eD:(k:Int)<(n:Int):=by omega
    have Nf:(m:Int)<(n:Int):=by omega
    have hwk:IntKind.i64.wrap ((k:Int)-1)=(m:Int):=by rw[IntKind.wrap_i64];omega
    have hm0:(0:Int)<=(m:Int):=by omega
    have aou:m<n:=by omega
    have HMK:Hid (k=m+1):=hm;have dw:g<wr.heap.size:=by obtain⟨_,_,hb,_⟩:=HI.out.1.blk;exact lt_of_heap hb
    have hcall:=fun w=>VU d[k]! d[m]! (HD.out k hlt) (HD.out m (by omega)) w
    have AY:Hid (kept d k= !same d[k]! d[m]!):=by
     have e0:decide (k=0)=false:=decide_eq_false (by omega)
     have e1:k-1=m:=by omega
     show kept d k=_;unfold kept;rw[e0,e1,Rc]
    have Ng:Hid (kept d k= !(decide (d[k]!.f=d[m]!.f)&&decide (d[k]!.t=d[m]!.t))):=AY;generalize Nh:(decide (d[k]!.f=d[m]!.f)&&decide (d[k]!.t=d[m]!.t))=bq at hcall Ng;clear Nh AY;simp only[PB.cells] at hcall;generalize d[k]!.wa=A1 at*;generalize d[k]!.wb=A2 at*;generalize d[k]!.sh=A3 at*;generalize floatOfInt .f64 d[k]!.f.1=A4 at*;generalize floatOfInt .f64 d[k]!.f.2.1=A5 at*;generalize d[k]!.f.2.2=A6 at*;generalize floatOfInt .f64 d[k]!.t.1=A7 at*;generalize floatOfInt .f64 d[k]!.t.2.1=A8 at*;generalize d[k]!.t.2.2=A9 at*;generalize d[m]!.wa=B1 at*;generalize d[m]!.wb=B2 at*;generalize d[m]!.sh=B3 at*;generalize floatOfInt .f64 d[m]!.f.1=B4 at*;generalize floatOfInt .f64 d[m]!.f.2.1=B5 at*;generalize d[m]!.f.2.2=B6 at*;generalize floatOfInt .f64 d[m]!.t.1=B7 at*;generalize floatOfInt .f64 d[m]!.t.2.1=B8 at*;generalize d[m]!.t.2.2=B9 at*;have Ee:Hid (∀w,Calls Tryz.prog 159 #[.agg #[.complex .f64 A1 A2,.float .f64 A3,.complex .f64 A4 A5,.int .i64 A6,.complex .f64 A7 A8,.int .i64 A9],.agg #[.complex .f64 B1 B2,.float .f64 B3,.complex .f64 B4 B5,.int .i64 B6,.complex .f64 B7 B8,.int .i64 B9]] w fun r w'=>r=.returned (.bool bq)/\Below w.heap.size w w'):=hcall
    clear hcall hm
    go_wp2_with fail
    go_region_held3 (fun w'=>w'.cell? ⟨g,k*6,none⟩=some (.complex .f64 A1 A2)/\w'.cell? ⟨g,k*6+1,none⟩=some (.float .f64 A3)/\w'.cell? ⟨g,k*6+2,none⟩=some (.complex .f64 A4 A5)/\w'.cell? ⟨g,k*6+3,none⟩=some (.int .i64 A6)/\w'.cell? ⟨g,k*6+4,none⟩=some (.complex .f64 A7 A8)/\w'.cell? ⟨g,k*6+5,none⟩=some (.int .i64 A9)/\w'.cell? ⟨g,m*6,none⟩=some (.complex .f64 B1 B2)/\w'.cell? ⟨g,m*6+1,none⟩=some (.float .f64 B3)/\w'.cell? ⟨g,m*6+2,none⟩=some (.complex .f64 B4 B5)/\w'.cell? ⟨g,m*6+3,none⟩=some (.int .i64 B6)/\w'.cell? ⟨g,m*6+4,none⟩=some (.complex .f64 B7 B8)/\w'.cell? ⟨g,m*6+5,none⟩=some (.int .i64 B9)) (go_keep) (first
      |(go_at_call 159;refine(Ee.out _).mono ?_;rintro r w5 ⟨rfl,ai⟩;have c0:=(ai.cell (p:=⟨g,k*6,none⟩) dw).trans a0;have c1:=(ai.cell (p:=⟨g,k*6+1,none⟩) dw).trans a1;have c2:=(ai.cell (p:=⟨g,k*6+2,none⟩) dw).trans a2;have c3:=(ai.cell (p:=⟨g,k*6+3,none⟩) dw).trans a3;have c4:=(ai.cell (p:=⟨g,k*6+4,none⟩) dw).trans a4;have c5:=(ai.cell (p:=⟨g,k*6+5,none⟩) dw).trans a5;have e0:=(ai.cell (p:=⟨g,m*6,none⟩) dw).trans b0;have e1:=(ai.cell (p:=⟨g,m*6+1,none⟩) dw).trans b1;have e2:=(ai.cell (p:=⟨g,m*6+2,none⟩) dw).trans b2;have e3:=(ai.cell (p:=⟨g,m*6+3,none⟩) dw).trans b3;have e4:=(ai.cell (p:=⟨g,m*6+4,none⟩) dw).trans b4;have e5:=(ai.cell (p:=⟨g,m*6+5,none⟩) dw).trans b5))
    have mB:Below wr.heap.size wr w5:=(Below.refl _ _).drew.trans ai;have IQ:Hid (iZ w g cap n d w5/\∀j,j<k->kept d j=true):=⟨HI.out.1.keep mB,HI.out.2⟩;clear a0 b0 c0 e0 a1 b1 c1 e1 a2 b2 c2 e2 a3 b3 c3 e3 a4 b4 c4 e4 a5 b5 c5 e5 ai mB HI Ee;cases bq
    ·have HK:Hid (kept d k=true):=Ng.out
     go_wp2_with fail
     go_roundg (n-(k+1))
     case measure=>omega
     case rel=>
      refine⟨k+1,by omega,by omega,ae _,by go_num,IQ.out.1,fun j hj=>?_⟩
      by_cases e:j=k
      ·subst e;exact HK.out
      ·exact IQ.out.2 j (by omega)
    ·have HK:Hid (kept d k=false):=Ng.out;have hkc:k<=cap:=by omega
     clear hwk HMK
     go_wp2_with fail
     go_loopg [5,7] n (fun gk s5 s7 wr2=>∃(kk k2:Nat)(dk:Array PB),s5=.int .i64 kk/\s7=.int .i64 k2/\1<=k2/\k+k2<=n/\n-(k+k2)<=gk/\Hid (iZ w g cap n dk wr2/\KI d (k+k2) kk dk))
     case atStart=>exact⟨k,1,d,rfl,rfl,ae _,by omega,by omega,IQ.out.1,KI.start (by omega) IQ.out.2 HK.out⟩
     case round=>
      obtain⟨kk,k2,dk,rfl,rfl,h1,hle,hg2,HJ⟩:=hrel;obtain⟨m2,hm2⟩:∃m2,k2=m2+1:=⟨k2-1,by omega⟩
      have hkk:=HJ.out.2.lt;by_cases nR:k+k2<n
      ·obtain⟨a0,a1,a2,a3,a4,a5,_⟩:=HJ.out.1.cells (k+k2) nR;obtain⟨b0,b1,b2,b3,b4,b5,_⟩:=HJ.out.1.cells (k+m2) (by omega)
       obtain⟨q0,q1,q2,q3,q4,q5,z0⟩:=HJ.out.1.cells kk (by omega)
       rw[HJ.out.2.high (k+k2) (by omega),show(k+k2)*6=k*6+k2*6 by omega] at a0 a1 a2 a3 a4 a5
       rw[HJ.out.2.high (k+m2) (by omega),show(k+m2)*6=k*6+m2*6 by omega] at b0 b1 b2 b3 b4 b5
       have WC:(k2:Int)<(n:Int)-(k:Int):=by omega
       have M5:k2<n-k:=by omega
       have aov:m2<n-k:=by omega
       have aow:(m2:Int)<(n:Int)-(k:Int):=by omega
       have aox:(0:Int)<=(m2:Int):=by omega
       have aoy:IntKind.i64.wrap ((k2:Int)-1)=(m2:Int):=by rw[IntKind.wrap_i64];omega
       have We:(kk:Int)<(n:Int):=by omega
       have gD:g<wr.heap.size:=by obtain⟨_,_,hb,_⟩:=HJ.out.1.blk;exact lt_of_heap hb
       have hcall:=fun w=>VU d[k+k2]! d[k+m2]! (HD.out (k+k2) nR) (HD.out (k+m2) (by omega)) w
       have AY:Hid (kept d (k+k2)= !(decide (d[k+k2]!.f=d[k+m2]!.f)&&decide (d[k+k2]!.t=d[k+m2]!.t))):=by
        have e0:decide (k+k2=0)=false:=decide_eq_false (by omega)
        have e1:k+k2-1=k+m2:=by omega
        show kept d (k+k2)=_;unfold kept;rw[e0,e1,Rc];rfl
       have HST:Hid (∀w',Below wr.heap.size wr w'->iZ w g cap n (dk.setIfInBounds kk d[k+k2]!) (w'.setCells g (kk*6) (d[k+k2]!).cells)):=fun w' hb=>(HJ.out.1.keep hb).set kk (by omega) _
       generalize Nh:(decide (d[k+k2]!.f=d[k+m2]!.f)&&decide (d[k+k2]!.t=d[k+m2]!.t))=bq at hcall AY;clear Nh hm2;simp only[PB.cells] at hcall HST;generalize d[k+k2]!.wa=P1 at*;generalize d[k+k2]!.wb=P2 at*;generalize d[k+k2]!.sh=P3 at*;generalize floatOfInt .f64 d[k+k2]!.f.1=P4 at*;generalize floatOfInt .f64 d[k+k2]!.f.2.1=P5 at*;generalize d[k+k2]!.f.2.2=P6 at*;generalize floatOfInt .f64 d[k+k2]!.t.1=P7 at*;generalize floatOfInt .f64 d[k+k2]!.t.2.1=P8 at*;generalize d[k+k2]!.t.2.2=P9 at*;generalize d[k+m2]!.wa=R1 at*;generalize d[k+m2]!.wb=R2 at*;generalize d[k+m2]!.sh=R3 at*;generalize floatOfInt .f64 d[k+m2]!.f.1=R4 at*;generalize floatOfInt .f64 d[k+m2]!.f.2.1=R5 at*;generalize d[k+m2]!.f.2.2=R6 at*;generalize floatOfInt .f64 d[k+m2]!.t.1=R7 at*;generalize floatOfInt .f64 d[k+m2]!.t.2.1=R8 at*;generalize d[k+m2]!.t.2.2=R9 at*;have Ee:Hid (∀w,Calls Tryz.prog 159 #[.agg #[.complex .f64 P1 P2,.float .f64 P3,.complex .f64 P4 P5,.int .i64 P6,.complex .f64 P7 P8,.int .i64 P9],.agg #[.complex .f64 R1 R2,.float .f64 R3,.complex .f64 R4 R5,.int .i64 R6,.complex .f64 R7 R8,.int .i64 R9]] w fun r w'=>r=.returned (.bool bq)/\Below w.heap.size w w'):=hcall
       clear hcall
       go_wp2_with fail
       go_region_held3 (fun w'=>w'.cell? ⟨g,k*6+k2*6,none⟩=some (.complex .f64 P1 P2)/\w'.cell? ⟨g,k*6+k2*6+1,none⟩=some (.float .f64 P3)/\w'.cell? ⟨g,k*6+k2*6+2,none⟩=some (.complex .f64 P4 P5)/\w'.cell? ⟨g,k*6+k2*6+3,none⟩=some (.int .i64 P6)/\w'.cell? ⟨g,k*6+k2*6+4,none⟩=some (.complex .f64 P7 P8)/\w'.cell? ⟨g,k*6+k2*6+5,none⟩=some (.int .i64 P9)/\w'.cell? ⟨g,k*6+m2*6,none⟩=some (.complex .f64 R1 R2)/\w'.cell? ⟨g,k*6+m2*6+1,none⟩=some (.float .f64 R3)/\w'.cell? ⟨g,k*6+m2*6+2,none⟩=some (.complex .f64 R4 R5)/\w'.cell? ⟨g,k*6+m2*6+3,none⟩=some (.int .i64 R6)/\w'.cell? ⟨g,k*6+m2*6+4,none⟩=some (.complex .f64 R7 R8)/\w'.cell? ⟨g,k*6+m2*6+5,none⟩=some (.int .i64 R9)) (go_keep) (first
         |(go_at_call 159;refine(Ee.out _).mono ?_;rintro r w6 ⟨rfl,ax⟩;have c0:=(ax.cell (p:=⟨g,k*6+k2*6,none⟩) gD).trans a0;have c1:=(ax.cell (p:=⟨g,k*6+k2*6+1,none⟩) gD).trans a1;have c2:=(ax.cell (p:=⟨g,k*6+k2*6+2,none⟩) gD).trans a2;have c3:=(ax.cell (p:=⟨g,k*6+k2*6+3,none⟩) gD).trans a3;have c4:=(ax.cell (p:=⟨g,k*6+k2*6+4,none⟩) gD).trans a4;have c5:=(ax.cell (p:=⟨g,k*6+k2*6+5,none⟩) gD).trans a5;have e0:=(ax.cell (p:=⟨g,k*6+m2*6,none⟩) gD).trans b0;have e1:=(ax.cell (p:=⟨g,k*6+m2*6+1,none⟩) gD).trans b1;have e2:=(ax.cell (p:=⟨g,k*6+m2*6+2,none⟩) gD).trans b2;have e3:=(ax.cell (p:=⟨g,k*6+m2*6+3,none⟩) gD).trans b3;have e4:=(ax.cell (p:=⟨g,k*6+m2*6+4,none⟩) gD).trans b4;have e5:=(ax.cell (p:=⟨g,k*6+m2*6+5,none⟩) gD).trans b5))
       have wK:Below wr.heap.size wr w6:=(Below.refl _ _).drew.trans ax;have MU:Hid (iZ w g cap n dk w6):=HJ.out.1.keep wK;have WD:Hid (KI d (k+k2) kk dk):=HJ.out.2;have WE:=HST.out w6 wK;have WG:Hid (iZ w g cap n (dk.setIfInBounds kk d[k+k2]!) (w6.setCells g (kk*6) [.complex .f64 P1 P2,.float .f64 P3,.complex .f64 P4 P5,.int .i64 P6,.complex .f64 P7 P8,.int .i64 P9])):=WE;have x0:=(ax.cell (p:=⟨g,kk*6,none⟩) gD).trans q0;have x1:=(ax.cell (p:=⟨g,kk*6+1,none⟩) gD).trans q1;have x2:=(ax.cell (p:=⟨g,kk*6+2,none⟩) gD).trans q2;have x3:=(ax.cell (p:=⟨g,kk*6+3,none⟩) gD).trans q3;have x4:=(ax.cell (p:=⟨g,kk*6+4,none⟩) gD).trans q4;have x5:=(ax.cell (p:=⟨g,kk*6+5,none⟩) gD).trans q5;have y0:w6.frozen? ⟨g,kk*6,none⟩=false:=(ax.frozen (p:=⟨g,kk*6,none⟩) gD).trans (z0 _);have y1:w6.frozen? ⟨g,kk*6+1,none⟩=false:=(ax.frozen (p:=⟨g,kk*6+1,none⟩) gD).trans (z0 _);have y2:w6.frozen? ⟨g,kk*6+2,none⟩=false:=(ax.frozen (p:=⟨g,kk*6+2,none⟩) gD).trans (z0 _);have y3:w6.frozen? ⟨g,kk*6+3,none⟩=false:=(ax.frozen (p:=⟨g,kk*6+3,none⟩) gD).trans (z0 _);have y4:w6.frozen? ⟨g,kk*6+4,none⟩=false:=(ax.frozen (p:=⟨g,kk*6+4,none⟩) gD).trans (z0 _);have y5:w6.frozen? ⟨g,kk*6+5,none⟩=false:=(ax.frozen (p:=⟨g,kk*6+5,none⟩) gD).trans (z0 _);clear a0 b0 e0 q0 a1 b1 e1 q1 a2 b2 e2 q2 a3 b3 e3 q3 a4 b4 e4 q4 a5 b5 e5 q5 ax wK HJ Ee HST WE z0;cases bq
       ·have yE:Hid (kept d (k+k2)=true):=AY.out
        go_wp2_with (simp only[fA,lX];go_simp)
        go_roundg (n-(k+(k2+1)))
        case measure=>omega
        case rel=>exact⟨kk+1,k2+1,dk.setIfInBounds kk d[k+k2]!,by go_num,by go_num,by omega,by omega,ae _,WG.out,WD.out.keep (by omega) yE.out⟩
       ·have yE:Hid (kept d (k+k2)=false):=AY.out;clear c0 x0 y0 c1 x1 y1 c2 x2 y2 c3 x3 y3 c4 x4 y4 c5 x5 y5 WG
        go_wp2_with fail
        go_roundg (n-(k+(k2+1)))
        case measure=>omega
        case rel=>exact⟨kk,k2+1,dk,rfl,by go_num,by omega,by omega,ae _,MU.out,WD.out.skip (by omega) yE.out⟩
      ·have hend:k+k2=n:=by omega
       obtain⟨w',hcl,ag,fL⟩:=HJ.out.1.clear kk (by omega) (cap-kk)
       have jl:Hid (qU w' (.slice (some ⟨g,0,none⟩) kk cap) (fY d n)):=by
        have hI:=HJ.out.2.low;rw[hend] at hI;rw[<-hI];exact fL
       have D8:Hid (Below w.heap.size w w'):=ag;have M5:¬k2<n-k:=by omega
       have We:kk<=n:=by omega
       have agR:kk<=cap:=by omega
       clear fL ag
       go_wp2_with fail
       go_ret
       exact⟨_,rfl,jl.out,D8.out⟩
   ·have hkn:k=n:=by omega
    subst hkn;have e:fY d k=d.toList:=by
     rw[IM d k (by omega) HI.out.2,<-hds,<-iG,dI]
    have jl:Hid (qU wr (.slice (some ⟨g,0,none⟩) k cap) (fY d k)):=by
     rw[e];exact HI.out.1.rd
    have D8:Hid (Below w.heap.size w wr):=HI.out.1.below;clear e HI hds
    go_wp2_with fail
    go_ret
    exact⟨_,rfl,jl.out,D8.out⟩
theorem WH{x y:PB}:same x y=true↔x.f=y.f/\x.t=y.t:=by unfold same;simp
theorem WI{x x' y:PB}(hx:cM x)(hx':cM x')(hy:cM y)(hf:x.f=x'.f)(ht:x.t=x'.t):jn x y↔jn x' y:=by
 rw[qX hx hy,qX hx' hy,hf,ht]
structure KL [Inhabited PB](S:Array PB)(m:Nat):Prop where
 mem:∀p∈fY S m,∃j,j<m/\p=S[j]!
 all:∀j,j<m->∃p∈fY S m,p.f=S[j]!.f/\p.t=S[j]!.t
 pG:(fY S m).Pairwise jn
theorem WJ [Inhabited PB](S:Array PB)(hv:∀j,j<S.size->cM S[j]!)(hp:∀i j,i<j->j<S.size->¬jn S[j]! S[i]!):∀m,m<=S.size->KL S m
 |0,_=>⟨fun p h=>by simp[fY] at h,fun j h=>by omega,by simp[fY]⟩
 |m+1,hm=>by
  have ih:=WJ S hv hp m (by omega)
  have Ef:=hv m (by omega)
  cases hk:kept S m
  ·have e:fY S (m+1)=fY S m:=by rw[fY,hk];simp
   have hs:same S[m]! S[m-1]! =true/\0<m:=by
    unfold kept at hk;rcases Nat.eq_zero_or_pos m with h0|h0
    ·rw[h0] at hk;simp at hk
    ·refine⟨?_,h0⟩;cases h:same S[m]! S[m-1]!
     ·rw[h] at hk;simp at hk
     ·rfl
   refine⟨fun p h=>?_,fun j hj=>?_,by rw[e];exact ih.pG⟩
   ·rw[e] at h;obtain⟨j,hj,h⟩:=ih.mem p h;exact⟨j,by omega,h⟩
   ·rw[e];by_cases hjm:j<m
    ·exact ih.all j hjm
    ·have:j=m:=by omega
     subst this;obtain⟨p,hp1,hp2,se⟩:=ih.all (j-1) (by omega)
     have h2:=WH.1 hs.1;exact⟨p,hp1,by rw[hp2,h2.1],by rw[se,h2.2]⟩
  ·have e:fY S (m+1)=fY S m++[S[m]!]:=by rw[fY,hk];simp
   refine⟨fun p h=>?_,fun j hj=>?_,?_⟩
   ·rw[e] at h;rcases bW.1 h with h|h
    ·obtain⟨j,hj,h⟩:=ih.mem p h;exact⟨j,by omega,h⟩
    ·exact⟨m,by omega,bJ.1 h⟩
   ·rw[e];by_cases hjm:j<m
    ·obtain⟨p,hp1,hp2⟩:=ih.all j hjm;exact⟨p,vB _ hp1,hp2⟩
    ·have:j=m:=by omega
     subst this;exact⟨S[j]!,by simp,rfl,rfl⟩
   ·rw[e,FO];refine⟨ih.pG,by simp,fun p h y hy=>?_⟩
    rw[bJ.1 hy];obtain⟨j,hj,rfl⟩:=ih.mem p h;have WK:=hv j (by omega)
    rcases Na WK Ef with h1|⟨h1,h2⟩|h1
    ·exact h1
    ·exfalso;have hv1:=hv (m-1) (by omega)
     have hns:same S[m]! S[m-1]! =false:=by
      unfold kept at hk;have e0:decide (m=0)=false:=decide_eq_false (by omega)
      rw[e0,Rc] at hk;cases hx:same S[m]! S[m-1]!
      ·rfl
      ·rw[hx] at hk;cases hk
     have h3:¬jn S[m]! S[m-1]! :=hp (m-1) m (by omega) (by omega)
     rcases Na hv1 Ef with h4|⟨h4,h5⟩|h4
     ·by_cases CE:j=m-1
      ·subst CE;have:jn S[m]! S[m]! :=(WI hv1 Ef Ef h1 h2).1 h4;exact Ww _ this
      ·refine hp j (m-1) (by omega) (by omega) ?_
       rw[qX hv1 WK,h1,h2,<-qX hv1 Ef];exact h4
     ·have:=WH.2 ⟨h4.symm,h5.symm⟩;rw[this] at hns;cases hns
     ·exact h3 h4
    ·exact absurd h1 (hp j m (by omega) (by omega))
structure og(es:List Ed)(l:List Ge.Nd)(Ps:List PB):Prop where
 ap:AP es l Ps
 v:∀p∈Ps,cM p
 pG:Ps.Pairwise jn
theorem IU:∀{m:List Ge.Nd}{q:Ge.Nd×Ge.Nd},q∈Ge.nexts m->q.1∈m/\q.2∈m
 |[],_,h=>by simp[Ge.nexts] at h
 |[_],_,h=>by simp[Ge.nexts] at h
 |a::b::r,q,h=>by
  rcases aQ.1 h with h|h
  ·rw[h];simp
  ·have ih:=IU h;exact⟨bn _ ih.1,bn _ ih.2⟩
theorem AP.v{es:List Ed}{l:List Ge.Nd}{L:List PB}(h:AP es l L)(hs:∀e∈es,fg e)(hl:l.map Ge.aj=Ge.fX es)(hc:∀n∈l,Ge.Can n):∀p∈L,cM p:=by
 intro p hp;obtain⟨e,_,_,hq⟩:=h.mem p hp;have hm:=IU hq;have h1:p.f∈l:=(jw.1 hm.1).1;have h2:p.t∈l:=(jw.1 hm.2).1;have hn:∀n∈l,lF n:=fun n hn=>ag2 hs (hc n hn) (((Ge.yn es).2.2 _).1 (by rw[<-hl];exact aX.2 ⟨n,hn,rfl⟩))
 exact⟨hn _ h1,hn _ h2,hc _ h1,hc _ h2⟩
theorem ahm(es:List Ed)(v:Value)(w:World)(hR:gu w v es)(hl:es.length<=402)(hs:∀e∈es,fg e):
  Calls Tryz.prog 104 #[v] w fun r w'=>∃v' Ps,r=.returned v'/\qU w' v' Ps/\Below w.heap.size w w'/\Ps.length<=85000000/\∃l,l.map Ge.aj=Ge.fX es/\(∀n∈l,Ge.Can n)/\og es l Ps:=by
 haveI:Inhabited PB:=⟨⟨0,0,0,(0,0,1),(0,0,1)⟩⟩;haveI:Inhabited VP:=⟨⟨⟨0,0,0,(0,0,1),(0,0,1)⟩,⟨by decide,by decide,by decide⟩,⟨by decide,by decide,by decide⟩,⟨by decide,by decide⟩,⟨by decide,by decide⟩⟩⟩
 refine(ag7 es v w hR hl hs (fun Ps v' w'=>qU w' v' Ps/\Below w.heap.size w w'/\Ps.length<=85000000/\∃l,l.map Ge.aj=Ge.fX es/\(∀n∈l,Ge.Can n)/\og es l Ps) ?_).mono fun r w' h=>h
 intro l mr jF lv L wr uV qW jE;have hv:=qW.v hs mr jF;refine(ahh w lv L wr uV hv jE).mono ?_;rintro r w' ⟨rfl,S,hS,hperm,hpw⟩;refine⟨rfl,?_⟩;have Ni:S.length=L.length:=hperm.length_eq;have Nj:∀p∈S,cM p:=fun p hp=>hv p (hperm.mem_iff.1 hp)
 have zL:AP es l S:=⟨fun p hp=>qW.mem p (hperm.mem_iff.1 hp),fun e he q hq=>by
  obtain⟨p,hp,h⟩:=qW.all e he q hq;exact⟨p,hperm.mem_iff.2 hp,h⟩⟩
 have get:∀j(hj:j<S.length),S.toArray[j]! =S[j]:=fun j hj=>by rw[getElem!_pos S.toArray j (by simpa using hj)];simp
 have AE:∀j,j<S.length->cM S.toArray[j]! :=fun j hj=>by rw[get j hj];exact Nj _ (ie hj)
 have hK:=WJ S.toArray (fun j hj=>AE j (by simpa using hj)) (fun i j hij hj=>by
  have hj':j<S.length:=by simpa using hj
  rw[get j hj',get i (by omega)]
  exact(mM.1 hpw) i j (by omega) hj' hij) S.length (by simp)
 have hfin:og es l (fY S.toArray S.length):=by
  have hm:∀p∈fY S.toArray S.length,p∈S:=fun p hp=>by
   obtain⟨j,hj,rfl⟩:=hK.mem p hp;rw[get j hj];exact ie hj
  refine⟨⟨fun p hp=>zL.mem p (hm p hp),fun e he q hq=>?_⟩,fun p hp=>Nj p (hm p hp),hK.pG⟩
  obtain⟨p,hp,h⟩:=zL.all e he q hq;obtain⟨j,hj,hjp⟩:=j5.1 hp;obtain⟨p',hp',h1,h2⟩:=hK.all j hj;rw[get j hj,hjp] at h1 h2;exact⟨p',hp',by rw[h1,h2];exact h⟩
 have hlen:(fY S.toArray S.length).length<=S.length:=by
  have:∀m,(fY S.toArray m).length<=m:=fun m=>by
   induction m with
   |zero=>simp[fY]
   |succ m ih=>
    rw[fY,aS];split
    ·simp;omega
    ·simp;omega
  exact this _
 rcases hS.1.2 with⟨rfl,h0⟩|⟨g,cap,cur,rfl,hg,hblk,hnc,hcm,hcs,htk⟩
 ·have hS0:S=[]:=gq.1 h0;subst hS0;have HB:Hid (Below w.heap.size w w'):=hS.2;have HF:Hid (og es l []):=hfin;have HM:Hid (l.map Ge.aj=Ge.fX es/\(∀n∈l,Ge.Can n)):=⟨mr,jF⟩;clear hfin hlen hK AE get zL Nj Ni hpw hperm hS uV qW hv h0 mr jF
  go_enter Tryz.func158,Tryz.ntmps158
  go_wp2_with fail
  go_ret
  exact⟨_,[],rfl,World.ownsRow_nil _ _ _ _,HB.out,by simp,l,HM.out.1,HM.out.2,HF.out⟩
 ·have hR:iZ w g cap S.length S.toArray w':=⟨by simp,hS.1,hS.2⟩
  refine(ahk w g cap S.length S.toArray w' hR AE (by omega) hnc).mono ?_
  rintro r w2 ⟨v',rfl,fL,hb⟩;exact⟨v',_,rfl,fL,hb,by omega,l,mr,jF,hfin⟩
namespace Ge
def canon(x y d:Int):Nd:=let g:Int:=Int.gcd (Int.gcd x y:Nat) d;(x.tdiv g,y.tdiv g,d.tdiv g)
theorem Nk(x y:Int){d:Int}(hd:0<d):Can (canon x y d)/\aj (canon x y d)=(aR x d,aR y d):=by
 obtain⟨G,hG⟩:∃G,Int.gcd (Int.gcd x y:Nat) d=G:=⟨_,rfl⟩;have uv:0<G:=by rw[<-hG];exact rY (by omega)
 have uP:(G:Int)∣(Int.gcd x y:Nat):=by rw[<-hG];exact xm _ _
 have dx:(G:Int)∣x:=xq uP (xm _ _);have dy:(G:Int)∣y:=xq uP (vD _ _);have dd:(G:Int)∣d:=by rw[<-hG];exact vD _ _
 have ed:=(rH dd).symm;have hp:0<d.tdiv (G:Int):=by
  rcases fk (d.tdiv (G:Int)) 0 with h|h|h
  ·have:=vC (show(0:Int)<G by omega) h;omega
  ·rw[h] at ed;omega
  ·exact h
 unfold canon;rw[hG];exact Ii (by omega) (rH dx).symm (rH dy).symm ed hp (by rw[hG];simp)
end Ge
def cQ(f t:Ge.Nd):Ge.Nd:=Ge.canon (f.1+t.1) (f.2.1+t.2.1) (f.2.2+t.2.2)
theorem ahp{x:PB}{n:Ge.Nd}(hf:lF x.f)(ht:lF x.t)(h:Wc x n):n=cQ x.f x.t:=by
 have h1:=hf.d;have h2:=ht.d;obtain⟨c,q⟩:=Ge.Nk (x.f.1+x.t.1) (x.f.2.1+x.t.2.1) (d:=x.f.2.2+x.t.2.2) (by omega)
 exact Ge.Ih h.1 c (by rw[h.2.1];exact q.symm)
def bI(f t:Ge.Nd):Ge.Ln:=(t.1*f.2.2-f.1*t.2.2,t.2.1*f.2.2-f.2.1*t.2.2,0)
def rising(a b:Int):Prop:=0<a\/(a=0/\0<b)
theorem Nl{a b c d:Int}(h1:rising a b)(h2:rising c d)(hc:a*d=b*c):0<a*c+b*d:=by
 rcases h1 with h1|⟨h1,h1'⟩
 ·rcases h2 with h2|⟨h2,h2'⟩
  ·have e:a*(a*c+b*d)=(a*a+b*b)*c:=by
    calc a*(a*c+b*d)=a*a*c+b*(a*d):=by grind
     _=(a*a+b*b)*c:=by rw[hc];grind
   have hs:0<a*a+b*b:=by
    have k1:=aP h1 h1;have k2:0<=b*b:=by
     rcases FJ 0 b with h|h
     ·exact iO h h
     ·exact tU h h
    omega
   have hp:=aP hs h2;rw[<-e] at hp;exact(G5 h1).1.1 hp
  ·exfalso;rw[h2,zw] at hc;have:=aP h1 h2';omega
 ·rw[h1,BN] at hc;have hc0:c=0:=by
   rcases fk c 0 with h|h|h
   ·have:=vC h1' h;omega
   ·exact h
   ·have:=aP h1' h;omega
  rcases h2 with h2|⟨h2,h2'⟩
  ·omega
  ·rw[h1,hc0];have:=aP h1' h2';omega
theorem IW{a b c d x y:Int}(hc:a*d=b*c)(hd:0<a*c+b*d)(h2:0<c*c+d*d):(a*x+b*y).sign=(c*x+d*y).sign:=by
 have e:(c*c+d*d)*(a*x+b*y)=(a*c+b*d)*(c*x+d*y):=by
  have e1:(c*c+d*d)*(a*x+b*y)-(a*c+b*d)*(c*x+d*y)=(a*d-b*c)*(d*x-c*y):=by grind
  have e2:a*d-b*c=0:=by omega
  rw[e2,BN] at e1;omega
 have k1:=Q5 (c*c+d*d) (a*x+b*y);have k2:=Q5 (a*c+b*d) (c*x+d*y);rw[pM h2,BM] at k1;rw[pM hd,BM] at k2;rw[<-k1,<-k2,e]
theorem WM{e:Ed}(hne:e.1≠e.2):rising (Ge.gU (Ge.bY e)).1 (Ge.gU (Ge.bY e)).2.1:=by
 obtain⟨⟨a,b⟩,c,d⟩:=e;have h:¬(a=c/\b=d):=fun h=>hne (by simp[h.1,h.2])
 unfold Ge.gU Ge.down Ge.bY Ge.Ax rising;simp only;split
 ·rename_i hd
  simp only[QV,qq,decide_eq_true_eq] at hd;simp only;omega
 ·rename_i hd
  simp only[QV,qq,decide_eq_true_eq] at hd;simp only;omega
theorem IX{n:Ge.Nd}{e:Ed}(hn:0<n.2.2)(h:Ge.fo (n.1,n.2.1) n.2.2 e=true):lf n.1 n.2.1 n.2.2 e=0:=by
 unfold Ge.fo Ge.on at h;rw[qq,decide_eq_true_eq] at h;have:=L5 n.1 n.2.1 n.2.2 e;rw[h.1] at this;exact(G5 hn).2.2.1 this
theorem WN{f t:Ge.Nd}(hf:Ge.Can f)(ht:Ge.Can t)(hlt:Ge.lt (Ge.aj f) (Ge.aj t)):rising (bI f t).1 (bI f t).2.1:=by
 unfold Ge.lt at hlt;rw[Ge.Ig hf ht] at hlt;unfold rising bI;simp only;generalize f.1*t.2.2=p1 at*;generalize t.1*f.2.2=p2 at*;generalize f.2.1*t.2.2=p3 at*;generalize t.2.1*f.2.2=p4 at*;rcases fk (p1-p2) 0 with h|h|h
 ·exact Or.inl (by omega)
 ·rw[if_pos (by rw[h];rfl)] at hlt
  refine Or.inr ⟨by omega,?_⟩
  rcases fk (p3-p4) 0 with k|k|k
  ·omega
  ·rw[k] at hlt;simp at hlt
  ·rw[pM k] at hlt;omega
 ·have hs:=pM h;rw[hs,if_neg (by decide)] at hlt
  omega
theorem WQ{e:Ed}{f t:Ge.Nd}(l1:lf f.1 f.2.1 f.2.2 e=0)(l2:lf t.1 t.2.1 t.2.2 e=0):(Ge.bY e).1*(bI f t).2.1=(Ge.bY e).2.1*(bI f t).1:=by
 unfold lf at l1 l2;unfold Ge.bY bI;simp only;have k:(e.2.1-e.1.1)*(t.2.1*f.2.2-f.2.1*t.2.2)-(e.2.2-e.1.2)*(t.1*f.2.2-f.1*t.2.2)=f.2.2*((e.2.1-e.1.1)*t.2.1-(e.2.2-e.1.2)*t.1-((e.2.1-e.1.1)*e.1.2-(e.2.2-e.1.2)*e.1.1)*t.2.2)-t.2.2*((e.2.1-e.1.1)*f.2.1-(e.2.2-e.1.2)*f.1-((e.2.1-e.1.1)*e.1.2-(e.2.2-e.1.2)*e.1.1)*f.2.2):=by grind
 rw[l1,l2,zw,zw] at k;omega
theorem ahq{e:Ed}{f t:Ge.Nd}(hne:e.1≠e.2)(hf:Ge.Can f)(ht:Ge.Can t)(h1:Ge.fo (f.1,f.2.1) f.2.2 e=true)(h2:Ge.fo (t.1,t.2.1) t.2.2 e=true)(hlt:Ge.lt (Ge.aj f) (Ge.aj t))(x y:Int):
  ((Ge.gU (Ge.bY e)).1*x+(Ge.gU (Ge.bY e)).2.1*y).sign=((bI f t).1*x+(bI f t).2.1*y).sign:=by
 have l1:=IX hf.pos h1;have l2:=IX ht.pos h2;have hr:=WM hne;have hd:=WN hf ht hlt;have hc:=WQ l1 l2;have hc':(Ge.gU (Ge.bY e)).1*(bI f t).2.1=(Ge.gU (Ge.bY e)).2.1*(bI f t).1:=by
  unfold Ge.gU;split
  ·show -(Ge.bY e).1*_= -(Ge.bY e).2.1*_;rw[iw,iw,hc]
  ·exact hc
 have hdd:0<(bI f t).1*(bI f t).1+(bI f t).2.1*(bI f t).2.1:=Nl hd hd (dX _ _);exact IW hc' (Nl hr hd hc') hdd
def qd(es:List Ed)(f t:Ge.Nd):Int:=Ge.total (Ge.fr ((cQ f t).1,(cQ f t).2.1) (cQ f t).2.2) es+Ge.total (Ge.fa (cQ f t) (bI f t)) es
def oh(es:List Ed)(f t:Ge.Nd):Int:=Ge.total (Ge.fr ((cQ f t).1,(cQ f t).2.1) (cQ f t).2.2) es
theorem ahr(p:PB)(es:List Ed)(l:List Ge.Nd)(hes:∀e∈es,e.1≠e.2)(hv:cM p)(hlt:Ge.lt (Ge.aj p.f) (Ge.aj p.t))(hm:∃e∈es,pE p.wa p.wb p.sh (Ge.gU (Ge.bY e))/\(p.f,p.t)∈Ge.nexts (Ge.held e l))(hl:es.length<=402)(hs:∀e∈es,fg e):
  ∀v w,gu w v es->Calls Tryz.prog 105 #[.agg p.cells.toArray,v] w fun r w'=>r=.returned (.tuple #[.int .i64 (qd es p.f p.t),.int .i64 (oh es p.f p.t)])/\Below w.heap.size w w':=by
 obtain⟨e,he,hfl,hq⟩:=hm;have jm:=hs e he;have b1:sm (Ge.gU (Ge.bY e)).1:=by
  have:=jm.a;have:=jm.c;unfold small at*;unfold Ge.gU Ge.Ax Ge.bY sm;split<;>simp only<;>omega
 have b2:sm (Ge.gU (Ge.bY e)).2.1:=by
  have:=jm.b;have:=jm.d;unfold small at*;unfold Ge.gU Ge.Ax Ge.bY sm;split<;>simp only<;>omega
 obtain⟨n,hi,hc⟩:=agN p _ es hfl b1 b2 hv.f hv.t hl hs;have en:=ahp hv.f hv.t hi;subst en;have hm2:=IU hq;have f1:=(jw.1 hm2.1).2;have f2:=(jw.1 hm2.2).2;have hfa:∀a b,Ge.fa (cQ p.f p.t) (Ge.gU (Ge.bY e)) a b=Ge.fa (cQ p.f p.t) (bI p.f p.t) a b:=fun a b=>by
  unfold Ge.fa;rw[ahq (hes e he) hv.cf hv.ct f1 f2 hlt]
 intro v w hR;have h:=hc v w hR;rw[Ge.UZ es hfa] at h;exact h
end Go.Proofs.YtkjhhooecopolaaGreatDoor

import Derived.Test.YtkjhhooecopolaaGreatDoorMz22
import Derived.Deep.LoopGhost
import Derived.Deep.RegionHeld3
import Derived.Deep.QuietTactic
import Derived.Shelf.LaySoft
import Derived.Shelf.Lay
import Derived.Shelf.SlGeneric
import Derived.Shelf.SlSortCmp.NoneTotal
import Derived.Ground.SlsfProg
import Derived.Test.YtkjhhooecopolaaGreatDoorProg
set_option maxRecDepth 100000
set_option maxHeartbeats 4000000
namespace Go.Proofs.YtkjhhooecopolaaGreatDoor
open Go.RowKit
namespace Ge
def fa(n:Nd)(l:Ln)(a b:Pt):Int:=if fo (n.1,n.2.1) n.2.2 (a,b) then(l.1*(b.1-a.1)+l.2.1*(b.2-a.2)).sign else 0
theorem V9(n:Nd)(l:Ln)(a b:Pt): -1<=fa n l a b/\fa n l a b<=1:=by
 unfold fa;split
 ·rcases fk (l.1*(b.1-a.1)+l.2.1*(b.2-a.2)) 0 with h|h|h
  ·rw[FL h];decide
  ·rw[h];decide
  ·rw[pM h];decide
 ·decide
def bY(e:Pt×Pt):Ln:=(e.2.1-e.1.1,e.2.2-e.1.2,(e.2.1-e.1.1)*e.1.2-(e.2.2-e.1.2)*e.1.1)
end Ge
theorem agI(p:PB)(l:Ge.Ln)(n:Ge.Nd)(es:List Ed)(v:Value)(w:World)(hp:pE p.wa p.wb p.sh l)(h1:sm l.1)(h2:sm l.2.1)(hn:dm n.1 n.2.1 n.2.2)(hR:gu w v es)(hl:es.length<=402)(hs:∀e∈es,fg e)
  (hi:∀w,Calls Tryz.prog 160 #[.agg p.cells.toArray] w fun e w'=>e=.returned (gS n)/\Below w.heap.size w w'):
  Calls Tryz.prog 105 #[.agg p.cells.toArray,v] w fun r w'=>r=.returned (.tuple #[.int .i64 (Ge.total (Ge.fr (n.1,n.2.1) n.2.2) es+Ge.total (Ge.fa n l) es),.int .i64 (Ge.total (Ge.fr (n.1,n.2.1) n.2.2) es)])/\Below w.heap.size w w':=by
 obtain⟨so,cap,rfl⟩:=CU hR;obtain⟨g1,g2⟩:=qP hn;have HR:Hid (gu w (.slice so es.length cap) es):=hR;have HI:Hid (∀w,Calls Tryz.prog 160 #[.agg p.cells.toArray] w fun e w'=>e=.returned (gS n)/\Below w.heap.size w w'):=hi
 have HH:Hid (∀(x:EB)(e:Ed),iT x e->e∈es->∀w1,Calls Tryz.prog 62 #[.agg #[.complex .f64 x.wa x.wb,.float .f64 x.sh,.complex .f64 x.fa x.fb,.complex .f64 x.ta x.tb],.agg #[.complex .f64 (floatOfInt .f64 n.1) (floatOfInt .f64 n.2.1),.int .i64 n.2.2]] w1 fun e' w'=>e'=.returned (.bool (Ge.fo (n.1,n.2.1) n.2.2 e))/\Below w1.heap.size w1 w'):=fun x e hx he w1=>CT x e hx (hs e he) g1 g2 hn w1
 have HP:Hid (∀(x:EB)(e:Ed),iT x e->e∈es->∀w1,Calls Tryz.prog 63 #[.agg #[.complex .f64 x.wa x.wb,.float .f64 x.sh,.complex .f64 x.fa x.fb,.complex .f64 x.ta x.tb],.agg #[.complex .f64 (floatOfInt .f64 n.1) (floatOfInt .f64 n.2.1),.int .i64 n.2.2]] w1 fun e' w'=>e'=.returned (.int .i64 (Ge.fr (n.1,n.2.1) n.2.2 e.1 e.2))/\Below w1.heap.size w1 w'):=fun x e hx he w1=>Tj x e hx (hs e he) g1 g2 hn w1
 have HA:Hid (∀(x:EB)(e:Ed),iT x e->e∈es->∀w1,Calls Tryz.prog 161 #[.agg #[.complex .f64 p.wa p.wb,.float .f64 p.sh],.agg #[.complex .f64 x.wa x.wb,.float .f64 x.sh]] w1 fun e' w'=>e'=.returned (.int .i64 (l.1*(e.2.1-e.1.1)+l.2.1*(e.2.2-e.1.2)).sign)/\Below w1.heap.size w1 w'):=fun x e hx he w1=>by
  have h:=hs e he;have b3:sm (Ge.bY e).1:=by have:=h.a;have:=h.c;unfold small at*;unfold sm Ge.bY;simp only;omega
  have b4:sm (Ge.bY e).2.1:=by have:=h.b;have:=h.d;unfold small at*;unfold sm Ge.bY;simp only;omega
  exact ago hp (m:=Ge.bY e) ⟨hx.wa,hx.wb,hx.sh⟩ h1 h2 b3 b4 w1
 have HT:Hid (∀k:Nat, -(k:Int)<=Ge.total (Ge.fr (n.1,n.2.1) n.2.2) (es.take k)/\Ge.total (Ge.fr (n.1,n.2.1) n.2.2) (es.take k)<=(k:Int)):=fun k=>by
  have h:=GW (Ge.fr (n.1,n.2.1) n.2.2) (GX _ _) (es.take k);have h2:(es.take k).length<=k:=by simp;omega
  omega
 have DU:Hid (∀k:Nat, -(k:Int)<=Ge.total (Ge.fa n l) (es.take k)/\Ge.total (Ge.fa n l) (es.take k)<=(k:Int)):=fun k=>by
  have h:=GW (Ge.fa n l) (Ge.V9 _ _) (es.take k);have h2:(es.take k).length<=k:=by simp;omega
  omega
 clear hR hs g1 g2 hn hi hp h1 h2;unfold gS at HI;obtain⟨pa,pb,ps,⟨f1,f2,f3⟩,t1,t2,t3⟩:=p;simp only[PB.cells] at*;generalize floatOfInt .f64 f1=F1 at*;generalize floatOfInt .f64 f2=F2 at*;generalize floatOfInt .f64 t1=T1 at*;generalize floatOfInt .f64 t2=T2 at*;generalize floatOfInt .f64 n.1=N1 at*;generalize floatOfInt .f64 n.2.1=N2 at*;have hb0:Below w.heap.size w (w.alloc (.cells #[.complex .f64 pa pb,.float .f64 ps,.complex .f64 F1 F2,.int .i64 f3,.complex .f64 T1 T2,.int .i64 t3] 171)):=(Below.refl _ _).alloc (ae _) _;have mZ:=heap_alloc_new w (.cells #[.complex .f64 pa pb,.float .f64 ps,.complex .f64 F1 F2,.int .i64 f3,.complex .f64 T1 T2,.int .i64 t3] 171);have hz:w.heap.size<(w.alloc (.cells #[.complex .f64 pa pb,.float .f64 ps,.complex .f64 F1 F2,.int .i64 f3,.complex .f64 T1 T2,.int .i64 t3] 171)).heap.size:=by simp
 go_enter Tryz.func105,Tryz.ntmps105
 go_wp2_with fail
 generalize w.alloc (.cells #[.complex .f64 pa pb,.float .f64 ps,.complex .f64 F1 F2,.int .i64 f3,.complex .f64 T1 T2,.int .i64 t3] 171)=W at*;refine(HI.out _).mono ?_;rintro r w1 ⟨rfl,hb1⟩;have jz:=(hb1.block _ hz).trans mZ;have DW:w.heap.size<w1.heap.size:=aL hz hb1.size;have sM:=hb0.trans (hb1.mono hb0.size);clear hb0 hb1 mZ HI
 go_wp2_with (simp only[fA];go_simp)
 have bh:Hid (Below w.heap.size w (w1.alloc (.cells #[.complex .f64 N1 N2,.int .i64 n.2.2] 83))/\(w1.alloc (.cells #[.complex .f64 N1 N2,.int .i64 n.2.2] 83)).heap[w.heap.size]?=some (.cells #[.complex .f64 pa pb,.float .f64 ps,.complex .f64 F1 F2,.int .i64 f3,.complex .f64 T1 T2,.int .i64 t3] 171 (0,0))/\(w1.alloc (.cells #[.complex .f64 N1 N2,.int .i64 n.2.2] 83)).heap[w1.heap.size]?=some (.cells #[.complex .f64 N1 N2,.int .i64 n.2.2] 83 (0,0))):=⟨sM.alloc sM.size _,(Below.heap_alloc _ _ _ DW).trans jz,heap_alloc_new _ _⟩;clear jz sM;generalize w1.heap.size=N at*;generalize w1.alloc (.cells #[.complex .f64 N1 N2,.int .i64 n.2.2] 83)=WL at*
 go_loopg [6,7,15] es.length (fun m rv av iv wr=>∃k:Nat,k+m=es.length/\iv=.int .i64 k/\rv=.int .i64 (Ge.total (Ge.fr (n.1,n.2.1) n.2.2) (es.take k))/\av=.int .i64 (Ge.total (Ge.fa n l) (es.take k))/\Hid (Below w.heap.size w wr/\wr.heap[w.heap.size]?=some (.cells #[.complex .f64 pa pb,.float .f64 ps,.complex .f64 F1 F2,.int .i64 f3,.complex .f64 T1 T2,.int .i64 t3] 171 (0,0))/\wr.heap[N]?=some (.cells #[.complex .f64 N1 N2,.int .i64 n.2.2] 83 (0,0))))
 case atStart=>exact⟨0,by omega,rfl,rfl,rfl,bh⟩
 case round=>
  obtain⟨k,hkn,rfl,rfl,rfl,HB⟩:=hrel;obtain⟨ag,qD,hNb⟩:=HB.out;clear bh HB;have Tt:=HT.out k;have hAk:=DU.out k;by_cases hlt:k<es.length
  ·obtain⟨e,lY⟩:∃e,es[k]?=some e:=⟨_,ay hlt⟩;obtain⟨b,x,rfl,hb,hok,c0,c1,c2,c3⟩:=CV HR.out lY;have r0:=(ag.cell (p:=⟨b,k*4,none⟩) hb).trans c0;have r1:=(ag.cell (p:=⟨b,k*4+1,none⟩) hb).trans c1;have r2:=(ag.cell (p:=⟨b,k*4+2,none⟩) hb).trans c2;have r3:=(ag.cell (p:=⟨b,k*4+3,none⟩) hb).trans c3;have n0:wr.cell? ⟨N,0,none⟩=some (.complex .f64 N1 N2):=cell_of hNb 0;have n1:wr.cell? ⟨N,1,none⟩=some (.int .i64 n.2.2):=cell_of hNb 1;have hbr:b<wr.heap.size:=aL hb ag.size;have MZ:N<wr.heap.size:=lt_of_heap hNb;have hPz:w.heap.size<wr.heap.size:=lt_of_heap qD;have eD:(k:Int)<(es.length:Int):=by omega
   have hmem:=aY lY;have nU:Hid (Ge.total (Ge.fr (n.1,n.2.1) n.2.2) (es.take (k+1))=Ge.total (Ge.fr (n.1,n.2.1) n.2.2) (es.take k)+Ge.fr (n.1,n.2.1) n.2.2 e.1 e.2):=L4 _ lY;have Wa:Hid (Ge.total (Ge.fa n l) (es.take (k+1))=Ge.total (Ge.fa n l) (es.take k)+Ge.fa n l e.1 e.2):=L4 _ lY;have qE:Hid (∀w1,Calls Tryz.prog 62 #[.agg #[.complex .f64 x.wa x.wb,.float .f64 x.sh,.complex .f64 x.fa x.fb,.complex .f64 x.ta x.tb],.agg #[.complex .f64 N1 N2,.int .i64 n.2.2]] w1 fun e' w'=>e'=.returned (.bool (Ge.fo (n.1,n.2.1) n.2.2 e))/\Below w1.heap.size w1 w'):=HH.out x e hok hmem
   have CW:Hid (∀w1,Calls Tryz.prog 63 #[.agg #[.complex .f64 x.wa x.wb,.float .f64 x.sh,.complex .f64 x.fa x.fb,.complex .f64 x.ta x.tb],.agg #[.complex .f64 N1 N2,.int .i64 n.2.2]] w1 fun e' w'=>e'=.returned (.int .i64 (Ge.fr (n.1,n.2.1) n.2.2 e.1 e.2))/\Below w1.heap.size w1 w'):=HP.out x e hok hmem
   have Wb:Hid (∀w1,Calls Tryz.prog 161 #[.agg #[.complex .f64 pa pb,.float .f64 ps],.agg #[.complex .f64 x.wa x.wb,.float .f64 x.sh]] w1 fun e' w'=>e'=.returned (.int .i64 (l.1*(e.2.1-e.1.1)+l.2.1*(e.2.2-e.1.2)).sign)/\Below w1.heap.size w1 w'):=HA.out x e hok hmem
   have hfin:=GX (n.1,n.2.1) n.2.2 e.1 e.2;have aoh:=Ge.V9 n l e.1 e.2;have D6:Hid (Ge.fa n l e.1 e.2=if Ge.fo (n.1,n.2.1) n.2.2 e then(l.1*(e.2.1-e.1.1)+l.2.1*(e.2.2-e.1.2)).sign else 0):=rfl
   obtain⟨wa,wb,sh,fa,fb,ta,tb⟩:=x;simp only at r0 r1 r2 r3 qE CW Wb;generalize Ge.total (Ge.fr (n.1,n.2.1) n.2.2) (es.take k)=TR at*;generalize Ge.total (Ge.fa n l) (es.take k)=TA at*;generalize Ge.fr (n.1,n.2.1) n.2.2 e.1 e.2=FR at*;generalize Ge.fa n l e.1 e.2=FA at*;generalize(l.1*(e.2.1-e.1.1)+l.2.1*(e.2.2-e.1.2)).sign=SG at*;clear c0 c1 c2 c3 lY HR HH HP HA hok hmem HT DU;have xO:Below w.heap.size w (wr.alloc (.cells #[.complex .f64 wa wb,.float .f64 sh,.complex .f64 fa fb,.complex .f64 ta tb] 124)):=ag.alloc ag.size _;have mZ:=heap_alloc_new wr (.cells #[.complex .f64 wa wb,.float .f64 sh,.complex .f64 fa fb,.complex .f64 ta tb] 124);have vU:=(Below.heap_alloc wr (.cells #[.complex .f64 wa wb,.float .f64 sh,.complex .f64 fa fb,.complex .f64 ta tb] 124) _ hPz).trans qD;have DZ:=(Below.heap_alloc wr (.cells #[.complex .f64 wa wb,.float .f64 sh,.complex .f64 fa fb,.complex .f64 ta tb] 124) _ MZ).trans hNb;have hsz:wr.heap.size+1=(wr.alloc (.cells #[.complex .f64 wa wb,.float .f64 sh,.complex .f64 fa fb,.complex .f64 ta tb] 124)).heap.size:=by simp
   have hwr:IntKind.i64.wrap (TR+FR)=TR+FR:=by rw[IntKind.wrap_i64];omega
   have M3:IntKind.i64.wrap (TA+SG)=TA+SG\/Ge.fo (n.1,n.2.1) n.2.2 e=false:=by
    cases hf:Ge.fo (n.1,n.2.1) n.2.2 e
    ·exact Or.inr rfl
    ·refine Or.inl ?_;have h3:=D6.out;rw[hf,if_pos rfl] at h3;rw[IntKind.wrap_i64];omega
   go_wp2_with (simp only[fA,lX];go_simp)
   generalize wr.alloc (.cells #[.complex .f64 wa wb,.float .f64 sh,.complex .f64 fa fb,.complex .f64 ta tb] 124)=w0 at*;generalize hEe:wr.heap.size=E at*;clear r0 r1 r2 r3 n0 n1;refine(CW.out _).mono ?_;rintro e' w2 ⟨rfl,hb2⟩;have dv:=(hb2.block _ (show E<w0.heap.size by omega)).trans mZ
   have dQ:=(hb2.block _ (show w.heap.size<w0.heap.size by omega)).trans vU
   have wF:=(hb2.block _ (show N<w0.heap.size by omega)).trans DZ
   have ad7:=hb2.size;have hL2:=xO.trans (hb2.mono (by omega))
   have e0:w2.cell? ⟨E,0,none⟩=some (.complex .f64 wa wb):=cell_of dv 0;have e1:w2.cell? ⟨E,1,none⟩=some (.float .f64 sh):=cell_of dv 1;have e2:w2.cell? ⟨E,2,none⟩=some (.complex .f64 fa fb):=cell_of dv 2;have e3:w2.cell? ⟨E,3,none⟩=some (.complex .f64 ta tb):=cell_of dv 3;have n0:w2.cell? ⟨N,0,none⟩=some (.complex .f64 N1 N2):=cell_of wF 0;have n1:w2.cell? ⟨N,1,none⟩=some (.int .i64 n.2.2):=cell_of wF 1;clear mZ vU DZ hb2 xO
   go_wp2_with fail
   refine(qE.out _).mono ?_;rintro e' w3 ⟨rfl,hb3⟩;have M4:=(hb3.block _ (show E<w2.heap.size by omega)).trans dv
   have iD:=(hb3.block _ (show w.heap.size<w2.heap.size by omega)).trans dQ
   have AO:=(hb3.block _ (show N<w2.heap.size by omega)).trans wF
   have aoi:=hb3.size;have hL3:=hL2.trans (hb3.mono (by omega))
   clear e0 e1 e2 e3 n0 n1 dv dQ wF hb3 hL2;cases hf:Ge.fo (n.1,n.2.1) n.2.2 e
   ·have uU:Hid (FA=0):=by have:=D6.out;rw[hf] at this;exact this
    clear hf M3 D6
    go_wp2_with fail
    go_roundg (gk-1)
    case measure=>omega
    case rel=>exact⟨k+1,by omega,by go_num,by rw[nU.out],by rw[Wa.out,uU.out,Int.add_zero],hL3,iD,AO⟩
   ·have uU:Hid (FA=SG):=by have:=D6.out;rw[hf,if_pos rfl] at this;exact this
    have aoj:IntKind.i64.wrap (TA+SG)=TA+SG:=by
     rcases M3 with h|h
     ·exact h
     ·rw[hf] at h;cases h
    have e0:w3.cell? ⟨E,0,none⟩=some (.complex .f64 wa wb):=cell_of M4 0;have e1:w3.cell? ⟨E,1,none⟩=some (.float .f64 sh):=cell_of M4 1;have p0:w3.cell? ⟨w.heap.size,0,none⟩=some (.complex .f64 pa pb):=cell_of iD 0;have p1:w3.cell? ⟨w.heap.size,1,none⟩=some (.float .f64 ps):=cell_of iD 1;clear hf M3 D6
    go_wp2_with fail
    refine(Wb.out _).mono ?_;rintro e' w4 ⟨rfl,hb4⟩;have kj:=(hb4.block _ (show w.heap.size<w3.heap.size by omega)).trans iD
    have hN4:=(hb4.block _ (show N<w3.heap.size by omega)).trans AO
    have hL4:=hL3.trans (hb4.mono (by omega))
    clear e0 e1 p0 p1 M4 iD AO hb4 hL3
    go_wp2_with fail
    go_roundg (gk-1)
    case measure=>omega
    case rel=>exact⟨k+1,by omega,by go_num,by rw[nU.out],by rw[Wa.out,uU.out],hL4,kj,hN4⟩
  ·have hk:k=es.length:=by omega
   subst hk;rw[dI] at*;have hws:IntKind.i64.wrap (Ge.total (Ge.fr (n.1,n.2.1) n.2.2) es+Ge.total (Ge.fa n l) es)=Ge.total (Ge.fr (n.1,n.2.1) n.2.2) es+Ge.total (Ge.fa n l) es:=by rw[IntKind.wrap_i64];omega
   clear HR HH HP HA HT DU;generalize D7:Ge.total (Ge.fr (n.1,n.2.1) n.2.2) es=TR at Tt hws;generalize oX:Ge.total (Ge.fa n l) es=TA at hAk hws;have HTR:Hid (Ge.total (Ge.fr (n.1,n.2.1) n.2.2) es=TR):=D7;have agM:Hid (Ge.total (Ge.fa n l) es=TA):=oX;clear D7 oX
   go_wp2_with fail
   refine bodyPost_ret (v:=.tuple #[.int .i64 (TR+TA),.int .i64 TR]) (by simp[results,Tryz.results105,go_sem]) rfl ⟨?_,ag⟩
   rw[HTR.out,agM.out]
def Wc(x:PB)(n:Ge.Nd):Prop:=Ge.Can n/\Ge.aj n=(Ge.aR (x.f.1+x.t.1) (x.f.2.2+x.t.2.2),Ge.aR (x.f.2.1+x.t.2.1) (x.f.2.2+x.t.2.2))/\dm n.1 n.2.1 n.2.2
theorem agN(p:PB)(l:Ge.Ln)(es:List Ed)(hp:pE p.wa p.wb p.sh l)(h1:sm l.1)(h2:sm l.2.1)(hf:lF p.f)(ht:lF p.t)(hl:es.length<=402)(hs:∀e∈es,fg e):
  ∃n,Wc p n/\∀v w,gu w v es->Calls Tryz.prog 105 #[.agg p.cells.toArray,v] w fun r w'=>r=.returned (.tuple #[.int .i64 (Ge.total (Ge.fr (n.1,n.2.1) n.2.2) es+Ge.total (Ge.fa n l) es),.int .i64 (Ge.total (Ge.fr (n.1,n.2.1) n.2.2) es)])/\Below w.heap.size w w':=by
 obtain⟨n,hc,hq,hn,hi⟩:=agp p hf ht;exact⟨n,⟨hc,hq,hn⟩,fun v w hR=>agI p l n es v w hp h1 h2 hn hR hl hs hi⟩
theorem agO{d dk:Array Ge.Nd}{k:Nat}(h:Lib.CompInv d d.size k dk):dk.toList.take k=Ge.cG d.toList:=by
 rw[<-Ge.VL];apply BJ;intro j;rw[j6];by_cases hj:j<k
 ·have hs:=h.size;have hl:=h.lt;rw[if_pos hj,h.low j hj,iQ,nM (by omega),getElem!_pos dk j (by omega)]
 ·rw[if_neg hj,xh (by rw[h.len];omega)]
theorem RW.dn{w:World}{g cap n:Nat}{d:Array Ge.Nd}{wr:World}(h:RW w g cap n d wr)(q:Nat):RW w g cap n d (wr.drewN q):=⟨h.size,h.own,⟨h.below.os,h.below.tape,h.below.output,h.below.size,h.below.block⟩⟩
theorem agP(w:World)(g cap n:Nat)(d:Array Ge.Nd)(yD:World)(h:RW w g cap n d yD)(hd:∀i,i<n->dm (d[i]!).1 (d[i]!).2.1 (d[i]!).2.2)(hn:n<=200000)(hc:n<=cap):
  Calls Tryz.prog 126 #[.slice (some ⟨g,0,none⟩) n cap] yD fun r w'=>∃v',r=.returned v'/\iq w' v' (Ge.cG d.toList)/\Below w.heap.size w w':=by
 have HR:Hid (RW w g cap n d yD):=h;have HD:Hid (∀i,i<n->dm (d[i]!).1 (d[i]!).2.1 (d[i]!).2.2):=hd;have hds:d.size=n:=h.size;clear h hd;by_cases h2:n<2
 ·go_enter Tryz.func126,Tryz.ntmps126
  go_wp2_with fail
  go_ret
  refine⟨_,rfl,?_,HR.out.below⟩;rw[VQ (fun j hj=>Lib.keeps_lt_one d j (by omega))]
  exact HR.out.rd
 ·go_enter Tryz.func126,Tryz.ntmps126
  go_wp2_with fail
  go_loopg [3] n (fun gk s3 wr=>∃k:Nat,1<=k/\k<=n/\n-k<=gk/\s3=.int .i64 k/\Hid (RW w g cap n d wr/\∀j,j<k->Lib.keeps d j=true))
  case atStart=>exact⟨1,ae _,by omega,by omega,rfl,HR.out,Lib.keeps_lt_one d⟩
  case round=>
   obtain⟨k,hk1,hk,hg,rfl,HI⟩:=hrel;by_cases hlt:k<n
   ·obtain⟨c1,d1,f1,z1⟩:=HI.out.1.cells k hlt;obtain⟨c0,d0,f0,z0⟩:=HI.out.1.cells (k-1) (by omega)
    have eD:(k:Int)<(n:Int):=by omega
    have hop:=DT d[k]! d[k-1]! (HD.out k hlt) (HD.out (k-1) (by omega))
    have HX:Hid (d[k]! =d[k-1]! ->Lib.keeps d k=false):=fun e=>Lib.keeps_neg (by omega) e
    have HY:Hid (d[k]! ≠d[k-1]! ->Lib.keeps d k=true):=fun e=>Lib.keeps_pos e
    have l9:Hid (decide (d[k]! =d[k-1]!)=true↔d[k]! =d[k-1]!):=decide_eq_true_iff;clear f1 z1 f0 z0;generalize hB:decide (d[k]! =d[k-1]!)=bq at hop l9;generalize floatOfInt .f64 (d[k]!).1=A1 at*;generalize floatOfInt .f64 (d[k]!).2.1=A2 at*;generalize(d[k]!).2.2=A3 at*;generalize floatOfInt .f64 (d[k-1]!).1=B1 at*;generalize floatOfInt .f64 (d[k-1]!).2.1=B2 at*;generalize(d[k-1]!).2.2=B3 at*;clear hB
    go_wp2_with fail
    go_quiet (fail)
    cases bq
    ·have HK:=HY.out (fun e=>by have:=l9.out.2 e;cases this)
     have HK':Hid (Lib.keeps d k=true):=HK;clear HK HX HY l9 c0 c1 d0 d1
     go_wp2_with fail
     go_roundg (n-(k+1))
     case measure=>omega
     case rel=>
      refine⟨k+1,by omega,by omega,ae _,by go_num,HI.out.1.dn nq,fun j hj=>?_⟩
      by_cases e:j=k
      ·subst e;exact HK'.out
      ·exact HI.out.2 j (by omega)
    ·have HK:Hid (Lib.keeps d k=false):=HX.out (l9.out.1 rfl);clear HX HY l9 c0 c1 d0 d1;have hkc:k<=cap:=by omega
     go_wp2_with fail
     go_loopg [3,5] n (fun gk s3 s5 wr2=>∃(kk k2:Nat)(dk:Array Ge.Nd),s3=.int .i64 kk/\s5=.int .i64 k2/\1<=k2/\k+k2<=n/\n-(k+k2)<=gk/\Hid (RW w g cap n dk wr2/\Lib.CompInv d (k+k2) kk dk))
     case atStart=>exact⟨k,1,d,rfl,rfl,ae _,by omega,by omega,HI.out.1.dn nq,Lib.CompInv.start HI.out.2 HK.out⟩
     case round=>
      obtain⟨kk,k2,dk,rfl,rfl,h1,hle,hg2,HJ⟩:=hrel;have hkk:=HJ.out.2.lt;by_cases nR:k+k2<n
      ·obtain⟨c1,d1,_,_⟩:=HJ.out.1.cells (k+k2) nR;obtain⟨c0,d0,_,_⟩:=HJ.out.1.cells (k+k2-1) (by omega)
       obtain⟨ck,dkk,f1,z1⟩:=HJ.out.1.cells kk (by omega)
       rw[HJ.out.2.high (k+k2) (by omega),show(k+k2)*2=k*2+k2*2 by omega] at c1
       rw[HJ.out.2.high (k+k2) (by omega),show(k+k2)*2=k*2+k2*2 by omega] at d1
       rw[HJ.out.2.high (k+k2-1) (by omega),show(k+k2-1)*2=k*2+(k2-1)*2 by omega] at c0
       rw[HJ.out.2.high (k+k2-1) (by omega),show(k+k2-1)*2=k*2+(k2-1)*2 by omega] at d0
       have vS:=agn d[k+k2]! d[k+k2-1]! (HD.out (k+k2) nR) (HD.out (k+k2-1) (by omega))
       have HX:Hid (d[k+k2]! =d[k+k2-1]! ->Lib.keeps d (k+k2)=false):=fun e=>Lib.keeps_neg (by omega) e
       have HY:Hid (d[k+k2]! ≠d[k+k2-1]! ->Lib.keeps d (k+k2)=true):=fun e=>Lib.keeps_pos e
       have l9:Hid (decide (d[k+k2]! =d[k+k2-1]!)=true↔d[k+k2]! =d[k+k2-1]!):=decide_eq_true_iff;have HS:Hid (∀q,RW w g cap n (dk.setIfInBounds kk d[k+k2]!) (((wr.drewN q).setCell ⟨g,kk*2,none⟩ (.complex .f64 (floatOfInt .f64 (d[k+k2]!).1) (floatOfInt .f64 (d[k+k2]!).2.1))).setCell ⟨g,kk*2+1,none⟩ (.int .i64 (d[k+k2]!).2.2))):=fun q=>(HJ.out.1.dn q).set kk (by omega) _
       have aol:(k2:Int)<(n:Int)-(k:Int):=by omega
       have M5:k2<n-k:=by omega
       generalize hB:decide (d[k+k2]! =d[k+k2-1]!)=bq at vS l9;clear hB hop;generalize floatOfInt .f64 (d[k+k2]!).1=A1' at*;generalize floatOfInt .f64 (d[k+k2]!).2.1=A2' at*;generalize(d[k+k2]!).2.2=A3' at*;generalize floatOfInt .f64 (d[k+k2-1]!).1=B1' at*;generalize floatOfInt .f64 (d[k+k2-1]!).2.1=B2' at*;generalize(d[k+k2-1]!).2.2=B3' at*
       go_wp2_with fail
       go_quiet (fail)
       cases bq
       ·have yE:Hid (Lib.keeps d (k+k2)=true):=HY.out (fun e=>by have:=l9.out.2 e;cases this)
        clear HX HY l9;simp only[Bool.not_false]
        go_wp2_with (simp only[fA];go_simp)
        go_roundg (n-(k+(k2+1)))
        case measure=>omega
        case rel=>exact⟨kk+1,k2+1,dk.setIfInBounds kk d[k+k2]!,by go_num,by go_num,by omega,by omega,ae _,HS.out _,HJ.out.2.keep (by omega) yE.out⟩
       ·have yE:Hid (Lib.keeps d (k+k2)=false):=HX.out (l9.out.1 rfl);clear HX HY l9;simp only[Bool.not_true]
        go_wp2_with fail
        go_roundg (n-(k+(k2+1)))
        case measure=>omega
        case rel=>exact⟨kk,k2+1,dk,rfl,by go_num,by omega,by omega,ae _,HJ.out.1.dn _,HJ.out.2.skip yE.out⟩
      ·have hend:k+k2=d.size:=by omega
       obtain⟨w',hcl,ag,fL⟩:=HJ.out.1.clear kk (by omega) (cap-kk)
       have jl:Hid (iq w' (.slice (some ⟨g,0,none⟩) kk cap) (Ge.cG d.toList)):=by
        have hI:=HJ.out.2;rw[hend] at hI;rw[<-agO hI];exact fL
       have D8:Hid (Below w.heap.size w w'):=ag;have M5:¬k2<n-k:=by omega
       have We:kk<=n:=by omega
       have agR:kk<=cap:=by omega
       clear fL ag
       go_wp2_with fail
       go_ret
       exact⟨_,rfl,jl.out,D8.out⟩
   ·have:k=n:=by omega
    subst this
    go_wp2_with fail
    go_ret
    refine⟨_,rfl,?_,HI.out.1.below⟩;rw[VQ (fun j hj=>HI.out.2 j (by omega))]
    exact HI.out.1.rd
theorem agS(w:World)(lv:Value)(S:List Ge.Nd)(wr:World)(h:NL w lv S wr)(hl:S.length<=200000):
  Calls Tryz.prog 126 #[lv] wr fun r w'=>∃v',r=.returned v'/\iq w' v' (Ge.cG S)/\Below w.heap.size w w':=by
 rcases h.own.2 with⟨rfl,h0⟩|⟨g,cap,cur,rfl,hg,hblk,hnc,hcm,hcs,htk⟩
 ·have hS:S=[]:=gq.1 h0;subst hS;have HB:Hid (Below w.heap.size w wr):=h.below;clear h h0 hl
  go_enter Tryz.func126,Tryz.ntmps126
  go_wp2_with fail
  go_ret
  exact⟨_,rfl,World.ownsRow_nil _ _ _ _,HB.out⟩
 ·have hR:RW w g cap S.length S.toArray wr:=⟨by simp,h.own,h.below⟩
  have hi:∀i,i<S.length->dm (S.toArray[i]!).1 (S.toArray[i]!).2.1 (S.toArray[i]!).2.2:=fun i hi=>by
   have e:S.toArray[i]! =S[i]:=by rw[getElem!_pos S.toArray i (by simpa using hi)];simp
   rw[e];exact h.az _ (ie hi)
  exact agP w g cap S.length S.toArray wr hR hi hl hnc
end Go.Proofs.YtkjhhooecopolaaGreatDoor
namespace Go.Proofs
open Go.Shelf
shelf_try shelf_lay_g SlLaysF0.n6 Slsf 6 at Tryz 124 as Tryz.sortNd
shelf_tried
end Go.Proofs
namespace Go.Proofs.YtkjhhooecopolaaGreatDoor
open Go.RowKit
abbrev VN:={n:Ge.Nd //Ge.Can n/\dm n.1 n.2.1 n.2.2}
def iX(x:VN):List Value:=gV x.1
def AQ(x y:VN):Int:=Ge.pc (Ge.aj x.1) (Ge.aj y.1)
theorem IG{w w':World}(h:Below w.heap.size w w')(hd:w.drawn<=w'.drawn):∃q os,w'=Sort.grow (w.drewN q) os:=by
 refine⟨w'.drawn-w.drawn,w'.heap.extract w.heap.size w'.heap.size,?_⟩;have hh:w'.heap=w.heap++w'.heap.extract w.heap.size w'.heap.size:=by
  apply Array.ext_getElem?;intro k;rw[Array.getElem?_append];split
  ·exact h.block k (by assumption)
  ·rename_i hk
   rw[Array.getElem?_extract];by_cases hlt:k<w'.heap.size
   ·rw[if_pos (by omega)]
    congr 1;omega
   ·rw[if_neg (by omega),FY (by omega)]
 have e1:w.drawn+(w'.drawn-w.drawn)=w'.drawn:=by omega
 have h1:=h.os;have h2:=h.tape;have h3:=h.output;unfold Sort.grow World.drewN;rw[e1];show w'={heap:=w.heap++w'.heap.extract w.heap.size w'.heap.size,tape:=w.tape,drawn:=w'.drawn,os:=w.os,output:=w.output};rw[<-hh,<-h1,<-h2,<-h3]
theorem agT [Inhabited VN](blk off size:Nat)(w:World):CmpLays Tryz.prog 125 #[] iX 2 AQ blk off size w:=
 fun _ _ _ _ x y=>(DA x.1 y.1 x.2.2 y.2.2 x.2.1 y.2.1 _).mono fun _ _⟨h1,h2,h3⟩=>⟨h1,IG h2 h3⟩
theorem IH{x y:VN}:ltOf AQ x y=true↔Ge.lt (Ge.aj x.1) (Ge.aj y.1):=by
 unfold ltOf AQ Ge.lt;exact decide_eq_true_iff
theorem D9{x y:VN}:ltOf AQ x y=false↔¬Ge.lt (Ge.aj x.1) (Ge.aj y.1):=by
 rw[<-IH];simp
theorem agU:Sort.SWO (ltOf AQ) where
 irrefl _x:=D9.2 (Ge.lt_irrefl _)
 trans x y z h1 h2:=IH.2 (Ge.lt_trans (Ge.cL x.2.1) (Ge.cL y.2.1) (Ge.cL z.2.1) (IH.1 h1) (IH.1 h2))
 ntrans x y z h1 h2:=D9.2 fun h=>D9.1 h1 (Ge.lt_le_trans x.2.1 z.2.1 y.2.1 h (D9.1 h2))
theorem Wf:∀(L:List Ge.Nd),(∀n∈L,Ge.Can n)->(∀n∈L,dm n.1 n.2.1 n.2.2)->∃d:List VN,d.map Subtype.val=L
 |[],_,_=>⟨[],rfl⟩
 |n::L,h1,h2=>by
  obtain⟨d,hd⟩:=Wf L (fun m hm=>h1 m (by simp[hm])) (fun m hm=>h2 m (by simp[hm]))
  exact⟨⟨n,h1 n (by simp),h2 n (by simp)⟩::d,by simp[hd]⟩
theorem Wh [Inhabited VN](d:Array VN):(Sort.flatK iX 2 d).toList=cZ (d.toList.map Subtype.val):=by
 apply BJ;intro t;by_cases ht:t<d.size*2
 ·have h1:t/2<d.size:=by omega
  have hx:(d.toList.map Subtype.val)[t/2]?=some (d[t/2]!).1:=by
   rw[gm,iQ,nM h1,getElem!_pos d _ h1];rfl
  have h2:=DB _ _ _ hx (t%2) (KD _ (by decide))
  have e1:t/2*2+t%2=t:=by omega
  rw[e1] at h2;have h3:=Sort.get_flatK iX 2 d t ht;have hs:t<(Sort.flatK iX 2 d).size:=by rw[Sort.size_flatK];exact ht
  rw[getElem!_pos (Sort.flatK iX 2 d) t hs] at h3;rw[h2,iQ,nM hs,h3];have hl:t%2<(iX d[t/2]!).length:=KD _ (by decide)
  rw[getElem!_pos (iX d[t/2]!) (t%2) hl];exact(ay hl).symm
 ·rw[xh (by rw[iG,Sort.size_flatK];omega),xh (by rw[DN];simp;omega)]
theorem Wi(F c:Array Value)(h:F.size<=c.size):(Sort.putCells id 0 F c).toList.take F.size=F.toList:=by
 apply BJ;intro t;rw[j6];by_cases ht:t<F.size
 ·have h1:t<c.size:=by omega
  rw[if_pos ht,iQ,iQ];unfold Sort.putCells;rw[ant,nM h1,nM ht];simp[ht]
 ·rw[if_neg ht,iQ,FY (by omega)]
theorem agV [Inhabited VN](d':Array VN)(n:Nat)(os:Array Obj){wr:World}{g:Nat}{cur:Array Value}{t:TypeId}{fr:Nat×Nat}(hb:wr.heap[g]?=some (.cells cur t fr)):
  (sortWorldK iX 2 wr g 0 n d' os).heap[g]?=some (.cells (Sort.putCells id 0 (Sort.flatK iX 2 d') cur) t fr):=by
 have hg:=lt_of_heap hb;show((wr.heap.modify g (Sort.onCells (Sort.putCells id 0 (Sort.flatK iX 2 d'))))++os)[g]?=_;rw[F7 (by simpa using hg),zi,if_pos rfl,hb]
 rfl
theorem agW [Inhabited VN](d':Array VN)(n:Nat)(os:Array Obj){wr:World}{g k:Nat}(hk:k<wr.heap.size)(hne:g≠k):
  (sortWorldK iX 2 wr g 0 n d' os).heap[k]?=wr.heap[k]?:=by
 show((wr.heap.modify g (Sort.onCells (Sort.putCells id 0 (Sort.flatK iX 2 d'))))++os)[k]?=_;rw[F7 (by simpa using hk),zi,if_neg hne]
theorem agX [Inhabited VN](d':Array VN)(n:Nat)(os:Array Obj)(wr:World)(g:Nat):wr.heap.size<=(sortWorldK iX 2 wr g 0 n d' os).heap.size:=by
 show _<=((wr.heap.modify g (Sort.onCells (Sort.putCells id 0 (Sort.flatK iX 2 d'))))++os).size;rw[acb,acd];omega
theorem agY [Inhabited VN](w:World)(lv:Value)(L:List Ge.Nd)(wr:World)(h:NL w lv L wr)(hl:L.length<=200000):
  Calls Tryz.prog 124 #[lv,.func (.func 125) #[] #[]] wr fun r w'=>r=.returned (.tuple #[])/\∃S,NL w lv S w'/\(∀n,n∈S↔n∈L)/\S.length=L.length/\S.Pairwise Ge.le:=by
 obtain⟨hlen,jC⟩:=h.own;rcases jC with⟨rfl,h0⟩|⟨g,cap,cur,rfl,hg,hblk,hnc,hcm,hcs,htk⟩
 ·have hL:L=[]:=gq.1 h0;subst hL;refine(AnyF.slices_SortFunc_none Tryz.sortNd none 0 _ wr).mono ?_;rintro e w' ⟨rfl,rfl⟩;exact⟨rfl,[],h,fun n=>Iff.rfl,rfl,List.Pairwise.nil⟩
 ·obtain⟨d,hd⟩:=Wf L h.can h.az;have hgl:g<wr.heap.size:=lt_of_heap hblk;have hsz:L.length=d.toArray.size:=by rw[<-hd];simp
  have hfl:(Sort.flatK iX 2 d.toArray).toList=cur.toList.take (L.length*2):=by rw[Wh,htk,<-hd]
  have hH:Sort.HoldsK iX 2 wr g 0 d.toArray:=by
   intro j hj;have hj':=hj;rw[Sort.size_flatK,<-hsz] at hj';have M6:cur[j]?=some (Sort.flatK iX 2 d.toArray)[j]! :=by
    have e1:(Sort.flatK iX 2 d.toArray).toList[j]?=(cur.toList.take (L.length*2))[j]?:=by rw[hfl]
    rw[j6,if_pos hj',iQ,iQ,nM hj] at e1;rw[<-e1,getElem!_pos (Sort.flatK iX 2 d.toArray) j hj]
   refine⟨?_,aB hblk _⟩;rw[jd];unfold World.cell?;rw[hblk];exact M6
  have eg:∀args w,(callFunc 125 args).run Tryz.prog w=.ok (.enter 125 args) w:=enters_of Tryz.func125 (by kernel_rfl) rfl
  have hone:∀x:VN,∀v∈iX x,v.oneCell'=true:=fun x v hv=>by
   simp[iX,gV] at hv;rcases hv with rfl|rfl<;>rfl
  have hcon:=AnyQ.slices_SortFunc Tryz.sortNd 2 Tryz.isAgg83 Tryz.sizeOf83 iX (fun _=>rfl) hone AQ agU 125 #[] g 0 cap d.toArray wr eg (agT _ _ _ _) hH hgl (by rw[<-hsz];omega)
  change Calls Tryz.prog 124 _ _ _ at hcon
  rw[<-hsz] at hcon;refine hcon.mono ?_;rintro e w' ⟨rfl,d',n,os,hp,hs,rfl⟩;obtain⟨hps,_,Ea⟩:=hp;have hs1:d'.size=L.length:=by rw[hps,hsz]
  have hperm:d'.toList.Perm d:=by
   have e1:d'.extract 0 L.length=d':=by rw[<-hs1];exact KM
   have e2:d.toArray.extract 0 L.length=d.toArray:=by rw[hsz];exact KM
   rw[e1,e2] at Ea;exact Ea
  have wI:(d'.toList.map Subtype.val).length=L.length:=by simp[hs1]
  have hmem:∀m,m∈d'.toList.map Subtype.val↔m∈L:=fun m=>by
   rw[<-hd];simp only[aX];constructor
   ·rintro⟨x,hx,rfl⟩;exact⟨x,hperm.mem_iff.1 hx,rfl⟩
   ·rintro⟨x,hx,rfl⟩;exact⟨x,hperm.mem_iff.2 hx,rfl⟩
  refine⟨rfl,d'.toList.map Subtype.val,⟨⟨by rw[DN],Or.inr ⟨g,cap,_,by rw[wI],hg,agV d' n os hblk,by rw[wI];exact hnc,hcm,?_,?_⟩⟩,?_,fun m hm=>h.can m ((hmem m).1 hm),fun m hm=>h.az m ((hmem m).1 hm)⟩,hmem,wI,?_⟩
  ·unfold Sort.putCells;rw[Re];exact hcs
  ·have e1:(d'.toList.map Subtype.val).length*2=(Sort.flatK iX 2 d').size:=by rw[Sort.size_flatK,wI,hs1]
   rw[e1,Wi _ _ (by rw[Sort.size_flatK,hs1,hcs];omega),Wh]
  ·exact h.below.trans ⟨rfl,rfl,rfl,agX d' n os wr g,fun k hk=>agW d' n os (aL hk h.below.size) (by omega)⟩
  ·rw[nJ,mM];intro i j hi hj hij;have hi':i<d'.size:=by simpa using hi
   have hj':j<d'.size:=by simpa using hj
   have hx:=hs i j (iz _) hij (by omega)
   rw[getElem!_pos d' i hi',getElem!_pos d' j hj'] at hx;exact D9.1 hx
theorem agZ(es:List Ed)(v:Value)(w:World)(hR:gu w v es)(hl:es.length<=402)(hs:∀e∈es,fg e):
  Calls Tryz.prog 72 #[v] w fun e w'=>∃v' l,e=.returned v'/\iq w' v' l/\Below w.heap.size w w'/\l.map Ge.aj=Ge.fX es/\(∀n∈l,dm n.1 n.2.1 n.2.2)/\l.length<=200000/\(∀n∈l,Ge.Can n):=by
 haveI:Inhabited VN:=⟨⟨(0,0,1),⟨by decide,by decide⟩,⟨by decide,by decide,by decide⟩⟩⟩
 exact agi es v w hR hl hs (fun lv L wr h1 h2=>agY w lv L wr h1 h2) (fun lv S wr h1 h2=>agS w lv S wr h1 h2)
namespace Ge
theorem M7{k X:Int}(hk:k≠0):X.natAbs<=(k*X).natAbs:=by
 rw[nK];have:1<=k.natAbs:=by omega
 calc X.natAbs=1*X.natAbs:=(QX _).symm
  _<=k.natAbs*X.natAbs:=zj _ this
theorem ag0(x y:Int){d:Int}(hd:d≠0):∃n:Nd,Can n/\aj n=(aR x d,aR y d)/\n.1.natAbs<=x.natAbs/\n.2.1.natAbs<=y.natAbs/\n.2.2.natAbs<=d.natAbs:=by
 obtain⟨G,hG⟩:∃G,Int.gcd (Int.gcd x y:Nat) d=G:=⟨_,rfl⟩;have uv:0<G:=by rw[<-hG];exact rY (by omega)
 have uP:(G:Int)∣(Int.gcd x y:Nat):=by rw[<-hG];exact xm _ _
 have dx:(G:Int)∣x:=xq uP (xm _ _);have dy:(G:Int)∣y:=xq uP (vD _ _);have dd:(G:Int)∣d:=by rw[<-hG];exact vD _ _
 have main:∀k:Int,k≠0->k.natAbs=G->k∣x->k∣y->k∣d->0<d.tdiv k->∃n:Nd,Can n/\aj n=(aR x d,aR y d)/\n.1.natAbs<=x.natAbs/\n.2.1.natAbs<=y.natAbs/\n.2.2.natAbs<=d.natAbs:=by
  intro k k0 hk kx ky kd hp;have ex:=(rH kx).symm;have ey:=(rH ky).symm;have ed:=(rH kd).symm;obtain⟨h1,h2⟩:=Ii hd ex ey ed hp (by rw[hk,hG])
  refine⟨_,h1,h2,?_,?_,?_⟩
  ·have:=M7 (X:=x.tdiv k) k0;rw[<-ex] at this;exact this
  ·have:=M7 (X:=y.tdiv k) k0;rw[<-ey] at this;exact this
  ·have:=M7 (X:=d.tdiv k) k0;rw[<-ed] at this;exact this
 obtain⟨q,hq⟩:=dd;have wD:(0:Int)<G:=by omega
 rcases fk d 0 with h|h|h
 ·have hqn:q<0:=by
   rcases fk q 0 with h1|h1|h1
   ·exact h1
   ·rw[h1] at hq;omega
   ·have:=aP wD h1;omega
  refine main (-(G:Int)) (by omega) (by omega) (Int.neg_dvd.2 dx) (Int.neg_dvd.2 dy) (Int.neg_dvd.2 ⟨q,hq⟩) ?_
  have e:d= -(G:Int)*(-q):=by rw[zr];exact hq
  rw[e,anu _ (by omega)]
  omega
 ·exact absurd h hd
 ·have hqp:0<q:=by
   rcases fk q 0 with h1|h1|h1
   ·have:=vC wD h1;omega
   ·rw[h1] at hq;omega
   ·exact h1
  refine main (G:Int) (by omega) (by omega) dx dy ⟨q,hq⟩ ?_
  rw[hq,anu _ (by omega)]
  exact hqp
end Ge
theorem ag2{es:List Ed}(hs:∀e∈es,fg e){n:Ge.Nd}(hc:Ge.Can n)(h:Ge.isNode es (Ge.aj n)):lF n:=by
 have Wj:∀a:Ge.Pt,small a.1->small a.2->Ge.aj n=Ge.pt a->lF n:=fun a h1 h2 hq=>by
  have hc1:Ge.Can (a.1,a.2,1):=⟨by show(0:Int)<1;decide,by simp⟩
  have e:n=(a.1,a.2,1):=Ge.Ih hc hc1 (by rw[hq];unfold Ge.aj Ge.pt;simp only[Ge.G8])
  unfold small at h1 h2;rw[e];exact⟨by simp only;omega,by simp only;omega,by simp⟩
 rcases h with⟨e,he,h|h⟩|⟨e,he,f,hf,hcr,hq,_,_⟩
 ·exact Wj e.1 (hs e he).a (hs e he).b h
 ·exact Wj e.2 (hs e he).c (hs e he).d h
 ·obtain⟨m,hm,hmq,m1,m2,m3⟩:=Ge.ag0 (Ge.mX e f) (Ge.mY e f) hcr;have en:n=m:=Ge.Ih hc hm (by rw[hq,hmq];rfl)
  obtain⟨b1,b2,b3⟩:=Uu (hs e he) (hs f hf);have hp:=hc.pos;rw[<-en] at m1 m2 m3;exact⟨by omega,by omega,by omega⟩
end Go.Proofs.YtkjhhooecopolaaGreatDoor

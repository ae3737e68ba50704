import Derived.Test.YtkjhhooecopolaaGreatDoorZz09
set_option maxRecDepth 100000
set_option maxHeartbeats 4000000
namespace Go.Proofs.YtkjhhooecopolaaGreatDoor
open Go.RowKit
theorem yG{B b:Nat}{bs:List Value}{w w':World}(h:Lib.IsBuilder 196 5 B b bs w)(hb:Below w.heap.size w w'):Lib.IsBuilder 196 5 B b bs w':=by
 rcases h with⟨hB,v,hbk,hown,hne⟩|⟨hB,v,hbk,hown,hne⟩
 ·exact ae ⟨hB,v,(hb.block b (lt_of_heap hbk)).trans hbk,aO hown fun k hk=>hb.block k (aB hown k hk).2,hne⟩
 ·exact af ⟨hB,v,(hb.block b (lt_of_heap hbk)).trans hbk,aO hown fun k hk=>hb.block k (aB hown k hk).2,hne⟩
theorem Rp(l:List UInt8):Lib.byteCells l++[.int .u8 32]=Lib.byteCells (l++[32]):=by simp[Lib.byteCells]
theorem FK(l r:List UInt8):Lib.byteCells l++Lib.strCells ⟨r.toArray⟩=Lib.byteCells (l++r):=by simp[Lib.byteCells,Lib.strCells]
def Wrote(w:World)(c:List Pl.Tk)(k:Nat)(wr:World):Prop:=
 Lib.IsBuilder 196 5 w.heap.size w.heap.size (Lib.byteCells (Pl.wt (c.take k))) wr/\Below w.heap.size w wr/\Gl wr/\w.heap.size<wr.heap.size
theorem Gl.drewN{w:World}(h:Gl w)(n:Nat):Gl (w.drewN n):=⟨h.sz,h.es,h.er,h.tab⟩
theorem yH{B:Nat}{w w':World}(h:Below B w w')(n:Nat):Below B w (w'.drewN n):=⟨h.os,h.tape,h.output,h.size,h.block⟩
theorem Rq{B b n:Nat}{bs:List Value}{w:World}(h:Lib.IsBuilder 196 5 B b bs w):Lib.IsBuilder 196 5 B b bs (w.drewN n):=h
theorem FL{w w1:World}{o:Obj}(hb:Below (w.alloc o).drew.heap.size (w.alloc o).drew w1){p:Addr}{v:Value}(hp:w.cell? p=some v):w1.cell? p=some v:=by
 have h:=World.block_lt_of_cell? w p hp;rw[hb.cell (p:=p) (by show p.block<(w.alloc o).heap.size;rw[World.size_alloc];omega)]
 exact(World.cell?_alloc_lt _ _ _ h).trans hp
theorem acb{w w1:World}{o:Obj}(hb:Below (w.alloc o).drew.heap.size (w.alloc o).drew w1):w1.heap[w.heap.size]?=some o:=
 (hb.block w.heap.size (by show w.heap.size<(w.alloc o).heap.size;rw[World.size_alloc];omega)).trans (heap_alloc_new w o)
theorem Ru(c:List Pl.Tk)(hw:∀t∈c,(Pl.wr t).length<=400):∀k,(Pl.wt (c.take k)).length<=k*401
 |0=>by simp[Pl.wt]
 |k+1=>by
  have ih:=Ru c hw k;by_cases hk:k<c.length
  ·have hx:c[k]?=some c[k]:=aD hk;have hl:=hw c[k] (gF hk);have hy:2<=k->c[k-1]?=some (c[k-1]'(by omega)):=fun _=>aD (by omega)
   rw[Pl.FI c k c[k] (c[k-1]'(by omega)) hx hy]
   simp only[aT];have:(if k=0 then([]:List UInt8) else if k=1 then[32] else if Pl.bb (c[k-1]'(by omega)) c[k]=true then[32] else[]).length<=1:=by
    repeat' split
    all_goals simp
   omega
  ·have e:c.take (k+1)=c.take k:=by rw[ue (by omega),ue (by omega)]
   rw[e];exact dY ih (Eo _ (mb _))
theorem acd(c:List Pl.Tk)(g cap:Nat)(w:World)(hG:Gl w)(hg:g<w.heap.size)(hrow:∀j u,(nD c)[j]?=some u->w.cell? ⟨g,j,none⟩=some u)
  (hc:c.length<=402)(hw:∀t∈c,(Pl.wr t).length<=400)(hn:∀t∈c,t.k=110-> -9223372036854775808<=t.n/\t.n<=9223372036854775807):
  Calls Tryz.prog 70 #[.slice (some ⟨g,0,none⟩) c.length cap] w fun e w'=>e=.returned (.string ⟨(Pl.wt c).toArray⟩)/\Below w.heap.size w w':=by
 have lQ:Hid (∀j u,(nD c)[j]?=some u->w.cell? ⟨g,j,none⟩=some u):=hrow;have HW:Hid (∀t∈c,(Pl.wr t).length<=400):=hw;have HN:Hid (∀t∈c,t.k=110-> -9223372036854775808<=t.n/\t.n<=9223372036854775807):=hn;have HS:Hid (Wrote w c 0 (w.alloc (.cells #[.pointer none,.slice none 0 0] 196))):=⟨Lib.fresh_isBuilder 196 5 w,(Below.refl _ _).alloc (ax _) _,hG.alloc _,by simp⟩
 clear hrow hw hn
 go_enter Tryz.func70,Tryz.ntmps70
 go_wp2_with fail
 go_loopg [8] c.length (fun n i wr=>∃k:Nat,k+n=c.length/\i=.int .i64 k/\Hid (Wrote w c k wr))
 case atStart=>exact⟨0,by omega,rfl,HS⟩
 case round=>
  obtain⟨k,hkn,rfl,hwr⟩:=hrel;obtain⟨hB,aj,om,hsz⟩:=hwr.out;by_cases hlt:k<c.length
  ·obtain⟨u,hu⟩:∃u,c[k]?=some u:=⟨_,aD hlt⟩;have hmem:u∈c:=bh hu;have hbd:=Ru c HW.out k;have hul:=HW.out u hmem;have HU:Hid (u.k=110-> -9223372036854775808<=u.n/\u.n<=9223372036854775807):=HN.out u hmem;have e0:wr.cell? ⟨g,k*4,none⟩=some (.int .i64 (Pl.pk u)):=by
    rw[aj.cell (p:=⟨g,k*4,none⟩) hg];exact lQ.out (k*4) (.int .i64 (Pl.pk u)) (by have:=oh c k u hu 0 (by omega);rw[oV] at this;rw[this];rfl)
   have e1:wr.cell? ⟨g,k*4+1,none⟩=some (.string ⟨(Pl.bu u).toArray⟩):=by
    rw[aj.cell (p:=⟨g,k*4+1,none⟩) hg];exact lQ.out (k*4+1) (.string ⟨(Pl.bu u).toArray⟩) (by rw[oh c k u hu 1 (by omega)];rfl)
   have e2:wr.cell? ⟨g,k*4+2,none⟩=some (.int .i64 u.n):=by
    rw[aj.cell (p:=⟨g,k*4+2,none⟩) hg];exact lQ.out (k*4+2) (.int .i64 u.n) (by rw[oh c k u hu 2 (by omega)];rfl)
   have e3:wr.cell? ⟨g,k*4+3,none⟩=some (.int .i64 u.pl):=by
    rw[aj.cell (p:=⟨g,k*4+3,none⟩) hg];exact lQ.out (k*4+3) (.int .i64 u.pl) (by rw[oh c k u hu 3 (by omega)];rfl)
   have ux:(wr.alloc (.cells #[.int .i64 (Pl.pk u),.string ⟨(Pl.bu u).toArray⟩,.int .i64 u.n,.int .i64 u.pl] 76)).heap[wr.heap.size]?=some (.cells #[.int .i64 (Pl.pk u),.string ⟨(Pl.bu u).toArray⟩,.int .i64 u.n,.int .i64 u.pl] 76 (0,0)):=heap_alloc_new wr _;have hBa:=yG hB ((Below.refl _ _).alloc (ax _) (.cells #[.int .i64 (Pl.pk u),.string ⟨(Pl.bu u).toArray⟩,.int .i64 u.n,.int .i64 u.pl] 76));have ou:=om.alloc (.cells #[.int .i64 (Pl.pk u),.string ⟨(Pl.bu u).toArray⟩,.int .i64 u.n,.int .i64 u.pl] 76);have FM:=aj.alloc aj.size (.cells #[.int .i64 (Pl.pk u),.string ⟨(Pl.bu u).toArray⟩,.int .i64 u.n,.int .i64 u.pl] 76);have KP:Hid (c[k]?=some u):=hu;clear hu;by_cases EW:k=0
   ·have HT:Hid (Pl.wt (c.take (k+1))=Pl.wt (c.take k)++Pl.wr u):=by
     have:=Pl.FI c k u u KP.out (fun h=>by omega)
     rw[ah EW,oP] at this;exact this
    have hq1:((k:Int) == 1)=false:=by simp;omega
    have hq2:decide (1<(k:Int))=false:=by simp;omega
    clear EW
    go_wp2_with fail
    go_quiet (fail)
    have nK:Lib.IsBuilder 196 5 w.heap.size w.heap.size _ ((wr.alloc (.cells #[.int .i64 (Pl.pk u),.string ⟨(Pl.bu u).toArray⟩,.int .i64 u.n,.int .i64 u.pl] 76)).drewN nq):=Rq hBa;have hx1:((wr.alloc (.cells #[.int .i64 (Pl.pk u),.string ⟨(Pl.bu u).toArray⟩,.int .i64 u.n,.int .i64 u.pl] 76)).drewN nq).heap[wr.heap.size]?=_:=ux;have bz:Gl ((wr.alloc (.cells #[.int .i64 (Pl.pk u),.string ⟨(Pl.bu u).toArray⟩,.int .i64 u.n,.int .i64 u.pl] 76)).drewN nq):=ou.drewN nq;have gL:Below w.heap.size w ((wr.alloc (.cells #[.int .i64 (Pl.pk u),.string ⟨(Pl.bu u).toArray⟩,.int .i64 u.n,.int .i64 u.pl] 76)).drewN nq):=yH FM nq;have y0:((wr.alloc (.cells #[.int .i64 (Pl.pk u),.string ⟨(Pl.bu u).toArray⟩,.int .i64 u.n,.int .i64 u.pl] 76)).drewN nq).cell? ⟨wr.heap.size,0,none⟩=some (.int .i64 (Pl.pk u)):=cell_of hx1 0;have y1:((wr.alloc (.cells #[.int .i64 (Pl.pk u),.string ⟨(Pl.bu u).toArray⟩,.int .i64 u.n,.int .i64 u.pl] 76)).drewN nq).cell? ⟨wr.heap.size,1,none⟩=some (.string ⟨(Pl.bu u).toArray⟩):=cell_of hx1 1;have y2:((wr.alloc (.cells #[.int .i64 (Pl.pk u),.string ⟨(Pl.bu u).toArray⟩,.int .i64 u.n,.int .i64 u.pl] 76)).drewN nq).cell? ⟨wr.heap.size,2,none⟩=some (.int .i64 u.n):=cell_of hx1 2;have y3:((wr.alloc (.cells #[.int .i64 (Pl.pk u),.string ⟨(Pl.bu u).toArray⟩,.int .i64 u.n,.int .i64 u.pl] 76)).drewN nq).cell? ⟨wr.heap.size,3,none⟩=some (.int .i64 u.pl):=cell_of hx1 3
    go_wp2_with fail
    refine(FJ u _ bz HU.out).mono ?_;rintro e w3 ⟨rfl,hb3⟩;have wD:=yG nK hb3;have fw:=gL.trans (hb3.mono gL.size);have mr:=bz.below hb3 bz.sz
    go_wp2_with fail
    refine(FE w.heap.size w.heap.size _ ⟨(Pl.wr u).toArray⟩ w3 wD (dY gL.size hb3.size) (by simp[Lib.byteCells];omega) (by show(Pl.wr u).toArray.size<=_;simp;omega)).mono ?_
    rintro e w4 ⟨rfl,hB4,hb4,_⟩;rw[FK] at hB4
    go_wp2_with fail
    go_roundg (gk-1)
    case measure=>omega
    case rel=>exact⟨k+1,by omega,by go_num,⟨by rw[HT.out];exact hB4,fw.trans hb4,mr.below hb4 hG.sz,by have h1:=hb3.size;have h2:=hb4.size;simp at h1;omega⟩⟩
   ·obtain⟨m,rfl⟩:∃m,k=m+1:=⟨k-1,by omega⟩
    clear EW;by_cases hk1:m=0
    ·have HT:Hid (Pl.wt (c.take (m+1+1))=Pl.wt (c.take (m+1))++[32]++Pl.wr u):=by
      have:=Pl.FI c (m+1) u u KP.out (fun h=>by omega)
      rw[aa (by omega),ah (by omega),<-eF] at this
      exact this
     have hq1:((m:Int)+1 == 1)=true:=by simp;omega
     clear hk1
     go_wp2_with fail
     go_quiet (fail)
     have Bq:Lib.IsBuilder 196 5 w.heap.size w.heap.size _ ((wr.alloc (.cells #[.int .i64 (Pl.pk u),.string ⟨(Pl.bu u).toArray⟩,.int .i64 u.n,.int .i64 u.pl] 76)).drewN nq):=Rq hBa;have KQ:((wr.alloc (.cells #[.int .i64 (Pl.pk u),.string ⟨(Pl.bu u).toArray⟩,.int .i64 u.n,.int .i64 u.pl] 76)).drewN nq).heap[wr.heap.size]?=_:=ux;have FN:Gl ((wr.alloc (.cells #[.int .i64 (Pl.pk u),.string ⟨(Pl.bu u).toArray⟩,.int .i64 u.n,.int .i64 u.pl] 76)).drewN nq):=ou.drewN nq;have yI:Below w.heap.size w ((wr.alloc (.cells #[.int .i64 (Pl.pk u),.string ⟨(Pl.bu u).toArray⟩,.int .i64 u.n,.int .i64 u.pl] 76)).drewN nq):=yH FM nq;have qL:w.heap.size<((wr.alloc (.cells #[.int .i64 (Pl.pk u),.string ⟨(Pl.bu u).toArray⟩,.int .i64 u.n,.int .i64 u.pl] 76)).drewN nq).heap.size:=by show _<(wr.alloc _).heap.size;simp;omega
     go_wp2_with fail
     refine(Ro w.heap.size w.heap.size _ 32 _ Bq yI.size (by simp[Lib.byteCells];omega)).mono ?_
     rintro e w2 ⟨rfl,nK,hb2,hk2⟩;rw[Rp] at nK;have hx1:=hk2 wr.heap.size _ KQ (by simp;omega) (by intro c fz h;cases h)
     have bz:Gl w2:=FN.below hb2 hG.sz;have gL:Below w.heap.size w w2:=yI.trans hb2;have hz1:w.heap.size<w2.heap.size:=by have:=hb2.size;omega
     have y0:w2.cell? ⟨wr.heap.size,0,none⟩=some (.int .i64 (Pl.pk u)):=cell_of hx1 0;have y1:w2.cell? ⟨wr.heap.size,1,none⟩=some (.string ⟨(Pl.bu u).toArray⟩):=cell_of hx1 1;have y2:w2.cell? ⟨wr.heap.size,2,none⟩=some (.int .i64 u.n):=cell_of hx1 2;have y3:w2.cell? ⟨wr.heap.size,3,none⟩=some (.int .i64 u.pl):=cell_of hx1 3
     go_wp2_with fail
     refine(FJ u _ bz HU.out).mono ?_;rintro e w3 ⟨rfl,hb3⟩;have wD:=yG nK hb3;have fw:=gL.trans (hb3.mono gL.size);have mr:=bz.below hb3 bz.sz
     go_wp2_with fail
     refine(FE w.heap.size w.heap.size _ ⟨(Pl.wr u).toArray⟩ w3 wD (dY gL.size hb3.size) (by simp[Lib.byteCells];omega) (by show(Pl.wr u).toArray.size<=_;simp;omega)).mono ?_
     rintro e w4 ⟨rfl,hB4,hb4,_⟩;rw[FK] at hB4
     go_wp2_with fail
     go_roundg (gk-1)
     case measure=>omega
     case rel=>exact⟨(m+1)+1,by omega,by go_num,⟨by rw[HT.out];exact hB4,fw.trans hb4,mr.below hb4 hG.sz,by have h0:=hz1;have h1:=hb3.size;have h2:=hb4.size;omega⟩⟩
    ·obtain⟨y,hy⟩:∃y,c[m]?=some y:=⟨_,aD (by omega)⟩
     have z0:wr.cell? ⟨g,m*4,none⟩=some (.int .i64 (Pl.pk y)):=by
      rw[aj.cell (p:=⟨g,m*4,none⟩) hg];exact lQ.out (m*4) (.int .i64 (Pl.pk y)) (by have:=oh c m y hy 0 (by omega);rw[oV] at this;rw[this];rfl)
     have z1:wr.cell? ⟨g,m*4+1,none⟩=some (.string ⟨(Pl.bu y).toArray⟩):=by
      rw[aj.cell (p:=⟨g,m*4+1,none⟩) hg];exact lQ.out (m*4+1) (.string ⟨(Pl.bu y).toArray⟩) (by rw[oh c m y hy 1 (by omega)];rfl)
     have z2:wr.cell? ⟨g,m*4+2,none⟩=some (.int .i64 y.n):=by
      rw[aj.cell (p:=⟨g,m*4+2,none⟩) hg];exact lQ.out (m*4+2) (.int .i64 y.n) (by rw[oh c m y hy 2 (by omega)];rfl)
     have z3:wr.cell? ⟨g,m*4+3,none⟩=some (.int .i64 y.pl):=by
      rw[aj.cell (p:=⟨g,m*4+3,none⟩) hg];exact lQ.out (m*4+3) (.int .i64 y.pl) (by rw[oh c m y hy 3 (by omega)];rfl)
     have sP:=Pl.FI c (m+1) u y KP.out (fun h=>hy)
     rw[aa (by omega),aa (by omega)] at sP
     have kf:Hid (Pl.wt (c.take (m+1+1))=Pl.wt (c.take (m+1))++((if Pl.bb y u=true then[32] else[])++Pl.wr u)):=sP
     have hq1:((m:Int)+1 == 1)=false:=by simp;omega
     have hq2:(1:Int)<(m:Int)+1:=by omega
     have hgr:g<wr.heap.size:=by omega
     have jm:(m:Int)<(c.length:Int):=by omega
     have akP:(0:Int)<=(m:Int):=by omega
     have yJ:m<c.length:=by omega
     have acf:IntKind.i64.wrap (m:Int)=(m:Int):=by rw[IntKind.wrap_i64];omega
     have acg:IntKind.i64.wrap ((m:Int)+1-1)=(m:Int):=by rw[IntKind.wrap_i64];omega
     clear sP hy hk1
     go_wp2_with fail
     go_region_held3 (fun w'=>w'.cell? ⟨g,m*4,none⟩=some (.int .i64 (Pl.pk y))/\w'.cell? ⟨g,m*4+1,none⟩=some (.string ⟨(Pl.bu y).toArray⟩)/\w'.cell? ⟨g,m*4+2,none⟩=some (.int .i64 y.n)/\w'.cell? ⟨g,m*4+3,none⟩=some (.int .i64 y.pl)/\w'.cell? ⟨wr.heap.size,0,none⟩=some (.int .i64 (Pl.pk u))/\w'.cell? ⟨wr.heap.size,1,none⟩=some (.string ⟨(Pl.bu u).toArray⟩)/\w'.cell? ⟨wr.heap.size,2,none⟩=some (.int .i64 u.n)/\w'.cell? ⟨wr.heap.size,3,none⟩=some (.int .i64 u.pl)) (go_keep) (first |(go_at_call 117;refine(aca y u _).mono ?_;rintro e w1 ⟨rfl,hb1⟩;have hz0:wr.heap.size<w1.heap.size:=(by have h:=hb1.size;simp at h;omega);have q0:=FL hb1 z0;have q1:=FL hb1 z1;have q2:=FL hb1 z2;have q3:=FL hb1 z3;have Br:=acb hb1;have p0:w1.cell? ⟨wr.heap.size,0,none⟩=some (.int .i64 (Pl.pk u)):=cell_of Br 0;have p1:w1.cell? ⟨wr.heap.size,1,none⟩=some (.string ⟨(Pl.bu u).toArray⟩):=cell_of Br 1;have p2:w1.cell? ⟨wr.heap.size,2,none⟩=some (.int .i64 u.n):=cell_of Br 2;have p3:w1.cell? ⟨wr.heap.size,3,none⟩=some (.int .i64 u.pl):=cell_of Br 3))
     have ov:Below (wr.alloc (.cells #[.int .i64 (Pl.pk u),.string ⟨(Pl.bu u).toArray⟩,.int .i64 u.n,.int .i64 u.pl] 76)).heap.size (wr.alloc (.cells #[.int .i64 (Pl.pk u),.string ⟨(Pl.bu u).toArray⟩,.int .i64 u.n,.int .i64 u.pl] 76)) w1:=⟨hb1.os,hb1.tape,hb1.output,hb1.size,hb1.block⟩;have Bq:Lib.IsBuilder 196 5 w.heap.size w.heap.size _ w1:=yG hBa ov;have KQ:=Br;have FN:Gl w1:=ou.below ov ou.sz;have yI:Below w.heap.size w w1:=FM.trans (ov.mono FM.size);have qL:w.heap.size<w1.heap.size:=by omega
     clear z0 z1 z2 z3 q0 q1 q2 q3 acf acg;cases hbb:Pl.bb y u
     ·have nK:=Bq;have bz:=FN;have gL:=yI;have hz1:=qL
      go_wp2_with fail
      refine(FJ u _ bz HU.out).mono ?_;rintro e w3 ⟨rfl,hb3⟩;have wD:=yG nK hb3;have fw:=gL.trans (hb3.mono gL.size);have mr:=bz.below hb3 bz.sz
      go_wp2_with fail
      refine(FE w.heap.size w.heap.size _ ⟨(Pl.wr u).toArray⟩ w3 wD (dY gL.size hb3.size) (by simp[Lib.byteCells];omega) (by show(Pl.wr u).toArray.size<=_;simp;omega)).mono ?_
      rintro e w4 ⟨rfl,hB4,hb4,_⟩;rw[FK] at hB4
      go_wp2_with fail
      go_roundg (gk-1)
      case measure=>omega
      case rel=>exact⟨m+1+1,by omega,by go_num,⟨by rw[kf.out,hbb,aa (by simp),oP];exact hB4,fw.trans hb4,mr.below hb4 hG.sz,by have h0:=hz1;have h1:=hb3.size;have h2:=hb4.size;omega⟩⟩
     ·clear p0 p1 p2 p3
      go_wp2_with fail
      refine(Ro w.heap.size w.heap.size _ 32 _ Bq yI.size (by simp[Lib.byteCells];omega)).mono ?_
      rintro e w2 ⟨rfl,nK,hb2,hk2⟩;rw[Rp] at nK;have hx1:=hk2 wr.heap.size _ KQ (by simp;omega) (by intro c fz h;cases h)
      have bz:Gl w2:=FN.below hb2 hG.sz;have gL:Below w.heap.size w w2:=yI.trans hb2;have hz1:w.heap.size<w2.heap.size:=by have:=hb2.size;omega
      have y0:w2.cell? ⟨wr.heap.size,0,none⟩=some (.int .i64 (Pl.pk u)):=cell_of hx1 0;have y1:w2.cell? ⟨wr.heap.size,1,none⟩=some (.string ⟨(Pl.bu u).toArray⟩):=cell_of hx1 1;have y2:w2.cell? ⟨wr.heap.size,2,none⟩=some (.int .i64 u.n):=cell_of hx1 2;have y3:w2.cell? ⟨wr.heap.size,3,none⟩=some (.int .i64 u.pl):=cell_of hx1 3
      go_wp2_with fail
      refine(FJ u _ bz HU.out).mono ?_;rintro e w3 ⟨rfl,hb3⟩;have wD:=yG nK hb3;have fw:=gL.trans (hb3.mono gL.size);have mr:=bz.below hb3 bz.sz
      go_wp2_with fail
      refine(FE w.heap.size w.heap.size _ ⟨(Pl.wr u).toArray⟩ w3 wD (dY gL.size hb3.size) (by simp[Lib.byteCells];omega) (by show(Pl.wr u).toArray.size<=_;simp;omega)).mono ?_
      rintro e w4 ⟨rfl,hB4,hb4,_⟩;rw[FK] at hB4
      go_wp2_with fail
      go_roundg (gk-1)
      case measure=>omega
      case rel=>exact⟨m+1+1,by omega,by go_num,⟨by rw[kf.out,hbb,ah rfl,<-eF];exact hB4,fw.trans hb4,mr.below hb4 hG.sz,by have h0:=hz1;have h1:=hb3.size;have h2:=hb4.size;omega⟩⟩
  ·have Bt:k=c.length:=by omega
   subst Bt;rw[fg] at hB
   go_wp2_with fail
   refine(Tryz.Builder_String_any w.heap.size w.heap.size (Pl.wt c) _ hB aj.size).mono ?_;rintro e w3 ⟨rfl,hb3⟩
   go_wp2_with fail
   go_ret
   exact⟨rfl,aj.trans hb3⟩
namespace Pl
def Goes(s:List UInt8)(l l':List Tk):Prop:=(∃c,c++l'=l)/\iG s l'
theorem Goes.refl{s:List UInt8}{l:List Tk}(h:iG s l):Goes s l l:=⟨⟨[],rfl⟩,h⟩
theorem Goes.trans{s:List UInt8}{a b c:List Tk}(h:Goes s a b)(k:Goes s b c):Goes s a c:=by
 obtain⟨⟨x,hx⟩,_⟩:=h;obtain⟨⟨y,hy⟩,hc⟩:=k;exact⟨⟨x++y,by rw[eF,hy,hx]⟩,hc⟩
theorem Goes.tail{s:List UInt8}{t:Tk}{r:List Tk}(h:iG s (t::r))(hk:¬(t.k=101\/t.k=120)):Goes s (t::r) r:=by
 obtain⟨u,r',_,_,hc⟩:=Qc s t r h hk;exact⟨⟨[t],rfl⟩,hc⟩
theorem yK{s:List UInt8}{c:Nat}{l:List Tk}(h:iG s l)(hc:c≠101/\c≠120):Goes s l (mk c l).2:=by
 cases l with
 |nil=>exact h.elim
 |cons t r=>
  by_cases hk:t.k=c
  ·have e:mk c (t::r)=(true,r):=by simp[mk,hk]
   rw[e];exact Goes.tail h (by omega)
  ·have e:mk c (t::r)=(false,t::r):=by simp[mk,hk]
   rw[e];exact Goes.refl h
theorem FO{s:List UInt8}{q:List UInt8}{l:List Tk}(h:iG s l):Goes s l (wd q l).2:=by
 cases l with
 |nil=>exact h.elim
 |cons t r=>
  by_cases hk:t.k=119/\t.raw=q
  ·have e:wd q (t::r)=(true,r):=by simp only[wd];rw[ah hk]
   rw[e];exact Goes.tail h (by omega)
  ·have e:wd q (t::r)=(false,t::r):=by simp only[wd];rw[aa hk]
   rw[e];exact Goes.refl h
theorem ach{s:List UInt8}(l:List Tk)(h:iG s l):Goes s l (fq l).2.1:=by
 match l,h with
 |[],h=>exact h.elim
 |[x],h=>exact Goes.refl h
 |x::y::r,h=>
  by_cases hx:x.k=110
  ·have g1:=Goes.tail h (by omega)
   by_cases hy:y.k=110
   ·have e:fq (x::y::r)=(true,r,(x.n,y.n)):=by simp[fq,hx,hy]
    rw[e];exact g1.trans (Goes.tail g1.2 (by omega))
   ·have e:fq (x::y::r)=(false,y::r,(0,0)):=by simp[fq,hx,hy]
    rw[e];exact g1
  ·have e:fq (x::y::r)=(false,x::y::r,(0,0)):=by simp[fq,hx]
   rw[e];exact Goes.refl h
theorem FP{s:List UInt8}{α:Type}(item:List Tk->Bool×List Tk×α)(hi:∀l,iG s l->Goes s l (item l).2.1):
  ∀(f:Nat)(l:List Tk)(acc:List α),iG s l->Goes s l (bY item f l acc).2.1
 |0,l,acc,h=>Goes.refl h
 |f+1,l,acc,h=>by
  have g1:=hi l h;cases h1:(item l).1
  ·rw[Bl h1];exact g1
  ·cases h2:(mk 44 (item l).2.1).1
   ·rw[Bo h1 h2];exact g1.trans (yK g1.2 (by omega))
   ·rw[Bn h1 h2];have g2:=yK (c:=44) g1.2 (by omega)
    exact(g1.trans g2).trans (FP item hi f _ _ g2.2)
theorem aci{s:List UInt8}(l:List Tk)(h:iG s l):Goes s l (ia l).2.1:=by
 unfold ia;have g1:=yK (c:=40) h (by omega)
 split
 ·split
  ·exact g1.trans (yK g1.2 (by omega))
  ·exact g1.trans (FP fq ach _ _ _ g1.2)
 ·exact Goes.refl h
theorem Rv{s:List UInt8}(l:List Tk)(h:iG s l):Goes s l (dv l).2.1:=by
 unfold dv;split
 ·exact FO h
 ·have g1:=yK (c:=40) h (by omega)
  split
  ·exact g1.trans (FP ia aci _ _ _ g1.2)
  ·exact Goes.refl h
theorem acj{s:List UInt8}(l:List Tk)(h:iG s l):Goes s l (iX l).2.1:=by
 unfold iX;split
 ·exact FO h
 ·have g1:=yK (c:=40) h (by omega)
  split
  ·exact g1.trans (FP dv Rv _ _ _ g1.2)
  ·exact Goes.refl h
theorem Rw{s:List UInt8}(l:List Tk)(h:iG s l):Goes s l (bO l).2.1:=by
 unfold bO;split
 ·have g1:=FO (q:=dQ) h;exact g1.trans (Rv _ g1.2)
 ·split
  ·have g1:=FO (q:=jk) h;exact g1.trans (acj _ g1.2)
  ·exact Goes.refl h
theorem Rx(l:List Tk)(h:(bO l).1=true):(bO l).2.1.length<l.length:=by
 unfold bO at h⊢;by_cases h1:(wd dQ l).1=true
 ·rw[ah h1] at h⊢;have:=yE h1;have:=(Fy _ h).1;simp only;omega
 ·rw[aa h1] at h⊢;by_cases h2:(wd jk l).1=true
  ·rw[ah h2] at h⊢;have:=yE h2;have:=abN _ h;omega
  ·rw[aa h2] at h;cases h
def hk(l:List Tk):Nat:=match l with |[]=>0|t::_=>t.k
def hpl(l:List Tk):Nat:=match l with |[]=>0|t::_=>t.pl
def took(s:List UInt8):List Tk:=(all s).take ((all s).length-(bO (all s)).2.1.length)
def err(s:List UInt8):Nat×Nat:=
  if 400<s.length then(1,0)
  else if(bO (all s)).1=true/\hk (bO (all s)).2.1=101 then
    (match(took s).find? outT with
     | some u=>(3,u.pl)
     | none=>(0,0))
  else(2,hpl (bO (all s)).2.1)
theorem FT(s:List UInt8):took s++(bO (all s)).2.1=all s:=by
 obtain⟨⟨c,hc⟩,_⟩:=Rw (all s) (E1 s);unfold took;have:(all s).length=c.length+(bO (all s)).2.1.length:=by
  conv=>lhs;rw[<-hc]
  simp
 rw[this,Nat.add_sub_cancel]
 conv=>lhs;lhs;rw[<-hc]
 rw[List.take_left];exact hc
end Pl
def Ry(s:ByteArray)(w:World)(e:Ending)(w':World):Prop:=
 Below w.heap.size w w'/\∃pv,e=.returned (.tuple #[.pointer pv,.int .i64 (Pl.err s.data.toList).1,.int .i64 (Pl.err s.data.toList).2])/\
  ((Pl.err s.data.toList).1=0->∃rb,pv=some ⟨rb,0,none⟩/\w.heap.size<=rb/\RD rb s (Pl.all s.data.toList) (Pl.bO (Pl.all s.data.toList)).2.1 (Pl.bO (Pl.all s.data.toList)).2.2.flatten w')
theorem uH(s:ByteArray)(w:World)(hm:s.size<=maxLen)(hG:Gl w):
  Calls Tryz.prog 33 #[.string s] w (Ry s w):=by
 have hsz:s.data.toList.length=s.size:=by simp
 by_cases hs:400<s.size
 ·refine(abZ s w hs hm).mono ?_;rintro e w' ⟨rfl,rfl⟩;have he:Pl.err s.data.toList=(1,0):=by unfold Pl.err;rw[ah (by omega)]
  refine⟨Below.refl _ _,none,?_,?_⟩
  ·rw[he];rfl
  ·rw[he];intro h;cases h
 ·have hs':s.size<=400:=by omega
  have hg:=Pl.Rw (Pl.all s.data.toList) (Pl.E1 s.data.toList);have mE:=Pl.FT s.data.toList;have nL:Pl.err s.data.toList=if(Pl.bO (Pl.all s.data.toList)).1=true/\Pl.hk (Pl.bO (Pl.all s.data.toList)).2.1=101 then
    (match(Pl.took s.data.toList).find? outT with |some u=>(3,u.pl)|none=>(0,0)) else(2,Pl.hpl (Pl.bO (Pl.all s.data.toList)).2.1):=by
   unfold Pl.err;rw[aa (by omega)]
  have hlt:=Pl.Rx (Pl.all s.data.toList);unfold Ry;rcases hp:Pl.bO (Pl.all s.data.toList) with⟨b,l',v⟩;rw[hp] at hg mE nL hlt;simp only at hg mE nL hlt⊢;obtain⟨t,r,rfl⟩:∃t r,l'=t::r:=by
   cases l' with
   |nil=>exact hg.2.elim
   |cons t r=>exact⟨t,r,rfl⟩
  by_cases hok:b=true/\t.k=101
  ·obtain⟨rfl,ht⟩:=hok;have hc0:0<(Pl.took s.data.toList).length:=by
    have h1:=hlt rfl;have h2:=aw List.length mE;simp only[aT] at h2;omega
   refine(ab6 s w hs' hG t r (Pl.took s.data.toList) v hp ht mE hc0).mono ?_;rintro e w' ⟨aj,hr⟩;rw[ah ⟨rfl,ht⟩] at nL;refine⟨aj,?_⟩;rcases hr with⟨u,hu,rfl⟩|⟨hu,rb,rfl,h1,h2⟩
   ·rw[hu] at nL;simp only at nL;refine⟨none,by rw[nL];rfl,?_⟩
    rw[nL];intro h;cases h
   ·rw[hu] at nL;simp only at nL;exact⟨_,by rw[nL];rfl,fun _=>⟨rb,rfl,h1,h2⟩⟩
  ·rw[aa (by exact hok)] at nL
   refine(ab0 s w hs' hG (t::r) t r b v hp rfl (by
    by_cases hb:b=true
    ·exact af (fun h=>hok ⟨hb,h⟩)
    ·exact ae (by simpa using hb))).mono ?_
   rintro e w' ⟨rfl,aj⟩;refine⟨aj,none,by rw[nL];rfl,?_⟩
   rw[nL];intro h;cases h
def KR{α:Type}(T:Nat)(R:World->Value->α->Prop)(w:World)(v:Value)(xs:List α):Prop:=
 ∃vs:List Value,vs.length=xs.length/\w.ownsRow 0 T 1 v xs.length vs/\∀(i:Nat) u x,vs[i]?=some u->xs[i]?=some x->R w u x
theorem KS{w:World}{b:Nat}{e:TypeId}{size:Nat}{v:Value}{n:Nat}{xs:List Value}(h:w.ownsRow b e size v n xs):w.ownsRow 0 e size v n xs:=by
 obtain⟨h1,h2⟩:=h;rcases h2 with h2|⟨g,cap,cur,hv,_,r⟩
 ·exact⟨h1,ae h2⟩
 ·exact⟨h1,af ⟨g,cap,cur,hv,iq _,r⟩⟩
theorem Rz{w w':World}{b:Nat}{e:TypeId}{size:Nat}{v:Value}{n:Nat}{xs:List Value}(h:w.ownsRow b e size v n xs)
  (hk:∀(k:Nat)(cur:Array Value),w.heap[k]?=some (Obj.cells cur e (0,0))->w'.heap[k]?=w.heap[k]?):w'.ownsRow b e size v n xs:=
 aO h fun k hk'=>by
  obtain⟨c,hc⟩:=vY h hk';exact hk k c hc
namespace Pl
def aU{α:Type}(f:α->List UInt8):List α->List UInt8
 |[]=>[]
 |[x]=>f x
 |x::y::r=>f x++([44,32]++aU f (y::r))
def jO(p:Int×Int):List UInt8:=Lib.itoa p.1++([32]++Lib.itoa p.2)
def dV(g:List (Int×Int)):List UInt8:=[40]++(aU jO g++[41])
def dR(gs:List (List (Int×Int))):List UInt8:=if gs.length=0 then EMPTY else[40]++(aU dV gs++[41])
def uI(ps:List (List (List (Int×Int)))):List UInt8:=if ps.length=0 then jk++([32]++EMPTY) else jk++([32,40]++(aU dR ps++[41]))
theorem Bu{α:Type}(f:α->List UInt8)(B:Nat):∀(l:List α),(∀x∈l,(f x).length<=B)->(aU f l).length<=l.length*(B+2)
 |[],_=>by simp[aU]
 |[a],h=>by have:=h a (by simp);simp[aU];omega
 |a::b::r,h=>by
  have ih:=Bu f B (b::r) (fun x hx=>h x (by simp[hx]))
  have ha:=h a (by simp)
  simp only[aU,aT,cG,gU] at ih⊢;rw[Es];rw[Es] at ih⊢;omega
end Pl
def gM(n:Int):Prop:= -50<=n/\n<=50
def oz(g:List (Int×Int)):Prop:=∀p∈g,gM p.1/\gM p.2
theorem ack{w:World}{e:TypeId}{size:Nat}{v:Value}{n:Nat}{xs:List Value}(h:w.ownsRow 0 e size v n xs){o:Nat}{u:Value}(hu:xs[o]?=some u):
  ∃b cap,v=.slice (some ⟨b,0,none⟩) n cap/\b<w.heap.size/\w.cell? ⟨b,o,none⟩=some u:=by
 obtain⟨h1,h2⟩:=h;rcases h2 with⟨_,h0⟩|⟨b,cap,cur,hv,_,hb,_,_,_,ht⟩
 ·rw[h0,Ae] at h1;rw[fK.1 h1] at hu;simp at hu
 ·refine⟨b,cap,hv,lt_of_heap hb,?_⟩;rw[cell_of hb o,<-iu];rw[<-ht,jt] at hu;split at hu
  ·exact hu
  ·cases hu
def KT(gs:List (List (Int×Int))):Prop:=gs.length<=402/\∀g∈gs,oz g/\g.length<=402
theorem acm{α:Type}{T:Nat}{R:World->Value->α->Prop}{w:World}{v:Value}{xs:List α}(h:KR T R w v xs):∃so cap,v=.slice so xs.length cap:=by
 obtain⟨vs,_,h,_⟩:=h;rcases h.2 with⟨hv,h0⟩|⟨b,cap,cur,hv,_⟩
 ·exact⟨none,0,by rw[hv,h0]⟩
 ·exact⟨_,cap,hv⟩
theorem acn{α:Type}{T:Nat}{R:World->Value->α->Prop}{w:World}{so:Option Addr}{n cap:Nat}{xs:List α}(h:KR T R w (.slice so n cap) xs){k:Nat}{x:α}(hx:xs[k]?=some x):
  ∃b u,so=some ⟨b,0,none⟩/\b<w.heap.size/\w.cell? ⟨b,k,none⟩=some u/\R w u x:=by
 obtain⟨vs,hl,ho,hr⟩:=h;have hk:k<vs.length:=by rw[hl];exact(bU.1 hx).1
 obtain⟨u,hu⟩:∃u,vs[k]?=some u:=⟨_,aD hk⟩;obtain⟨b,c,hv,hb,hc⟩:=ack ho hu;injection hv with hv;exact⟨b,u,hv,hb,hc,hr k u x hu hx⟩
def Bv(ps:List (List (List (Int×Int)))):Prop:=ps.length<=402/\∀gs∈ps,KT gs
theorem iY(w:World)(o:Obj){b k:Nat}(h:b<w.heap.size):(w.alloc o).cell? ⟨b,k,none⟩=w.cell? ⟨b,k,none⟩:=by
 simp only[World.cell?];rw[Below.heap_alloc _ _ _ h]
namespace Ge
end Ge
namespace Ge
def cu(e f:Pt×Pt):Int:=(e.2.1-e.1.1)*(f.2.2-f.1.2)-(e.2.2-e.1.2)*(f.2.1-f.1.1)
def mT(e f:Pt×Pt):Int:=(f.1.1-e.1.1)*(f.2.2-f.1.2)-(f.1.2-e.1.2)*(f.2.1-f.1.1)
def mX(e f:Pt×Pt):Int:=e.1.1*cu e f+(e.2.1-e.1.1)*mT e f
def mY(e f:Pt×Pt):Int:=e.1.2*cu e f+(e.2.2-e.1.2)*mT e f
def eA(e f:Pt×Pt):Qt:=(aS (mX e f) (cu e f),aS (mY e f) (cu e f))
end Ge
namespace Ge
def hq(p:Qt)(e:Pt×Pt):Bool:=fo (p.1.1*p.2.2,p.2.1*p.1.2) (p.1.2*p.2.2) e
def pt(a:Pt):Qt:=((a.1,1),(a.2,1))
def wE(e:Pt×Pt)(out:List Qt)(f:Pt×Pt):List Qt:=
  if cu e f=0 then
    (let o1:=if hq (pt f.1) e then ins (pt f.1) out else out
     if hq (pt f.2) e then ins (pt f.2) o1 else o1)
  else if hq (eA e f) e&&hq (eA e f) f then ins (eA e f) out else out
def nM(l:List (Pt×Pt))(e:Pt×Pt):List Qt:=l.foldl (wE e) (ins (pt e.2) (ins (pt e.1) []))
theorem qM(a:Pt):fL (pt a):=⟨⟨by show(0:Int)<1;decide,by show Int.gcd a.1 1=1;exact OX ..⟩,⟨by show(0:Int)<1;decide,by show Int.gcd a.2 1=1;exact OX ..⟩⟩
theorem RA{e f:Pt×Pt}(h:cu e f≠0):fL (eA e f):=⟨yz h,yz h⟩
end Ge
theorem RF{e f:Ed}(he:dU e)(hf:dU f):(-20000<=Ge.cu e f/\Ge.cu e f<=20000)/\(-3000000<=Ge.mX e f/\Ge.mX e f<=3000000)/\(-3000000<=Ge.mY e f/\Ge.mY e f<=3000000):=by
 obtain⟨a1,a2,a3,a4⟩:=he;obtain⟨b1,b2,b3,b4⟩:=hf;have mF:∀{x y:Int},small x->small y-> -100<=y-x/\y-x<=100:=fun hx hy=>by unfold small at*;omega
 have x1:=mF a1 a3;have x2:=mF a2 a4;have x3:=mF b1 b3;have x4:=mF b2 b4;have x5:=mF a1 b1;have x6:=mF a2 b2;have m1: -10000<=(e.2.1-e.1.1)*(f.2.2-f.1.2)/\(e.2.1-e.1.1)*(f.2.2-f.1.2)<=10000:=nI (a:=100) (b:=100) x1 x4;have m2: -10000<=(e.2.2-e.1.2)*(f.2.1-f.1.1)/\(e.2.2-e.1.2)*(f.2.1-f.1.1)<=10000:=nI (a:=100) (b:=100) x2 x3;have m3: -10000<=(f.1.1-e.1.1)*(f.2.2-f.1.2)/\(f.1.1-e.1.1)*(f.2.2-f.1.2)<=10000:=nI (a:=100) (b:=100) x5 x4;have m4: -10000<=(f.1.2-e.1.2)*(f.2.1-f.1.1)/\(f.1.2-e.1.2)*(f.2.1-f.1.1)<=10000:=nI (a:=100) (b:=100) x6 x3;have hC:Ge.cu e f=(e.2.1-e.1.1)*(f.2.2-f.1.2)-(e.2.2-e.1.2)*(f.2.1-f.1.1):=rfl;have hT:Ge.mT e f=(f.1.1-e.1.1)*(f.2.2-f.1.2)-(f.1.2-e.1.2)*(f.2.1-f.1.1):=rfl;have cb: -20000<=Ge.cu e f/\Ge.cu e f<=20000:=by omega
 have tb: -20000<=Ge.mT e f/\Ge.mT e f<=20000:=by omega
 have m5: -1000000<=e.1.1*Ge.cu e f/\e.1.1*Ge.cu e f<=1000000:=nI (a:=50) (b:=20000) a1 cb;have m6: -2000000<=(e.2.1-e.1.1)*Ge.mT e f/\(e.2.1-e.1.1)*Ge.mT e f<=2000000:=nI (a:=100) (b:=20000) x1 tb;have m7: -1000000<=e.1.2*Ge.cu e f/\e.1.2*Ge.cu e f<=1000000:=nI (a:=50) (b:=20000) a2 cb;have m8: -2000000<=(e.2.2-e.1.2)*Ge.mT e f/\(e.2.2-e.1.2)*Ge.mT e f<=2000000:=nI (a:=100) (b:=20000) x2 tb;refine⟨cb,?_,?_⟩
 ·unfold Ge.mX;omega
 ·unfold Ge.mY;omega
namespace Pl
theorem aco{t:Tk}(h:Form t)(hk:t.k=110):bu t≠[44]:=fun e=>by
 have:=(E7 h 44 (by decide)).1 e
 rw[hk] at this;exact absurd this (by decide)
theorem FU{a b:Tk}(h1:bu a≠[44])(h2:a.k≠110\/b.k≠110):bb a b=false:=by
 unfold bb;rcases h2 with h2|h2<;>simp[h1,h2]
theorem wF{t:Tk}(h:Form t)(c:UInt8)(hc:c.toNat=40\/c.toNat=41\/c.toNat=44)(hk:t.k=c.toNat):wr t=[c]/\bu t=[c]/\t.k≠110:=by
 have e:=(E7 h c hc).2 hk;have hne:t.k≠110:=by omega
 exact⟨by unfold wr;rw[aa hne,e],e,hne⟩
theorem FV{p t:Tk}{d:List Tk}(h:bb p t=false):dI p (t::d)=wr t++dI t d:=by
 show(if bb p t=true then[32] else[])++(wr t++dI t d)=_
 rw[h,aa (by simp),oP]
theorem Bw{p t:Tk}{d:List Tk}(h:Form p)(hk:p.k=40):dI p (t::d)=wr t++dI t d:=by
 obtain⟨_,h2,h3⟩:=wF h 40 (by decide) hk
 exact FV (FU (by rw[h2];decide) (ae h3))
theorem RH{p t:Tk}{d:List Tk}(h:Form p)(hk:p.k=41):dI p (t::d)=wr t++dI t d:=by
 obtain⟨_,h2,h3⟩:=wF h 41 (by decide) hk
 exact FV (FU (by rw[h2];decide) (ae h3))
theorem FW{p t:Tk}{d:List Tk}(h:Form p)(hk:p.k=44):dI p (t::d)=[32]++(wr t++dI t d):=by
 obtain⟨_,h2,_⟩:=wF h 44 (by decide) hk
 show(if bb p t=true then[32] else[])++(wr t++dI t d)=_
 rw[ah (by unfold bb;simp[h2])]
structure Tx{α:Type}(ok:α->Prop)(txt:α->List UInt8)(c:List Tk)(x:α):Prop where
 ne:c≠[]
 br:∀p,Form p->p.k=40->dI p c=txt x
 co:∀p,Form p->p.k=44->dI p c=[32]++txt x
 cl:∀p t d,Form t->t.k≠110->dI p (c++t::d)=dI p c++(wr t++dI t d)
 yL:(∀t∈c,t.k=110->gM t.n)->c.length<=402->ok x
def Says{α:Type}(ok:α->Prop)(txt:α->List UInt8)(item:List Tk->Bool×List Tk×α):Prop:=
 ∀l,(∀t∈l,Form t)->(item l).1=true->∃c,c++(item l).2.1=l/\Tx ok txt c (item l).2.2
theorem acp:Says (fun p=>gM p.1/\gM p.2) jO fq:=by
 intro l hf h
 match l,hf,h with
 |[],_,h=>cases h
 |[x],_,h=>cases h
 |x::y::r,hf,h=>
  have e:fq (x::y::r)=if x.k=110 then(if y.k=110 then(true,r,(x.n,y.n)) else(false,y::r,(0,0))) else(false,x::y::r,(0,0)):=rfl
  rw[e] at h⊢;by_cases hx:x.k=110
  ·rw[ah hx] at h⊢;by_cases hy:y.k=110
   ·rw[ah hy];have fx:=hf x (by simp)
    have fy:=hf y (by simp)
    have w1:wr x=Lib.itoa x.n:=ah hx;have w2:wr y=Lib.itoa y.n:=ah hy;have hb:∀d,dI x (y::d)=[32]++(wr y++dI y d):=fun d=>by
     show(if bb x y=true then[32] else[])++(wr y++dI y d)=_
     rw[ah (by unfold bb;simp[hx,hy])]
    refine⟨[x,y],rfl,by simp,fun p fp hp=>?_,fun p fp hp=>?_,fun p t d ft ht=>?_,fun hn _=>⟨hn x (by simp) hx,hn y (by simp) hy⟩⟩
    ·rw[Bw fp hp,hb,w1,w2];simp[dI,jO]
    ·rw[FW fp hp,hb,w1,w2];simp[dI,jO]
    ·show(if bb p x=true then[32] else[])++(wr x++dI x (y::t::d))=((if bb p x=true then[32] else[])++(wr x++dI x [y]))++_
     rw[hb,hb,FV (p:=y) (t:=t) (FU (aco fy hy) (af ht))];simp[dI,List.append_assoc]
   ·rw[aa hy] at h;cases h
  ·rw[aa hx] at h;cases h
theorem pC{c:Nat}{l:List Tk}(h:(mk c l).1=true):∃t,l=t::(mk c l).2/\t.k=c:=by
 cases l with
 |nil=>cases h
 |cons t r=>
  have e:mk c (t::r)=if t.k=c then(true,r) else(false,t::r):=rfl
  rw[e] at h⊢;by_cases hk:t.k=c
  ·rw[ah hk];exact⟨t,rfl,hk⟩
  ·rw[aa hk] at h;cases h
theorem FX{q:List UInt8}{l:List Tk}(h:(wd q l).1=true):∃t,l=t::(wd q l).2/\t.k=119/\t.raw=q:=by
 cases l with
 |nil=>cases h
 |cons t r=>
  have e:wd q (t::r)=if t.k=119/\t.raw=q then(true,r) else(false,t::r):=rfl
  rw[e] at h⊢;by_cases hk:t.k=119/\t.raw=q
  ·rw[ah hk];exact⟨t,rfl,hk⟩
  ·rw[aa hk] at h;cases h
theorem FY{α:Type}{ok:α->Prop}{txt:α->List UInt8}{item:List Tk->Bool×List Tk×α}(hi:Says ok txt item):
  ∀(f:Nat)(l:List Tk)(acc:List α),(∀t∈l,Form t)->(bY item f l acc).1=true->
   ∃c xs,c++(bY item f l acc).2.1=l/\(bY item f l acc).2.2=acc++xs/\xs≠[]/\
    Tx (fun xs=>xs.length<=402/\∀x∈xs,ok x) (fun xs=>aU txt xs++[41]) c xs/\xs.length<=c.length
 |0,l,acc,_,h=>by cases h
 |f+1,l,acc,hf,h=>by
  unfold bY at h⊢;by_cases h1:(item l).1=true
  ·rw[ah h1] at h⊢;obtain⟨c0,hc0,T0⟩:=hi l hf h1;generalize(item l).2.1=rest at*;generalize(item l).2.2=x at*;have gK:∀t∈rest,Form t:=fun t ht=>hf t (by rw[<-hc0];simp[ht])
   have hn0:1<=c0.length:=il.2 T0.ne;by_cases h2:(mk 44 rest).1=true
   ·rw[ah h2] at h⊢;obtain⟨t,ht,hk⟩:=pC h2;have ft:Form t:=gK t (by rw[ht];simp)
    obtain⟨c1,xs,hc1,hv,hne,T1,hlen⟩:=FY hi f (mk 44 rest).2 (acc++[x]) (fun u hu=>gK u (by rw[ht];simp[hu])) h
    obtain⟨s1,s2,s3⟩:=wF ft 44 (by decide) hk
    have hj:aU txt (x::xs)=txt x++([44,32]++aU txt xs):=by
     cases xs with
     |nil=>exact absurd rfl hne
     |cons a b=>rfl
    refine⟨c0++t::c1,x::xs,by rw[eF,kG,hc1,<-ht,hc0],by rw[hv];simp,by simp,⟨by simp,fun p fp hp=>?_,fun p fp hp=>?_,fun p u d fu hu=>?_,fun hn hl=>?_⟩,by simp;omega⟩
    ·rw[T0.cl p t c1 ft s3,T0.br p fp hp,T1.co t ft hk,s1,hj];simp
    ·rw[T0.cl p t c1 ft s3,T0.co p fp hp,T1.co t ft hk,s1,hj];simp
    ·rw[eF,kG,T0.cl p t _ ft s3,T0.cl p t c1 ft s3,T1.cl t u d fu hu];simp[List.append_assoc]
    ·have hl':c0.length+(c1.length+1)<=402:=by simpa using hl
     have k0:=T0.yL (fun t ht=>hn t (by simp[ht])) (by omega)
     have k1:=T1.yL (fun t ht=>hn t (by simp[ht])) (by omega)
     exact⟨by simp;omega,fun y hy=>by
      rcases aP.1 hy with e|e
      ·rw[e];exact k0
      ·exact k1.2 y e⟩
   ·rw[aa h2] at h⊢;obtain⟨t,ht,hk⟩:=pC (c:=41) h;have ft:Form t:=gK t (by rw[ht];simp)
    obtain⟨s1,s2,s3⟩:=wF ft 41 (by decide) hk
    have hw:dI t []=[]:=rfl;refine⟨c0++[t],[x],by rw[eF,Ah,<-ht,hc0],rfl,by simp,⟨by simp,fun p fp hp=>?_,fun p fp hp=>?_,fun p u d fu hu=>?_,fun hn hl=>?_⟩,by simp⟩
    ·rw[T0.cl p t [] ft s3,T0.br p fp hp,s1,hw];simp[aU]
    ·rw[T0.cl p t [] ft s3,T0.co p fp hp,s1,hw];simp[aU]
    ·rw[eF,Ah,T0.cl p t _ ft s3,T0.cl p t [] ft s3,RH ft hk,hw];simp[List.append_assoc]
    ·have hl':c0.length+1<=402:=by simpa using hl
     have k0:=T0.yL (fun t ht=>hn t (by simp[ht])) (by omega)
     exact⟨by simp,fun y hy=>by rw[bI.1 hy];exact k0⟩
  ·rw[aa h1] at h;cases h
end Pl
def Pl.iI(s:List UInt8):List UInt8:=if(Pl.err s).1=0 then Pl.wt (Pl.took s) else[]
theorem nN{s:List UInt8}(h:(Pl.err s).1=0):s.length<=400/\(Pl.err s).2=0/\(Pl.bO (Pl.all s)).1=true/\Pl.hk (Pl.bO (Pl.all s)).2.1=101/\(Pl.took s).find? outT=none:=by
 unfold Pl.err at h⊢;by_cases h1:400<s.length
 ·rw[ah h1] at h;cases h
 ·rw[aa h1] at h⊢;by_cases h2:(Pl.bO (Pl.all s)).1=true/\Pl.hk (Pl.bO (Pl.all s)).2.1=101
  ·rw[ah h2] at h⊢;cases h3:(Pl.took s).find? outT with
   |some u=>rw[h3] at h;cases h
   |none=>exact⟨by omega,rfl,h2.1,h2.2,rfl⟩
  ·rw[aa h2] at h;cases h
theorem acq{s:List UInt8}{t:Pl.Tk}(h:t∈Pl.took s):t∈Pl.all s:=by
 unfold Pl.took at h;exact rU h
theorem KU{s:List UInt8}(h:(Pl.err s).1=0):(∀t∈Pl.took s,(Pl.wr t).length<=400)/\(∀t∈Pl.took s,t.k=110-> -50<=t.n/\t.n<=50)/\(Pl.took s).length<=402:=by
 obtain⟨h1,_,_,_,h5⟩:=nN h;have hr:∀t∈Pl.took s,t.k=110-> -50<=t.n/\t.n<=50:=fun t ht hk=>by
  have:=Zw.1 h5 t ht;unfold outT mD at this;simp[hk] at this;omega
 refine⟨fun t ht=>?_,hr,?_⟩
 ·unfold Pl.wr;by_cases hk:t.k=110
  ·rw[ah hk];have:=hr t ht hk;have:=Lib.itoa_length_le t.n (by omega) (by omega)
   omega
  ·rw[aa hk];have hp:=(Pl.E2 s t (acq ht)).1;unfold Pl.bu;split
   ·simp
   ·omega
 ·have:=Pl.E3 s;unfold Pl.took;rw[ir];omega
theorem acr(s:ByteArray)(w:World)(hm:s.size<=maxLen)(hG:Gl w):
  Calls Tryz.prog 40 #[.string s] w fun e w'=>e=.returned (.tuple #[.string ⟨(Pl.iI s.data.toList).toArray⟩,.int .i64 (Pl.err s.data.toList).1,.int .i64 (Pl.err s.data.toList).2])/\Below w.heap.size w w':=by
 by_cases h0:(Pl.err s.data.toList).1=0
 ·have hp2:=(nN h0).2.1;have hpt:Pl.iI s.data.toList=Pl.wt (Pl.took s.data.toList):=by unfold Pl.iI;rw[ah h0]
  obtain⟨hw,hn',hl⟩:=KU h0;have hn:∀t∈Pl.took s.data.toList,t.k=110-> -9223372036854775808<=t.n/\t.n<=9223372036854775807:=fun t ht hk=>by have:=hn' t ht hk;omega
  have mE:=Pl.FT s.data.toList;have hlt:=Pl.Rx _ (nN h0).2.2.1;have HR:Hid (∀w1,Gl w1->Calls Tryz.prog 33 #[.string s] w1 fun e w'=>Below w1.heap.size w1 w'/\∃rb g cap,e=.returned (.tuple #[.pointer (some ⟨rb,0,none⟩),.int .i64 0,.int .i64 0])/\
    w'.cell? ⟨rb,5,none⟩=some (.slice (some ⟨g,0,none⟩) (Pl.took s.data.toList).length cap)/\g<w'.heap.size/\(∀j u,(nD (Pl.took s.data.toList))[j]?=some u->w'.cell? ⟨g,j,none⟩=some u)):=fun w1 g1=>by
   refine(uH s w1 hm g1).mono ?_;rintro e w' ⟨hb,pv,rfl,jz⟩;obtain⟨rb,rfl,_,hR⟩:=jz h0;obtain⟨c,t,r,tv,rv,hc,hl',hbk,hown,_⟩:=hR;have hcc:c=Pl.took s.data.toList:=OZ (hc.trans mE.symm);subst hcc;have h0':0<(Pl.took s.data.toList).length:=by
    have h2:=aw List.length mE;simp only[aT] at h2;omega
   obtain⟨g,cap,rfl,_,hg2⟩:=hown.form h0';refine⟨hb,rb,g,cap,by rw[h0,hp2];rfl,cell_of hbk 5,hg2,fun j u hu=>?_⟩
   have:=hown.cells (g:=g) rfl j u hu;rwa[addr_add] at this
  rw[hpt,h0,hp2];clear hp2 hpt h0 mE hlt
  go_enter Tryz.func40,Tryz.ntmps40
  go_wp2_with fail
  refine(HR.out _ hG).mono ?_;rintro e w1 ⟨hb1,rb,g,cap,rfl,c5,hg2,hrow⟩;have lQ:Hid (∀j u,(nD (Pl.took s.data.toList))[j]?=some u->w1.cell? ⟨g,j,none⟩=some u):=hrow;have bz:Gl w1:=hG.below hb1 hG.sz;clear hrow HR
  go_wp2_with fail
  refine(acd (Pl.took s.data.toList) g cap w1 bz hg2 lQ.out hl hw hn).mono ?_;rintro e w2 ⟨rfl,hb2⟩
  go_wp2_with fail
  go_ret3
  exact⟨rfl,hb1.trans (hb2.mono hb1.size)⟩
 ·have hpt:Pl.iI s.data.toList=[]:=by unfold Pl.iI;rw[aa h0]
  have HR:Hid (∀w1,Gl w1->Calls Tryz.prog 33 #[.string s] w1 fun e w'=>Below w1.heap.size w1 w'/\∃pv,e=.returned (.tuple #[.pointer pv,.int .i64 (Pl.err s.data.toList).1,.int .i64 (Pl.err s.data.toList).2])):=fun w1 g1=>by
   refine(uH s w1 hm g1).mono ?_;rintro e w' ⟨hb,pv,rfl,jz⟩;exact⟨hb,pv,rfl⟩
  rw[hpt];have hne:(((Pl.err s.data.toList).1:Int) != 0)=true:=by rw[Aa];omega
  generalize(Pl.err s.data.toList).1=E at*;generalize(Pl.err s.data.toList).2=Pp at*;clear hpt h0
  go_enter Tryz.func40,Tryz.ntmps40
  go_wp2_with fail
  refine(HR.out _ hG).mono ?_;rintro e w1 ⟨hb1,pv,rfl⟩
  go_wp2_with fail
  go_ret3
  exact⟨rfl,hb1⟩
end Go.Proofs.YtkjhhooecopolaaGreatDoor

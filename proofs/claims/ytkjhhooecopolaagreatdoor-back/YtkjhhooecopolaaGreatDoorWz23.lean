import Derived.Test.YtkjhhooecopolaaGreatDoorWz22
set_option maxRecDepth 100000
set_option maxHeartbeats 4000000
namespace Go.Proofs.YtkjhhooecopolaaGreatDoor
open Go.RowKit
structure RB(w:World)(g:Nat)(bs:List Nat)(Xs:List PB):Prop where
 len:bs.length=Xs.length
 row:∀(i:Nat) b,bs[i]?=some b->w.cell? ⟨g,i,none⟩=some (.pointer (some ⟨b,0,none⟩))
 side:∀(i:Nat) b x,bs[i]?=some b->Xs[i]?=some x->iK w b x
theorem RB.below{w w':World}{g:Nat}{bs:List Nat}{Xs:List PB}(h:RB w g bs Xs)(hb:Below w.heap.size w w'):RB w' g bs Xs:=
 ⟨h.len,fun i b h1=>(hb.cell (p:=⟨g,i,none⟩) (lt_of_cell (h.row i b h1))).trans (h.row i b h1),fun i b x h1 h2=>(h.side i b x h1 h2).below hb⟩
theorem agP(bs:List Nat)(Xs:List PB)(n:Ge.Nd)(g cap:Nat)(w:World)(N1 N2:Nat)(N3:Int)(c:Nat)(hR:RB w g bs Xs)(hl:bs.length<=85000000)(hcl:c<=bs.length)
  (hc:∀i x,Xs[i]?=some x->(i<c↔bn x.f n<0))
  (HC:Hid (∀b x w',iK w' b x->x∈Xs->Calls Tryz.prog 254 #[.pointer (some ⟨b,0,none⟩),.agg #[.complex .f64 N1 N2,.int .i64 N3]] w' fun r w''=>r=.returned (.int .i64 (bn x.f n))/\Below w'.heap.size w' w'')):
  Calls Tryz.prog 253 #[.slice (some ⟨g,0,none⟩) bs.length cap,.agg #[.complex .f64 N1 N2,.int .i64 N3],.func (.func 254) #[] #[]] w fun e w'=>∃f,e=.returned (.tuple #[.int .i64 c,.bool f])/\Below w.heap.size w w':=by
 have HR:Hid (RB w g bs Xs):=hR;have sJ:Hid (∀i x,Xs[i]?=some x->(i<c↔bn x.f n<0)):=hc;clear hR hc
 go_enter Tryz.func253,Tryz.ntmps253
 go_wp2_with fail
 have bW:Hid (Below w.heap.size w (w.alloc (.cells #[.complex .f64 N1 N2,.int .i64 N3] 83))/\(w.alloc (.cells #[.complex .f64 N1 N2,.int .i64 N3] 83)).heap[w.heap.size]?=some (.cells #[.complex .f64 N1 N2,.int .i64 N3] 83 (0,0))):=⟨(Below.refl _ _).alloc (ay _) _,heap_alloc_new _ _⟩;generalize w.alloc (.cells #[.complex .f64 N1 N2,.int .i64 N3] 83)=W0 at*
 go_loopg [9,10] bs.length (fun m iv jv wr=>∃i j:Nat,i<=c/\c<=j/\j<=bs.length/\j-i<=m/\iv=.int .i64 i/\jv=.int .i64 j/\Hid (Below w.heap.size w wr/\wr.heap[w.heap.size]?=some (.cells #[.complex .f64 N1 N2,.int .i64 N3] 83 (0,0))))
 case atStart=>exact⟨0,bs.length,by omega,hcl,ay _,by omega,rfl,rfl,bW⟩
 case round=>
  obtain⟨i,j,h1,h2,h3,h4,rfl,rfl,HB⟩:=hrel;clear bW;obtain⟨aw,hT⟩:=HB.out;have t0:wr.cell? ⟨w.heap.size,0,none⟩=some (.complex .f64 N1 N2):=cell_of hT 0;have t1:wr.cell? ⟨w.heap.size,1,none⟩=some (.int .i64 N3):=cell_of hT 1;have lI:w.heap.size<wr.heap.size:=lt_of_heap hT;by_cases hlt:i<j
  ·obtain⟨H,hH⟩:∃H,(i+j)/2=H:=⟨_,rfl⟩;have Wo:H<bs.length:=by omega
   obtain⟨b,hb⟩:∃b,bs[H]?=some b:=⟨_,aC Wo⟩;obtain⟨x,hx⟩:∃x,Xs[H]?=some x:=⟨_,aC (by rw[<-HR.out.len];exact Wo)⟩
   have r0:=(aw.cell (p:=⟨g,H,none⟩) (lt_of_cell (HR.out.row H b hb))).trans (HR.out.row H b hb);have iz:Hid (∀w',Below w.heap.size w w'->Calls Tryz.prog 254 #[.pointer (some ⟨b,0,none⟩),.agg #[.complex .f64 N1 N2,.int .i64 N3]] w' fun r w''=>r=.returned (.int .i64 (bn x.f n))/\Below w'.heap.size w' w''):=fun w' hb'=>HC.out b x w' ((HR.out.side H b x hb hx).below hb') (aZ hx)
   have sA:Hid (H<c↔bn x.f n<0):=sJ.out H x hx;have hij:(i:Int)<(j:Int):=by omega
   have hw1:IntKind.i64.wrap ((i:Int)+(j:Int))=(i:Int)+(j:Int):=by rw[IntKind.wrap_i64];omega
   have hw2:IntKind.u64.wrap ((i:Int)+(j:Int))=(i:Int)+(j:Int):=by simp[IntKind.wrap,IntKind.bits,IntKind.signed];omega
   have hHi:(H:Int)<(bs.length:Int):=by omega
   have hmid:((i:Int)+(j:Int))/2=(H:Int):=by omega
   have hH0:(0:Int)<=(H:Int):=by omega
   have Wp:Hid (i<=H/\H<j):=by
    show i<=H/\H<j;omega
   have hgr:g<wr.heap.size:=lt_of_cell r0;have oU:Below w.heap.size w wr.drew:=aw.drew;clear hb hx hH;generalize bn x.f n=V at*
   go_wp2_with fail
   go_region_held3 (fun w'=>w'.cell? ⟨w.heap.size,0,none⟩=some (.complex .f64 N1 N2)/\w'.cell? ⟨w.heap.size,1,none⟩=some (.int .i64 N3)/\w'.cell? ⟨g,H,none⟩=some (.pointer (some ⟨b,0,none⟩))) (go_keep) (first
    |(go_at_call 254;refine(iz.out _ oU).mono ?_;rintro e w5 ⟨rfl,az⟩;have e0:=(az.cell (p:=⟨w.heap.size,0,none⟩) lI).trans t0;have e1:=(az.cell (p:=⟨w.heap.size,1,none⟩) lI).trans t1;have e2:=(az.cell (p:=⟨g,H,none⟩) hgr).trans r0))
   all_goals
    have fF:Hid (Below w.heap.size w w5/\w5.heap[w.heap.size]?=some (.cells #[.complex .f64 N1 N2,.int .i64 N3] 83 (0,0))):=⟨oU.trans (az.mono oU.size),(az.block _ lI).trans hT⟩;clear az iz e0 e1 e2;by_cases hV:V<0
    ·have hVc:H<c:=sA.out.2 hV
     go_wp2_with fail
     go_roundg (j-(H+1))
     case measure=>have:=Wp.out;omega
     case rel=>exact⟨H+1,j,by omega,h2,h3,ay _,by go_num,rfl,fF⟩
    ·have hVc:¬H<c:=fun h=>hV (sA.out.1 h)
     have Nb:decide (V<0)=false:=gv hV
     go_wp2_with fail
     go_roundg (H-i)
     case measure=>have:=Wp.out;omega
     case rel=>exact⟨i,H,h1,by omega,by omega,ay _,rfl,rfl,fF⟩
  ·have hic:i=c:=by omega
   subst hic;by_cases hin:i<bs.length
   ·obtain⟨b,hb⟩:∃b,bs[i]?=some b:=⟨_,aC hin⟩;obtain⟨x,hx⟩:∃x,Xs[i]?=some x:=⟨_,aC (by rw[<-HR.out.len];exact hin)⟩
    have r0:=(aw.cell (p:=⟨g,i,none⟩) (lt_of_cell (HR.out.row i b hb))).trans (HR.out.row i b hb);have iz:Hid (∀w',Below w.heap.size w w'->Calls Tryz.prog 254 #[.pointer (some ⟨b,0,none⟩),.agg #[.complex .f64 N1 N2,.int .i64 N3]] w' fun r w''=>r=.returned (.int .i64 (bn x.f n))/\Below w'.heap.size w' w''):=fun w' hb'=>HC.out b x w' ((HR.out.side i b x hb hx).below hb') (aZ hx)
    have Nc:(i:Int)<(bs.length:Int):=by omega
    have hgr:g<wr.heap.size:=lt_of_cell r0;clear hb hx HR HC sJ;generalize bn x.f n=V at*;have oU:Below w.heap.size w wr.drew:=aw.drew
    go_wp2_with fail
    go_region_held3 (fun w'=>w'.cell? ⟨w.heap.size,0,none⟩=some (.complex .f64 N1 N2)/\w'.cell? ⟨w.heap.size,1,none⟩=some (.int .i64 N3)/\w'.cell? ⟨g,i,none⟩=some (.pointer (some ⟨b,0,none⟩))) (go_keep) (first
     |(go_at_call 254;refine(iz.out _ oU).mono ?_;rintro e w5 ⟨rfl,az⟩;have e0:=(az.cell (p:=⟨w.heap.size,0,none⟩) lI).trans t0;have e1:=(az.cell (p:=⟨w.heap.size,1,none⟩) lI).trans t1;have e2:=(az.cell (p:=⟨g,i,none⟩) hgr).trans r0))
    all_goals
     have fF:Hid (Below w.heap.size w w5):=oU.trans (az.mono oU.size);clear az iz e0 e1 e2
     go_wp2_with fail
     refine bodyPost_ret (v:=.tuple #[.int .i64 i,.bool (V == 0)]) (by simp[results,Tryz.results253,go_sem]) rfl ⟨V == 0,rfl,fF.out⟩
   ·have Nc:decide ((i:Int)<(bs.length:Int))=false:=by simp;omega
    clear HR HC sJ
    go_wp2_with fail
    refine wp_region_held_drew (S:=(fun _=>True)) (by kernel_rfl) trivial (fun hHeld=>?_)
    refine wpAnyH_take (i:=0) (oi:={dst:=some 35,op:=_,type:=_,pos:=_,after:=_,guard:=_}) (v:=?_) rfl (by kernel_rfl) (by kernel_rfl) (by kernel_rfl) (fun _ _ _ h=>h) (ag ⟨by rfl,?_⟩) hHeld ?_
    rotate_left
    ·intro w' aA
     go_simp
     try with_reducible rfl
    simp only[Act.put,aH,aI,aG];refine wpAnyH_take (i:=1) (oi:={dst:=some 36,op:=_,type:=_,pos:=_,after:=_,guard:=_}) (v:=?_) rfl (by kernel_rfl) (by kernel_rfl) (by kernel_rfl) (fun _ _ _ h=>h) (ag ⟨by rfl,?_⟩) hHeld ?_
    rotate_left
    ·intro w' aA
     go_simp
     try with_reducible rfl
    simp only[Act.put,aH,aI,aG];refine wpAnyH_take (i:=2) (oi:={dst:=some 37,op:=_,type:=_,pos:=_,after:=_,guard:=_}) (v:=?_) rfl (by kernel_rfl) (by kernel_rfl) (by kernel_rfl) (fun _ _ _ h=>h) (ag ⟨by rfl,?_⟩) hHeld ?_
    rotate_left
    ·intro w' aA
     go_simp
     try with_reducible rfl
    simp only[Act.put,aH,aI,aG];refine wpAnyH_take (i:=3) (oi:={dst:=some 38,op:=_,type:=_,pos:=_,after:=_,guard:=_}) (v:=?_) rfl (by kernel_rfl) (by kernel_rfl) (by kernel_rfl) (fun _ _ _ h=>h) (ag ⟨by rfl,?_⟩) hHeld ?_
    rotate_left
    ·intro w' aA
     go_simp
     try with_reducible rfl
    simp only[Act.put,aH,aI,aG];refine wpAnyH_take (i:=4) (oi:={dst:=some 39,op:=_,type:=_,pos:=_,after:=_,guard:=_}) (v:=?_) rfl (by kernel_rfl) (by kernel_rfl) (by kernel_rfl) (fun _ _ _ h=>h) (ag ⟨by rfl,?_⟩) hHeld ?_
    rotate_left
    ·intro w' aA
     go_simp
     try with_reducible rfl
    simp only[Act.put,aH,aI,aG];refine wpAnyH_take (i:=5) (oi:={dst:=some 40,op:=_,type:=_,pos:=_,after:=_,guard:=_}) (v:=undef) rfl (by kernel_rfl) (by kernel_rfl) (by kernel_rfl) (fun _ _ _ h=>h) (ah ⟨by kernel_rfl,rfl⟩) hHeld ?_
    simp only[Act.put,aH,aI,aG];refine wpAnyH_take (i:=6) (oi:={dst:=some 41,op:=_,type:=_,pos:=_,after:=_,guard:=_}) (v:=undef) rfl (by kernel_rfl) (by kernel_rfl) (by kernel_rfl) (fun _ _ _ h=>h) (ah ⟨by kernel_rfl,rfl⟩) hHeld ?_
    simp only[Act.put,aH,aI,aG];refine wpAnyH_take (i:=7) (oi:={dst:=some 42,op:=_,type:=_,pos:=_,after:=_,guard:=_}) (v:=undef) rfl (by kernel_rfl) (by kernel_rfl) (by kernel_rfl) (fun _ _ _ h=>h) (ah ⟨by kernel_rfl,rfl⟩) hHeld ?_
    simp only[Act.put,aH,aI,aG];refine wpAnyH_take (i:=8) (oi:={dst:=some 43,op:=_,type:=_,pos:=_,after:=_,guard:=_}) (v:=undef) rfl (by kernel_rfl) (by kernel_rfl) (by kernel_rfl) (fun _ _ _ h=>h) (ah ⟨by kernel_rfl,rfl⟩) hHeld ?_
    simp only[Act.put,aH,aI,aG];refine wpAnyH_take (i:=9) (oi:={dst:=some 44,op:=_,type:=_,pos:=_,after:=_,guard:=_}) (v:=undef) rfl (by kernel_rfl) (by kernel_rfl) (by kernel_rfl) (fun _ _ _ h=>h) (ah ⟨by kernel_rfl,rfl⟩) hHeld ?_
    simp only[Act.put,aH,aI,aG];refine wpAnyH_take (i:=10) (oi:={dst:=some 45,op:=_,type:=_,pos:=_,after:=_,guard:=_}) (v:=undef) rfl (by kernel_rfl) (by kernel_rfl) (by kernel_rfl) (fun _ _ _ h=>h) (ah ⟨by kernel_rfl,rfl⟩) hHeld ?_
    simp only[Act.put,aH,aI,aG];refine wpAnyH_take (i:=11) (oi:={dst:=some 46,op:=_,type:=_,pos:=_,after:=_,guard:=_}) (v:=undef) rfl (by kernel_rfl) (by kernel_rfl) (by kernel_rfl) (fun _ _ _ h=>h) (ah ⟨by kernel_rfl,rfl⟩) hHeld ?_
    simp only[Act.put,aH,aI,aG];refine wpAnyH_take (i:=12) (oi:={dst:=some 47,op:=_,type:=_,pos:=_,after:=_,guard:=_}) (v:=undef) rfl (by kernel_rfl) (by kernel_rfl) (by kernel_rfl) (fun _ _ _ h=>h) (ah ⟨by kernel_rfl,rfl⟩) hHeld ?_
    simp only[Act.put,aH,aI,aG];refine wpAnyH_take (i:=13) (oi:={dst:=some 48,op:=_,type:=_,pos:=_,after:=_,guard:=_}) (v:=?_) rfl (by kernel_rfl) (by kernel_rfl) (by kernel_rfl) (fun _ _ _ h=>h) (ag ⟨by rfl,?_⟩) hHeld ?_
    rotate_left
    ·intro w' aA
     go_simp
     try with_reducible rfl
    simp only[Act.put,aH,aI,aG];refine wpAnyH_take (i:=14) (oi:={dst:=some 6,op:=_,type:=_,pos:=_,after:=_,guard:=_}) (v:=?_) rfl (by kernel_rfl) (by kernel_rfl) (by kernel_rfl) (fun _ _ _ h=>h) (ag ⟨by rfl,?_⟩) hHeld ?_
    rotate_left
    ·intro w' aA
     go_simp
     try with_reducible rfl
    simp only[Act.put,aH,aI,aG];refine wpAnyH_take (i:=15) (oi:={dst:=some 7,op:=_,type:=_,pos:=_,after:=_,guard:=_}) (v:=?_) rfl (by kernel_rfl) (by kernel_rfl) (by kernel_rfl) (fun _ _ _ h=>h) (ag ⟨by rfl,?_⟩) hHeld ?_
    rotate_left
    ·intro w' aA
     go_simp
     try with_reducible rfl
    simp only[Act.put,aH,aI,aG];refine wpAnyH_done (by kernel_rfl) ?_ _
    go_wp2_with fail
    refine bodyPost_ret (v:=.tuple #[.int .i64 i,.bool false]) (by simp[results,Tryz.results253,go_sem]) rfl ⟨false,rfl,aw.drew⟩
theorem agR(bs:List Nat)(Xs:List PB)(n:Ge.Nd)(g cap:Nat)(w:World)(c d:Nat)(hR:RB w g bs Xs)(hl:bs.length<=85000000)(hbc:bs.length<=cap)(Gx:c<d)(yq:d<=bs.length)
  (hc:∀i x,Xs[i]?=some x->(i<c↔bn x.f n<0))(hd:∀i x,Xs[i]?=some x->c<=i->(i<d↔x.f=n))(hv:∀x∈Xs,dh x)(hn:dM n.1 n.2.1 n.2.2)(hcn:Ge.Can n):
  Calls Tryz.prog 210 #[.slice (some ⟨g,0,none⟩) bs.length cap,gZ n] w fun e w'=>e=.returned (.slice (some ⟨g,c,none⟩) (d-c) (cap-c))/\Below w.heap.size w w':=by
 have yo:=fun w'(hb:Below w.heap.size w w')=>agP bs Xs n g cap w' (floatOfInt .f64 n.1) (floatOfInt .f64 n.2.1) n.2.2 c (hR.below hb) hl (by omega) hc (fun b x w'' h1 hx=>agJ x n (hv x hx) hn hcn b w'' h1)
 have HR:Hid (RB w g bs Xs):=hR;have HD:Hid (∀i x,Xs[i]?=some x->c<=i->(i<d↔x.f=n)):=hd;have Nf:Hid (∀x∈Xs,∀w,(binOp .eql 83 (.agg #[.complex .f64 (floatOfInt .f64 x.f.1) (floatOfInt .f64 x.f.2.1),.int .i64 x.f.2.2]) (.agg #[.complex .f64 (floatOfInt .f64 n.1) (floatOfInt .f64 n.2.1),.int .i64 n.2.2])).run Tryz.prog w=.ok (.bool (decide (x.f=n))) w):=fun x hx w=>Dq x.f n (hv x hx).f.inn hn w
 unfold gZ;have wz:Hid (∀w',Below w.heap.size w w'->Calls Tryz.prog 253 #[.slice (some ⟨g,0,none⟩) bs.length cap,.agg #[.complex .f64 (floatOfInt .f64 n.1) (floatOfInt .f64 n.2.1),.int .i64 n.2.2],.func (.func 254) #[] #[]] w' fun e w''=>∃f,e=.returned (.tuple #[.int .i64 c,.bool f])/\Below w'.heap.size w' w''):=yo
 clear yo hR hc hd hv hn hcn;generalize floatOfInt .f64 n.1=N1 at*;generalize floatOfInt .f64 n.2.1=N2 at*;generalize Aj:n.2.2=N3 at*;have hb0:Below w.heap.size w (w.alloc (.cells #[.complex .f64 N1 N2,.int .i64 N3] 83)):=(Below.refl _ _).alloc (ay _) _;have hT0:=heap_alloc_new w (.cells #[.complex .f64 N1 N2,.int .i64 N3] 83);have hz:w.heap.size<(w.alloc (.cells #[.complex .f64 N1 N2,.int .i64 N3] 83)).heap.size:=by simp
 go_enter Tryz.func210,Tryz.ntmps210
 go_wp2_with fail
 generalize w.alloc (.cells #[.complex .f64 N1 N2,.int .i64 N3] 83)=W0 at*;refine(wz.out _ hb0).mono ?_;rintro e w1 ⟨f,rfl,hb1⟩;have bW:Hid (Below w.heap.size w w1/\w1.heap[w.heap.size]?=some (.cells #[.complex .f64 N1 N2,.int .i64 N3] 83 (0,0))):=⟨hb0.trans (hb1.mono hb0.size),(hb1.block _ hz).trans hT0⟩;clear hb0 hb1 hT0 wz
 go_wp2_with fail
 go_loopg [7] (d-c) (fun m iv wr=>∃k:Nat,c<=k/\k<=d/\d-k<=m/\iv=.int .i64 k/\Hid (Below w.heap.size w wr/\wr.heap[w.heap.size]?=some (.cells #[.complex .f64 N1 N2,.int .i64 N3] 83 (0,0))))
 case atStart=>exact⟨c,ay _,eJ Gx,ay _,rfl,bW⟩
 case round=>
  obtain⟨k,h1,h2,h3,rfl,HB⟩:=hrel;clear bW;obtain⟨aw,hT⟩:=HB.out;have t0:wr.cell? ⟨w.heap.size,0,none⟩=some (.complex .f64 N1 N2):=cell_of hT 0;have t1:wr.cell? ⟨w.heap.size,1,none⟩=some (.int .i64 N3):=cell_of hT 1;by_cases hin:k<bs.length
  ·obtain⟨b,hb⟩:∃b,bs[k]?=some b:=⟨_,aC hin⟩;obtain⟨x,hx⟩:∃x,Xs[k]?=some x:=⟨_,aC (by rw[<-HR.out.len];exact hin)⟩
   have r0:=(aw.cell (p:=⟨g,k,none⟩) (lt_of_cell (HR.out.row k b hb))).trans (HR.out.row k b hb);have gf:=(HR.out.side k b x hb hx).below aw;have s2:=gf.c2;have s3:=gf.c3;have hop:=Nf.out x (aZ hx);have sA:Hid (k<d↔x.f=n):=HD.out k x hx h1;have Nc:(k:Int)<(bs.length:Int):=by omega
   clear hb hx gf HR HD Nf;generalize floatOfInt .f64 x.f.1=X1 at*;generalize floatOfInt .f64 x.f.2.1=X2 at*;generalize zU:x.f.2.2=X3 at*;clear zU Aj;by_cases Wq:k<d
   ·have Ef:decide (x.f=n)=true:=eN (sA.out.1 Wq);rw[Ef] at hop;clear Ef sA
    go_wp2_with fail
    go_quiet (fail)
    go_wp2_with fail
    go_roundg (d-(k+1))
    case measure=>omega
    case rel=>exact⟨k+1,by omega,by omega,ay _,by go_num,zL aw _,hT⟩
   ·have Ef:decide (x.f=n)=false:=gv fun h=>Wq (sA.out.2 h)
    have CQ:k=d:=by omega
    rw[Ef] at hop;clear Ef sA;subst CQ
    go_wp2_with fail
    go_quiet (fail)
    go_wp2_with fail
    go_ret
    exact⟨rfl,zL aw _⟩
  ·have Nc:decide ((k:Int)<(bs.length:Int))=false:=by simp;omega
   have CQ:k=d:=by omega
   subst CQ;clear HR HD Nf
   go_wp2_with fail
   go_quiet (fail)
   go_wp2_with fail
   go_ret
   exact⟨rfl,zL aw _⟩
def pb0:PB:=⟨0,0,0,(0,0,0),(0,0,0)⟩
def xi(Xs:List PB)(i:Nat):PB:=Xs.getD i pb0
def bx(bs:List Nat)(i:Nat):Nat:=bs.getD i 0
theorem sL{Xs:List PB}{i:Nat}{x:PB}(h:Xs[i]?=some x):xi Xs i=x:=by
 unfold xi;rw[lS,h];rfl
theorem uC{Xs:List PB}{i:Nat}(h:i<Xs.length):Xs[i]?=some (xi Xs i):=by
 rw[aC h,sL (aC h)]
theorem Eg{bs:List Nat}{i b:Nat}(h:bs[i]?=some b):bx bs i=b:=by
 unfold bx;rw[lS,h];rfl
theorem wC{bs:List Nat}{i:Nat}(h:i<bs.length):bs[i]?=some (bx bs i):=by
 rw[aC h,Eg (aC h)]
theorem pT{bs:List Nat}{i:Nat}(h:i<bs.length):bx bs i∈bs:=aZ (wC h)
theorem gu{Xs:List PB}{i:Nat}(h:i<Xs.length):xi Xs i∈Xs:=aZ (uC h)
theorem mj{bs:List Nat}(hn:bs.Nodup){i:Nat}(h:i<bs.length):bs.idxOf (bx bs i)=i:=by
 have e:bx bs i=bs[i]:=Eg (aC h);rw[e];exact abn hn i h
structure BD(Xs:List PB):Prop where
 v:∀x∈Xs,dh x
 ld:∀x∈Xs,∃l,LD x l
 oP:Xs.Pairwise fun a b=>¬bn b.f a.f<0
 len:Xs.length<=85000000
theorem Ng{α:Type}(p:α->Bool):∀(l:List α),l.Pairwise (fun a b=>p b=true->p a=true)->∀(i:Nat) x,l[i]?=some x->(i<(l.filter p).length↔p x=true)
 |[],_,i,x,h=>by simp at h
 |a::l,hp,0,x,h=>by
  have hx:a=x:=by simpa using h
  subst hx;by_cases ha:p a=true
  ·simp[ha]
  ·have:(a::l).filter p=[]:=List.filter_eq_nil_iff.2 fun y hy=>by
    rcases aP.1 hy with rfl|hy
    ·exact ha
    ·exact fun hpy=>ha ((fK.1 hp).1 y hy hpy)
   rw[this];simp[ha]
 |a::l,hp,i+1,x,h=>by
  have hx:l[i]?=some x:=by simpa using h
  have ih:=Ng p l (fK.1 hp).2 i x hx;by_cases ha:p a=true
  ·rw[oc ha,cN,Nat.add_lt_add_iff_right];exact ih
  ·have hpx:¬p x=true:=fun hpx=>ha ((fK.1 hp).1 x (aZ hx) hpx)
   rw[pF ha];constructor
   ·intro h2;exact absurd (ih.1 (by omega)) hpx
   ·intro h2;exact absurd h2 hpx
def iL(Xs:List PB)(n:Ge.Nd):Nat:=(Xs.filter fun x=>decide (bn x.f n<0)).length
def lJ(Xs:List PB)(n:Ge.Nd):Nat:=(Xs.filter fun x=>decide (bn x.f n<=0)).length
theorem AA{a b:Ge.Nd}:bn a b<0↔Ge.lt (Ge.ax a) (Ge.ax b):=by unfold bn Ge.lt;exact Fw
theorem agU{a b c:Ge.Nd}(ha:Ge.Can a)(hb:Ge.Can b)(hc:Ge.Can c)(h1:¬bn b a<0)(h2:bn b c<0):bn a c<0:=by
 by_cases he:a=b
 ·rw[he];exact h2
 ·exact Ge.lt_trans (Ge.df ha) (Ge.df hb) (Ge.df hc) (Ge.zY ha hb h1 he) h2
theorem Nh(a b:Ge.Nd):bn b a= -bn a b:=Ge.He _ _
theorem Jf{Xs:List PB}(hB:BD Xs){n:Ge.Nd}(hn:Ge.Can n)(i:Nat)(x:PB)(h:Xs[i]?=some x):i<iL Xs n↔bn x.f n<0:=by
 have hp:Xs.Pairwise fun a b=>decide (bn b.f n<0)=true->decide (bn a.f n<0)=true:=by
  refine rC (fun{a b} ha hb hab=>?_) hB.oP
  simp only[xf];exact fun h2=>agU (hB.v a ha).cf (hB.v b hb).cf hn hab h2
 have:=Ng _ Xs hp i x h;simpa[iL] using this
theorem Ws{Xs:List PB}(hB:BD Xs){n:Ge.Nd}(hn:Ge.Can n)(i:Nat)(x:PB)(h:Xs[i]?=some x):i<lJ Xs n↔bn x.f n<=0:=by
 have hp:Xs.Pairwise fun a b=>decide (bn b.f n<=0)=true->decide (bn a.f n<=0)=true:=by
  refine rC (fun{a b} ha hb hab=>?_) hB.oP
  simp only[xf];intro h2;apply Bt.1;intro h3;have h4:bn n a.f<0:=by rw[Nh a.f n];omega
  have h5:bn n b.f<0:=by
   by_cases he:a.f=b.f
   ·rw[<-he];exact h4
   ·exact Ge.lt_trans (Ge.df hn) (Ge.df (hB.v a ha).cf) (Ge.df (hB.v b hb).cf) h4 (Ge.zY (hB.v a ha).cf (hB.v b hb).cf hab he)
  rw[Nh b.f n] at h5;omega
 have:=Ng _ Xs hp i x h;simpa[lJ] using this
theorem wD(a:Ge.Nd):bn a a=0:=Ge.xC _
theorem Jg{Xs:List PB}(hB:BD Xs){n:Ge.Nd}(hn:Ge.Can n)(i:Nat)(x:PB)(h:Xs[i]?=some x)(h1:iL Xs n<=i):i<lJ Xs n↔x.f=n:=by
 have a:=Jf hB hn i x h;rw[Ws hB hn i x h];constructor
 ·intro h2;exact Ge.um (hB.v x (aZ h)).cf hn (by show bn x.f n=0;omega)
 ·intro h2;rw[h2,wD];omega
theorem Ni(Xs:List PB)(n:Ge.Nd):lJ Xs n<=Xs.length:=FM _ _
theorem Nj{Xs:List PB}(hB:BD Xs){n:Ge.Nd}(hn:Ge.Can n)(h:∃x∈Xs,x.f=n):iL Xs n<lJ Xs n:=by
 obtain⟨x,hx,he⟩:=h;obtain⟨i,hi,hxi⟩:=iO.1 hx;have hg:Xs[i]?=some x:=by rw[aC hi,hxi]
 have h1:=Jf hB hn i x hg;have h2:=Ws hB hn i x hg;rw[he,wD] at h1 h2;have h3:¬i<iL Xs n:=fun h=>by have:=h1.1 h;omega
 have h4:i<lJ Xs n:=h2.2 (by omega)
 omega
def cJ(Xs:List PB)(i:Nat):Nat:=
 bG (fun j k=>qP (xi Xs i) (xi Xs j) (xi Xs k)) (List.range' (iL Xs (xi Xs i).t+1) (lJ Xs (xi Xs i).t-iL Xs (xi Xs i).t-1)) (iL Xs (xi Xs i).t)
theorem Eh{cf cg:Nat->Nat->Int}{f:Nat->Nat}:∀(l:List Nat)(m:Nat),(∀j∈m::l,∀k∈m::l,cf (f j) (f k)=cg j k)->bG cf (l.map f) (f m)=f (bG cg l m)
 |[],m,_=>rfl
 |b::l,m,h=>by
  show bG cf (l.map f) (if cf (f b) (f m)<0 then f b else f m)=f (bG cg l (if cg b m<0 then b else m))
  rw[h b (by simp) m (by simp)]
  by_cases hc:cg b m<0
  ·rw[aj hc,aj hc];exact Eh l b fun j hj k hk=>h j (aT _ hj) k (aT _ hk)
  ·rw[af hc,af hc];refine Eh l m fun j hj k hk=>h j ?_ k ?_
   ·rcases aP.1 hj with h|h
    ·rw[h];simp
    ·simp[h]
   ·rcases aP.1 hk with h|h
    ·rw[h];simp
    ·simp[h]
theorem Wt{Xs:List PB}{i:Nat}(h:iL Xs (xi Xs i).t<lJ Xs (xi Xs i).t):iL Xs (xi Xs i).t<=cJ Xs i/\cJ Xs i<lJ Xs (xi Xs i).t:=by
 unfold cJ;rcases wu (fun j k=>qP (xi Xs i) (xi Xs j) (xi Xs k)) (List.range' (iL Xs (xi Xs i).t+1) (lJ Xs (xi Xs i).t-iL Xs (xi Xs i).t-1)) (iL Xs (xi Xs i).t) with e|e
 ·rw[e];omega
 ·have:=FI.1 e;omega
theorem agW(s R g c d n cap:Nat)(T1 T2:Nat)(T3:Int)(w:World)(a4:w.cell? ⟨s,4,none⟩=some (.complex .f64 T1 T2))(a5:w.cell? ⟨s,5,none⟩=some (.int .i64 T3))
  (HL:Hid (Calls Tryz.prog 210 #[.slice (some ⟨g,0,none⟩) n cap,.agg #[.complex .f64 T1 T2,.int .i64 T3]] w fun e w'=>e=.returned (.slice (some ⟨g,c,none⟩) (d-c) (cap-c))/\Below w.heap.size w w'))
  (HM:Hid (∀w',Below w.heap.size w w'->Calls Tryz.prog 171 #[.slice (some ⟨g,c,none⟩) (d-c) (cap-c),.func (.func 211) #[.pointer (some ⟨s,0,none⟩)] #[]] w' fun e w''=>e=.returned (.pointer (some ⟨R,0,none⟩))/\Below w'.heap.size w' w'')):
  Calls Tryz.prog 165 #[.slice (some ⟨g,0,none⟩) n cap,.pointer (some ⟨s,0,none⟩)] w fun e w'=>e=.returned (.pointer (some ⟨R,0,none⟩))/\Below w.heap.size w w':=by
 go_enter Tryz.func165,Tryz.ntmps165
 go_wp2_with fail
 refine HL.out.mono ?_;rintro e w1 ⟨rfl,hb1⟩
 go_wp2_with fail
 refine(HM.out w1 hb1).mono ?_;rintro e w2 ⟨rfl,hb2⟩
 go_wp2_with fail
 go_ret
 exact⟨rfl,hb1.trans (hb2.mono hb1.size)⟩
theorem RB.at{w:World}{g:Nat}{bs:List Nat}{Xs:List PB}(h:RB w g bs Xs){i:Nat}(hi:i<Xs.length):iK w (bx bs i) (xi Xs i):=
 h.side i _ _ (wC (by rw[h.len];exact hi)) (uC hi)
theorem RB.cellAt{w:World}{g:Nat}{bs:List Nat}{Xs:List PB}(h:RB w g bs Xs){i:Nat}(hi:i<Xs.length):w.cell? ⟨g,i,none⟩=some (.pointer (some ⟨bx bs i,0,none⟩)):=
 h.row i _ (wC (by rw[h.len];exact hi))
theorem agX(bs:List Nat)(Xs:List PB)(hB:BD Xs)(hnd:bs.Nodup)(g cap i:Nat)(hi:i<Xs.length)(w:World)(hR:RB w g bs Xs)(hbc:bs.length<=cap)(hne:∃x∈Xs,x.f=(xi Xs i).t):
  Calls Tryz.prog 165 #[.slice (some ⟨g,0,none⟩) bs.length cap,.pointer (some ⟨bx bs i,0,none⟩)] w fun e w'=>e=.returned (.pointer (some ⟨bx bs (cJ Xs i),0,none⟩))/\Below w.heap.size w w':=by
 have hx:=gu hi;have Jh:=(hB.v _ hx).ct;have hlt:=Nj hB Jh hne;have uD:=Ni Xs (xi Xs i).t;have hbl:bs.length<=85000000:=by rw[hR.len];exact hB.len
 have hlen:=hR.len;have hs:=hR.at hi;refine agW (bx bs i) (bx bs (cJ Xs i)) g (iL Xs (xi Xs i).t) (lJ Xs (xi Xs i).t) bs.length cap _ _ _ w hs.c4 hs.c5 (agR bs Xs (xi Xs i).t g cap w _ _ hR hbl hbc hlt (by omega) (Jf hB Jh) (fun j x h1 h2=>Jg hB Jh j x h1 h2) hB.v (hB.v _ hx).t.inn Jh) ?_
 refine fun w' hb=>?_
 have hR':=hR.below hb;generalize hc:iL Xs (xi Xs i).t=c at*;generalize hd:lJ Xs (xi Xs i).t=d at*;have hm:=agO (fun b b'=>qP (xi Xs i) (xi Xs (bs.idxOf b)) (xi Xs (bs.idxOf b'))) (bx bs c) ((List.range' (c+1) (d-c-1)).map (bx bs)) g c (cap-c) (bx bs i) w' (by simp;omega)
  (fun k b hk=>by
   have agY:bx bs c::(List.range' (c+1) (d-c-1)).map (bx bs)=(List.range' c (d-c)).map (bx bs):=by
    have e:d-c=(d-c-1)+1:=by omega
    rw[e,List.range'_succ];rfl
   rw[agY] at hk;have hkl:k<d-c:=by
    have:=(bZ.1 hk).1;simpa using this
   rw[gz,List.getElem?_range' hkl] at hk;have hb':bx bs (c+k)=b:=by simpa using hk
   rw[<-hb'];exact hR'.cellAt (by omega))
  (fun b hb1 b' hb2 w'' hw=>by
   have key:∀b,b∈bx bs c::(List.range' (c+1) (d-c-1)).map (bx bs)->∃k,k<Xs.length/\b=bx bs k:=by
    intro b hb;rcases aP.1 hb with h|h
    ·exact⟨c,by omega,h⟩
    ·obtain⟨k,hk,rfl⟩:=aN.1 h;have:=FI.1 hk;exact⟨k,by omega,rfl⟩
   obtain⟨k1,h1,rfl⟩:=key b hb1;obtain⟨k2,h2,rfl⟩:=key b' hb2;have AB:=hR'.below hw;rw[mj hnd (by omega),mj hnd (by omega)]
   obtain⟨l,hl⟩:=hB.ld _ hx;obtain⟨l1,xG⟩:=hB.ld _ (gu h1);obtain⟨l2,hl2⟩:=hB.ld _ (gu h2);exact agN _ _ _ hl xG hl2 _ _ _ w'' (AB.at hi) (AB.at h1) (AB.at h2))
 have agZ:((List.range' (c+1) (d-c-1)).map (bx bs)).length+1=d-c:=by simp;omega
 have hmin:bG (fun b b'=>qP (xi Xs i) (xi Xs (bs.idxOf b)) (xi Xs (bs.idxOf b'))) ((List.range' (c+1) (d-c-1)).map (bx bs)) (bx bs c)=bx bs (cJ Xs i):=by
  unfold cJ;rw[hc,hd];refine Eh _ _ fun j hj k hk=>?_
  have key:∀j,j∈c::List.range' (c+1) (d-c-1)->j<bs.length:=by
   intro j hj;rcases aP.1 hj with h|h
   ·omega
   ·have:=FI.1 h;omega
  simp only[mj hnd (key j hj),mj hnd (key k hk)]
 rw[hmin] at hm;have ag0:(((List.range' (c+1) (d-c-1)).map (bx bs)).length:Nat)+1=d-c:=agZ;rw[ag0] at hm;exact hm
namespace Ga
open Ge
theorem ag1{rg:List (List Pt)}{l:List Nd}(hN:bC (ae rg) l){inn:Int->Bool}{n m c:Nd}(hout:inn (PP (ae rg) n)=false)(h:Sd (ae rg) l inn m n)(hc:Sd (ae rg) l inn n c)
  (hm:∀c',Sd (ae rg) l inn n c'->¬tC (wv m n) (wv n c') (wv n c)<0):ak (wv n c) (wv n m)=true:=by
 obtain⟨n1,_,hn⟩:=eF hN h.pc;obtain⟨n3,_,_⟩:=eF hN hc.pc;have m1:wv n m≠(0,0):=by rw[dU m n];exact jc n1
 have h1:=(h.yj hN).1;obtain⟨z,hz,cZ⟩:=K3 _ (wv n m) m1 (ay _) hout h1;obtain⟨c',hc',hsm⟩:=D4 hN hn hz;obtain⟨n4,_,_⟩:=eF hN hc'.pc;have MI:ak (wv n c') (wv n m)=true:=by rw[IW hsm];exact cZ
 have t:=gG n3 m1;rw[h.pS hN hc] at t;cases k:ak (wv n c) (wv n m)
 ·exfalso;rw[k] at t;have k':ak (wv n m) (wv n c)=true:=by revert t;cases ak (wv n m) (wv n c)<;>decide
  have:=(Cc m1 n4 n3 (h.pS hN hc') (h.pS hN hc)).2 (kJ.2 (ah (ag ⟨MI,k'⟩)));rw[<-dU] at this;exact hm c' hc' this
 ·rfl
theorem ag2{rg:List (List Pt)}{l:List Nd}(hN:bC (ae rg) l){inn:Int->Bool}{n m c k:Nd}(hout:inn (PP (ae rg) n)=false)(h:Sd (ae rg) l inn m n)(hr:aJ (wv n m))(hc:Sd (ae rg) l inn n c)
  (hm:∀c',Sd (ae rg) l inn n c'->¬tC (wv m n) (wv n c') (wv n c)<0)(hk:Sd (ae rg) l inn n k)(hle:ak (wv n c) (wv n k)=false):0<cr (wv m n) (wv n k):=by
 have h1:=ag1 hN hout h hc hm;obtain⟨n1,_,_⟩:=eF hN h.pc;obtain⟨n3,_,_⟩:=eF hN hc.pc;obtain⟨n4,_,_⟩:=eF hN hk.pc;have m1:wv n m≠(0,0):=by rw[dU m n];exact jc n1
 have t:=gG n3 n4;rw[hle] at t;have h2:ak (wv n k) (wv n m)=true:=by
  cases hs:ai (wv n c) (wv n k)
  ·rw[hs] at t;have:ak (wv n k) (wv n c)=true:=by revert t;cases ak (wv n k) (wv n c)<;>decide
   exact gQ n4 n3 m1 this h1
  ·rw[<-IW hs];exact h1
 have:=((F8 hr _).1 h2).2;rw[dU n m,dI];omega
theorem ag3{a x y z:Pt}(ha:a≠(0,0))(hx:x≠(0,0))(hy:y≠(0,0))(hz:z≠(0,0))(h1:cw a x y=true)(h2:cw a y z=true):cw a x z=true:=by
 rw[kJ] at*;have mn:ak y a=true->ak a y=true->False:=fun p q=>by
  rw[Gg hy ha p] at q;cases q
 rcases h1 with⟨p1,p2,p3⟩|⟨p1,p2⟩|⟨p1,p2,p3⟩<;>rcases h2 with⟨q1,q2,q3⟩|⟨q1,q2⟩|⟨q1,q2,q3⟩
 ·exact ag ⟨p1,q2,gQ hz hy hx q3 p3⟩
 ·exact ah (ag ⟨p1,q2⟩)
 ·exact(mn p2 q1).elim
 ·exact(mn q1 p2).elim
 ·exact(mn q1 p2).elim
 ·exact ah (ag ⟨p1,q2⟩)
 ·exact(mn q1 p2).elim
 ·exact(mn q1 p2).elim
 ·exact ah (ah ⟨p1,q2,gQ hz hy hx q3 p3⟩)
theorem ag4{n m:N3}(hn:0<n.2.2)(hm:0<m.2.2)(e1:n.1*m.2.2=m.1*n.2.2)(e2:n.2.1*m.2.2=m.2.1*n.2.2)(u v:Pt):right (rl n u) (rl n v)=right (rl m u) (rl m v):=by
 have k:∀p,sc m.2.2 (rl n p)=sc n.2.2 (rl m p):=fun p=>by
  obtain⟨e1,e2⟩:=MK e1 e2 p;unfold sc;exact bX e1 e2
 rw[<-y9 hm (rl n u) (rl n v),k,k,y9 hn]
end Ga
theorem sM(f t:Ge.Nd):(bU f t).1=(Ga.wv f t).1/\(bU f t).2.1=(Ga.wv f t).2:=by
 unfold bU Ga.wv;exact⟨by simp only;grind,by simp only;grind⟩
theorem wE(x y:PB):eW x y=(Ge.cr (Ga.wv x.f x.t) (Ga.wv y.f y.t)).sign:=by
 unfold eW Ge.cr;rw[(sM x.f x.t).1,(sM x.f x.t).2,(sM y.f y.t).1,(sM y.f y.t).2]
theorem Ji(s a b:PB):qP s a b=Ga.tC (Ga.wv s.f s.t) (Ga.wv a.f a.t) (Ga.wv b.f b.t):=by
 unfold qP Ga.tC;rw[wE,wE,wE]
theorem ag5(es:List Ed){f t:Ge.Nd}(hf:0<f.2.2)(ht:0<t.2.2):nP es f t=Ga.RR es f t/\pR es f t=Ga.LL es f t:=by
 obtain⟨c,q⟩:=Ge.MG (f.1+t.1) (f.2.1+t.2.1) (d:=f.2.2+t.2.2) (by omega)
 have hq:0<(Ga.bf f t).2.2:=by show 0<f.2.2+t.2.2;omega
 have e1:(dv f t).1*(Ga.bf f t).2.2=(Ga.bf f t).1*(dv f t).2.2:=by
  have k:=Ge.zS (a:=(dv f t).1) (c:=f.1+t.1) c.pos (show 0<f.2.2+t.2.2 by omega)
  have h':Ge.aW (dv f t).1 (dv f t).2.2=Ge.aW (f.1+t.1) (f.2.2+t.2.2):=au Prod.fst q;have k':Ge.fc (Ge.aW (dv f t).1 (dv f t).2.2) (Ge.aW (f.1+t.1) (f.2.2+t.2.2))=((dv f t).1*(f.2.2+t.2.2)-(f.1+t.1)*(dv f t).2.2).sign:=k;rw[h',Ge.zC] at k';have:=uY.1 k'.symm;show(dv f t).1*(f.2.2+t.2.2)=(f.1+t.1)*(dv f t).2.2;omega
 have e2:(dv f t).2.1*(Ga.bf f t).2.2=(Ga.bf f t).2.1*(dv f t).2.2:=by
  have k:=Ge.zS (a:=(dv f t).2.1) (c:=f.2.1+t.2.1) c.pos (show 0<f.2.2+t.2.2 by omega)
  have h':Ge.aW (dv f t).2.1 (dv f t).2.2=Ge.aW (f.2.1+t.2.1) (f.2.2+t.2.2):=au Prod.snd q;have k':Ge.fc (Ge.aW (dv f t).2.1 (dv f t).2.2) (Ge.aW (f.2.1+t.2.1) (f.2.2+t.2.2))=((dv f t).2.1*(f.2.2+t.2.2)-(f.2.1+t.2.1)*(dv f t).2.2).sign:=k;rw[h',Ge.zC] at k';have:=uY.1 k'.symm;show(dv f t).2.1*(f.2.2+t.2.2)=(f.2.1+t.2.1)*(dv f t).2.2;omega
 have hpos:0<(dv f t).2.2:=c.pos;have r:nP es f t=Ga.RR es f t:=by
  exact Ga.nD (F:=Ge.fr ((dv f t).1,(dv f t).2.1) (dv f t).2.2) (G:=fun u v=>Ge.right (Ga.rl (Ga.bf f t) u) (Ga.rl (Ga.bf f t) v)) fun e _=>Ga.ag4 hpos hq e1 e2 e.1 e.2
 refine⟨r,?_⟩;have k:Ge.total (Ge.fa (dv f t) (bU f t)) es=Ge.total (Ga.fb (Ga.bf f t) (Ga.wv f t)) es:=by
  refine Ga.nD fun e _=>?_
  unfold Ge.fa Ga.fb;have ho:Ge.fo ((dv f t).1,(dv f t).2.1) (dv f t).2.2 (e.1,e.2)=Ge.on (Ga.rl (Ga.bf f t) e.1) (Ga.rl (Ga.bf f t) e.2):=by
   show Ge.on (Ga.rl (dv f t) e.1) (Ga.rl (dv f t) e.2)=_;cases h1:Ge.on (Ga.rl (Ga.bf f t) e.1) (Ga.rl (Ga.bf f t) e.2)
   ·cases h2:Ge.on (Ga.rl (dv f t) e.1) (Ga.rl (dv f t) e.2)
    ·rfl
    ·rw[Ga.IQ hq hpos e1.symm e2.symm h2] at h1;cases h1
   ·exact Ga.IQ hpos hq e1 e2 h1
  rw[ho,(sM f t).1,(sM f t).2]
 show nP es f t+Ge.total (Ge.fa (dv f t) (bU f t)) es=_;rw[r,k];rfl
end Go.Proofs.YtkjhhooecopolaaGreatDoor

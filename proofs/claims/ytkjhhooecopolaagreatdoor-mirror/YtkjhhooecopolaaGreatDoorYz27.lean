import Derived.Test.YtkjhhooecopolaaGreatDoorYz26
set_option maxRecDepth 100000
set_option maxHeartbeats 4000000
namespace Go.Proofs.YtkjhhooecopolaaGreatDoor
open Go.RowKit
structure RB(w:World)(g:Nat)(bs:List Nat)(Xs:List PB):Prop where
 len:bs.length=Xs.length
 row:∀(i:Nat) b,bs[i]?=some b->w.cell? ⟨g,i,none⟩=some (.pointer (some ⟨b,0,none⟩))
 side:∀(i:Nat) b x,bs[i]?=some b->Xs[i]?=some x->iN w b x
theorem RB.below{w w':World}{g:Nat}{bs:List Nat}{Xs:List PB}(h:RB w g bs Xs)(hb:Below w.heap.size w w'):RB w' g bs Xs:=
 ⟨h.len,fun i b h1=>(hb.cell (p:=⟨g,i,none⟩) (lt_of_cell (h.row i b h1))).trans (h.row i b h1),fun i b x h1 h2=>(h.side i b x h1 h2).below hb⟩
theorem aiO(bs:List Nat)(Xs:List PB)(n:Ge.Nd)(g cap:Nat)(w:World)(N1 N2:Nat)(N3:Int)(c:Nat)(hR:RB w g bs Xs)(hl:bs.length<=85000000)(hcl:c<=bs.length)
  (hc:∀i x,Xs[i]?=some x->(i<c↔bg x.f n<0))
  (HC:Hid (∀b x w',iN w' b x->x∈Xs->Calls Tryz.prog 254 #[.pointer (some ⟨b,0,none⟩),.agg #[.complex .f64 N1 N2,.int .i64 N3]] w' fun r w''=>r=.returned (.int .i64 (bg x.f n))/\Below w'.heap.size w' w'')):
  Calls Tryz.prog 253 #[.slice (some ⟨g,0,none⟩) bs.length cap,.agg #[.complex .f64 N1 N2,.int .i64 N3],.func (.func 254) #[] #[]] w fun e w'=>∃f,e=.returned (.tuple #[.int .i64 c,.bool f])/\Below w.heap.size w w':=by
 have HR:Hid (RB w g bs Xs):=hR;have tQ:Hid (∀i x,Xs[i]?=some x->(i<c↔bg x.f n<0)):=hc;clear hR hc
 go_enter Tryz.func253,Tryz.ntmps253
 go_wp2_with fail
 have bw:Hid (Below w.heap.size w (w.alloc (.cells #[.complex .f64 N1 N2,.int .i64 N3] 83))/\(w.alloc (.cells #[.complex .f64 N1 N2,.int .i64 N3] 83)).heap[w.heap.size]?=some (.cells #[.complex .f64 N1 N2,.int .i64 N3] 83 (0,0))):=⟨(Below.refl _ _).alloc (ai _) _,heap_alloc_new _ _⟩;generalize w.alloc (.cells #[.complex .f64 N1 N2,.int .i64 N3] 83)=W0 at*
 go_loopg [9,10] bs.length (fun m iv jv wr=>∃i j:Nat,i<=c/\c<=j/\j<=bs.length/\j-i<=m/\iv=.int .i64 i/\jv=.int .i64 j/\Hid (Below w.heap.size w wr/\wr.heap[w.heap.size]?=some (.cells #[.complex .f64 N1 N2,.int .i64 N3] 83 (0,0))))
 case atStart=>exact⟨0,bs.length,by omega,hcl,ai _,by omega,rfl,rfl,bw⟩
 case round=>
  obtain⟨i,j,h1,h2,h3,h4,rfl,rfl,HB⟩:=hrel;clear bw;obtain⟨ak,hT⟩:=HB.out;have t0:wr.cell? ⟨w.heap.size,0,none⟩=some (.complex .f64 N1 N2):=cell_of hT 0;have t1:wr.cell? ⟨w.heap.size,1,none⟩=some (.int .i64 N3):=cell_of hT 1;have qx:w.heap.size<wr.heap.size:=lt_of_heap hT;by_cases hlt:i<j
  ·obtain⟨H,hH⟩:∃H,(i+j)/2=H:=⟨_,rfl⟩;have Yn:H<bs.length:=by omega
   obtain⟨b,hb⟩:∃b,bs[H]?=some b:=⟨_,aD Yn⟩;obtain⟨x,hx⟩:∃x,Xs[H]?=some x:=⟨_,aD (by rw[<-HR.out.len];exact Yn)⟩
   have r0:=(ak.cell (p:=⟨g,H,none⟩) (lt_of_cell (HR.out.row H b hb))).trans (HR.out.row H b hb);have iE:Hid (∀w',Below w.heap.size w w'->Calls Tryz.prog 254 #[.pointer (some ⟨b,0,none⟩),.agg #[.complex .f64 N1 N2,.int .i64 N3]] w' fun r w''=>r=.returned (.int .i64 (bg x.f n))/\Below w'.heap.size w' w''):=fun w' hb'=>HC.out b x w' ((HR.out.side H b x hb hx).below hb') (bn hx)
   have tJ:Hid (H<c↔bg x.f n<0):=tQ.out H x hx;have hij:(i:Int)<(j:Int):=by omega
   have hw1:IntKind.i64.wrap ((i:Int)+(j:Int))=(i:Int)+(j:Int):=by rw[IntKind.wrap_i64];omega
   have hw2:IntKind.u64.wrap ((i:Int)+(j:Int))=(i:Int)+(j:Int):=by simp[IntKind.wrap,IntKind.bits,IntKind.signed];omega
   have hHi:(H:Int)<(bs.length:Int):=by omega
   have hmid:((i:Int)+(j:Int))/2=(H:Int):=by omega
   have hH0:(0:Int)<=(H:Int):=by omega
   have Yo:Hid (i<=H/\H<j):=by
    show i<=H/\H<j;omega
   have hgr:g<wr.heap.size:=lt_of_cell r0;have pS:Below w.heap.size w wr.drew:=ak.drew;clear hb hx hH;generalize bg x.f n=V at*
   go_wp2_with fail
   go_region_held3 (fun w'=>w'.cell? ⟨w.heap.size,0,none⟩=some (.complex .f64 N1 N2)/\w'.cell? ⟨w.heap.size,1,none⟩=some (.int .i64 N3)/\w'.cell? ⟨g,H,none⟩=some (.pointer (some ⟨b,0,none⟩))) (go_keep) (first
    |(go_at_call 254;refine(iE.out _ pS).mono ?_;rintro e w5 ⟨rfl,ax⟩;have e0:=(ax.cell (p:=⟨w.heap.size,0,none⟩) qx).trans t0;have e1:=(ax.cell (p:=⟨w.heap.size,1,none⟩) qx).trans t1;have e2:=(ax.cell (p:=⟨g,H,none⟩) hgr).trans r0))
   all_goals
    have eT:Hid (Below w.heap.size w w5/\w5.heap[w.heap.size]?=some (.cells #[.complex .f64 N1 N2,.int .i64 N3] 83 (0,0))):=⟨pS.trans (ax.mono pS.size),(ax.block _ qx).trans hT⟩;clear ax iE e0 e1 e2;by_cases hV:V<0
    ·have hVc:H<c:=tJ.out.2 hV
     go_wp2_with fail
     go_roundg (j-(H+1))
     case measure=>have:=Yo.out;omega
     case rel=>exact⟨H+1,j,by omega,h2,h3,ai _,by go_num,rfl,eT⟩
    ·have hVc:¬H<c:=fun h=>hV (tJ.out.1 h)
     have Oz:decide (V<0)=false:=lZ hV
     go_wp2_with fail
     go_roundg (H-i)
     case measure=>have:=Yo.out;omega
     case rel=>exact⟨i,H,h1,by omega,by omega,ai _,rfl,rfl,eT⟩
  ·have hic:i=c:=by omega
   subst hic;by_cases hin:i<bs.length
   ·obtain⟨b,hb⟩:∃b,bs[i]?=some b:=⟨_,aD hin⟩;obtain⟨x,hx⟩:∃x,Xs[i]?=some x:=⟨_,aD (by rw[<-HR.out.len];exact hin)⟩
    have r0:=(ak.cell (p:=⟨g,i,none⟩) (lt_of_cell (HR.out.row i b hb))).trans (HR.out.row i b hb);have iE:Hid (∀w',Below w.heap.size w w'->Calls Tryz.prog 254 #[.pointer (some ⟨b,0,none⟩),.agg #[.complex .f64 N1 N2,.int .i64 N3]] w' fun r w''=>r=.returned (.int .i64 (bg x.f n))/\Below w'.heap.size w' w''):=fun w' hb'=>HC.out b x w' ((HR.out.side i b x hb hx).below hb') (bn hx)
    have BJ:(i:Int)<(bs.length:Int):=by omega
    have hgr:g<wr.heap.size:=lt_of_cell r0;clear hb hx HR HC tQ;generalize bg x.f n=V at*;have pS:Below w.heap.size w wr.drew:=ak.drew
    go_wp2_with fail
    go_region_held3 (fun w'=>w'.cell? ⟨w.heap.size,0,none⟩=some (.complex .f64 N1 N2)/\w'.cell? ⟨w.heap.size,1,none⟩=some (.int .i64 N3)/\w'.cell? ⟨g,i,none⟩=some (.pointer (some ⟨b,0,none⟩))) (go_keep) (first
     |(go_at_call 254;refine(iE.out _ pS).mono ?_;rintro e w5 ⟨rfl,ax⟩;have e0:=(ax.cell (p:=⟨w.heap.size,0,none⟩) qx).trans t0;have e1:=(ax.cell (p:=⟨w.heap.size,1,none⟩) qx).trans t1;have e2:=(ax.cell (p:=⟨g,i,none⟩) hgr).trans r0))
    all_goals
     have eT:Hid (Below w.heap.size w w5):=pS.trans (ax.mono pS.size);clear ax iE e0 e1 e2
     go_wp2_with fail
     refine bodyPost_ret (v:=.tuple #[.int .i64 i,.bool (V == 0)]) (by simp[results,Tryz.results253,go_sem]) rfl ⟨V == 0,rfl,eT.out⟩
   ·have BJ:decide ((i:Int)<(bs.length:Int))=false:=by simp;omega
    clear HR HC tQ
    go_wp2_with fail
    refine wp_region_held_drew (S:=(fun _=>True)) (by kernel_rfl) trivial (fun hHeld=>?_)
    refine wpAnyH_take (i:=0) (oi:={dst:=some 35,op:=_,type:=_,pos:=_,after:=_,guard:=_}) (v:=?_) rfl (by kernel_rfl) (by kernel_rfl) (by kernel_rfl) (fun _ _ _ h=>h) (ae ⟨by rfl,?_⟩) hHeld ?_
    rotate_left
    ·intro w' aB
     go_simp
     try with_reducible rfl
    simp only[Act.put,aI,aJ,aG];refine wpAnyH_take (i:=1) (oi:={dst:=some 36,op:=_,type:=_,pos:=_,after:=_,guard:=_}) (v:=?_) rfl (by kernel_rfl) (by kernel_rfl) (by kernel_rfl) (fun _ _ _ h=>h) (ae ⟨by rfl,?_⟩) hHeld ?_
    rotate_left
    ·intro w' aB
     go_simp
     try with_reducible rfl
    simp only[Act.put,aI,aJ,aG];refine wpAnyH_take (i:=2) (oi:={dst:=some 37,op:=_,type:=_,pos:=_,after:=_,guard:=_}) (v:=?_) rfl (by kernel_rfl) (by kernel_rfl) (by kernel_rfl) (fun _ _ _ h=>h) (ae ⟨by rfl,?_⟩) hHeld ?_
    rotate_left
    ·intro w' aB
     go_simp
     try with_reducible rfl
    simp only[Act.put,aI,aJ,aG];refine wpAnyH_take (i:=3) (oi:={dst:=some 38,op:=_,type:=_,pos:=_,after:=_,guard:=_}) (v:=?_) rfl (by kernel_rfl) (by kernel_rfl) (by kernel_rfl) (fun _ _ _ h=>h) (ae ⟨by rfl,?_⟩) hHeld ?_
    rotate_left
    ·intro w' aB
     go_simp
     try with_reducible rfl
    simp only[Act.put,aI,aJ,aG];refine wpAnyH_take (i:=4) (oi:={dst:=some 39,op:=_,type:=_,pos:=_,after:=_,guard:=_}) (v:=?_) rfl (by kernel_rfl) (by kernel_rfl) (by kernel_rfl) (fun _ _ _ h=>h) (ae ⟨by rfl,?_⟩) hHeld ?_
    rotate_left
    ·intro w' aB
     go_simp
     try with_reducible rfl
    simp only[Act.put,aI,aJ,aG];refine wpAnyH_take (i:=5) (oi:={dst:=some 40,op:=_,type:=_,pos:=_,after:=_,guard:=_}) (v:=undef) rfl (by kernel_rfl) (by kernel_rfl) (by kernel_rfl) (fun _ _ _ h=>h) (af ⟨by kernel_rfl,rfl⟩) hHeld ?_
    simp only[Act.put,aI,aJ,aG];refine wpAnyH_take (i:=6) (oi:={dst:=some 41,op:=_,type:=_,pos:=_,after:=_,guard:=_}) (v:=undef) rfl (by kernel_rfl) (by kernel_rfl) (by kernel_rfl) (fun _ _ _ h=>h) (af ⟨by kernel_rfl,rfl⟩) hHeld ?_
    simp only[Act.put,aI,aJ,aG];refine wpAnyH_take (i:=7) (oi:={dst:=some 42,op:=_,type:=_,pos:=_,after:=_,guard:=_}) (v:=undef) rfl (by kernel_rfl) (by kernel_rfl) (by kernel_rfl) (fun _ _ _ h=>h) (af ⟨by kernel_rfl,rfl⟩) hHeld ?_
    simp only[Act.put,aI,aJ,aG];refine wpAnyH_take (i:=8) (oi:={dst:=some 43,op:=_,type:=_,pos:=_,after:=_,guard:=_}) (v:=undef) rfl (by kernel_rfl) (by kernel_rfl) (by kernel_rfl) (fun _ _ _ h=>h) (af ⟨by kernel_rfl,rfl⟩) hHeld ?_
    simp only[Act.put,aI,aJ,aG];refine wpAnyH_take (i:=9) (oi:={dst:=some 44,op:=_,type:=_,pos:=_,after:=_,guard:=_}) (v:=undef) rfl (by kernel_rfl) (by kernel_rfl) (by kernel_rfl) (fun _ _ _ h=>h) (af ⟨by kernel_rfl,rfl⟩) hHeld ?_
    simp only[Act.put,aI,aJ,aG];refine wpAnyH_take (i:=10) (oi:={dst:=some 45,op:=_,type:=_,pos:=_,after:=_,guard:=_}) (v:=undef) rfl (by kernel_rfl) (by kernel_rfl) (by kernel_rfl) (fun _ _ _ h=>h) (af ⟨by kernel_rfl,rfl⟩) hHeld ?_
    simp only[Act.put,aI,aJ,aG];refine wpAnyH_take (i:=11) (oi:={dst:=some 46,op:=_,type:=_,pos:=_,after:=_,guard:=_}) (v:=undef) rfl (by kernel_rfl) (by kernel_rfl) (by kernel_rfl) (fun _ _ _ h=>h) (af ⟨by kernel_rfl,rfl⟩) hHeld ?_
    simp only[Act.put,aI,aJ,aG];refine wpAnyH_take (i:=12) (oi:={dst:=some 47,op:=_,type:=_,pos:=_,after:=_,guard:=_}) (v:=undef) rfl (by kernel_rfl) (by kernel_rfl) (by kernel_rfl) (fun _ _ _ h=>h) (af ⟨by kernel_rfl,rfl⟩) hHeld ?_
    simp only[Act.put,aI,aJ,aG];refine wpAnyH_take (i:=13) (oi:={dst:=some 48,op:=_,type:=_,pos:=_,after:=_,guard:=_}) (v:=?_) rfl (by kernel_rfl) (by kernel_rfl) (by kernel_rfl) (fun _ _ _ h=>h) (ae ⟨by rfl,?_⟩) hHeld ?_
    rotate_left
    ·intro w' aB
     go_simp
     try with_reducible rfl
    simp only[Act.put,aI,aJ,aG];refine wpAnyH_take (i:=14) (oi:={dst:=some 6,op:=_,type:=_,pos:=_,after:=_,guard:=_}) (v:=?_) rfl (by kernel_rfl) (by kernel_rfl) (by kernel_rfl) (fun _ _ _ h=>h) (ae ⟨by rfl,?_⟩) hHeld ?_
    rotate_left
    ·intro w' aB
     go_simp
     try with_reducible rfl
    simp only[Act.put,aI,aJ,aG];refine wpAnyH_take (i:=15) (oi:={dst:=some 7,op:=_,type:=_,pos:=_,after:=_,guard:=_}) (v:=?_) rfl (by kernel_rfl) (by kernel_rfl) (by kernel_rfl) (fun _ _ _ h=>h) (ae ⟨by rfl,?_⟩) hHeld ?_
    rotate_left
    ·intro w' aB
     go_simp
     try with_reducible rfl
    simp only[Act.put,aI,aJ,aG];refine wpAnyH_done (by kernel_rfl) ?_ _
    go_wp2_with fail
    refine bodyPost_ret (v:=.tuple #[.int .i64 i,.bool false]) (by simp[results,Tryz.results253,go_sem]) rfl ⟨false,rfl,ak.drew⟩
theorem aiQ(bs:List Nat)(Xs:List PB)(n:Ge.Nd)(g cap:Nat)(w:World)(c d:Nat)(hR:RB w g bs Xs)(hl:bs.length<=85000000)(hbc:bs.length<=cap)(Hd:c<d)(sM:d<=bs.length)
  (hc:∀i x,Xs[i]?=some x->(i<c↔bg x.f n<0))(hd:∀i x,Xs[i]?=some x->c<=i->(i<d↔x.f=n))(hv:∀x∈Xs,cU x)(hn:dC n.1 n.2.1 n.2.2)(hcn:Ge.Can n):
  Calls Tryz.prog 210 #[.slice (some ⟨g,0,none⟩) bs.length cap,ie n] w fun e w'=>e=.returned (.slice (some ⟨g,c,none⟩) (d-c) (cap-c))/\Below w.heap.size w w':=by
 have zk:=fun w'(hb:Below w.heap.size w w')=>aiO bs Xs n g cap w' (floatOfInt .f64 n.1) (floatOfInt .f64 n.2.1) n.2.2 c (hR.below hb) hl (by omega) hc (fun b x w'' h1 hx=>aiI x n (hv x hx) hn hcn b w'' h1)
 have HR:Hid (RB w g bs Xs):=hR;have HD:Hid (∀i x,Xs[i]?=some x->c<=i->(i<d↔x.f=n)):=hd;have OA:Hid (∀x∈Xs,∀w,(binOp .eql 83 (.agg #[.complex .f64 (floatOfInt .f64 x.f.1) (floatOfInt .f64 x.f.2.1),.int .i64 x.f.2.2]) (.agg #[.complex .f64 (floatOfInt .f64 n.1) (floatOfInt .f64 n.2.1),.int .i64 n.2.2])).run Tryz.prog w=.ok (.bool (decide (x.f=n))) w):=fun x hx w=>En x.f n (hv x hx).f.aF hn w
 unfold ie;have qy:Hid (∀w',Below w.heap.size w w'->Calls Tryz.prog 253 #[.slice (some ⟨g,0,none⟩) bs.length cap,.agg #[.complex .f64 (floatOfInt .f64 n.1) (floatOfInt .f64 n.2.1),.int .i64 n.2.2],.func (.func 254) #[] #[]] w' fun e w''=>∃f,e=.returned (.tuple #[.int .i64 c,.bool f])/\Below w'.heap.size w' w''):=zk
 clear zk hR hc hd hv hn hcn;generalize floatOfInt .f64 n.1=N1 at*;generalize floatOfInt .f64 n.2.1=N2 at*;generalize Bt:n.2.2=N3 at*;have hb0:Below w.heap.size w (w.alloc (.cells #[.complex .f64 N1 N2,.int .i64 N3] 83)):=(Below.refl _ _).alloc (ai _) _;have hT0:=heap_alloc_new w (.cells #[.complex .f64 N1 N2,.int .i64 N3] 83);have hz:w.heap.size<(w.alloc (.cells #[.complex .f64 N1 N2,.int .i64 N3] 83)).heap.size:=by simp
 go_enter Tryz.func210,Tryz.ntmps210
 go_wp2_with fail
 generalize w.alloc (.cells #[.complex .f64 N1 N2,.int .i64 N3] 83)=W0 at*;refine(qy.out _ hb0).mono ?_;rintro e w1 ⟨f,rfl,hb1⟩;have bw:Hid (Below w.heap.size w w1/\w1.heap[w.heap.size]?=some (.cells #[.complex .f64 N1 N2,.int .i64 N3] 83 (0,0))):=⟨hb0.trans (hb1.mono hb0.size),(hb1.block _ hz).trans hT0⟩;clear hb0 hb1 hT0 qy
 go_wp2_with fail
 go_loopg [7] (d-c) (fun m iv wr=>∃k:Nat,c<=k/\k<=d/\d-k<=m/\iv=.int .i64 k/\Hid (Below w.heap.size w wr/\wr.heap[w.heap.size]?=some (.cells #[.complex .f64 N1 N2,.int .i64 N3] 83 (0,0))))
 case atStart=>exact⟨c,ai _,eF Hd,ai _,rfl,bw⟩
 case round=>
  obtain⟨k,h1,h2,h3,rfl,HB⟩:=hrel;clear bw;obtain⟨ak,hT⟩:=HB.out;have t0:wr.cell? ⟨w.heap.size,0,none⟩=some (.complex .f64 N1 N2):=cell_of hT 0;have t1:wr.cell? ⟨w.heap.size,1,none⟩=some (.int .i64 N3):=cell_of hT 1;by_cases hin:k<bs.length
  ·obtain⟨b,hb⟩:∃b,bs[k]?=some b:=⟨_,aD hin⟩;obtain⟨x,hx⟩:∃x,Xs[k]?=some x:=⟨_,aD (by rw[<-HR.out.len];exact hin)⟩
   have r0:=(ak.cell (p:=⟨g,k,none⟩) (lt_of_cell (HR.out.row k b hb))).trans (HR.out.row k b hb);have E7:=(HR.out.side k b x hb hx).below ak;have s2:=E7.c2;have s3:=E7.c3;have hop:=OA.out x (bn hx);have tJ:Hid (k<d↔x.f=n):=HD.out k x hx h1;have BJ:(k:Int)<(bs.length:Int):=by omega
   clear hb hx E7 HR HD OA;generalize floatOfInt .f64 x.f.1=X1 at*;generalize floatOfInt .f64 x.f.2.1=X2 at*;generalize Be:x.f.2.2=X3 at*;clear Be Bt;by_cases Yp:k<d
   ·have lL:decide (x.f=n)=true:=iu (tJ.out.1 Yp);rw[lL] at hop;clear lL tJ
    go_wp2_with fail
    go_quiet (fail)
    go_wp2_with fail
    go_roundg (d-(k+1))
    case measure=>omega
    case rel=>exact⟨k+1,by omega,by omega,ai _,by go_num,pF ak _,hT⟩
   ·have lL:decide (x.f=n)=false:=lZ fun h=>Yp (tJ.out.2 h)
    have OB:k=d:=by omega
    rw[lL] at hop;clear lL tJ;subst OB
    go_wp2_with fail
    go_quiet (fail)
    go_wp2_with fail
    go_ret
    exact⟨rfl,pF ak _⟩
  ·have BJ:decide ((k:Int)<(bs.length:Int))=false:=by simp;omega
   have OB:k=d:=by omega
   subst OB;clear HR HD OA
   go_wp2_with fail
   go_quiet (fail)
   go_wp2_with fail
   go_ret
   exact⟨rfl,pF ak _⟩
def pb0:PB:=⟨0,0,0,(0,0,0),(0,0,0)⟩
def xi(Xs:List PB)(i:Nat):PB:=Xs.getD i pb0
def bx(bs:List Nat)(i:Nat):Nat:=bs.getD i 0
theorem vC{Xs:List PB}{i:Nat}{x:PB}(h:Xs[i]?=some x):xi Xs i=x:=by
 unfold xi;rw[l9,h];rfl
theorem vD{Xs:List PB}{i:Nat}(h:i<Xs.length):Xs[i]?=some (xi Xs i):=by
 rw[aD h,vC (aD h)]
theorem E8{bs:List Nat}{i b:Nat}(h:bs[i]?=some b):bx bs i=b:=by
 unfold bx;rw[l9,h];rfl
theorem xw{bs:List Nat}{i:Nat}(h:i<bs.length):bs[i]?=some (bx bs i):=by
 rw[aD h,E8 (aD h)]
theorem qz{bs:List Nat}{i:Nat}(h:i<bs.length):bx bs i∈bs:=bn (xw h)
theorem gA{Xs:List PB}{i:Nat}(h:i<Xs.length):xi Xs i∈Xs:=bn (vD h)
theorem mN{bs:List Nat}(hn:bs.Nodup){i:Nat}(h:i<bs.length):bs.idxOf (bx bs i)=i:=by
 have e:bx bs i=bs[i]:=E8 (aD h);rw[e];exact acO hn i h
structure BD(Xs:List PB):Prop where
 v:∀x∈Xs,cU x
 ld:∀x∈Xs,∃l,LD x l
 pR:Xs.Pairwise fun a b=>¬bg b.f a.f<0
 len:Xs.length<=85000000
theorem OD{α:Type}(p:α->Bool):∀(l:List α),l.Pairwise (fun a b=>p b=true->p a=true)->∀(i:Nat) x,l[i]?=some x->(i<(l.filter p).length↔p x=true)
 |[],_,i,x,h=>by simp at h
 |a::l,hp,0,x,h=>by
  have hx:a=x:=by simpa using h
  subst hx;by_cases ha:p a=true
  ·simp[ha]
  ·have:(a::l).filter p=[]:=List.filter_eq_nil_iff.2 fun y hy=>by
    rcases aV.1 hy with rfl|hy
    ·exact ha
    ·exact fun hpy=>ha ((gv.1 hp).1 y hy hpy)
   rw[this];simp[ha]
 |a::l,hp,i+1,x,h=>by
  have hx:l[i]?=some x:=by simpa using h
  have ih:=OD p l (gv.1 hp).2 i x hx;by_cases ha:p a=true
  ·rw[CG ha,bW,Nat.add_lt_add_iff_right];exact ih
  ·have hpx:¬p x=true:=fun hpx=>ha ((gv.1 hp).1 x (bn hx) hpx)
   rw[xZ ha];constructor
   ·intro h2;exact absurd (ih.1 (by omega)) hpx
   ·intro h2;exact absurd h2 hpx
def iO(Xs:List PB)(n:Ge.Nd):Nat:=(Xs.filter fun x=>decide (bg x.f n<0)).length
def lT(Xs:List PB)(n:Ge.Nd):Nat:=(Xs.filter fun x=>decide (bg x.f n<=0)).length
theorem BK{a b:Ge.Nd}:bg a b<0↔Ge.lt (Ge.ay a) (Ge.ay b):=by unfold bg Ge.lt;exact Iff.rfl
theorem aiT{a b c:Ge.Nd}(ha:Ge.Can a)(hb:Ge.Can b)(hc:Ge.Can c)(h1:¬bg b a<0)(h2:bg b c<0):bg a c<0:=by
 by_cases he:a=b
 ·rw[he];exact h2
 ·exact Ge.lt_trans (Ge.cS ha) (Ge.cS hb) (Ge.cS hc) (Ge.Bh ha hb h1 he) h2
theorem OE(a b:Ge.Nd):bg b a= -bg a b:=Ge.H0 _ _
theorem JJ{Xs:List PB}(hB:BD Xs){n:Ge.Nd}(hn:Ge.Can n)(i:Nat)(x:PB)(h:Xs[i]?=some x):i<iO Xs n↔bg x.f n<0:=by
 have hp:Xs.Pairwise fun a b=>decide (bg b.f n<0)=true->decide (bg a.f n<0)=true:=by
  refine qG (fun{a b} ha hb hab=>?_) hB.pR
  simp only[wh];exact fun h2=>aiT (hB.v a ha).cf (hB.v b hb).cf hn hab h2
 have:=OD _ Xs hp i x h;simpa[iO] using this
theorem Yq{Xs:List PB}(hB:BD Xs){n:Ge.Nd}(hn:Ge.Can n)(i:Nat)(x:PB)(h:Xs[i]?=some x):i<lT Xs n↔bg x.f n<=0:=by
 have hp:Xs.Pairwise fun a b=>decide (bg b.f n<=0)=true->decide (bg a.f n<=0)=true:=by
  refine qG (fun{a b} ha hb hab=>?_) hB.pR
  simp only[wh];intro h2;apply Cr.1;intro h3;have h4:bg n a.f<0:=by rw[OE a.f n];omega
  have h5:bg n b.f<0:=by
   by_cases he:a.f=b.f
   ·rw[<-he];exact h4
   ·exact Ge.lt_trans (Ge.cS hn) (Ge.cS (hB.v a ha).cf) (Ge.cS (hB.v b hb).cf) h4 (Ge.Bh (hB.v a ha).cf (hB.v b hb).cf hab he)
  rw[OE b.f n] at h5;omega
 have:=OD _ Xs hp i x h;simpa[lT] using this
theorem xx(a:Ge.Nd):bg a a=0:=Ge.yA _
theorem JK{Xs:List PB}(hB:BD Xs){n:Ge.Nd}(hn:Ge.Can n)(i:Nat)(x:PB)(h:Xs[i]?=some x)(h1:iO Xs n<=i):i<lT Xs n↔x.f=n:=by
 have a:=JJ hB hn i x h;rw[Yq hB hn i x h];constructor
 ·intro h2;exact Ge.vk (hB.v x (bn h)).cf hn (by show bg x.f n=0;omega)
 ·intro h2;rw[h2,xx];omega
theorem OG(Xs:List PB)(n:Ge.Nd):lT Xs n<=Xs.length:=GF _ _
theorem OH{Xs:List PB}(hB:BD Xs){n:Ge.Nd}(hn:Ge.Can n)(h:∃x∈Xs,x.f=n):iO Xs n<lT Xs n:=by
 obtain⟨x,hx,he⟩:=h;obtain⟨i,hi,hxi⟩:=kB.1 hx;have hg:Xs[i]?=some x:=by rw[aD hi,hxi]
 have h1:=JJ hB hn i x hg;have h2:=Yq hB hn i x hg;rw[he,xx] at h1 h2;have h3:¬i<iO Xs n:=fun h=>by have:=h1.1 h;omega
 have h4:i<lT Xs n:=h2.2 (by omega)
 omega
def cE(Xs:List PB)(i:Nat):Nat:=
 bC (fun j k=>rG (xi Xs i) (xi Xs j) (xi Xs k)) (List.range' (iO Xs (xi Xs i).t+1) (lT Xs (xi Xs i).t-iO Xs (xi Xs i).t-1)) (iO Xs (xi Xs i).t)
theorem E9{cf cg:Nat->Nat->Int}{f:Nat->Nat}:∀(l:List Nat)(m:Nat),(∀j∈m::l,∀k∈m::l,cf (f j) (f k)=cg j k)->bC cf (l.map f) (f m)=f (bC cg l m)
 |[],m,_=>rfl
 |b::l,m,h=>by
  show bC cf (l.map f) (if cf (f b) (f m)<0 then f b else f m)=f (bC cg l (if cg b m<0 then b else m))
  rw[h b (by simp) m (by simp)]
  by_cases hc:cg b m<0
  ·rw[ah hc,ah hc];exact E9 l b fun j hj k hk=>h j (bz _ hj) k (bz _ hk)
  ·rw[aa hc,aa hc];refine E9 l m fun j hj k hk=>h j ?_ k ?_
   ·rcases aV.1 hj with h|h
    ·rw[h];simp
    ·simp[h]
   ·rcases aV.1 hk with h|h
    ·rw[h];simp
    ·simp[h]
theorem Yr{Xs:List PB}{i:Nat}(h:iO Xs (xi Xs i).t<lT Xs (xi Xs i).t):iO Xs (xi Xs i).t<=cE Xs i/\cE Xs i<lT Xs (xi Xs i).t:=by
 unfold cE;rcases xt (fun j k=>rG (xi Xs i) (xi Xs j) (xi Xs k)) (List.range' (iO Xs (xi Xs i).t+1) (lT Xs (xi Xs i).t-iO Xs (xi Xs i).t-1)) (iO Xs (xi Xs i).t) with e|e
 ·rw[e];omega
 ·have:=Gx.1 e;omega
theorem aiV(s R g c d n cap:Nat)(T1 T2:Nat)(T3:Int)(w:World)(a4:w.cell? ⟨s,4,none⟩=some (.complex .f64 T1 T2))(a5:w.cell? ⟨s,5,none⟩=some (.int .i64 T3))
  (HL:Hid (Calls Tryz.prog 210 #[.slice (some ⟨g,0,none⟩) n cap,.agg #[.complex .f64 T1 T2,.int .i64 T3]] w fun e w'=>e=.returned (.slice (some ⟨g,c,none⟩) (d-c) (cap-c))/\Below w.heap.size w w'))
  (HM:Hid (∀w',Below w.heap.size w w'->Calls Tryz.prog 171 #[.slice (some ⟨g,c,none⟩) (d-c) (cap-c),.func (.func 211) #[.pointer (some ⟨s,0,none⟩)] #[]] w' fun e w''=>e=.returned (.pointer (some ⟨R,0,none⟩))/\Below w'.heap.size w' w'')):
  Calls Tryz.prog 165 #[.slice (some ⟨g,0,none⟩) n cap,.pointer (some ⟨s,0,none⟩)] w fun e w'=>e=.returned (.pointer (some ⟨R,0,none⟩))/\Below w.heap.size w w':=by
 go_enter Tryz.func165,Tryz.ntmps165
 go_wp2_with fail
 refine HL.out.mono ?_;rintro e w1 ⟨rfl,hb1⟩
 go_wp2_with fail
 refine(HM.out w1 hb1).mono ?_;rintro e w2 ⟨rfl,hb2⟩
 go_wp2_with fail
 go_ret
 exact⟨rfl,hb1.trans (hb2.mono hb1.size)⟩
theorem RB.at{w:World}{g:Nat}{bs:List Nat}{Xs:List PB}(h:RB w g bs Xs){i:Nat}(hi:i<Xs.length):iN w (bx bs i) (xi Xs i):=
 h.side i _ _ (xw (by rw[h.len];exact hi)) (vD hi)
theorem RB.cellAt{w:World}{g:Nat}{bs:List Nat}{Xs:List PB}(h:RB w g bs Xs){i:Nat}(hi:i<Xs.length):w.cell? ⟨g,i,none⟩=some (.pointer (some ⟨bx bs i,0,none⟩)):=
 h.row i _ (xw (by rw[h.len];exact hi))
theorem aiW(bs:List Nat)(Xs:List PB)(hB:BD Xs)(hnd:bs.Nodup)(g cap i:Nat)(hi:i<Xs.length)(w:World)(hR:RB w g bs Xs)(hbc:bs.length<=cap)(hne:∃x∈Xs,x.f=(xi Xs i).t):
  Calls Tryz.prog 165 #[.slice (some ⟨g,0,none⟩) bs.length cap,.pointer (some ⟨bx bs i,0,none⟩)] w fun e w'=>e=.returned (.pointer (some ⟨bx bs (cE Xs i),0,none⟩))/\Below w.heap.size w w':=by
 have hx:=gA hi;have kX:=(hB.v _ hx).ct;have hlt:=OH hB kX hne;have vE:=OG Xs (xi Xs i).t;have hbl:bs.length<=85000000:=by rw[hR.len];exact hB.len
 have hlen:=hR.len;have hs:=hR.at hi;refine aiV (bx bs i) (bx bs (cE Xs i)) g (iO Xs (xi Xs i).t) (lT Xs (xi Xs i).t) bs.length cap _ _ _ w hs.c4 hs.c5 (aiQ bs Xs (xi Xs i).t g cap w _ _ hR hbl hbc hlt (by omega) (JJ hB kX) (fun j x h1 h2=>JK hB kX j x h1 h2) hB.v (hB.v _ hx).t.aF kX) ?_
 refine fun w' hb=>?_
 have hR':=hR.below hb;generalize hc:iO Xs (xi Xs i).t=c at*;generalize hd:lT Xs (xi Xs i).t=d at*;have hm:=aiN (fun b b'=>rG (xi Xs i) (xi Xs (bs.idxOf b)) (xi Xs (bs.idxOf b'))) (bx bs c) ((List.range' (c+1) (d-c-1)).map (bx bs)) g c (cap-c) (bx bs i) w' (by simp;omega)
  (fun k b hk=>by
   have aiX:bx bs c::(List.range' (c+1) (d-c-1)).map (bx bs)=(List.range' c (d-c)).map (bx bs):=by
    have e:d-c=(d-c-1)+1:=by omega
    rw[e,List.range'_succ];rfl
   rw[aiX] at hk;have hkl:k<d-c:=by
    have:=(bY.1 hk).1;simpa using this
   rw[gD,List.getElem?_range' hkl] at hk;have hb':bx bs (c+k)=b:=by simpa using hk
   rw[<-hb'];exact hR'.cellAt (by omega))
  (fun b hb1 b' hb2 w'' hw=>by
   have key:∀b,b∈bx bs c::(List.range' (c+1) (d-c-1)).map (bx bs)->∃k,k<Xs.length/\b=bx bs k:=by
    intro b hb;rcases aV.1 hb with h|h
    ·exact⟨c,by omega,h⟩
    ·obtain⟨k,hk,rfl⟩:=bh.1 h;have:=Gx.1 hk;exact⟨k,by omega,rfl⟩
   obtain⟨k1,h1,rfl⟩:=key b hb1;obtain⟨k2,h2,rfl⟩:=key b' hb2;have BM:=hR'.below hw;rw[mN hnd (by omega),mN hnd (by omega)]
   obtain⟨l,hl⟩:=hB.ld _ hx;obtain⟨l1,kQ⟩:=hB.ld _ (gA h1);obtain⟨l2,hl2⟩:=hB.ld _ (gA h2);exact aiM _ _ _ hl kQ hl2 _ _ _ w'' (BM.at hi) (BM.at h1) (BM.at h2))
 have aiY:((List.range' (c+1) (d-c-1)).map (bx bs)).length+1=d-c:=by simp;omega
 have hmin:bC (fun b b'=>rG (xi Xs i) (xi Xs (bs.idxOf b)) (xi Xs (bs.idxOf b'))) ((List.range' (c+1) (d-c-1)).map (bx bs)) (bx bs c)=bx bs (cE Xs i):=by
  unfold cE;rw[hc,hd];refine E9 _ _ fun j hj k hk=>?_
  have key:∀j,j∈c::List.range' (c+1) (d-c-1)->j<bs.length:=by
   intro j hj;rcases aV.1 hj with h|h
   ·omega
   ·have:=Gx.1 h;omega
  simp only[mN hnd (key j hj),mN hnd (key k hk)]
 rw[hmin] at hm;have aiZ:(((List.range' (c+1) (d-c-1)).map (bx bs)).length:Nat)+1=d-c:=aiY;rw[aiZ] at hm;exact hm
namespace Ga
open Ge
theorem ai0{rg:List (List Pt)}{l:List Nd}(hN:bX (ag rg) l){aF:Int->Bool}{n m c:Nd}(hout:aF (PP (ag rg) n)=false)(h:Sd (ag rg) l aF m n)(hc:Sd (ag rg) l aF n c)
  (hm:∀c',Sd (ag rg) l aF n c'->¬tC (wv m n) (wv n c') (wv n c)<0):au (wv n c) (wv n m)=true:=by
 obtain⟨n1,_,hn⟩:=gM hN h.pc;obtain⟨n3,_,_⟩:=gM hN hc.pc;have m1:wv n m≠(0,0):=by rw[eO m n];exact jI n1
 have h1:=(h.zg hN).1;obtain⟨z,hz,cQ⟩:=LJ _ (wv n m) m1 (ai _) hout h1;obtain⟨c',hc',hsm⟩:=Jt hN hn hz;obtain⟨n4,_,_⟩:=gM hN hc'.pc;have N0:au (wv n c') (wv n m)=true:=by rw[N6 hsm];exact cQ
 have t:=iJ n3 m1;rw[h.qw hN hc] at t;cases k:au (wv n c) (wv n m)
 ·exfalso;rw[k] at t;have k':au (wv n m) (wv n c)=true:=by revert t;cases au (wv n m) (wv n c)<;>decide
  have:=(CU m1 n4 n3 (h.qw hN hc') (h.qw hN hc)).2 (mf.2 (af (ae ⟨N0,k'⟩)));rw[<-eO] at this;exact hm c' hc' this
 ·rfl
theorem ai1{rg:List (List Pt)}{l:List Nd}(hN:bX (ag rg) l){aF:Int->Bool}{n m c k:Nd}(hout:aF (PP (ag rg) n)=false)(h:Sd (ag rg) l aF m n)(hr:aS (wv n m))(hc:Sd (ag rg) l aF n c)
  (hm:∀c',Sd (ag rg) l aF n c'->¬tC (wv m n) (wv n c') (wv n c)<0)(hk:Sd (ag rg) l aF n k)(hle:au (wv n c) (wv n k)=false):0<cr (wv m n) (wv n k):=by
 have h1:=ai0 hN hout h hc hm;obtain⟨n1,_,_⟩:=gM hN h.pc;obtain⟨n3,_,_⟩:=gM hN hc.pc;obtain⟨n4,_,_⟩:=gM hN hk.pc;have m1:wv n m≠(0,0):=by rw[eO m n];exact jI n1
 have t:=iJ n3 n4;rw[hle] at t;have h2:au (wv n k) (wv n m)=true:=by
  cases hs:az (wv n c) (wv n k)
  ·rw[hs] at t;have:au (wv n k) (wv n c)=true:=by revert t;cases au (wv n k) (wv n c)<;>decide
   exact gZ n4 n3 m1 this h1
  ·rw[<-N6 hs];exact h1
 have:=((GP hr _).1 h2).2;rw[eO n m,fF];omega
theorem ai2{a x y z:Pt}(ha:a≠(0,0))(hx:x≠(0,0))(hy:y≠(0,0))(hz:z≠(0,0))(h1:cw a x y=true)(h2:cw a y z=true):cw a x z=true:=by
 rw[mf] at*;have mO:au y a=true->au a y=true->False:=fun p q=>by
  rw[GW hy ha p] at q;cases q
 rcases h1 with⟨p1,p2,p3⟩|⟨p1,p2⟩|⟨p1,p2,p3⟩<;>rcases h2 with⟨q1,q2,q3⟩|⟨q1,q2⟩|⟨q1,q2,q3⟩
 ·exact ae ⟨p1,q2,gZ hz hy hx q3 p3⟩
 ·exact af (ae ⟨p1,q2⟩)
 ·exact(mO p2 q1).elim
 ·exact(mO q1 p2).elim
 ·exact(mO q1 p2).elim
 ·exact af (ae ⟨p1,q2⟩)
 ·exact(mO q1 p2).elim
 ·exact(mO q1 p2).elim
 ·exact af (af ⟨p1,q2,gZ hz hy hx q3 p3⟩)
theorem ai3{n m:N3}(hn:0<n.2.2)(hm:0<m.2.2)(e1:n.1*m.2.2=m.1*n.2.2)(e2:n.2.1*m.2.2=m.2.1*n.2.2)(u v:Pt):right (rl n u) (rl n v)=right (rl m u) (rl m v):=by
 have k:∀p,sc m.2.2 (rl n p)=sc n.2.2 (rl m p):=fun p=>by
  obtain⟨e1,e2⟩:=N5 e1 e2 p;unfold sc;exact eB e1 e2
 rw[<-zW hm (rl n u) (rl n v),k,k,zW hn]
end Ga
theorem tS(f t:Ge.Nd):(bT f t).1=(Ga.wv f t).1/\(bT f t).2.1=(Ga.wv f t).2:=by
 unfold bT Ga.wv;exact⟨by simp only;grind,by simp only;grind⟩
theorem xy(x y:PB):fq x y=(Ge.cr (Ga.wv x.f x.t) (Ga.wv y.f y.t)).sign:=by
 unfold fq Ge.cr;rw[(tS x.f x.t).1,(tS x.f x.t).2,(tS y.f y.t).1,(tS y.f y.t).2]
theorem JL(s a b:PB):rG s a b=Ga.tC (Ga.wv s.f s.t) (Ga.wv a.f a.t) (Ga.wv b.f b.t):=by
 unfold rG Ga.tC;rw[xy,xy,xy]
theorem ai4(es:List Ed){f t:Ge.Nd}(hf:0<f.2.2)(ht:0<t.2.2):oJ es f t=Ga.RR es f t/\qs es f t=Ga.LL es f t:=by
 obtain⟨c,q⟩:=Ge.NY (f.1+t.1) (f.2.1+t.2.1) (d:=f.2.2+t.2.2) (by omega)
 have hq:0<(Ga.aZ f t).2.2:=by show 0<f.2.2+t.2.2;omega
 have e1:(df f t).1*(Ga.aZ f t).2.2=(Ga.aZ f t).1*(df f t).2.2:=by
  have k:=Ge.Bd (a:=(df f t).1) (c:=f.1+t.1) c.pos (show 0<f.2.2+t.2.2 by omega)
  have h':Ge.aW (df f t).1 (df f t).2.2=Ge.aW (f.1+t.1) (f.2.2+t.2.2):=aw Prod.fst q;have k':Ge.fc (Ge.aW (df f t).1 (df f t).2.2) (Ge.aW (f.1+t.1) (f.2.2+t.2.2))=((df f t).1*(f.2.2+t.2.2)-(f.1+t.1)*(df f t).2.2).sign:=k;rw[h',Ge.Aw] at k';have:=vZ.1 k'.symm;show(df f t).1*(f.2.2+t.2.2)=(f.1+t.1)*(df f t).2.2;omega
 have e2:(df f t).2.1*(Ga.aZ f t).2.2=(Ga.aZ f t).2.1*(df f t).2.2:=by
  have k:=Ge.Bd (a:=(df f t).2.1) (c:=f.2.1+t.2.1) c.pos (show 0<f.2.2+t.2.2 by omega)
  have h':Ge.aW (df f t).2.1 (df f t).2.2=Ge.aW (f.2.1+t.2.1) (f.2.2+t.2.2):=aw Prod.snd q;have k':Ge.fc (Ge.aW (df f t).2.1 (df f t).2.2) (Ge.aW (f.2.1+t.2.1) (f.2.2+t.2.2))=((df f t).2.1*(f.2.2+t.2.2)-(f.2.1+t.2.1)*(df f t).2.2).sign:=k;rw[h',Ge.Aw] at k';have:=vZ.1 k'.symm;show(df f t).2.1*(f.2.2+t.2.2)=(f.2.1+t.2.1)*(df f t).2.2;omega
 have hpos:0<(df f t).2.2:=c.pos;have r:oJ es f t=Ga.RR es f t:=by
  exact Ga.o9 (F:=Ge.fr ((df f t).1,(df f t).2.1) (df f t).2.2) (G:=fun u v=>Ge.right (Ga.rl (Ga.aZ f t) u) (Ga.rl (Ga.aZ f t) v)) fun e _=>Ga.ai3 hpos hq e1 e2 e.1 e.2
 refine⟨r,?_⟩;have k:Ge.total (Ge.fa (df f t) (bT f t)) es=Ge.total (Ga.fb (Ga.aZ f t) (Ga.wv f t)) es:=by
  refine Ga.o9 fun e _=>?_
  unfold Ge.fa Ga.fb;have ho:Ge.fo ((df f t).1,(df f t).2.1) (df f t).2.2 (e.1,e.2)=Ge.on (Ga.rl (Ga.aZ f t) e.1) (Ga.rl (Ga.aZ f t) e.2):=by
   show Ge.on (Ga.rl (df f t) e.1) (Ga.rl (df f t) e.2)=_;cases h1:Ge.on (Ga.rl (Ga.aZ f t) e.1) (Ga.rl (Ga.aZ f t) e.2)
   ·cases h2:Ge.on (Ga.rl (df f t) e.1) (Ga.rl (df f t) e.2)
    ·rfl
    ·rw[Ga.Jp hq hpos e1.symm e2.symm h2] at h1;cases h1
   ·exact Ga.Jp hpos hq e1 e2 h1
  rw[ho,(tS f t).1,(tS f t).2]
 show oJ es f t+Ge.total (Ge.fa (df f t) (bT f t)) es=_;rw[r,k];rfl
end Go.Proofs.YtkjhhooecopolaaGreatDoor

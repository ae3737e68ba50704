import Derived.Test.YtkjhhooecopolaaGreatDoorZz24
set_option maxRecDepth 100000
set_option maxHeartbeats 4000000
namespace Go.Proofs.YtkjhhooecopolaaGreatDoor
open Go.RowKit
structure RB(w:World)(g:Nat)(bs:List Nat)(Xs:List PB):Prop where
 len:bs.length=Xs.length
 row:∀(i:Nat) b,bs[i]?=some b->w.cell? ⟨g,i,none⟩=some (.pointer (some ⟨b,0,none⟩))
 side:∀(i:Nat) b x,bs[i]?=some b->Xs[i]?=some x->ig w b x
theorem RB.below{w w':World}{g:Nat}{bs:List Nat}{Xs:List PB}(h:RB w g bs Xs)(hb:Below w.heap.size w w'):RB w' g bs Xs:=
 ⟨h.len,fun i b h1=>(hb.cell (p:=⟨g,i,none⟩) (lt_of_cell (h.row i b h1))).trans (h.row i b h1),fun i b x h1 h2=>(h.side i b x h1 h2).below hb⟩
theorem afp(bs:List Nat)(Xs:List PB)(n:Ge.Nd)(g cap:Nat)(w:World)(N1 N2:Nat)(N3:Int)(c:Nat)(hR:RB w g bs Xs)(hl:bs.length<=85000000)(hcl:c<=bs.length)
  (hc:∀i x,Xs[i]?=some x->(i<c↔aY x.f n<0))
  (HC:Hid (∀b x w',ig w' b x->x∈Xs->Calls Tryz.prog 254 #[.pointer (some ⟨b,0,none⟩),.agg #[.complex .f64 N1 N2,.int .i64 N3]] w' fun r w''=>r=.returned (.int .i64 (aY x.f n))/\Below w'.heap.size w' w'')):
  Calls Tryz.prog 253 #[.slice (some ⟨g,0,none⟩) bs.length cap,.agg #[.complex .f64 N1 N2,.int .i64 N3],.func (.func 254) #[] #[]] w fun e w'=>∃f,e=.returned (.tuple #[.int .i64 c,.bool f])/\Below w.heap.size w w':=by
 have HR:Hid (RB w g bs Xs):=hR;have rf:Hid (∀i x,Xs[i]?=some x->(i<c↔aY x.f n<0)):=hc;clear hR hc
 go_enter Tryz.func253,Tryz.ntmps253
 go_wp2_with fail
 have bH:Hid (Below w.heap.size w (w.alloc (.cells #[.complex .f64 N1 N2,.int .i64 N3] 83))/\(w.alloc (.cells #[.complex .f64 N1 N2,.int .i64 N3] 83)).heap[w.heap.size]?=some (.cells #[.complex .f64 N1 N2,.int .i64 N3] 83 (0,0))):=⟨(Below.refl _ _).alloc (ax _) _,heap_alloc_new _ _⟩;generalize w.alloc (.cells #[.complex .f64 N1 N2,.int .i64 N3] 83)=W0 at*
 go_loopg [9,10] bs.length (fun m iv jv wr=>∃i j:Nat,i<=c/\c<=j/\j<=bs.length/\j-i<=m/\iv=.int .i64 i/\jv=.int .i64 j/\Hid (Below w.heap.size w wr/\wr.heap[w.heap.size]?=some (.cells #[.complex .f64 N1 N2,.int .i64 N3] 83 (0,0))))
 case atStart=>exact⟨0,bs.length,by omega,hcl,ax _,by omega,rfl,rfl,bH⟩
 case round=>
  obtain⟨i,j,h1,h2,h3,h4,rfl,rfl,HB⟩:=hrel;clear bH;obtain⟨aj,hT⟩:=HB.out;have t0:wr.cell? ⟨w.heap.size,0,none⟩=some (.complex .f64 N1 N2):=cell_of hT 0;have t1:wr.cell? ⟨w.heap.size,1,none⟩=some (.int .i64 N3):=cell_of hT 1;have oK:w.heap.size<wr.heap.size:=lt_of_heap hT;by_cases hlt:i<j
  ·obtain⟨H,hH⟩:∃H,(i+j)/2=H:=⟨_,rfl⟩;have Vj:H<bs.length:=by omega
   obtain⟨b,hb⟩:∃b,bs[H]?=some b:=⟨_,aD Vj⟩;obtain⟨x,hx⟩:∃x,Xs[H]?=some x:=⟨_,aD (by rw[<-HR.out.len];exact Vj)⟩
   have r0:=(aj.cell (p:=⟨g,H,none⟩) (lt_of_cell (HR.out.row H b hb))).trans (HR.out.row H b hb);have gP:Hid (∀w',Below w.heap.size w w'->Calls Tryz.prog 254 #[.pointer (some ⟨b,0,none⟩),.agg #[.complex .f64 N1 N2,.int .i64 N3]] w' fun r w''=>r=.returned (.int .i64 (aY x.f n))/\Below w'.heap.size w' w''):=fun w' hb'=>HC.out b x w' ((HR.out.side H b x hb hx).below hb') (bh hx)
   have qX:Hid (H<c↔aY x.f n<0):=rf.out H x hx;have hij:(i:Int)<(j:Int):=by omega
   have hw1:IntKind.i64.wrap ((i:Int)+(j:Int))=(i:Int)+(j:Int):=by rw[IntKind.wrap_i64];omega
   have hw2:IntKind.u64.wrap ((i:Int)+(j:Int))=(i:Int)+(j:Int):=by simp[IntKind.wrap,IntKind.bits,IntKind.signed];omega
   have hHi:(H:Int)<(bs.length:Int):=by omega
   have hmid:((i:Int)+(j:Int))/2=(H:Int):=by omega
   have hH0:(0:Int)<=(H:Int):=by omega
   have Vk:Hid (i<=H/\H<j):=by
    show i<=H/\H<j;omega
   have hgr:g<wr.heap.size:=lt_of_cell r0;have nS:Below w.heap.size w wr.drew:=aj.drew;clear hb hx hH;generalize aY x.f n=V at*
   go_wp2_with fail
   go_region_held3 (fun w'=>w'.cell? ⟨w.heap.size,0,none⟩=some (.complex .f64 N1 N2)/\w'.cell? ⟨w.heap.size,1,none⟩=some (.int .i64 N3)/\w'.cell? ⟨g,H,none⟩=some (.pointer (some ⟨b,0,none⟩))) (go_keep) (first
    |(go_at_call 254;refine(gP.out _ nS).mono ?_;rintro e w5 ⟨rfl,az⟩;have e0:=(az.cell (p:=⟨w.heap.size,0,none⟩) oK).trans t0;have e1:=(az.cell (p:=⟨w.heap.size,1,none⟩) oK).trans t1;have e2:=(az.cell (p:=⟨g,H,none⟩) hgr).trans r0))
   all_goals
    have eT:Hid (Below w.heap.size w w5/\w5.heap[w.heap.size]?=some (.cells #[.complex .f64 N1 N2,.int .i64 N3] 83 (0,0))):=⟨nS.trans (az.mono nS.size),(az.block _ oK).trans hT⟩;clear az gP e0 e1 e2;by_cases hV:V<0
    ·have hVc:H<c:=qX.out.2 hV
     go_wp2_with fail
     go_roundg (j-(H+1))
     case measure=>have:=Vk.out;omega
     case rel=>exact⟨H+1,j,by omega,h2,h3,ax _,by go_num,rfl,eT⟩
    ·have hVc:¬H<c:=fun h=>hV (qX.out.1 h)
     have Me:decide (V<0)=false:=kH hV
     go_wp2_with fail
     go_roundg (H-i)
     case measure=>have:=Vk.out;omega
     case rel=>exact⟨i,H,h1,by omega,by omega,ax _,rfl,rfl,eT⟩
  ·have hic:i=c:=by omega
   subst hic;by_cases hin:i<bs.length
   ·obtain⟨b,hb⟩:∃b,bs[i]?=some b:=⟨_,aD hin⟩;obtain⟨x,hx⟩:∃x,Xs[i]?=some x:=⟨_,aD (by rw[<-HR.out.len];exact hin)⟩
    have r0:=(aj.cell (p:=⟨g,i,none⟩) (lt_of_cell (HR.out.row i b hb))).trans (HR.out.row i b hb);have gP:Hid (∀w',Below w.heap.size w w'->Calls Tryz.prog 254 #[.pointer (some ⟨b,0,none⟩),.agg #[.complex .f64 N1 N2,.int .i64 N3]] w' fun r w''=>r=.returned (.int .i64 (aY x.f n))/\Below w'.heap.size w' w''):=fun w' hb'=>HC.out b x w' ((HR.out.side i b x hb hx).below hb') (bh hx)
    have Mf:(i:Int)<(bs.length:Int):=by omega
    have hgr:g<wr.heap.size:=lt_of_cell r0;clear hb hx HR HC rf;generalize aY x.f n=V at*;have nS:Below w.heap.size w wr.drew:=aj.drew
    go_wp2_with fail
    go_region_held3 (fun w'=>w'.cell? ⟨w.heap.size,0,none⟩=some (.complex .f64 N1 N2)/\w'.cell? ⟨w.heap.size,1,none⟩=some (.int .i64 N3)/\w'.cell? ⟨g,i,none⟩=some (.pointer (some ⟨b,0,none⟩))) (go_keep) (first
     |(go_at_call 254;refine(gP.out _ nS).mono ?_;rintro e w5 ⟨rfl,az⟩;have e0:=(az.cell (p:=⟨w.heap.size,0,none⟩) oK).trans t0;have e1:=(az.cell (p:=⟨w.heap.size,1,none⟩) oK).trans t1;have e2:=(az.cell (p:=⟨g,i,none⟩) hgr).trans r0))
    all_goals
     have eT:Hid (Below w.heap.size w w5):=nS.trans (az.mono nS.size);clear az gP e0 e1 e2
     go_wp2_with fail
     refine bodyPost_ret (v:=.tuple #[.int .i64 i,.bool (V == 0)]) (by simp[results,Tryz.results253,go_sem]) rfl ⟨V == 0,rfl,eT.out⟩
   ·have Mf:decide ((i:Int)<(bs.length:Int))=false:=by simp;omega
    clear HR HC rf
    go_wp2_with fail
    refine wp_region_held_drew (S:=(fun _=>True)) (by kernel_rfl) trivial (fun hHeld=>?_)
    refine wpAnyH_take (i:=0) (oi:={dst:=some 35,op:=_,type:=_,pos:=_,after:=_,guard:=_}) (v:=?_) rfl (by kernel_rfl) (by kernel_rfl) (by kernel_rfl) (fun _ _ _ h=>h) (ae ⟨by rfl,?_⟩) hHeld ?_
    rotate_left
    ·intro w' aA
     go_simp
     try with_reducible rfl
    simp only[Act.put,aH,aI,aG];refine wpAnyH_take (i:=1) (oi:={dst:=some 36,op:=_,type:=_,pos:=_,after:=_,guard:=_}) (v:=?_) rfl (by kernel_rfl) (by kernel_rfl) (by kernel_rfl) (fun _ _ _ h=>h) (ae ⟨by rfl,?_⟩) hHeld ?_
    rotate_left
    ·intro w' aA
     go_simp
     try with_reducible rfl
    simp only[Act.put,aH,aI,aG];refine wpAnyH_take (i:=2) (oi:={dst:=some 37,op:=_,type:=_,pos:=_,after:=_,guard:=_}) (v:=?_) rfl (by kernel_rfl) (by kernel_rfl) (by kernel_rfl) (fun _ _ _ h=>h) (ae ⟨by rfl,?_⟩) hHeld ?_
    rotate_left
    ·intro w' aA
     go_simp
     try with_reducible rfl
    simp only[Act.put,aH,aI,aG];refine wpAnyH_take (i:=3) (oi:={dst:=some 38,op:=_,type:=_,pos:=_,after:=_,guard:=_}) (v:=?_) rfl (by kernel_rfl) (by kernel_rfl) (by kernel_rfl) (fun _ _ _ h=>h) (ae ⟨by rfl,?_⟩) hHeld ?_
    rotate_left
    ·intro w' aA
     go_simp
     try with_reducible rfl
    simp only[Act.put,aH,aI,aG];refine wpAnyH_take (i:=4) (oi:={dst:=some 39,op:=_,type:=_,pos:=_,after:=_,guard:=_}) (v:=?_) rfl (by kernel_rfl) (by kernel_rfl) (by kernel_rfl) (fun _ _ _ h=>h) (ae ⟨by rfl,?_⟩) hHeld ?_
    rotate_left
    ·intro w' aA
     go_simp
     try with_reducible rfl
    simp only[Act.put,aH,aI,aG];refine wpAnyH_take (i:=5) (oi:={dst:=some 40,op:=_,type:=_,pos:=_,after:=_,guard:=_}) (v:=undef) rfl (by kernel_rfl) (by kernel_rfl) (by kernel_rfl) (fun _ _ _ h=>h) (af ⟨by kernel_rfl,rfl⟩) hHeld ?_
    simp only[Act.put,aH,aI,aG];refine wpAnyH_take (i:=6) (oi:={dst:=some 41,op:=_,type:=_,pos:=_,after:=_,guard:=_}) (v:=undef) rfl (by kernel_rfl) (by kernel_rfl) (by kernel_rfl) (fun _ _ _ h=>h) (af ⟨by kernel_rfl,rfl⟩) hHeld ?_
    simp only[Act.put,aH,aI,aG];refine wpAnyH_take (i:=7) (oi:={dst:=some 42,op:=_,type:=_,pos:=_,after:=_,guard:=_}) (v:=undef) rfl (by kernel_rfl) (by kernel_rfl) (by kernel_rfl) (fun _ _ _ h=>h) (af ⟨by kernel_rfl,rfl⟩) hHeld ?_
    simp only[Act.put,aH,aI,aG];refine wpAnyH_take (i:=8) (oi:={dst:=some 43,op:=_,type:=_,pos:=_,after:=_,guard:=_}) (v:=undef) rfl (by kernel_rfl) (by kernel_rfl) (by kernel_rfl) (fun _ _ _ h=>h) (af ⟨by kernel_rfl,rfl⟩) hHeld ?_
    simp only[Act.put,aH,aI,aG];refine wpAnyH_take (i:=9) (oi:={dst:=some 44,op:=_,type:=_,pos:=_,after:=_,guard:=_}) (v:=undef) rfl (by kernel_rfl) (by kernel_rfl) (by kernel_rfl) (fun _ _ _ h=>h) (af ⟨by kernel_rfl,rfl⟩) hHeld ?_
    simp only[Act.put,aH,aI,aG];refine wpAnyH_take (i:=10) (oi:={dst:=some 45,op:=_,type:=_,pos:=_,after:=_,guard:=_}) (v:=undef) rfl (by kernel_rfl) (by kernel_rfl) (by kernel_rfl) (fun _ _ _ h=>h) (af ⟨by kernel_rfl,rfl⟩) hHeld ?_
    simp only[Act.put,aH,aI,aG];refine wpAnyH_take (i:=11) (oi:={dst:=some 46,op:=_,type:=_,pos:=_,after:=_,guard:=_}) (v:=undef) rfl (by kernel_rfl) (by kernel_rfl) (by kernel_rfl) (fun _ _ _ h=>h) (af ⟨by kernel_rfl,rfl⟩) hHeld ?_
    simp only[Act.put,aH,aI,aG];refine wpAnyH_take (i:=12) (oi:={dst:=some 47,op:=_,type:=_,pos:=_,after:=_,guard:=_}) (v:=undef) rfl (by kernel_rfl) (by kernel_rfl) (by kernel_rfl) (fun _ _ _ h=>h) (af ⟨by kernel_rfl,rfl⟩) hHeld ?_
    simp only[Act.put,aH,aI,aG];refine wpAnyH_take (i:=13) (oi:={dst:=some 48,op:=_,type:=_,pos:=_,after:=_,guard:=_}) (v:=?_) rfl (by kernel_rfl) (by kernel_rfl) (by kernel_rfl) (fun _ _ _ h=>h) (ae ⟨by rfl,?_⟩) hHeld ?_
    rotate_left
    ·intro w' aA
     go_simp
     try with_reducible rfl
    simp only[Act.put,aH,aI,aG];refine wpAnyH_take (i:=14) (oi:={dst:=some 6,op:=_,type:=_,pos:=_,after:=_,guard:=_}) (v:=?_) rfl (by kernel_rfl) (by kernel_rfl) (by kernel_rfl) (fun _ _ _ h=>h) (ae ⟨by rfl,?_⟩) hHeld ?_
    rotate_left
    ·intro w' aA
     go_simp
     try with_reducible rfl
    simp only[Act.put,aH,aI,aG];refine wpAnyH_take (i:=15) (oi:={dst:=some 7,op:=_,type:=_,pos:=_,after:=_,guard:=_}) (v:=?_) rfl (by kernel_rfl) (by kernel_rfl) (by kernel_rfl) (fun _ _ _ h=>h) (ae ⟨by rfl,?_⟩) hHeld ?_
    rotate_left
    ·intro w' aA
     go_simp
     try with_reducible rfl
    simp only[Act.put,aH,aI,aG];refine wpAnyH_done (by kernel_rfl) ?_ _
    go_wp2_with fail
    refine bodyPost_ret (v:=.tuple #[.int .i64 i,.bool false]) (by simp[results,Tryz.results253,go_sem]) rfl ⟨false,rfl,aj.drew⟩
theorem afr(bs:List Nat)(Xs:List PB)(n:Ge.Nd)(g cap:Nat)(w:World)(c d:Nat)(hR:RB w g bs Xs)(hl:bs.length<=85000000)(hbc:bs.length<=cap)(ET:c<d)(xh:d<=bs.length)
  (hc:∀i x,Xs[i]?=some x->(i<c↔aY x.f n<0))(hd:∀i x,Xs[i]?=some x->c<=i->(i<d↔x.f=n))(hv:∀x∈Xs,cK x)(hn:cP n.1 n.2.1 n.2.2)(hcn:Ge.Can n):
  Calls Tryz.prog 210 #[.slice (some ⟨g,0,none⟩) bs.length cap,gm n] w fun e w'=>e=.returned (.slice (some ⟨g,c,none⟩) (d-c) (cap-c))/\Below w.heap.size w w':=by
 have xg:=fun w'(hb:Below w.heap.size w w')=>afp bs Xs n g cap w' (floatOfInt .f64 n.1) (floatOfInt .f64 n.2.1) n.2.2 c (hR.below hb) hl (by omega) hc (fun b x w'' h1 hx=>afj x n (hv x hx) hn hcn b w'' h1)
 have HR:Hid (RB w g bs Xs):=hR;have HD:Hid (∀i x,Xs[i]?=some x->c<=i->(i<d↔x.f=n)):=hd;have Mg:Hid (∀x∈Xs,∀w,(binOp .eql 83 (.agg #[.complex .f64 (floatOfInt .f64 x.f.1) (floatOfInt .f64 x.f.2.1),.int .i64 x.f.2.2]) (.agg #[.complex .f64 (floatOfInt .f64 n.1) (floatOfInt .f64 n.2.1),.int .i64 n.2.2])).run Tryz.prog w=.ok (.bool (decide (x.f=n))) w):=fun x hx w=>Ci x.f n (hv x hx).f.aF hn w
 unfold gm;have uY:Hid (∀w',Below w.heap.size w w'->Calls Tryz.prog 253 #[.slice (some ⟨g,0,none⟩) bs.length cap,.agg #[.complex .f64 (floatOfInt .f64 n.1) (floatOfInt .f64 n.2.1),.int .i64 n.2.2],.func (.func 254) #[] #[]] w' fun e w''=>∃f,e=.returned (.tuple #[.int .i64 c,.bool f])/\Below w'.heap.size w' w''):=xg
 clear xg hR hc hd hv hn hcn;generalize floatOfInt .f64 n.1=N1 at*;generalize floatOfInt .f64 n.2.1=N2 at*;generalize zg:n.2.2=N3 at*;have hb0:Below w.heap.size w (w.alloc (.cells #[.complex .f64 N1 N2,.int .i64 N3] 83)):=(Below.refl _ _).alloc (ax _) _;have hT0:=heap_alloc_new w (.cells #[.complex .f64 N1 N2,.int .i64 N3] 83);have hz:w.heap.size<(w.alloc (.cells #[.complex .f64 N1 N2,.int .i64 N3] 83)).heap.size:=by simp
 go_enter Tryz.func210,Tryz.ntmps210
 go_wp2_with fail
 generalize w.alloc (.cells #[.complex .f64 N1 N2,.int .i64 N3] 83)=W0 at*;refine(uY.out _ hb0).mono ?_;rintro e w1 ⟨f,rfl,hb1⟩;have bH:Hid (Below w.heap.size w w1/\w1.heap[w.heap.size]?=some (.cells #[.complex .f64 N1 N2,.int .i64 N3] 83 (0,0))):=⟨hb0.trans (hb1.mono hb0.size),(hb1.block _ hz).trans hT0⟩;clear hb0 hb1 hT0 uY
 go_wp2_with fail
 go_loopg [7] (d-c) (fun m iv wr=>∃k:Nat,c<=k/\k<=d/\d-k<=m/\iv=.int .i64 k/\Hid (Below w.heap.size w wr/\wr.heap[w.heap.size]?=some (.cells #[.complex .f64 N1 N2,.int .i64 N3] 83 (0,0))))
 case atStart=>exact⟨c,ax _,dN ET,ax _,rfl,bH⟩
 case round=>
  obtain⟨k,h1,h2,h3,rfl,HB⟩:=hrel;clear bH;obtain⟨aj,hT⟩:=HB.out;have t0:wr.cell? ⟨w.heap.size,0,none⟩=some (.complex .f64 N1 N2):=cell_of hT 0;have t1:wr.cell? ⟨w.heap.size,1,none⟩=some (.int .i64 N3):=cell_of hT 1;by_cases hin:k<bs.length
  ·obtain⟨b,hb⟩:∃b,bs[k]?=some b:=⟨_,aD hin⟩;obtain⟨x,hx⟩:∃x,Xs[k]?=some x:=⟨_,aD (by rw[<-HR.out.len];exact hin)⟩
   have r0:=(aj.cell (p:=⟨g,k,none⟩) (lt_of_cell (HR.out.row k b hb))).trans (HR.out.row k b hb);have C0:=(HR.out.side k b x hb hx).below aj;have s2:=C0.c2;have s3:=C0.c3;have hop:=Mg.out x (bh hx);have qX:Hid (k<d↔x.f=n):=HD.out k x hx h1;have Mf:(k:Int)<(bs.length:Int):=by omega
   clear hb hx C0 HR HD Mg;generalize floatOfInt .f64 x.f.1=X1 at*;generalize floatOfInt .f64 x.f.2.1=X2 at*;generalize yQ:x.f.2.2=X3 at*;clear yQ zg;by_cases Vl:k<d
   ·have C3:decide (x.f=n)=true:=gD (qX.out.1 Vl);rw[C3] at hop;clear C3 qX
    go_wp2_with fail
    go_quiet (fail)
    go_wp2_with fail
    go_roundg (d-(k+1))
    case measure=>omega
    case rel=>exact⟨k+1,by omega,by omega,ax _,by go_num,yH aj _,hT⟩
   ·have C3:decide (x.f=n)=false:=kH fun h=>Vl (qX.out.2 h)
    have Bt:k=d:=by omega
    rw[C3] at hop;clear C3 qX;subst Bt
    go_wp2_with fail
    go_quiet (fail)
    go_wp2_with fail
    go_ret
    exact⟨rfl,yH aj _⟩
  ·have Mf:decide ((k:Int)<(bs.length:Int))=false:=by simp;omega
   have Bt:k=d:=by omega
   subst Bt;clear HR HD Mg
   go_wp2_with fail
   go_quiet (fail)
   go_wp2_with fail
   go_ret
   exact⟨rfl,yH aj _⟩
def pb0:PB:=⟨0,0,0,(0,0,0),(0,0,0)⟩
def xi(Xs:List PB)(i:Nat):PB:=Xs.getD i pb0
def bx(bs:List Nat)(i:Nat):Nat:=bs.getD i 0
theorem tH{Xs:List PB}{i:Nat}{x:PB}(h:Xs[i]?=some x):xi Xs i=x:=by
 unfold xi;rw[kI,h];rfl
theorem tJ{Xs:List PB}{i:Nat}(h:i<Xs.length):Xs[i]?=some (xi Xs i):=by
 rw[aD h,tH (aD h)]
theorem C4{bs:List Nat}{i b:Nat}(h:bs[i]?=some b):bx bs i=b:=by
 unfold bx;rw[kI,h];rfl
theorem uZ{bs:List Nat}{i:Nat}(h:i<bs.length):bs[i]?=some (bx bs i):=by
 rw[aD h,C4 (aD h)]
theorem oL{bs:List Nat}{i:Nat}(h:i<bs.length):bx bs i∈bs:=bh (uZ h)
theorem fN{Xs:List PB}{i:Nat}(h:i<Xs.length):xi Xs i∈Xs:=bh (tJ h)
theorem kZ{bs:List Nat}(hn:bs.Nodup){i:Nat}(h:i<bs.length):bs.idxOf (bx bs i)=i:=by
 have e:bx bs i=bs[i]:=C4 (aD h);rw[e];exact ZM hn i h
structure BD(Xs:List PB):Prop where
 v:∀x∈Xs,cK x
 ld:∀x∈Xs,∃l,LD x l
 nR:Xs.Pairwise fun a b=>¬aY b.f a.f<0
 len:Xs.length<=85000000
theorem Mh{α:Type}(p:α->Bool):∀(l:List α),l.Pairwise (fun a b=>p b=true->p a=true)->∀(i:Nat) x,l[i]?=some x->(i<(l.filter p).length↔p x=true)
 |[],_,i,x,h=>by simp at h
 |a::l,hp,0,x,h=>by
  have hx:a=x:=by simpa using h
  subst hx;by_cases ha:p a=true
  ·simp[ha]
  ·have:(a::l).filter p=[]:=List.filter_eq_nil_iff.2 fun y hy=>by
    rcases aP.1 hy with rfl|hy
    ·exact ha
    ·exact fun hpy=>ha ((fE.1 hp).1 y hy hpy)
   rw[this];simp[ha]
 |a::l,hp,i+1,x,h=>by
  have hx:l[i]?=some x:=by simpa using h
  have ih:=Mh p l (fE.1 hp).2 i x hx;by_cases ha:p a=true
  ·rw[Ak ha,cG,Nat.add_lt_add_iff_right];exact ih
  ·have hpx:¬p x=true:=fun hpx=>ha ((fE.1 hp).1 x (bh hx) hpx)
   rw[vL ha];constructor
   ·intro h2;exact absurd (ih.1 (by omega)) hpx
   ·intro h2;exact absurd h2 hpx
def ij(Xs:List PB)(n:Ge.Nd):Nat:=(Xs.filter fun x=>decide (aY x.f n<0)).length
def kC(Xs:List PB)(n:Ge.Nd):Nat:=(Xs.filter fun x=>decide (aY x.f n<=0)).length
theorem zz{a b:Ge.Nd}:aY a b<0↔Ge.lt (Ge.au a) (Ge.au b):=by unfold aY Ge.lt;exact zW
theorem afv{a b c:Ge.Nd}(ha:Ge.Can a)(hb:Ge.Can b)(hc:Ge.Can c)(h1:¬aY b a<0)(h2:aY b c<0):aY a c<0:=by
 by_cases he:a=b
 ·rw[he];exact h2
 ·exact Ge.lt_trans (Ge.cJ ha) (Ge.cJ hb) (Ge.cJ hc) (Ge.yT ha hb h1 he) h2
theorem Mi(a b:Ge.Nd):aY b a= -aY a b:=Ge.Fv _ _
theorem Hq{Xs:List PB}(hB:BD Xs){n:Ge.Nd}(hn:Ge.Can n)(i:Nat)(x:PB)(h:Xs[i]?=some x):i<ij Xs n↔aY x.f n<0:=by
 have hp:Xs.Pairwise fun a b=>decide (aY b.f n<0)=true->decide (aY a.f n<0)=true:=by
  refine rV (fun{a b} ha hb hab=>?_) hB.nR
  simp only[uf];exact fun h2=>afv (hB.v a ha).cf (hB.v b hb).cf hn hab h2
 have:=Mh _ Xs hp i x h;simpa[ij] using this
theorem Vm{Xs:List PB}(hB:BD Xs){n:Ge.Nd}(hn:Ge.Can n)(i:Nat)(x:PB)(h:Xs[i]?=some x):i<kC Xs n↔aY x.f n<=0:=by
 have hp:Xs.Pairwise fun a b=>decide (aY b.f n<=0)=true->decide (aY a.f n<=0)=true:=by
  refine rV (fun{a b} ha hb hab=>?_) hB.nR
  simp only[uf];intro h2;apply zV.1;intro h3;have h4:aY n a.f<0:=by rw[Mi a.f n];omega
  have h5:aY n b.f<0:=by
   by_cases he:a.f=b.f
   ·rw[<-he];exact h4
   ·exact Ge.lt_trans (Ge.cJ hn) (Ge.cJ (hB.v a ha).cf) (Ge.cJ (hB.v b hb).cf) h4 (Ge.yT (hB.v a ha).cf (hB.v b hb).cf hab he)
  rw[Mi b.f n] at h5;omega
 have:=Mh _ Xs hp i x h;simpa[kC] using this
theorem u7(a:Ge.Nd):aY a a=0:=Ge.wu _
theorem Hr{Xs:List PB}(hB:BD Xs){n:Ge.Nd}(hn:Ge.Can n)(i:Nat)(x:PB)(h:Xs[i]?=some x)(h1:ij Xs n<=i):i<kC Xs n↔x.f=n:=by
 have a:=Hq hB hn i x h;rw[Vm hB hn i x h];constructor
 ·intro h2;exact Ge.sU (hB.v x (bh h)).cf hn (by show aY x.f n=0;omega)
 ·intro h2;rw[h2,u7];omega
theorem Mj(Xs:List PB)(n:Ge.Nd):kC Xs n<=Xs.length:=Er _ _
theorem Mk{Xs:List PB}(hB:BD Xs){n:Ge.Nd}(hn:Ge.Can n)(h:∃x∈Xs,x.f=n):ij Xs n<kC Xs n:=by
 obtain⟨x,hx,he⟩:=h;obtain⟨i,hi,hxi⟩:=jL.1 hx;have hg:Xs[i]?=some x:=by rw[aD hi,hxi]
 have h1:=Hq hB hn i x hg;have h2:=Vm hB hn i x hg;rw[he,u7] at h1 h2;have h3:¬i<ij Xs n:=fun h=>by have:=h1.1 h;omega
 have h4:i<kC Xs n:=h2.2 (by omega)
 omega
def bZ(Xs:List PB)(i:Nat):Nat:=
 bw (fun j k=>pU (xi Xs i) (xi Xs j) (xi Xs k)) (List.range' (ij Xs (xi Xs i).t+1) (kC Xs (xi Xs i).t-ij Xs (xi Xs i).t-1)) (ij Xs (xi Xs i).t)
theorem C5{cf cg:Nat->Nat->Int}{f:Nat->Nat}:∀(l:List Nat)(m:Nat),(∀j∈m::l,∀k∈m::l,cf (f j) (f k)=cg j k)->bw cf (l.map f) (f m)=f (bw cg l m)
 |[],m,_=>rfl
 |b::l,m,h=>by
  show bw cf (l.map f) (if cf (f b) (f m)<0 then f b else f m)=f (bw cg l (if cg b m<0 then b else m))
  rw[h b (by simp) m (by simp)]
  by_cases hc:cg b m<0
  ·rw[ah hc,ah hc];exact C5 l b fun j hj k hk=>h j (bo _ hj) k (bo _ hk)
  ·rw[aa hc,aa hc];refine C5 l m fun j hj k hk=>h j ?_ k ?_
   ·rcases aP.1 hj with h|h
    ·rw[h];simp
    ·simp[h]
   ·rcases aP.1 hk with h|h
    ·rw[h];simp
    ·simp[h]
theorem Vn{Xs:List PB}{i:Nat}(h:ij Xs (xi Xs i).t<kC Xs (xi Xs i).t):ij Xs (xi Xs i).t<=bZ Xs i/\bZ Xs i<kC Xs (xi Xs i).t:=by
 unfold bZ;rcases uX (fun j k=>pU (xi Xs i) (xi Xs j) (xi Xs k)) (List.range' (ij Xs (xi Xs i).t+1) (kC Xs (xi Xs i).t-ij Xs (xi Xs i).t-1)) (ij Xs (xi Xs i).t) with e|e
 ·rw[e];omega
 ·have:=El.1 e;omega
theorem afx(s R g c d n cap:Nat)(T1 T2:Nat)(T3:Int)(w:World)(a4:w.cell? ⟨s,4,none⟩=some (.complex .f64 T1 T2))(a5:w.cell? ⟨s,5,none⟩=some (.int .i64 T3))
  (HL:Hid (Calls Tryz.prog 210 #[.slice (some ⟨g,0,none⟩) n cap,.agg #[.complex .f64 T1 T2,.int .i64 T3]] w fun e w'=>e=.returned (.slice (some ⟨g,c,none⟩) (d-c) (cap-c))/\Below w.heap.size w w'))
  (HM:Hid (∀w',Below w.heap.size w w'->Calls Tryz.prog 171 #[.slice (some ⟨g,c,none⟩) (d-c) (cap-c),.func (.func 211) #[.pointer (some ⟨s,0,none⟩)] #[]] w' fun e w''=>e=.returned (.pointer (some ⟨R,0,none⟩))/\Below w'.heap.size w' w'')):
  Calls Tryz.prog 165 #[.slice (some ⟨g,0,none⟩) n cap,.pointer (some ⟨s,0,none⟩)] w fun e w'=>e=.returned (.pointer (some ⟨R,0,none⟩))/\Below w.heap.size w w':=by
 go_enter Tryz.func165,Tryz.ntmps165
 go_wp2_with fail
 refine HL.out.mono ?_;rintro e w1 ⟨rfl,hb1⟩
 go_wp2_with fail
 refine(HM.out w1 hb1).mono ?_;rintro e w2 ⟨rfl,hb2⟩
 go_wp2_with fail
 go_ret
 exact⟨rfl,hb1.trans (hb2.mono hb1.size)⟩
theorem RB.at{w:World}{g:Nat}{bs:List Nat}{Xs:List PB}(h:RB w g bs Xs){i:Nat}(hi:i<Xs.length):ig w (bx bs i) (xi Xs i):=
 h.side i _ _ (uZ (by rw[h.len];exact hi)) (tJ hi)
theorem RB.cellAt{w:World}{g:Nat}{bs:List Nat}{Xs:List PB}(h:RB w g bs Xs){i:Nat}(hi:i<Xs.length):w.cell? ⟨g,i,none⟩=some (.pointer (some ⟨bx bs i,0,none⟩)):=
 h.row i _ (uZ (by rw[h.len];exact hi))
theorem afy(bs:List Nat)(Xs:List PB)(hB:BD Xs)(hnd:bs.Nodup)(g cap i:Nat)(hi:i<Xs.length)(w:World)(hR:RB w g bs Xs)(hbc:bs.length<=cap)(hne:∃x∈Xs,x.f=(xi Xs i).t):
  Calls Tryz.prog 165 #[.slice (some ⟨g,0,none⟩) bs.length cap,.pointer (some ⟨bx bs i,0,none⟩)] w fun e w'=>e=.returned (.pointer (some ⟨bx bs (bZ Xs i),0,none⟩))/\Below w.heap.size w w':=by
 have hx:=fN hi;have Hs:=(hB.v _ hx).ct;have hlt:=Mk hB Hs hne;have tK:=Mj Xs (xi Xs i).t;have hbl:bs.length<=85000000:=by rw[hR.len];exact hB.len
 have hlen:=hR.len;have hs:=hR.at hi;refine afx (bx bs i) (bx bs (bZ Xs i)) g (ij Xs (xi Xs i).t) (kC Xs (xi Xs i).t) bs.length cap _ _ _ w hs.c4 hs.c5 (afr bs Xs (xi Xs i).t g cap w _ _ hR hbl hbc hlt (by omega) (Hq hB Hs) (fun j x h1 h2=>Hr hB Hs j x h1 h2) hB.v (hB.v _ hx).t.aF Hs) ?_
 refine fun w' hb=>?_
 have hR':=hR.below hb;generalize hc:ij Xs (xi Xs i).t=c at*;generalize hd:kC Xs (xi Xs i).t=d at*;have hm:=afo (fun b b'=>pU (xi Xs i) (xi Xs (bs.idxOf b)) (xi Xs (bs.idxOf b'))) (bx bs c) ((List.range' (c+1) (d-c-1)).map (bx bs)) g c (cap-c) (bx bs i) w' (by simp;omega)
  (fun k b hk=>by
   have afz:bx bs c::(List.range' (c+1) (d-c-1)).map (bx bs)=(List.range' c (d-c)).map (bx bs):=by
    have e:d-c=(d-c-1)+1:=by omega
    rw[e,List.range'_succ];rfl
   rw[afz] at hk;have hkl:k<d-c:=by
    have:=(bU.1 hk).1;simpa using this
   rw[fR,List.getElem?_range' hkl] at hk;have hb':bx bs (c+k)=b:=by simpa using hk
   rw[<-hb'];exact hR'.cellAt (by omega))
  (fun b hb1 b' hb2 w'' hw=>by
   have key:∀b,b∈bx bs c::(List.range' (c+1) (d-c-1)).map (bx bs)->∃k,k<Xs.length/\b=bx bs k:=by
    intro b hb;rcases aP.1 hb with h|h
    ·exact⟨c,by omega,h⟩
    ·obtain⟨k,hk,rfl⟩:=bp.1 h;have:=El.1 hk;exact⟨k,by omega,rfl⟩
   obtain⟨k1,h1,rfl⟩:=key b hb1;obtain⟨k2,h2,rfl⟩:=key b' hb2;have zA:=hR'.below hw;rw[kZ hnd (by omega),kZ hnd (by omega)]
   obtain⟨l,hl⟩:=hB.ld _ hx;obtain⟨l1,wC⟩:=hB.ld _ (fN h1);obtain⟨l2,hl2⟩:=hB.ld _ (fN h2);exact afn _ _ _ hl wC hl2 _ _ _ w'' (zA.at hi) (zA.at h1) (zA.at h2))
 have afA:((List.range' (c+1) (d-c-1)).map (bx bs)).length+1=d-c:=by simp;omega
 have hmin:bw (fun b b'=>pU (xi Xs i) (xi Xs (bs.idxOf b)) (xi Xs (bs.idxOf b'))) ((List.range' (c+1) (d-c-1)).map (bx bs)) (bx bs c)=bx bs (bZ Xs i):=by
  unfold bZ;rw[hc,hd];refine C5 _ _ fun j hj k hk=>?_
  have key:∀j,j∈c::List.range' (c+1) (d-c-1)->j<bs.length:=by
   intro j hj;rcases aP.1 hj with h|h
   ·omega
   ·have:=El.1 h;omega
  simp only[kZ hnd (key j hj),kZ hnd (key k hk)]
 rw[hmin] at hm;have afB:(((List.range' (c+1) (d-c-1)).map (bx bs)).length:Nat)+1=d-c:=afA;rw[afB] at hm;exact hm
namespace Ga
open Ge
theorem afC{rg:List (List Pt)}{l:List Nd}(hN:bK (ag rg) l){aF:Int->Bool}{n m c:Nd}(hout:aF (PP (ag rg) n)=false)(h:Sd (ag rg) l aF m n)(hc:Sd (ag rg) l aF n c)
  (hm:∀c',Sd (ag rg) l aF n c'->¬tC (wv m n) (wv n c') (wv n c)<0):ak (wv n c) (wv n m)=true:=by
 obtain⟨n1,_,hn⟩:=fW hN h.pc;obtain⟨n3,_,_⟩:=fW hN hc.pc;have m1:wv n m≠(0,0):=by rw[dS m n];exact ji n1
 have h1:=(h.xa hN).1;obtain⟨z,hz,cH⟩:=JN _ (wv n m) m1 (ax _) hout h1;obtain⟨c',hc',hsm⟩:=G7 hN hn hz;obtain⟨n4,_,_⟩:=fW hN hc'.pc;have LF:ak (wv n c') (wv n m)=true:=by rw[LJ hsm];exact cH
 have t:=gZ n3 m1;rw[h.oJ hN hc] at t;cases k:ak (wv n c) (wv n m)
 ·exfalso;rw[k] at t;have k':ak (wv n m) (wv n c)=true:=by revert t;cases ak (wv n m) (wv n c)<;>decide
  have:=(AB m1 n4 n3 (h.oJ hN hc') (h.oJ hN hc)).2 (kK.2 (af (ae ⟨LF,k'⟩)));rw[<-dS] at this;exact hm c' hc' this
 ·rfl
theorem afD{rg:List (List Pt)}{l:List Nd}(hN:bK (ag rg) l){aF:Int->Bool}{n m c k:Nd}(hout:aF (PP (ag rg) n)=false)(h:Sd (ag rg) l aF m n)(hr:aM (wv n m))(hc:Sd (ag rg) l aF n c)
  (hm:∀c',Sd (ag rg) l aF n c'->¬tC (wv m n) (wv n c') (wv n c)<0)(hk:Sd (ag rg) l aF n k)(hle:ak (wv n c) (wv n k)=false):0<cr (wv m n) (wv n k):=by
 have h1:=afC hN hout h hc hm;obtain⟨n1,_,_⟩:=fW hN h.pc;obtain⟨n3,_,_⟩:=fW hN hc.pc;obtain⟨n4,_,_⟩:=fW hN hk.pc;have m1:wv n m≠(0,0):=by rw[dS m n];exact ji n1
 have t:=gZ n3 n4;rw[hle] at t;have h2:ak (wv n k) (wv n m)=true:=by
  cases hs:ay (wv n c) (wv n k)
  ·rw[hs] at t;have:ak (wv n k) (wv n c)=true:=by revert t;cases ak (wv n k) (wv n c)<;>decide
   exact gf n4 n3 m1 this h1
  ·rw[<-LJ hs];exact h1
 have:=((EA hr _).1 h2).2;rw[dS n m,eI];omega
theorem afE{a x y z:Pt}(ha:a≠(0,0))(hx:x≠(0,0))(hy:y≠(0,0))(hz:z≠(0,0))(h1:cw a x y=true)(h2:cw a y z=true):cw a x z=true:=by
 rw[kK] at*;have lg:ak y a=true->ak a y=true->False:=fun p q=>by
  rw[EH hy ha p] at q;cases q
 rcases h1 with⟨p1,p2,p3⟩|⟨p1,p2⟩|⟨p1,p2,p3⟩<;>rcases h2 with⟨q1,q2,q3⟩|⟨q1,q2⟩|⟨q1,q2,q3⟩
 ·exact ae ⟨p1,q2,gf hz hy hx q3 p3⟩
 ·exact af (ae ⟨p1,q2⟩)
 ·exact(lg p2 q1).elim
 ·exact(lg q1 p2).elim
 ·exact(lg q1 p2).elim
 ·exact af (ae ⟨p1,q2⟩)
 ·exact(lg q1 p2).elim
 ·exact(lg q1 p2).elim
 ·exact af (af ⟨p1,q2,gf hz hy hx q3 p3⟩)
theorem afF{n m:N3}(hn:0<n.2.2)(hm:0<m.2.2)(e1:n.1*m.2.2=m.1*n.2.2)(e2:n.2.1*m.2.2=m.2.1*n.2.2)(u v:Pt):right (rl n u) (rl n v)=right (rl m u) (rl m v):=by
 have k:∀p,sc m.2.2 (rl n p)=sc n.2.2 (rl m p):=fun p=>by
  obtain⟨e1,e2⟩:=LI e1 e2 p;unfold sc;exact dC e1 e2
 rw[<-xV hm (rl n u) (rl n v),k,k,xV hn]
end Ga
theorem rq(f t:Ge.Nd):(bJ f t).1=(Ga.wv f t).1/\(bJ f t).2.1=(Ga.wv f t).2:=by
 unfold bJ Ga.wv;exact⟨by simp only;grind,by simp only;grind⟩
theorem u9(x y:PB):dX x y=(Ge.cr (Ga.wv x.f x.t) (Ga.wv y.f y.t)).sign:=by
 unfold dX Ge.cr;rw[(rq x.f x.t).1,(rq x.f x.t).2,(rq y.f y.t).1,(rq y.f y.t).2]
theorem Ht(s a b:PB):pU s a b=Ga.tC (Ga.wv s.f s.t) (Ga.wv a.f a.t) (Ga.wv b.f b.t):=by
 unfold pU Ga.tC;rw[u9,u9,u9]
theorem afG(es:List Ed){f t:Ge.Nd}(hf:0<f.2.2)(ht:0<t.2.2):mI es f t=Ga.RR es f t/\oH es f t=Ga.LL es f t:=by
 obtain⟨c,q⟩:=Ge.LB (f.1+t.1) (f.2.1+t.2.1) (d:=f.2.2+t.2.2) (by omega)
 have hq:0<(Ga.aW f t).2.2:=by show 0<f.2.2+t.2.2;omega
 have e1:(cM f t).1*(Ga.aW f t).2.2=(Ga.aW f t).1*(cM f t).2.2:=by
  have k:=Ge.yP (a:=(cM f t).1) (c:=f.1+t.1) c.pos (show 0<f.2.2+t.2.2 by omega)
  have h':Ge.aS (cM f t).1 (cM f t).2.2=Ge.aS (f.1+t.1) (f.2.2+t.2.2):=aw Prod.fst q;have k':Ge.fc (Ge.aS (cM f t).1 (cM f t).2.2) (Ge.aS (f.1+t.1) (f.2.2+t.2.2))=((cM f t).1*(f.2.2+t.2.2)-(f.1+t.1)*(cM f t).2.2).sign:=k;rw[h',Ge.yx] at k';have:=ud.1 k'.symm;show(cM f t).1*(f.2.2+t.2.2)=(f.1+t.1)*(cM f t).2.2;omega
 have e2:(cM f t).2.1*(Ga.aW f t).2.2=(Ga.aW f t).2.1*(cM f t).2.2:=by
  have k:=Ge.yP (a:=(cM f t).2.1) (c:=f.2.1+t.2.1) c.pos (show 0<f.2.2+t.2.2 by omega)
  have h':Ge.aS (cM f t).2.1 (cM f t).2.2=Ge.aS (f.2.1+t.2.1) (f.2.2+t.2.2):=aw Prod.snd q;have k':Ge.fc (Ge.aS (cM f t).2.1 (cM f t).2.2) (Ge.aS (f.2.1+t.2.1) (f.2.2+t.2.2))=((cM f t).2.1*(f.2.2+t.2.2)-(f.2.1+t.2.1)*(cM f t).2.2).sign:=k;rw[h',Ge.yx] at k';have:=ud.1 k'.symm;show(cM f t).2.1*(f.2.2+t.2.2)=(f.2.1+t.2.1)*(cM f t).2.2;omega
 have hpos:0<(cM f t).2.2:=c.pos;have r:mI es f t=Ga.RR es f t:=by
  exact Ga.ny (F:=Ge.fr ((cM f t).1,(cM f t).2.1) (cM f t).2.2) (G:=fun u v=>Ge.right (Ga.rl (Ga.aW f t) u) (Ga.rl (Ga.aW f t) v)) fun e _=>Ga.afF hpos hq e1 e2 e.1 e.2
 refine⟨r,?_⟩;have k:Ge.total (Ge.fa (cM f t) (bJ f t)) es=Ge.total (Ga.fb (Ga.aW f t) (Ga.wv f t)) es:=by
  refine Ga.ny fun e _=>?_
  unfold Ge.fa Ga.fb;have ho:Ge.fo ((cM f t).1,(cM f t).2.1) (cM f t).2.2 (e.1,e.2)=Ge.on (Ga.rl (Ga.aW f t) e.1) (Ga.rl (Ga.aW f t) e.2):=by
   show Ge.on (Ga.rl (cM f t) e.1) (Ga.rl (cM f t) e.2)=_;cases h1:Ge.on (Ga.rl (Ga.aW f t) e.1) (Ga.rl (Ga.aW f t) e.2)
   ·cases h2:Ge.on (Ga.rl (cM f t) e.1) (Ga.rl (cM f t) e.2)
    ·rfl
    ·rw[Ga.GY hq hpos e1.symm e2.symm h2] at h1;cases h1
   ·exact Ga.GY hpos hq e1 e2 h1
  rw[ho,(rq f t).1,(rq f t).2]
 show mI es f t+Ge.total (Ge.fa (cM f t) (bJ f t)) es=_;rw[r,k];rfl
end Go.Proofs.YtkjhhooecopolaaGreatDoor

import Derived.Test.YtkjhhooecopolaaGreatDoorMz29
import Derived.BigQuiet
set_option maxRecDepth 100000
set_option maxHeartbeats 4000000
namespace Go.Proofs.YtkjhhooecopolaaGreatDoor
open Go.RowKit
structure RB(w:World)(g:Nat)(bs:List Nat)(Xs:List PB):Prop where
 len:bs.length=Xs.length
 row:∀(i:Nat) b,bs[i]?=some b->w.cell? ⟨g,i,none⟩=some (.pointer (some ⟨b,0,none⟩))
 side:∀(i:Nat) b x,bs[i]?=some b->Xs[i]?=some x->iE w b x
theorem RB.below{w w':World}{g:Nat}{bs:List Nat}{Xs:List PB}(h:RB w g bs Xs)(hb:Below w.heap.size w w'):RB w' g bs Xs:=
 ⟨h.len,fun i b h1=>(hb.cell (p:=⟨g,i,none⟩) (lt_of_cell (h.row i b h1))).trans (h.row i b h1),fun i b x h1 h2=>(h.side i b x h1 h2).below hb⟩
theorem aim(bs:List Nat)(Xs:List PB)(n:Ge.Nd)(g cap:Nat)(w:World)(N1 N2:Nat)(N3:Int)(c:Nat)(hR:RB w g bs Xs)(hl:bs.length<=85000000)(hcl:c<=bs.length)
  (hc:∀i x,Xs[i]?=some x->(i<c↔aW x.f n<0))
  (HC:Hid (∀b x w',iE w' b x->x∈Xs->Calls Tryz.prog 254 #[.pointer (some ⟨b,0,none⟩),.agg #[.complex .f64 N1 N2,.int .i64 N3]] w' fun r w''=>r=.returned (.int .i64 (aW x.f n))/\Below w'.heap.size w' w'')):
  Calls Tryz.prog 253 #[.slice (some ⟨g,0,none⟩) bs.length cap,.agg #[.complex .f64 N1 N2,.int .i64 N3],.func (.func 254) #[] #[]] w fun e w'=>∃f,e=.returned (.tuple #[.int .i64 c,.bool f])/\Below w.heap.size w w':=by
 have HR:Hid (RB w g bs Xs):=hR;have tA:Hid (∀i x,Xs[i]?=some x->(i<c↔aW x.f n<0)):=hc;clear hR hc
 go_enter Tryz.func253,Tryz.ntmps253
 go_wp2_with fail
 have bh:Hid (Below w.heap.size w (w.alloc (.cells #[.complex .f64 N1 N2,.int .i64 N3] 83))/\(w.alloc (.cells #[.complex .f64 N1 N2,.int .i64 N3] 83)).heap[w.heap.size]?=some (.cells #[.complex .f64 N1 N2,.int .i64 N3] 83 (0,0))):=⟨(Below.refl _ _).alloc (ae _) _,heap_alloc_new _ _⟩;generalize w.alloc (.cells #[.complex .f64 N1 N2,.int .i64 N3] 83)=W0 at*
 go_loopg [9,10] bs.length (fun m iv jv wr=>∃i j:Nat,i<=c/\c<=j/\j<=bs.length/\j-i<=m/\iv=.int .i64 i/\jv=.int .i64 j/\Hid (Below w.heap.size w wr/\wr.heap[w.heap.size]?=some (.cells #[.complex .f64 N1 N2,.int .i64 N3] 83 (0,0))))
 case atStart=>exact⟨0,bs.length,by omega,hcl,ae _,by omega,rfl,rfl,bh⟩
 case round=>
  obtain⟨i,j,h1,h2,h3,h4,rfl,rfl,HB⟩:=hrel;clear bh;obtain⟨ag,hT⟩:=HB.out;have t0:wr.cell? ⟨w.heap.size,0,none⟩=some (.complex .f64 N1 N2):=cell_of hT 0;have t1:wr.cell? ⟨w.heap.size,1,none⟩=some (.int .i64 N3):=cell_of hT 1;have qh:w.heap.size<wr.heap.size:=lt_of_heap hT;by_cases hlt:i<j
  ·obtain⟨H,hH⟩:∃H,(i+j)/2=H:=⟨_,rfl⟩;have XN:H<bs.length:=by omega
   obtain⟨b,hb⟩:∃b,bs[H]?=some b:=⟨_,ay XN⟩;obtain⟨x,hx⟩:∃x,Xs[H]?=some x:=⟨_,ay (by rw[<-HR.out.len];exact XN)⟩
   have r0:=(ag.cell (p:=⟨g,H,none⟩) (lt_of_cell (HR.out.row H b hb))).trans (HR.out.row H b hb);have ir:Hid (∀w',Below w.heap.size w w'->Calls Tryz.prog 254 #[.pointer (some ⟨b,0,none⟩),.agg #[.complex .f64 N1 N2,.int .i64 N3]] w' fun r w''=>r=.returned (.int .i64 (aW x.f n))/\Below w'.heap.size w' w''):=fun w' hb'=>HC.out b x w' ((HR.out.side H b x hb hx).below hb') (aY hx)
   have sQ:Hid (H<c↔aW x.f n<0):=tA.out H x hx;have hij:(i:Int)<(j:Int):=by omega
   have hw1:IntKind.i64.wrap ((i:Int)+(j:Int))=(i:Int)+(j:Int):=by rw[IntKind.wrap_i64];omega
   have hw2:IntKind.u64.wrap ((i:Int)+(j:Int))=(i:Int)+(j:Int):=by simp[IntKind.wrap,IntKind.bits,IntKind.signed];omega
   have hHi:(H:Int)<(bs.length:Int):=by omega
   have hmid:((i:Int)+(j:Int))/2=(H:Int):=by omega
   have hH0:(0:Int)<=(H:Int):=by omega
   have XO:Hid (i<=H/\H<j):=by
    show i<=H/\H<j;omega
   have hgr:g<wr.heap.size:=lt_of_cell r0;have pH:Below w.heap.size w wr.drew:=ag.drew;clear hb hx hH;generalize aW x.f n=V at*
   go_wp2_with fail
   go_region_held3 (fun w'=>w'.cell? ⟨w.heap.size,0,none⟩=some (.complex .f64 N1 N2)/\w'.cell? ⟨w.heap.size,1,none⟩=some (.int .i64 N3)/\w'.cell? ⟨g,H,none⟩=some (.pointer (some ⟨b,0,none⟩))) (go_keep) (first
    |(go_at_call 254;refine(ir.out _ pH).mono ?_;rintro e w5 ⟨rfl,ai⟩;have e0:=(ai.cell (p:=⟨w.heap.size,0,none⟩) qh).trans t0;have e1:=(ai.cell (p:=⟨w.heap.size,1,none⟩) qh).trans t1;have e2:=(ai.cell (p:=⟨g,H,none⟩) hgr).trans r0))
   all_goals
    have eI:Hid (Below w.heap.size w w5/\w5.heap[w.heap.size]?=some (.cells #[.complex .f64 N1 N2,.int .i64 N3] 83 (0,0))):=⟨pH.trans (ai.mono pH.size),(ai.block _ qh).trans hT⟩;clear ai ir e0 e1 e2;by_cases hV:V<0
    ·have hVc:H<c:=sQ.out.2 hV
     go_wp2_with fail
     go_roundg (j-(H+1))
     case measure=>have:=XO.out;omega
     case rel=>exact⟨H+1,j,by omega,h2,h3,ae _,by go_num,rfl,eI⟩
    ·have hVc:¬H<c:=fun h=>hV (sQ.out.1 h)
     have NY:decide (V<0)=false:=decide_eq_false hV
     go_wp2_with fail
     go_roundg (H-i)
     case measure=>have:=XO.out;omega
     case rel=>exact⟨i,H,h1,by omega,by omega,ae _,rfl,rfl,eI⟩
  ·have hic:i=c:=by omega
   subst hic;by_cases hin:i<bs.length
   ·obtain⟨b,hb⟩:∃b,bs[i]?=some b:=⟨_,ay hin⟩;obtain⟨x,hx⟩:∃x,Xs[i]?=some x:=⟨_,ay (by rw[<-HR.out.len];exact hin)⟩
    have r0:=(ag.cell (p:=⟨g,i,none⟩) (lt_of_cell (HR.out.row i b hb))).trans (HR.out.row i b hb);have ir:Hid (∀w',Below w.heap.size w w'->Calls Tryz.prog 254 #[.pointer (some ⟨b,0,none⟩),.agg #[.complex .f64 N1 N2,.int .i64 N3]] w' fun r w''=>r=.returned (.int .i64 (aW x.f n))/\Below w'.heap.size w' w''):=fun w' hb'=>HC.out b x w' ((HR.out.side i b x hb hx).below hb') (aY hx)
    have Bg:(i:Int)<(bs.length:Int):=by omega
    have hgr:g<wr.heap.size:=lt_of_cell r0;clear hb hx HR HC tA;generalize aW x.f n=V at*;have pH:Below w.heap.size w wr.drew:=ag.drew
    go_wp2_with fail
    go_region_held3 (fun w'=>w'.cell? ⟨w.heap.size,0,none⟩=some (.complex .f64 N1 N2)/\w'.cell? ⟨w.heap.size,1,none⟩=some (.int .i64 N3)/\w'.cell? ⟨g,i,none⟩=some (.pointer (some ⟨b,0,none⟩))) (go_keep) (first
     |(go_at_call 254;refine(ir.out _ pH).mono ?_;rintro e w5 ⟨rfl,ai⟩;have e0:=(ai.cell (p:=⟨w.heap.size,0,none⟩) qh).trans t0;have e1:=(ai.cell (p:=⟨w.heap.size,1,none⟩) qh).trans t1;have e2:=(ai.cell (p:=⟨g,i,none⟩) hgr).trans r0))
    all_goals
     have eI:Hid (Below w.heap.size w w5):=pH.trans (ai.mono pH.size);clear ai ir e0 e1 e2
     go_wp2_with fail
     refine bodyPost_ret (v:=.tuple #[.int .i64 i,.bool (V == 0)]) (by simp[results,Tryz.results253,go_sem]) rfl ⟨V == 0,rfl,eI.out⟩
   ·have Bg:decide ((i:Int)<(bs.length:Int))=false:=by simp;omega
    clear HR HC tA
    go_wp2_with fail
    refine wp_region_held_drew (S:=(fun _=>True)) (by kernel_rfl) trivial (fun hHeld=>?_)
    refine wpAnyH_take (i:=0) (oi:={dst:=some 35,op:=_,type:=_,pos:=_,after:=_,guard:=_}) (v:=?_) rfl (by kernel_rfl) (by kernel_rfl) (by kernel_rfl) (fun _ _ _ h=>h) (Or.inl ⟨by rfl,?_⟩) hHeld ?_
    rotate_left
    ·intro w' aw
     go_simp
     try with_reducible rfl
    simp only[Act.put,aC,aD,aA];refine wpAnyH_take (i:=1) (oi:={dst:=some 36,op:=_,type:=_,pos:=_,after:=_,guard:=_}) (v:=?_) rfl (by kernel_rfl) (by kernel_rfl) (by kernel_rfl) (fun _ _ _ h=>h) (Or.inl ⟨by rfl,?_⟩) hHeld ?_
    rotate_left
    ·intro w' aw
     go_simp
     try with_reducible rfl
    simp only[Act.put,aC,aD,aA];refine wpAnyH_take (i:=2) (oi:={dst:=some 37,op:=_,type:=_,pos:=_,after:=_,guard:=_}) (v:=?_) rfl (by kernel_rfl) (by kernel_rfl) (by kernel_rfl) (fun _ _ _ h=>h) (Or.inl ⟨by rfl,?_⟩) hHeld ?_
    rotate_left
    ·intro w' aw
     go_simp
     try with_reducible rfl
    simp only[Act.put,aC,aD,aA];refine wpAnyH_take (i:=3) (oi:={dst:=some 38,op:=_,type:=_,pos:=_,after:=_,guard:=_}) (v:=?_) rfl (by kernel_rfl) (by kernel_rfl) (by kernel_rfl) (fun _ _ _ h=>h) (Or.inl ⟨by rfl,?_⟩) hHeld ?_
    rotate_left
    ·intro w' aw
     go_simp
     try with_reducible rfl
    simp only[Act.put,aC,aD,aA];refine wpAnyH_take (i:=4) (oi:={dst:=some 39,op:=_,type:=_,pos:=_,after:=_,guard:=_}) (v:=?_) rfl (by kernel_rfl) (by kernel_rfl) (by kernel_rfl) (fun _ _ _ h=>h) (Or.inl ⟨by rfl,?_⟩) hHeld ?_
    rotate_left
    ·intro w' aw
     go_simp
     try with_reducible rfl
    simp only[Act.put,aC,aD,aA];refine wpAnyH_take (i:=5) (oi:={dst:=some 40,op:=_,type:=_,pos:=_,after:=_,guard:=_}) (v:=undef) rfl (by kernel_rfl) (by kernel_rfl) (by kernel_rfl) (fun _ _ _ h=>h) (Or.inr ⟨by kernel_rfl,rfl⟩) hHeld ?_
    simp only[Act.put,aC,aD,aA];refine wpAnyH_take (i:=6) (oi:={dst:=some 41,op:=_,type:=_,pos:=_,after:=_,guard:=_}) (v:=undef) rfl (by kernel_rfl) (by kernel_rfl) (by kernel_rfl) (fun _ _ _ h=>h) (Or.inr ⟨by kernel_rfl,rfl⟩) hHeld ?_
    simp only[Act.put,aC,aD,aA];refine wpAnyH_take (i:=7) (oi:={dst:=some 42,op:=_,type:=_,pos:=_,after:=_,guard:=_}) (v:=undef) rfl (by kernel_rfl) (by kernel_rfl) (by kernel_rfl) (fun _ _ _ h=>h) (Or.inr ⟨by kernel_rfl,rfl⟩) hHeld ?_
    simp only[Act.put,aC,aD,aA];refine wpAnyH_take (i:=8) (oi:={dst:=some 43,op:=_,type:=_,pos:=_,after:=_,guard:=_}) (v:=undef) rfl (by kernel_rfl) (by kernel_rfl) (by kernel_rfl) (fun _ _ _ h=>h) (Or.inr ⟨by kernel_rfl,rfl⟩) hHeld ?_
    simp only[Act.put,aC,aD,aA];refine wpAnyH_take (i:=9) (oi:={dst:=some 44,op:=_,type:=_,pos:=_,after:=_,guard:=_}) (v:=undef) rfl (by kernel_rfl) (by kernel_rfl) (by kernel_rfl) (fun _ _ _ h=>h) (Or.inr ⟨by kernel_rfl,rfl⟩) hHeld ?_
    simp only[Act.put,aC,aD,aA];refine wpAnyH_take (i:=10) (oi:={dst:=some 45,op:=_,type:=_,pos:=_,after:=_,guard:=_}) (v:=undef) rfl (by kernel_rfl) (by kernel_rfl) (by kernel_rfl) (fun _ _ _ h=>h) (Or.inr ⟨by kernel_rfl,rfl⟩) hHeld ?_
    simp only[Act.put,aC,aD,aA];refine wpAnyH_take (i:=11) (oi:={dst:=some 46,op:=_,type:=_,pos:=_,after:=_,guard:=_}) (v:=undef) rfl (by kernel_rfl) (by kernel_rfl) (by kernel_rfl) (fun _ _ _ h=>h) (Or.inr ⟨by kernel_rfl,rfl⟩) hHeld ?_
    simp only[Act.put,aC,aD,aA];refine wpAnyH_take (i:=12) (oi:={dst:=some 47,op:=_,type:=_,pos:=_,after:=_,guard:=_}) (v:=undef) rfl (by kernel_rfl) (by kernel_rfl) (by kernel_rfl) (fun _ _ _ h=>h) (Or.inr ⟨by kernel_rfl,rfl⟩) hHeld ?_
    simp only[Act.put,aC,aD,aA];refine wpAnyH_take (i:=13) (oi:={dst:=some 48,op:=_,type:=_,pos:=_,after:=_,guard:=_}) (v:=?_) rfl (by kernel_rfl) (by kernel_rfl) (by kernel_rfl) (fun _ _ _ h=>h) (Or.inl ⟨by rfl,?_⟩) hHeld ?_
    rotate_left
    ·intro w' aw
     go_simp
     try with_reducible rfl
    simp only[Act.put,aC,aD,aA];refine wpAnyH_take (i:=14) (oi:={dst:=some 6,op:=_,type:=_,pos:=_,after:=_,guard:=_}) (v:=?_) rfl (by kernel_rfl) (by kernel_rfl) (by kernel_rfl) (fun _ _ _ h=>h) (Or.inl ⟨by rfl,?_⟩) hHeld ?_
    rotate_left
    ·intro w' aw
     go_simp
     try with_reducible rfl
    simp only[Act.put,aC,aD,aA];refine wpAnyH_take (i:=15) (oi:={dst:=some 7,op:=_,type:=_,pos:=_,after:=_,guard:=_}) (v:=?_) rfl (by kernel_rfl) (by kernel_rfl) (by kernel_rfl) (fun _ _ _ h=>h) (Or.inl ⟨by rfl,?_⟩) hHeld ?_
    rotate_left
    ·intro w' aw
     go_simp
     try with_reducible rfl
    simp only[Act.put,aC,aD,aA];refine wpAnyH_done (by kernel_rfl) ?_ _
    go_wp2_with fail
    refine bodyPost_ret (v:=.tuple #[.int .i64 i,.bool false]) (by simp[results,Tryz.results253,go_sem]) rfl ⟨false,rfl,ag.drew⟩
theorem aio(bs:List Nat)(Xs:List PB)(n:Ge.Nd)(g cap:Nat)(w:World)(c d:Nat)(hR:RB w g bs Xs)(hl:bs.length<=85000000)(hbc:bs.length<=cap)(Gz:c<d)(r9:d<=bs.length)
  (hc:∀i x,Xs[i]?=some x->(i<c↔aW x.f n<0))(hd:∀i x,Xs[i]?=some x->c<=i->(i<d↔x.f=n))(hv:∀x∈Xs,cM x)(hn:dm n.1 n.2.1 n.2.2)(hcn:Ge.Can n):
  Calls Tryz.prog 210 #[.slice (some ⟨g,0,none⟩) bs.length cap,gS n] w fun e w'=>e=.returned (.slice (some ⟨g,c,none⟩) (d-c) (cap-c))/\Below w.heap.size w w':=by
 have yL:=fun w'(hb:Below w.heap.size w w')=>aim bs Xs n g cap w' (floatOfInt .f64 n.1) (floatOfInt .f64 n.2.1) n.2.2 c (hR.below hb) hl (by omega) hc (fun b x w'' h1 hx=>aif x n (hv x hx) hn hcn b w'' h1)
 have HR:Hid (RB w g bs Xs):=hR;have HD:Hid (∀i x,Xs[i]?=some x->c<=i->(i<d↔x.f=n)):=hd;have NZ:Hid (∀x∈Xs,∀w,(binOp .eql 83 (.agg #[.complex .f64 (floatOfInt .f64 x.f.1) (floatOfInt .f64 x.f.2.1),.int .i64 x.f.2.2]) (.agg #[.complex .f64 (floatOfInt .f64 n.1) (floatOfInt .f64 n.2.1),.int .i64 n.2.2])).run Tryz.prog w=.ok (.bool (decide (x.f=n))) w):=fun x hx w=>DT x.f n (hv x hx).f.az hn w
 unfold gS;have qi:Hid (∀w',Below w.heap.size w w'->Calls Tryz.prog 253 #[.slice (some ⟨g,0,none⟩) bs.length cap,.agg #[.complex .f64 (floatOfInt .f64 n.1) (floatOfInt .f64 n.2.1),.int .i64 n.2.2],.func (.func 254) #[] #[]] w' fun e w''=>∃f,e=.returned (.tuple #[.int .i64 c,.bool f])/\Below w'.heap.size w' w''):=yL
 clear yL hR hc hd hv hn hcn;generalize floatOfInt .f64 n.1=N1 at*;generalize floatOfInt .f64 n.2.1=N2 at*;generalize AO:n.2.2=N3 at*;have hb0:Below w.heap.size w (w.alloc (.cells #[.complex .f64 N1 N2,.int .i64 N3] 83)):=(Below.refl _ _).alloc (ae _) _;have hT0:=heap_alloc_new w (.cells #[.complex .f64 N1 N2,.int .i64 N3] 83);have hz:w.heap.size<(w.alloc (.cells #[.complex .f64 N1 N2,.int .i64 N3] 83)).heap.size:=by simp
 go_enter Tryz.func210,Tryz.ntmps210
 go_wp2_with fail
 generalize w.alloc (.cells #[.complex .f64 N1 N2,.int .i64 N3] 83)=W0 at*;refine(qi.out _ hb0).mono ?_;rintro e w1 ⟨f,rfl,hb1⟩;have bh:Hid (Below w.heap.size w w1/\w1.heap[w.heap.size]?=some (.cells #[.complex .f64 N1 N2,.int .i64 N3] 83 (0,0))):=⟨hb0.trans (hb1.mono hb0.size),(hb1.block _ hz).trans hT0⟩;clear hb0 hb1 hT0 qi
 go_wp2_with fail
 go_loopg [7] (d-c) (fun m iv wr=>∃k:Nat,c<=k/\k<=d/\d-k<=m/\iv=.int .i64 k/\Hid (Below w.heap.size w wr/\wr.heap[w.heap.size]?=some (.cells #[.complex .f64 N1 N2,.int .i64 N3] 83 (0,0))))
 case atStart=>exact⟨c,ae _,eo Gz,ae _,rfl,bh⟩
 case round=>
  obtain⟨k,h1,h2,h3,rfl,HB⟩:=hrel;clear bh;obtain⟨ag,hT⟩:=HB.out;have t0:wr.cell? ⟨w.heap.size,0,none⟩=some (.complex .f64 N1 N2):=cell_of hT 0;have t1:wr.cell? ⟨w.heap.size,1,none⟩=some (.int .i64 N3):=cell_of hT 1;by_cases hin:k<bs.length
  ·obtain⟨b,hb⟩:∃b,bs[k]?=some b:=⟨_,ay hin⟩;obtain⟨x,hx⟩:∃x,Xs[k]?=some x:=⟨_,ay (by rw[<-HR.out.len];exact hin)⟩
   have r0:=(ag.cell (p:=⟨g,k,none⟩) (lt_of_cell (HR.out.row k b hb))).trans (HR.out.row k b hb);have Eu:=(HR.out.side k b x hb hx).below ag;have s2:=Eu.c2;have s3:=Eu.c3;have hop:=NZ.out x (aY hx);have sQ:Hid (k<d↔x.f=n):=HD.out k x hx h1;have Bg:(k:Int)<(bs.length:Int):=by omega
   clear hb hx Eu HR HD NZ;generalize floatOfInt .f64 x.f.1=X1 at*;generalize floatOfInt .f64 x.f.2.1=X2 at*;generalize Av:x.f.2.2=X3 at*;clear Av AO;by_cases XP:k<d
   ·have lj:decide (x.f=n)=true:=decide_eq_true (sQ.out.1 XP);rw[lj] at hop;clear lj sQ
    go_wp2_with fail
    go_quiet (fail)
    go_wp2_with fail
    go_roundg (d-(k+1))
    case measure=>omega
    case rel=>exact⟨k+1,by omega,by omega,ae _,by go_num,o6 ag _,hT⟩
   ·have lj:decide (x.f=n)=false:=decide_eq_false fun h=>XP (sQ.out.2 h)
    have N0:k=d:=by omega
    rw[lj] at hop;clear lj sQ;subst N0
    go_wp2_with fail
    go_quiet (fail)
    go_wp2_with fail
    go_ret
    exact⟨rfl,o6 ag _⟩
  ·have Bg:decide ((k:Int)<(bs.length:Int))=false:=by simp;omega
   have N0:k=d:=by omega
   subst N0;clear HR HD NZ
   go_wp2_with fail
   go_quiet (fail)
   go_wp2_with fail
   go_ret
   exact⟨rfl,o6 ag _⟩
def pb0:PB:=⟨0,0,0,(0,0,0),(0,0,0)⟩
def xi(Xs:List PB)(i:Nat):PB:=Xs.getD i pb0
def bx(bs:List Nat)(i:Nat):Nat:=bs.getD i 0
theorem uX{Xs:List PB}{i:Nat}{x:PB}(h:Xs[i]?=some x):xi Xs i=x:=by
 unfold xi;rw[lQ,h];rfl
theorem uY{Xs:List PB}{i:Nat}(h:i<Xs.length):Xs[i]?=some (xi Xs i):=by
 rw[ay h,uX (ay h)]
theorem Ev{bs:List Nat}{i b:Nat}(h:bs[i]?=some b):bx bs i=b:=by
 unfold bx;rw[lQ,h];rfl
theorem wQ{bs:List Nat}{i:Nat}(h:i<bs.length):bs[i]?=some (bx bs i):=by
 rw[ay h,Ev (ay h)]
theorem qj{bs:List Nat}{i:Nat}(h:i<bs.length):bx bs i∈bs:=aY (wQ h)
theorem gh{Xs:List PB}{i:Nat}(h:i<Xs.length):xi Xs i∈Xs:=aY (uY h)
theorem mD{bs:List Nat}(hn:bs.Nodup){i:Nat}(h:i<bs.length):bs.idxOf (bx bs i)=i:=by
 have e:bx bs i=bs[i]:=Ev (ay h);rw[e];exact acj hn i h
structure BD(Xs:List PB):Prop where
 v:∀x∈Xs,cM x
 ld:∀x∈Xs,∃l,LD x l
 pG:Xs.Pairwise fun a b=>¬aW b.f a.f<0
 len:Xs.length<=85000000
theorem N4{α:Type}(p:α->Bool):∀(l:List α),l.Pairwise (fun a b=>p b=true->p a=true)->∀(i:Nat) x,l[i]?=some x->(i<(l.filter p).length↔p x=true)
 |[],_,i,x,h=>by simp at h
 |a::l,hp,0,x,h=>by
  have hx:a=x:=by simpa using h
  subst hx;by_cases ha:p a=true
  ·simp[ha]
  ·have:(a::l).filter p=[]:=List.filter_eq_nil_iff.2 fun y hy=>by
    rcases aQ.1 hy with rfl|hy
    ·exact ha
    ·exact fun hpy=>ha ((fZ.1 hp).1 y hy hpy)
   rw[this];simp[ha]
 |a::l,hp,i+1,x,h=>by
  have hx:l[i]?=some x:=by simpa using h
  have ih:=N4 p l (fZ.1 hp).2 i x hx;by_cases ha:p a=true
  ·rw[BZ ha,bO,Nat.add_lt_add_iff_right];exact ih
  ·have hpx:¬p x=true:=fun hpx=>ha ((fZ.1 hp).1 x (aY hx) hpx)
   rw[xy ha];constructor
   ·intro h2;exact absurd (ih.1 (by omega)) hpx
   ·intro h2;exact absurd h2 hpx
def iF(Xs:List PB)(n:Ge.Nd):Nat:=(Xs.filter fun x=>decide (aW x.f n<0)).length
def lI(Xs:List PB)(n:Ge.Nd):Nat:=(Xs.filter fun x=>decide (aW x.f n<=0)).length
theorem Bh{a b:Ge.Nd}:aW a b<0↔Ge.lt (Ge.aj a) (Ge.aj b):=by unfold aW Ge.lt;exact Iff.rfl
theorem air{a b c:Ge.Nd}(ha:Ge.Can a)(hb:Ge.Can b)(hc:Ge.Can c)(h1:¬aW b a<0)(h2:aW b c<0):aW a c<0:=by
 by_cases he:a=b
 ·rw[he];exact h2
 ·exact Ge.lt_trans (Ge.cL ha) (Ge.cL hb) (Ge.cL hc) (Ge.Ay ha hb h1 he) h2
theorem N5(a b:Ge.Nd):aW b a= -aW a b:=Ge.G7 _ _
theorem Ji{Xs:List PB}(hB:BD Xs){n:Ge.Nd}(hn:Ge.Can n)(i:Nat)(x:PB)(h:Xs[i]?=some x):i<iF Xs n↔aW x.f n<0:=by
 have hp:Xs.Pairwise fun a b=>decide (aW b.f n<0)=true->decide (aW a.f n<0)=true:=by
  refine qs (fun{a b} ha hb hab=>?_) hB.pG
  simp only[decide_eq_true_eq];exact fun h2=>air (hB.v a ha).cf (hB.v b hb).cf hn hab h2
 have:=N4 _ Xs hp i x h;simpa[iF] using this
theorem XR{Xs:List PB}(hB:BD Xs){n:Ge.Nd}(hn:Ge.Can n)(i:Nat)(x:PB)(h:Xs[i]?=some x):i<lI Xs n↔aW x.f n<=0:=by
 have hp:Xs.Pairwise fun a b=>decide (aW b.f n<=0)=true->decide (aW a.f n<=0)=true:=by
  refine qs (fun{a b} ha hb hab=>?_) hB.pG
  simp only[decide_eq_true_eq];intro h2;apply BI.1;intro h3;have h4:aW n a.f<0:=by rw[N5 a.f n];omega
  have h5:aW n b.f<0:=by
   by_cases he:a.f=b.f
   ·rw[<-he];exact h4
   ·exact Ge.lt_trans (Ge.cL hn) (Ge.cL (hB.v a ha).cf) (Ge.cL (hB.v b hb).cf) h4 (Ge.Ay (hB.v a ha).cf (hB.v b hb).cf hab he)
  rw[N5 b.f n] at h5;omega
 have:=N4 _ Xs hp i x h;simpa[lI] using this
theorem wR(a:Ge.Nd):aW a a=0:=Ge.xS _
theorem Jj{Xs:List PB}(hB:BD Xs){n:Ge.Nd}(hn:Ge.Can n)(i:Nat)(x:PB)(h:Xs[i]?=some x)(h1:iF Xs n<=i):i<lI Xs n↔x.f=n:=by
 have a:=Ji hB hn i x h;rw[XR hB hn i x h];constructor
 ·intro h2;exact Ge.uM (hB.v x (aY h)).cf hn (by show aW x.f n=0;omega)
 ·intro h2;rw[h2,wR];omega
theorem N6(Xs:List PB)(n:Ge.Nd):lI Xs n<=Xs.length:=F5 _ _
theorem N7{Xs:List PB}(hB:BD Xs){n:Ge.Nd}(hn:Ge.Can n)(h:∃x∈Xs,x.f=n):iF Xs n<lI Xs n:=by
 obtain⟨x,hx,he⟩:=h;obtain⟨i,hi,hxi⟩:=j5.1 hx;have hg:Xs[i]?=some x:=by rw[ay hi,hxi]
 have h1:=Ji hB hn i x hg;have h2:=XR hB hn i x hg;rw[he,wR] at h1 h2;have h3:¬i<iF Xs n:=fun h=>by have:=h1.1 h;omega
 have h4:i<lI Xs n:=h2.2 (by omega)
 omega
def cd(Xs:List PB)(i:Nat):Nat:=
 bu (fun j k=>q9 (xi Xs i) (xi Xs j) (xi Xs k)) (List.range' (iF Xs (xi Xs i).t+1) (lI Xs (xi Xs i).t-iF Xs (xi Xs i).t-1)) (iF Xs (xi Xs i).t)
theorem Ew{cf cg:Nat->Nat->Int}{f:Nat->Nat}:∀(l:List Nat)(m:Nat),(∀j∈m::l,∀k∈m::l,cf (f j) (f k)=cg j k)->bu cf (l.map f) (f m)=f (bu cg l m)
 |[],m,_=>rfl
 |b::l,m,h=>by
  show bu cf (l.map f) (if cf (f b) (f m)<0 then f b else f m)=f (bu cg l (if cg b m<0 then b else m))
  rw[h b (by simp) m (by simp)]
  by_cases hc:cg b m<0
  ·rw[if_pos hc,if_pos hc];exact Ew l b fun j hj k hk=>h j (bn _ hj) k (bn _ hk)
  ·rw[if_neg hc,if_neg hc];refine Ew l m fun j hj k hk=>h j ?_ k ?_
   ·rcases aQ.1 hj with h|h
    ·rw[h];simp
    ·simp[h]
   ·rcases aQ.1 hk with h|h
    ·rw[h];simp
    ·simp[h]
theorem XS{Xs:List PB}{i:Nat}(h:iF Xs (xi Xs i).t<lI Xs (xi Xs i).t):iF Xs (xi Xs i).t<=cd Xs i/\cd Xs i<lI Xs (xi Xs i).t:=by
 unfold cd;rcases wP (fun j k=>q9 (xi Xs i) (xi Xs j) (xi Xs k)) (List.range' (iF Xs (xi Xs i).t+1) (lI Xs (xi Xs i).t-iF Xs (xi Xs i).t-1)) (iF Xs (xi Xs i).t) with e|e
 ·rw[e];omega
 ·have:=FW.1 e;omega
theorem ait(s R g c d n cap:Nat)(T1 T2:Nat)(T3:Int)(w:World)(a4:w.cell? ⟨s,4,none⟩=some (.complex .f64 T1 T2))(a5:w.cell? ⟨s,5,none⟩=some (.int .i64 T3))
  (HL:Hid (Calls Tryz.prog 210 #[.slice (some ⟨g,0,none⟩) n cap,.agg #[.complex .f64 T1 T2,.int .i64 T3]] w fun e w'=>e=.returned (.slice (some ⟨g,c,none⟩) (d-c) (cap-c))/\Below w.heap.size w w'))
  (HM:Hid (∀w',Below w.heap.size w w'->Calls Tryz.prog 171 #[.slice (some ⟨g,c,none⟩) (d-c) (cap-c),.func (.func 211) #[.pointer (some ⟨s,0,none⟩)] #[]] w' fun e w''=>e=.returned (.pointer (some ⟨R,0,none⟩))/\Below w'.heap.size w' w'')):
  Calls Tryz.prog 165 #[.slice (some ⟨g,0,none⟩) n cap,.pointer (some ⟨s,0,none⟩)] w fun e w'=>e=.returned (.pointer (some ⟨R,0,none⟩))/\Below w.heap.size w w':=by
 go_enter Tryz.func165,Tryz.ntmps165
 go_wp2_with fail
 refine HL.out.mono ?_;rintro e w1 ⟨rfl,hb1⟩
 go_wp2_with fail
 refine(HM.out w1 hb1).mono ?_;rintro e w2 ⟨rfl,hb2⟩
 go_wp2_with fail
 go_ret
 exact⟨rfl,hb1.trans (hb2.mono hb1.size)⟩
theorem RB.at{w:World}{g:Nat}{bs:List Nat}{Xs:List PB}(h:RB w g bs Xs){i:Nat}(hi:i<Xs.length):iE w (bx bs i) (xi Xs i):=
 h.side i _ _ (wQ (by rw[h.len];exact hi)) (uY hi)
theorem RB.cellAt{w:World}{g:Nat}{bs:List Nat}{Xs:List PB}(h:RB w g bs Xs){i:Nat}(hi:i<Xs.length):w.cell? ⟨g,i,none⟩=some (.pointer (some ⟨bx bs i,0,none⟩)):=
 h.row i _ (wQ (by rw[h.len];exact hi))
theorem aiu(bs:List Nat)(Xs:List PB)(hB:BD Xs)(hnd:bs.Nodup)(g cap i:Nat)(hi:i<Xs.length)(w:World)(hR:RB w g bs Xs)(hbc:bs.length<=cap)(hne:∃x∈Xs,x.f=(xi Xs i).t):
  Calls Tryz.prog 165 #[.slice (some ⟨g,0,none⟩) bs.length cap,.pointer (some ⟨bx bs i,0,none⟩)] w fun e w'=>e=.returned (.pointer (some ⟨bx bs (cd Xs i),0,none⟩))/\Below w.heap.size w w':=by
 have hx:=gh hi;have kL:=(hB.v _ hx).ct;have hlt:=N7 hB kL hne;have uZ:=N6 Xs (xi Xs i).t;have hbl:bs.length<=85000000:=by rw[hR.len];exact hB.len
 have hlen:=hR.len;have hs:=hR.at hi;refine ait (bx bs i) (bx bs (cd Xs i)) g (iF Xs (xi Xs i).t) (lI Xs (xi Xs i).t) bs.length cap _ _ _ w hs.c4 hs.c5 (aio bs Xs (xi Xs i).t g cap w _ _ hR hbl hbc hlt (by omega) (Ji hB kL) (fun j x h1 h2=>Jj hB kL j x h1 h2) hB.v (hB.v _ hx).t.az kL) ?_
 refine fun w' hb=>?_
 have hR':=hR.below hb;generalize hc:iF Xs (xi Xs i).t=c at*;generalize hd:lI Xs (xi Xs i).t=d at*;have hm:=ail (fun b b'=>q9 (xi Xs i) (xi Xs (bs.idxOf b)) (xi Xs (bs.idxOf b'))) (bx bs c) ((List.range' (c+1) (d-c-1)).map (bx bs)) g c (cap-c) (bx bs i) w' (by simp;omega)
  (fun k b hk=>by
   have aiv:bx bs c::(List.range' (c+1) (d-c-1)).map (bx bs)=(List.range' c (d-c)).map (bx bs):=by
    have e:d-c=(d-c-1)+1:=by omega
    rw[e,List.range'_succ];rfl
   rw[aiv] at hk;have hkl:k<d-c:=by
    have:=(bT.1 hk).1;simpa using this
   rw[gm,List.getElem?_range' hkl] at hk;have hb':bx bs (c+k)=b:=by simpa using hk
   rw[<-hb'];exact hR'.cellAt (by omega))
  (fun b hb1 b' hb2 w'' hw=>by
   have key:∀b,b∈bx bs c::(List.range' (c+1) (d-c-1)).map (bx bs)->∃k,k<Xs.length/\b=bx bs k:=by
    intro b hb;rcases aQ.1 hb with h|h
    ·exact⟨c,by omega,h⟩
    ·obtain⟨k,hk,rfl⟩:=aX.1 h;have:=FW.1 hk;exact⟨k,by omega,rfl⟩
   obtain⟨k1,h1,rfl⟩:=key b hb1;obtain⟨k2,h2,rfl⟩:=key b' hb2;have Bi:=hR'.below hw;rw[mD hnd (by omega),mD hnd (by omega)]
   obtain⟨l,hl⟩:=hB.ld _ hx;obtain⟨l1,kG⟩:=hB.ld _ (gh h1);obtain⟨l2,hl2⟩:=hB.ld _ (gh h2);exact aik _ _ _ hl kG hl2 _ _ _ w'' (Bi.at hi) (Bi.at h1) (Bi.at h2))
 have aiw:((List.range' (c+1) (d-c-1)).map (bx bs)).length+1=d-c:=by simp;omega
 have hmin:bu (fun b b'=>q9 (xi Xs i) (xi Xs (bs.idxOf b)) (xi Xs (bs.idxOf b'))) ((List.range' (c+1) (d-c-1)).map (bx bs)) (bx bs c)=bx bs (cd Xs i):=by
  unfold cd;rw[hc,hd];refine Ew _ _ fun j hj k hk=>?_
  have key:∀j,j∈c::List.range' (c+1) (d-c-1)->j<bs.length:=by
   intro j hj;rcases aQ.1 hj with h|h
   ·omega
   ·have:=FW.1 h;omega
  simp only[mD hnd (key j hj),mD hnd (key k hk)]
 rw[hmin] at hm;have aix:(((List.range' (c+1) (d-c-1)).map (bx bs)).length:Nat)+1=d-c:=aiw;rw[aix] at hm;exact hm
namespace Ga
open Ge
theorem aiy{rg:List (List Pt)}{l:List Nd}(hN:bQ (aa rg) l){az:Int->Bool}{n m c:Nd}(hout:az (PP (aa rg) n)=false)(h:Sd (aa rg) l az m n)(hc:Sd (aa rg) l az n c)
  (hm:∀c',Sd (aa rg) l az n c'->¬tC (wv m n) (wv n c') (wv n c)<0):ah (wv n c) (wv n m)=true:=by
 obtain⟨n1,_,hn⟩:=gF hN h.pc;obtain⟨n3,_,_⟩:=gF hN hc.pc;have m1:wv n m≠(0,0):=by rw[eG m n];exact jy n1
 have h1:=(h.yH hN).1;obtain⟨z,hz,cK⟩:=K9 _ (wv n m) m1 (ae _) hout h1;obtain⟨c',hc',hsm⟩:=I2 hN hn hz;obtain⟨n4,_,_⟩:=gF hN hc'.pc;have Nn:ah (wv n c') (wv n m)=true:=by rw[Nr hsm];exact cK
 have t:=iA n3 m1;rw[h.qg hN hc] at t;cases k:ah (wv n c) (wv n m)
 ·exfalso;rw[k] at t;have k':ah (wv n m) (wv n c)=true:=by revert t;cases ah (wv n m) (wv n c)<;>decide
  have:=(Cq m1 n4 n3 (h.qg hN hc') (h.qg hN hc)).2 (lS.2 (Or.inr (Or.inl ⟨Nn,k'⟩)));rw[<-eG] at this;exact hm c' hc' this
 ·rfl
theorem aiz{rg:List (List Pt)}{l:List Nd}(hN:bQ (aa rg) l){az:Int->Bool}{n m c k:Nd}(hout:az (PP (aa rg) n)=false)(h:Sd (aa rg) l az m n)(hr:aN (wv n m))(hc:Sd (aa rg) l az n c)
  (hm:∀c',Sd (aa rg) l az n c'->¬tC (wv m n) (wv n c') (wv n c)<0)(hk:Sd (aa rg) l az n k)(hle:ah (wv n c) (wv n k)=false):0<cr (wv m n) (wv n k):=by
 have h1:=aiy hN hout h hc hm;obtain⟨n1,_,_⟩:=gF hN h.pc;obtain⟨n3,_,_⟩:=gF hN hc.pc;obtain⟨n4,_,_⟩:=gF hN hk.pc;have m1:wv n m≠(0,0):=by rw[eG m n];exact jy n1
 have t:=iA n3 n4;rw[hle] at t;have h2:ah (wv n k) (wv n m)=true:=by
  cases hs:ak (wv n c) (wv n k)
  ·rw[hs] at t;have:ah (wv n k) (wv n c)=true:=by revert t;cases ah (wv n k) (wv n c)<;>decide
   exact gM n4 n3 m1 this h1
  ·rw[<-Nr hs];exact h1
 have:=((Gg hr _).1 h2).2;rw[eG n m,fw];omega
theorem aiA{a x y z:Pt}(ha:a≠(0,0))(hx:x≠(0,0))(hy:y≠(0,0))(hz:z≠(0,0))(h1:cw a x y=true)(h2:cw a y z=true):cw a x z=true:=by
 rw[lS] at*;have mE:ah y a=true->ah a y=true->False:=fun p q=>by
  rw[Gn hy ha p] at q;cases q
 rcases h1 with⟨p1,p2,p3⟩|⟨p1,p2⟩|⟨p1,p2,p3⟩<;>rcases h2 with⟨q1,q2,q3⟩|⟨q1,q2⟩|⟨q1,q2,q3⟩
 ·exact Or.inl ⟨p1,q2,gM hz hy hx q3 p3⟩
 ·exact Or.inr (Or.inl ⟨p1,q2⟩)
 ·exact(mE p2 q1).elim
 ·exact(mE q1 p2).elim
 ·exact(mE q1 p2).elim
 ·exact Or.inr (Or.inl ⟨p1,q2⟩)
 ·exact(mE q1 p2).elim
 ·exact(mE q1 p2).elim
 ·exact Or.inr (Or.inr ⟨p1,q2,gM hz hy hx q3 p3⟩)
theorem aiB{n m:N3}(hn:0<n.2.2)(hm:0<m.2.2)(e1:n.1*m.2.2=m.1*n.2.2)(e2:n.2.1*m.2.2=m.2.1*n.2.2)(u v:Pt):right (rl n u) (rl n v)=right (rl m u) (rl m v):=by
 have k:∀p,sc m.2.2 (rl n p)=sc n.2.2 (rl m p):=fun p=>by
  obtain⟨e1,e2⟩:=Nq e1 e2 p;unfold sc;exact dY e1 e2
 rw[<-zy hm (rl n u) (rl n v),k,k,zy hn]
end Ga
theorem tD(f t:Ge.Nd):(bI f t).1=(Ga.wv f t).1/\(bI f t).2.1=(Ga.wv f t).2:=by
 unfold bI Ga.wv;exact⟨by simp only;grind,by simp only;grind⟩
theorem wS(x y:PB):eT x y=(Ge.cr (Ga.wv x.f x.t) (Ga.wv y.f y.t)).sign:=by
 unfold eT Ge.cr;rw[(tD x.f x.t).1,(tD x.f x.t).2,(tD y.f y.t).1,(tD y.f y.t).2]
theorem Jk(s a b:PB):q9 s a b=Ga.tC (Ga.wv s.f s.t) (Ga.wv a.f a.t) (Ga.wv b.f b.t):=by
 unfold q9 Ga.tC;rw[wS,wS,wS]
theorem aiC(es:List Ed){f t:Ge.Nd}(hf:0<f.2.2)(ht:0<t.2.2):oh es f t=Ga.RR es f t/\qd es f t=Ga.LL es f t:=by
 obtain⟨c,q⟩:=Ge.Nk (f.1+t.1) (f.2.1+t.2.1) (d:=f.2.2+t.2.2) (by omega)
 have hq:0<(Ga.aU f t).2.2:=by show 0<f.2.2+t.2.2;omega
 have e1:(cQ f t).1*(Ga.aU f t).2.2=(Ga.aU f t).1*(cQ f t).2.2:=by
  have k:=Ge.Au (a:=(cQ f t).1) (c:=f.1+t.1) c.pos (show 0<f.2.2+t.2.2 by omega)
  have h':Ge.aR (cQ f t).1 (cQ f t).2.2=Ge.aR (f.1+t.1) (f.2.2+t.2.2):=congrArg Prod.fst q;have k':Ge.fc (Ge.aR (cQ f t).1 (cQ f t).2.2) (Ge.aR (f.1+t.1) (f.2.2+t.2.2))=((cQ f t).1*(f.2.2+t.2.2)-(f.1+t.1)*(cQ f t).2.2).sign:=k;rw[h',Ge.zW] at k';have:=vE.1 k'.symm;show(cQ f t).1*(f.2.2+t.2.2)=(f.1+t.1)*(cQ f t).2.2;omega
 have e2:(cQ f t).2.1*(Ga.aU f t).2.2=(Ga.aU f t).2.1*(cQ f t).2.2:=by
  have k:=Ge.Au (a:=(cQ f t).2.1) (c:=f.2.1+t.2.1) c.pos (show 0<f.2.2+t.2.2 by omega)
  have h':Ge.aR (cQ f t).2.1 (cQ f t).2.2=Ge.aR (f.2.1+t.2.1) (f.2.2+t.2.2):=congrArg Prod.snd q;have k':Ge.fc (Ge.aR (cQ f t).2.1 (cQ f t).2.2) (Ge.aR (f.2.1+t.2.1) (f.2.2+t.2.2))=((cQ f t).2.1*(f.2.2+t.2.2)-(f.2.1+t.2.1)*(cQ f t).2.2).sign:=k;rw[h',Ge.zW] at k';have:=vE.1 k'.symm;show(cQ f t).2.1*(f.2.2+t.2.2)=(f.2.1+t.2.1)*(cQ f t).2.2;omega
 have hpos:0<(cQ f t).2.2:=c.pos;have r:oh es f t=Ga.RR es f t:=by
  exact Ga.oO (F:=Ge.fr ((cQ f t).1,(cQ f t).2.1) (cQ f t).2.2) (G:=fun u v=>Ge.right (Ga.rl (Ga.aU f t) u) (Ga.rl (Ga.aU f t) v)) fun e _=>Ga.aiB hpos hq e1 e2 e.1 e.2
 refine⟨r,?_⟩;have k:Ge.total (Ge.fa (cQ f t) (bI f t)) es=Ge.total (Ga.fb (Ga.aU f t) (Ga.wv f t)) es:=by
  refine Ga.oO fun e _=>?_
  unfold Ge.fa Ga.fb;have ho:Ge.fo ((cQ f t).1,(cQ f t).2.1) (cQ f t).2.2 (e.1,e.2)=Ge.on (Ga.rl (Ga.aU f t) e.1) (Ga.rl (Ga.aU f t) e.2):=by
   show Ge.on (Ga.rl (cQ f t) e.1) (Ga.rl (cQ f t) e.2)=_;cases h1:Ge.on (Ga.rl (Ga.aU f t) e.1) (Ga.rl (Ga.aU f t) e.2)
   ·cases h2:Ge.on (Ga.rl (cQ f t) e.1) (Ga.rl (cQ f t) e.2)
    ·rfl
    ·rw[Ga.IY hq hpos e1.symm e2.symm h2] at h1;cases h1
   ·exact Ga.IY hpos hq e1 e2 h1
  rw[ho,(tD f t).1,(tD f t).2]
 show oh es f t+Ge.total (Ge.fa (cQ f t) (bI f t)) es=_;rw[r,k];rfl
end Go.Proofs.YtkjhhooecopolaaGreatDoor

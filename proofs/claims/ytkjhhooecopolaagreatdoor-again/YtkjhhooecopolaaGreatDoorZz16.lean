import Derived.Test.YtkjhhooecopolaaGreatDoorZz15
set_option maxRecDepth 100000
set_option maxHeartbeats 4000000
namespace Go.Proofs.YtkjhhooecopolaaGreatDoor
open Go.RowKit
theorem SS:(Tryz.prog.info? 83).map (fun i=>(i.zero,i.size,i.bytes))=some (some (.agg #[.complex .f64 0 0,.int .i64 0]),2,24):=by kernel_rfl
theorem SU:∀l:List Ge.Nd,(Ge.cC l).length<=l.length
 |[]=>by simp[Ge.cC]
 |[a]=>by simp[Ge.cC]
 |a::b::r=>by
  have ih:=SU (b::r);unfold Ge.cC;split
  ·simp only[cG] at ih⊢;omega
  ·simp only[cG] at ih⊢;omega
structure NL(w:World)(lv:Value)(L:List Ge.Nd)(wr:World):Prop where
 own:wr.ownsRow w.heap.size 83 2 lv L.length (cS L)
 below:Below w.heap.size w wr
 can:∀n∈L,Ge.Can n
 aF:∀n∈L,cP n.1 n.2.1 n.2.2
def NS(w:World)(lv:Value)(l:List Ed)(k:Nat)(wr:World):Prop:=
 ∃L,NL w lv L wr/\(∀q,(∃n∈L,Ge.au n=q)↔Ge.isNode l q)/\L.length<=k
structure qW(w:World)(B:Nat)(x:EB)(e:Ed)(es:List Ed)(i j:Nat)(lv:Value)(L:List Ge.Nd)(wr:World):Prop where
 nl:NL w lv L wr
 lt:B<wr.heap.size
 ne:lv.ownBlock≠some B
 c0:wr.cell? ⟨B,0,none⟩=some (.complex .f64 x.wa x.wb)
 c1:wr.cell? ⟨B,1,none⟩=some (.float .f64 x.sh)
 c2:wr.cell? ⟨B,2,none⟩=some (.complex .f64 x.fa x.fb)
 c3:wr.cell? ⟨B,3,none⟩=some (.complex .f64 x.ta x.tb)
 iff:∀q,(∃n∈L,Ge.au n=q)↔Ge.isNode (es.take i) q\/q=Ge.pt e.1\/q=Ge.pt e.2\/∃f∈es.take j,Ge.met e f q
 len:L.length<=i*404+2+j
theorem qW.keep{w:World}{B:Nat}{x:EB}{e:Ed}{es:List Ed}{i j:Nat}{lv:Value}{L:List Ge.Nd}{wr w':World}(h:qW w B x e es i j lv L wr)(hb:Below wr.heap.size wr w'):qW w B x e es i j lv L w':=
 ⟨⟨aO h.nl.own fun k hk=>hb.block k (aB h.nl.own k hk).2,h.nl.below.trans (hb.mono h.nl.below.size),h.nl.can,h.nl.aF⟩,aZ h.lt hb.size,h.ne,(hb.cell (p:=⟨B,0,none⟩) h.lt).trans h.c0,(hb.cell (p:=⟨B,1,none⟩) h.lt).trans h.c1,(hb.cell (p:=⟨B,2,none⟩) h.lt).trans h.c2,(hb.cell (p:=⟨B,3,none⟩) h.lt).trans h.c3,h.iff,h.len⟩
theorem SV{es:List Ed}{j:Nat}{f e:Ed}(hf:es[j]?=some f)(q:Ge.Qt):(∃f'∈es.take (j+1),Ge.met e f' q)↔(∃f'∈es.take j,Ge.met e f' q)\/Ge.met e f q:=by
 have h:es.take (j+1)=es.take j++[f]:=by rw[jh,hf];rfl
 rw[h];constructor
 ·rintro⟨g,hg,h⟩;rcases bT.1 hg with hg|hg
  ·exact ae ⟨g,hg,h⟩
  ·rw[bI] at hg;rw[hg] at h;exact af h
 ·rintro(⟨g,hg,h⟩|h)
  ·exact⟨g,by simp[hg],h⟩
  ·exact⟨f,by simp,h⟩
theorem qW.skip{w:World}{B:Nat}{x:EB}{e:Ed}{es:List Ed}{i j:Nat}{lv:Value}{L:List Ge.Nd}{wr:World}{f:Ed}(h:qW w B x e es i j lv L wr)(hf:es[j]?=some f)(hn:¬(Ge.cu e f≠0/\Ge.hq (Ge.eA e f) e=true/\Ge.hq (Ge.eA e f) f=true)):qW w B x e es i (j+1) lv L wr:=
 ⟨h.nl,h.lt,h.ne,h.c0,h.c1,h.c2,h.c3,fun q=>by
  have hm:¬Ge.met e f q:=fun m=>hn ⟨m.1,m.2.2⟩
  rw[h.iff q,SV hf q];simp[hm],by have:=h.len;omega⟩
theorem adi(es:List Ed)(v:Value)(w:World)(hR:fG w v es)(hl:es.length<=402)(hs:∀e∈es,dU e)
  (HS:Hid (∀lv L wr,NL w lv L wr->L.length<=200000->Calls Tryz.prog 124 #[lv,.func (.func 125) #[] #[]] wr fun r w'=>r=.returned (.tuple #[])/\∃S,NL w lv S w'/\(∀n,n∈S↔n∈L)/\S.length=L.length/\S.Pairwise Ge.le))
  (HK:Hid (∀lv S wr,NL w lv S wr->S.length<=200000->Calls Tryz.prog 126 #[lv] wr fun r w'=>∃v',r=.returned v'/\fM w' v' (Ge.cC S)/\Below w.heap.size w w')):
  Calls Tryz.prog 72 #[v] w fun e w'=>∃v' l,e=.returned v'/\fM w' v' l/\Below w.heap.size w w'/\l.map Ge.au=Ge.eO es/\(∀n∈l,cP n.1 n.2.1 n.2.2)/\l.length<=200000/\(∀n∈l,Ge.Can n):=by
 obtain⟨so,cap,rfl⟩:=Bg hR;obtain⟨i0,hi,hz0,hz1,hz2⟩:=info_parts SS;have HR:Hid (fG w (.slice so es.length cap) es):=hR;clear hR
 go_enter Tryz.func72,Tryz.ntmps72
 go_wp2_with fail
 have bH:Hid (NS w (.slice none 0 0) [] 0 w):=⟨[],⟨World.ownsRow_nil _ _ _ _,Below.refl _ _,fun n h=>by simp at h,fun n h=>by simp at h⟩,fun q=>by simp[Ge.isNode],by simp⟩
 go_loopg [3,12] es.length (fun m lv iv wr=>∃i:Nat,i+m=es.length/\iv=.int .i64 i/\Hid (NS w lv (es.take i) (i*404) wr))
 case atStart=>exact⟨0,by omega,rfl,bH⟩
 case round=>
  obtain⟨i,him,rfl,HE⟩:=hrel;clear bH;by_cases hlt:i<es.length
  ·obtain⟨e,he⟩:∃e,es[i]?=some e:=⟨_,aD hlt⟩;obtain⟨b,x,rfl,hb,hx,c0,c1,c2,c3⟩:=Bh HR.out he;obtain⟨L,yU,BX,jn⟩:=HE.out;have aj:=yU.below;have r0:=(aj.cell (p:=⟨b,i*4,none⟩) hb).trans c0;have r1:=(aj.cell (p:=⟨b,i*4+1,none⟩) hb).trans c1;have r2:=(aj.cell (p:=⟨b,i*4+2,none⟩) hb).trans c2;have r3:=(aj.cell (p:=⟨b,i*4+3,none⟩) hb).trans c3;have ic:=hs e (bh he);obtain⟨n1,n1c,K8,SY,K9⟩:=Gj 1 hx.fa hx.fb (by have:=ic.a;unfold small at this;omega) (by have:=ic.b;unfold small at this;omega) (by omega)
   obtain⟨n2,SZ,La,S3,uM⟩:=Gj 1 hx.ta hx.tb (by have:=ic.c;unfold small at this;omega) (by have:=ic.d;unfold small at this;omega) (by omega)
   rw[Ge.Fw,Ge.Fw] at K8 La;have HX:Hid (iH x e):=hx;have HEM:Hid (e∈es):=bh he;have HEI:Hid (es[i]?=some e):=he;have yV:Hid (NL w u3 L wr):=yU;have qX:Hid (∀q,(∃n∈L,Ge.au n=q)↔Ge.isNode (es.take i) q):=BX;have BZ:Hid (Ge.au n1=Ge.pt e.1/\Ge.Can n1/\cP n1.1 n1.2.1 n1.2.2):=⟨K8,n1c,SY⟩;have pK:Hid (Ge.au n2=Ge.pt e.2/\Ge.Can n2/\cP n2.1 n2.2.1 n2.2.2):=⟨La,SZ,S3⟩;have ez:(i:Int)<(es.length:Int):=by omega
   have hbr:b<wr.heap.size:=aZ hb aj.size;obtain⟨wa,wb,sh,fa,fb,ta,tb⟩:=x;simp only at r0 r1 r2 r3 K9 uM;have wP:Hid (∀w1,Calls Tryz.prog 37 #[.complex .f64 fa fb,.int .i64 1] w1 fun e w'=>e=.returned (gm n1)/\Below w1.heap.size w1 w'):=K9
   have wQ:Hid (∀w1,Calls Tryz.prog 37 #[.complex .f64 ta tb,.int .i64 1] w1 fun e w'=>e=.returned (gm n2)/\Below w1.heap.size w1 w'):=uM
   clear c0 c1 c2 c3 yU BX hx K9 uM n1c K8 SY SZ La S3 he HE ic
   go_wp2_with (first |(simp only[eK];go_simp)|(simp only[lO];go_simp)|(simp only[eK,lO];go_simp))
   have hE:=heap_alloc_new wr (.cells #[.complex .f64 wa wb,.float .f64 sh,.complex .f64 fa fb,.complex .f64 ta tb] 124);have hbW:=aj.alloc aj.size (.cells #[.complex .f64 wa wb,.float .f64 sh,.complex .f64 fa fb,.complex .f64 ta tb] 124);have S4:(wr.alloc (.cells #[.complex .f64 wa wb,.float .f64 sh,.complex .f64 fa fb,.complex .f64 ta tb] 124)).ownsRow w.heap.size 83 2 u3 L.length (cS L):=aO yV.out.own fun k hk=>Below.heap_alloc _ _ _ (aB yV.out.own k hk).2
   have qL:wr.heap.size<(wr.alloc (.cells #[.complex .f64 wa wb,.float .f64 sh,.complex .f64 fa fb,.complex .f64 ta tb] 124)).heap.size:=by simp
   have Ca:∀k,u3.ownBlock=some k->k<wr.heap.size:=fun k hk=>(aB yV.out.own k hk).2
   have S5:w.heap.size<=wr.heap.size:=aj.size;generalize wr.alloc (.cells #[.complex .f64 wa wb,.float .f64 sh,.complex .f64 fa fb,.complex .f64 ta tb] 124)=W at*;generalize Bq:wr.heap.size=B at*;have a0:W.cell? ⟨B,0,none⟩=some (.complex .f64 wa wb):=cell_of hE 0;have a1:W.cell? ⟨B,1,none⟩=some (.float .f64 sh):=cell_of hE 1;have a2:W.cell? ⟨B,2,none⟩=some (.complex .f64 fa fb):=cell_of hE 2;have a3:W.cell? ⟨B,3,none⟩=some (.complex .f64 ta tb):=cell_of hE 3;have uN:Hid (gu n1=[.complex .f64 (floatOfInt .f64 n1.1) (floatOfInt .f64 n1.2.1),.int .i64 n1.2.2]):=rfl;have uO:Hid (gu n2=[.complex .f64 (floatOfInt .f64 n2.1) (floatOfInt .f64 n2.2.1),.int .i64 n2.2.2]):=rfl;unfold gm at wP wQ;generalize floatOfInt .f64 n1.1=A1 at*;generalize floatOfInt .f64 n1.2.1=A2 at*;generalize floatOfInt .f64 n2.1=A4 at*;generalize floatOfInt .f64 n2.2.1=A5 at*;have Cb:some B≠u3.ownBlock:=fun h=>ZB _ (Ca B h.symm)
   clear r0 r1 r2 r3 hE;refine wp_region_held_drew (S:=(fun w'=>w'.cell? ⟨B,0,none⟩=some (.complex .f64 wa wb)/\w'.cell? ⟨B,1,none⟩=some (.float .f64 sh)/\w'.cell? ⟨B,2,none⟩=some (.complex .f64 fa fb)/\w'.cell? ⟨B,3,none⟩=some (.complex .f64 ta tb))) (by kernel_rfl) ⟨a0,a1,a2,a3⟩ (fun hHeld=>?_)
   refine wpAnyH_take (i:=0) (oi:={dst:=some 17,op:=_,type:=_,pos:=_,after:=_,guard:=_}) (v:=?_) rfl (by kernel_rfl) (by kernel_rfl) (by kernel_rfl) (fun _ _ _ h=>h) (ae ⟨by rfl,?_⟩) hHeld ?_
   rotate_left
   ·intro w' aA;obtain⟨s0,s1,s2,s3⟩:=aA
    go_simp
    try with_reducible rfl
   simp only[Act.put,aH,aI,aG];refine wpAnyH_take (i:=1) (oi:={dst:=some 18,op:=_,type:=_,pos:=_,after:=_,guard:=_}) (v:=?_) rfl (by kernel_rfl) (by kernel_rfl) (by kernel_rfl) (fun _ _ _ h=>h) (ae ⟨by rfl,?_⟩) hHeld ?_
   rotate_left
   ·intro w' aA;obtain⟨s0,s1,s2,s3⟩:=aA
    go_simp
    try with_reducible rfl
   simp only[Act.put,aH,aI,aG];refine wpAnyH_take (i:=2) (oi:={dst:=some 19,op:=_,type:=_,pos:=_,after:=_,guard:=_}) (v:=?_) rfl (by kernel_rfl) (by kernel_rfl) (by kernel_rfl) (fun _ _ _ h=>h) (ae ⟨by rfl,?_⟩) hHeld ?_
   rotate_left
   ·intro w' aA;obtain⟨s0,s1,s2,s3⟩:=aA
    go_simp
    try with_reducible rfl
   simp only[Act.put,aH,aI,aG];refine wpAnyH_take (i:=4) (oi:={dst:=some 21,op:=_,type:=_,pos:=_,after:=_,guard:=_}) (v:=?_) rfl (by kernel_rfl) (by kernel_rfl) (by kernel_rfl) (fun _ _ _ h=>h) (ae ⟨by rfl,?_⟩) hHeld ?_
   rotate_left
   ·intro w' aA;obtain⟨s0,s1,s2,s3⟩:=aA
    go_simp
    try with_reducible rfl
   simp only[Act.put,aH,aI,aG];refine wpAnyH_take (i:=5) (oi:={dst:=some 22,op:=_,type:=_,pos:=_,after:=_,guard:=_}) (v:=?_) rfl (by kernel_rfl) (by kernel_rfl) (by kernel_rfl) (fun _ _ _ h=>h) (ae ⟨by rfl,?_⟩) hHeld ?_
   rotate_left
   ·intro w' aA;obtain⟨s0,s1,s2,s3⟩:=aA
    go_simp
    try with_reducible rfl
   simp only[Act.put,aH,aI,aG];refine wpAnyH_ready (rs:=[3]) (by kernel_rfl) (by simp) ?_
   refine AllReadyH.cons rfl (fun K hK=>?_) AllReadyH.nil
   go_simp
   refine(wP.out _).mono ?_;rintro e w6 ⟨rfl,aC⟩;have b0:=(aC.cell (p:=⟨B,0,none⟩) qL).trans a0;have b1:=(aC.cell (p:=⟨B,1,none⟩) qL).trans a1;have b2:=(aC.cell (p:=⟨B,2,none⟩) qL).trans a2;have b3:=(aC.cell (p:=⟨B,3,none⟩) qL).trans a3;have uP:=aZ qL aC.size;have eN:=aO S4.drew fun k hk=>aC.block k (ZA (Ca k hk) qL)
   go_wp2_with fail
   refine hK.out _ _ ⟨b0,b1,b2,b3⟩ (fun hHeld=>?_)
   clear hK K
   try simp only[Act.put,aH,aI,aG]
   refine wpAnyH_ready (rs:=[6]) (by kernel_rfl) (by simp) ?_
   refine AllReadyH.cons rfl (fun K hK=>?_) AllReadyH.nil
   go_simp
   refine(wQ.out _).mono ?_;rintro e w7 ⟨rfl,aQ⟩;have c0:=(aQ.cell (p:=⟨B,0,none⟩) uP).trans b0;have c1:=(aQ.cell (p:=⟨B,1,none⟩) uP).trans b1;have c2:=(aQ.cell (p:=⟨B,2,none⟩) uP).trans b2;have c3:=(aQ.cell (p:=⟨B,3,none⟩) uP).trans b3;have sV:=aZ uP aQ.size;have Gx:=aO eN fun k hk=>aQ.block k (ZA (Ca k hk) uP)
   go_wp2_with fail
   refine hK.out _ _ ⟨c0,c1,c2,c3⟩ (fun hHeld=>?_)
   clear hK K
   try simp only[Act.put,aH,aI,aG]
   refine wpAnyH_ready (rs:=[7]) (by kernel_rfl) (by simp) ?_
   refine AllReadyH.cons rfl (fun K hK=>?_) AllReadyH.nil
   go_simp
   refine hK.out _ _ ⟨(iY _ _ sV).trans c0,(iY _ _ sV).trans c1,(iY _ _ sV).trans c2,(iY _ _ sV).trans c3⟩ (fun hHeld=>?_)
   clear hK K
   try simp only[Act.put,aH,aI,aG]
   refine wpAnyH_ready (rs:=[8]) (by kernel_rfl) (by simp) ?_
   refine AllReadyH.cons rfl (fun K hK=>?_) AllReadyH.nil
   refine step_append_lies _ rfl (.tmp 17) (.tmp 24) 138 rfl w.heap.size 83 i0 _ 2 24 Tryz.underlying138 hi hz0 hz1 hz2 rfl (by decide) u3 L.length (cS L) rfl (aO Gx (fun k hk=>Below.heap_alloc _ _ _ (aB Gx k hk).2)) ⟨w7.heap.size,0,none⟩ 2 2 [.complex .f64 A1 A2,.int .i64 n1.2.2,.complex .f64 A4 A5,.int .i64 n2.2.2] rfl rfl (World.news_of_block (cs:= #[.complex .f64 A1 A2,.int .i64 n1.2.2,.complex .f64 A4 A5,.int .i64 n2.2.2]) (t:=83) (fr:=(0,0)) (heap_alloc_new w7 _)) (by simp[Value.oneCell']) (by decide) (by unfold maxLen;omega) (by omega) (by simp;omega) (w7.heap.size+1) (by simp) ?_
   intro g' cap' w8 cD bf fU oF;have d0:=(bf.cell_far ⟨B,0,none⟩ (by simp;omega) Cb).trans ((iY _ _ sV).trans c0)
   have d1:=(bf.cell_far ⟨B,1,none⟩ (by simp;omega) Cb).trans ((iY _ _ sV).trans c1)
   have d2:=(bf.cell_far ⟨B,2,none⟩ (by simp;omega) Cb).trans ((iY _ _ sV).trans c2)
   have d3:=(bf.cell_far ⟨B,3,none⟩ (by simp;omega) Cb).trans ((iY _ _ sV).trans c3)
   go_simp
   refine hK.out _ _ ⟨d0,d1,d2,d3⟩ (fun hHeld=>?_)
   clear hK K
   try simp only[Act.put,aH,aI,aG]
   refine wpAnyH_take (i:=9) (oi:={dst:=some 3,op:=_,type:=_,pos:=_,after:=_,guard:=_}) (v:=?_) rfl (by kernel_rfl) (by kernel_rfl) (by kernel_rfl) (fun _ _ _ h=>h) (ae ⟨by rfl,?_⟩) hHeld ?_
   rotate_left
   ·intro w' aA;obtain⟨s0,s1,s2,s3⟩:=aA
    go_simp
    try with_reducible rfl
   simp only[Act.put,aH,aI,aG];refine wpAnyH_done (by kernel_rfl) ?_ _
   have S6:Below w.heap.size w w8:=by
    have q6:=hbW.drew.trans (aC.mono (dY S5 (dN qL)));have q7:=q6.trans (aQ.mono (dY S5 (dN uP)));exact(q7.alloc q7.size _).grown bf (by simp;omega) (fun k hk=>(aB Gx k hk).1)
   have Gy:Hid (NL w (.slice (some ⟨g',0,none⟩) (L.length+2) cap') (L++[n1,n2]) w8):=by
    have hrow:cS (L++[n1,n2])=cS L++[.complex .f64 A1 A2,.int .i64 n1.2.2,.complex .f64 A4 A5,.int .i64 n2.2.2]:=by
     have e1:cS (L++[n1,n2])=cS L++(gu n1++gu n2):=by simp[cS]
     rw[e1,uN.out,uO.out];rfl
    refine⟨?_,S6,fun n hn=>?_,fun n hn=>?_⟩
    ·rw[hrow,aT];exact cD
    ·rcases bT.1 hn with h|h
     ·exact yV.out.can n h
     ·rcases aP.1 h with h|h
      ·rw[h];exact BZ.out.2.1
      ·rw[bI.1 h];exact pK.out.2.1
    ·rcases bT.1 hn with h|h
     ·exact yV.out.aF n h
     ·rcases aP.1 h with h|h
      ·rw[h];exact BZ.out.2.2
      ·rw[bI.1 h];exact pK.out.2.2
   have Cc:Hid (qW w B ⟨wa,wb,sh,fa,fb,ta,tb⟩ e es i 0 (.slice (some ⟨g',0,none⟩) (L.length+2) cap') (L++[n1,n2]) w8):=by
    refine⟨Gy.out,?_,?_,d0,d1,d2,d3,fun q=>?_,by simp;omega⟩
    ·have h1:=bf.size;simp at h1;omega
    ·show some g'≠some B;intro h;injection h with h;rcases fU with h8|h8
     ·have:=Ca g' h8;omega
     ·omega
    ·have h1:=qX.out q;simp only[List.take_zero,ZC,rP,exists_false,rQ];rw[<-h1];constructor
     ·rintro⟨n,hn,h⟩;rcases bT.1 hn with hn|hn
      ·exact ae ⟨n,hn,h⟩
      ·rcases aP.1 hn with hn|hn
       ·exact af (ae (by rw[<-h,hn,BZ.out.1]))
       ·exact af (af (by rw[<-h,bI.1 hn,pK.out.1]))
     ·rintro(⟨n,hn,h⟩|h|h)
      ·exact⟨n,by simp[hn],h⟩
      ·exact⟨n1,by simp,by rw[h,BZ.out.1]⟩
      ·exact⟨n2,by simp,by rw[h,pK.out.1]⟩
   have hcap:¬cap<i:=by
    obtain⟨_,_,ho,_⟩:=HR.out;rcases ho.2 with⟨hv,_⟩|⟨_,_,_,hv,_,_,hc,_⟩
    ·cases hv
    ·injection hv with _ _ hv;omega
   have ak6:i<=cap:=by omega
   clear wP wQ uN uO a0 a1 a2 a3 b0 b1 b2 b3 c0 c1 c2 c3 eN Gx cD aC aQ S4 Ca Cb uP sV bf fU oF hHeld
   go_wp2_with fail
   obtain⟨m1,sQ⟩:∃m1,m1=gk:=⟨_,rfl⟩
   go_loopg [3,30] i (fun m lv nv wr=>∃j:Nat,j+m=i/\nv=.int .i64 j/\Hid (∃L',qW w B ⟨wa,wb,sh,fa,fb,ta,tb⟩ e es i j lv L' wr))
   case atStart=>exact⟨0,by omega,rfl,⟨_,Cc.out⟩⟩
   case round=>
    obtain⟨j,hjm,rfl,oD⟩:=hrel;clear Cc Gy d0 d1 d2 d3 qX yV BZ pK S6;obtain⟨L',hI⟩:=oD.out;by_cases RY:j<i
    ·obtain⟨f,hf⟩:∃f,es[j]?=some f:=⟨_,aD (by omega)⟩
     obtain⟨b4,y,hb4,_,hy,f0,f1,f2,f3⟩:=Bh HR.out hf;injection hb4 with hb4;injection hb4 with hb4;subst hb4;have fw:=hI.nl.below;have s0:=(fw.cell (p:=⟨b,j*4,none⟩) hb).trans f0;have s1:=(fw.cell (p:=⟨b,j*4+1,none⟩) hb).trans f1;have s2:=(fw.cell (p:=⟨b,j*4+2,none⟩) hb).trans f2;have s3:=(fw.cell (p:=⟨b,j*4+3,none⟩) hb).trans f3;have a0:=hI.c0;have a1:=hI.c1;have a2:=hI.c2;have a3:=hI.c3;obtain⟨vn,bt,nv,hM,⟨M1,M2,MP,wS⟩,Gz,GA⟩:=ac2 ⟨wa,wb,sh,fa,fb,ta,tb⟩ y e f HX.out hy (hs e (HEM.out)) (hs f (bh hf));subst wS;have HM:Hid (∀w,Calls Tryz.prog 123 #[.agg (EB.cells ⟨wa,wb,sh,fa,fb,ta,tb⟩),.agg y.cells] w fun r w'=>r=.returned (.tuple #[.agg #[.complex .f64 M1 M2,.int .i64 MP],.bool bt])/\Below w.heap.size w w'):=hM
     have GC:Hid (bt=true↔Ge.cu e f≠0/\Ge.hq (Ge.eA e f) e=true/\Ge.hq (Ge.eA e f) f=true):=Gz;have Lb:Hid (bt=true->.agg #[.complex .f64 M1 M2,.int .i64 MP]=gm vn/\Ge.Can vn/\Ge.au vn=Ge.eA e f/\cP vn.1 vn.2.1 vn.2.2):=GA;have HF:Hid (es[j]?=some f):=hf;obtain⟨ya,yb,ys,yc,yd,ye,yf⟩:=y;simp only[EB.cells] at HM s0 s1 s2 s3 a0 a1 a2 a3;have Bz:(j:Int)<(i:Int):=by omega
     have S7:=hI.lt;clear hM Gz GA f0 f1 f2 f3 hy hf oD
     go_wp2_with (first |(simp only[eK];go_simp)|(simp only[lO];go_simp))
     have yX:Below wr.heap.size wr (wr.alloc (.cells #[.complex .f64 ya yb,.float .f64 ys,.complex .f64 yc yd,.complex .f64 ye yf] 124)):=(Below.refl _ _).alloc (ax _) _;refine(HM.out _).mono ?_;rintro e5 w5 ⟨rfl,az⟩;have GF:=hI.keep (yX.trans (az.mono yX.size));clear a0 a1 a2 a3 s0 s1 s2 s3 yX az HM hI fw S7;cases bt
     ·have S8:=GF.skip HF.out (fun h=>by have:=GC.out.2 h;cases this)
      have ib:=GF.nl.below;have yY:Hid (∀o,qW w B ⟨wa,wb,sh,fa,fb,ta,tb⟩ e es i (j+1) u3 L' (w5.alloc o)):=fun o=>S8.keep ((Below.refl w5.heap.size w5).alloc (ax _) o)
      clear Lb GC S8
      go_wp2_with (simp only[eK];go_simp)
      go_roundg (gk-1)
      case measure=>omega
      case rel=>exact⟨j+1,by omega,by go_num,⟨_,yY.out _⟩⟩
     ·obtain⟨wS,S9,Ta,yZ⟩:=Lb.out rfl;have Tb:=GC.out.1 rfl;have hnc:gu vn=[.complex .f64 M1 M2,.int .i64 MP]:=by
       unfold gm at wS;injection wS with wS;have:=aw Array.toList wS;exact this.symm
      have Ce:Hid (gu vn=[.complex .f64 M1 M2,.int .i64 MP]/\Ge.Can vn/\Ge.au vn=Ge.eA e f/\cP vn.1 vn.2.1 vn.2.2):=⟨hnc,S9,Ta,yZ⟩;have Tc:Hid (Ge.cu e f≠0/\Ge.hq (Ge.eA e f) e=true/\Ge.hq (Ge.eA e f) f=true):=Tb;have y7:=GF.keep ((Below.refl w5.heap.size w5).alloc (ax _) (.cells #[.complex .f64 M1 M2,.int .i64 MP] 83));have eN:=y7.nl.own;have ak7:=y7.len;have Gd:=y7.nl.below.size;have ux:=heap_alloc_new w5 (.cells #[.complex .f64 M1 M2,.int .i64 MP] 83);clear Lb GC wS S9 Ta yZ Tb hnc GF
      go_wp2_with (first
       |(at_builtin;refine wpList_append_lies _ rfl (.tmp 41) (.tmp 43) 138 rfl w.heap.size 83 i0 _ 2 24 Tryz.underlying138 hi hz0 hz1 hz2 rfl (by decide) u3 L'.length (cS L') rfl (aO eN (fun k hk=>Below.heap_alloc _ _ _ (aB eN k hk).2)) ⟨w5.heap.size+1,0,none⟩ 1 1 [.complex .f64 M1 M2,.int .i64 MP] rfl rfl (World.news_of_block (cs:= #[.complex .f64 M1 M2,.int .i64 MP]) (t:=83) (fr:=(0,0)) (by have:=heap_alloc_new (w5.alloc (.cells #[.complex .f64 M1 M2,.int .i64 MP] 83)) (.cells #[.complex .f64 M1 M2,.int .i64 MP] 83);simpa using this)) (by simp[Value.oneCell']) (by decide) (by unfold maxLen;omega) (by omega) (by simp at Gd⊢;omega) (w5.heap.size+2) (by simp) ?_;intro g2 cap2 w9 wT wU Td adl)
       |(simp only[eK];go_simp))
      have HN9:Hid (qW w B ⟨wa,wb,sh,fa,fb,ta,tb⟩ e es i (j+1) (.slice (some ⟨g2,0,none⟩) (L'.length+1) cap2) (L'++[vn]) w9):=by
       have nQ:=y7.keep ((Below.refl (w5.alloc (.cells #[.complex .f64 M1 M2,.int .i64 MP] 83)).heap.size _).alloc (ax _) (.cells #[.complex .f64 M1 M2,.int .i64 MP] 83));have hne:some B≠u3.ownBlock:=fun h=>nQ.ne h.symm
       have Cf:=nQ.lt;refine⟨⟨?_,nQ.nl.below.grown wU nQ.nl.below.size (fun k hk=>(aB nQ.nl.own k hk).1),fun n hn=>?_,fun n hn=>?_⟩,?_,?_,(wU.cell_far ⟨B,0,none⟩ Cf hne).trans nQ.c0,(wU.cell_far ⟨B,1,none⟩ Cf hne).trans nQ.c1,(wU.cell_far ⟨B,2,none⟩ Cf hne).trans nQ.c2,(wU.cell_far ⟨B,3,none⟩ Cf hne).trans nQ.c3,fun q=>?_,by rw[aT];show L'.length+1<=_;omega⟩
       ·rw[K6,Ce.out.1,aT];exact wT
       ·rcases bT.1 hn with h|h
        ·exact nQ.nl.can n h
        ·rw[bI.1 h];exact Ce.out.2.1
       ·rcases bT.1 hn with h|h
        ·exact nQ.nl.aF n h
        ·rw[bI.1 h];exact Ce.out.2.2.2
       ·exact aZ Cf wU.size
       ·show some g2≠some B;intro h;injection h with h;rcases Td with h9|h9
        ·exact nQ.ne (by rw[h9,h])
        ·have:=y7.lt;simp at this;omega
       ·have h1:=nQ.iff q;rw[SV HF.out q];constructor
        ·rintro⟨n,hn,h⟩;rcases bT.1 hn with hn|hn
         ·rcases h1.1 ⟨n,hn,h⟩ with h|h|h|h
          ·exact ae h
          ·exact af (ae h)
          ·exact af (af (ae h))
          ·exact af (af (af (ae h)))
         ·rw[bI.1 hn,Ce.out.2.2.1] at h;exact af (af (af (af ⟨Tc.out.1,h.symm,Tc.out.2⟩)))
        ·rintro(h|h|h|h|h)
         ·obtain⟨n,hn,h⟩:=h1.2 (ae h);exact⟨n,by simp[hn],h⟩
         ·obtain⟨n,hn,h⟩:=h1.2 (af (ae h));exact⟨n,by simp[hn],h⟩
         ·obtain⟨n,hn,h⟩:=h1.2 (af (af (ae h)));exact⟨n,by simp[hn],h⟩
         ·obtain⟨n,hn,h⟩:=h1.2 (af (af (af h)));exact⟨n,by simp[hn],h⟩
         ·exact⟨vn,by simp,by rw[Ce.out.2.2.1,h.2.1]⟩
      clear wT wU eN y7 Td adl ux
      go_roundg (gk-1)
      case measure=>omega
      case rel=>exact⟨j+1,by omega,by go_num,⟨_,HN9.out⟩⟩
    ·have hj:j=i:=by omega
     subst hj;have bW:Hid (NS w u3 (es.take (j+1)) ((j+1)*404) wr):=by
      have htk:es.take (j+1)=es.take j++[e]:=by rw[jh,HEI.out];rfl
      refine⟨L',hI.nl,fun q=>?_,by have:=hI.len;omega⟩
      rw[htk,Ge.adg,hI.iff q]
     clear oD hI
     go_wp2_with fail
     go_roundg (m1-1)
     case measure=>omega
     case rel=>exact⟨j+1,by omega,by go_num,bW⟩
  ·have hk:i=es.length:=by omega
   subst hk;have HF:Hid (NS w u3 es (es.length*404) wr):=by
    have:=HE.out;rw[fg] at this;exact this
   clear HE HR;obtain⟨L,yU,BX,jn⟩:=HF.out;have hL2:L.length<=200000:=by omega
   go_wp2_with fail
   refine(HS.out _ L _ yU hL2).mono ?_;rintro e w5 ⟨rfl,S,hS,hmem,hlen,hpw⟩
   go_wp2_with fail
   refine(HK.out _ S _ hS (by omega)).mono ?_
   rintro e w6 ⟨v',rfl,Te,aC⟩;have Lc:Hid (fM w6 v' (Ge.cC S)):=Te;have Tf:Hid (S.length<=200000/\∀q,(∃n∈S,Ge.au n=q)↔Ge.isNode es q):=⟨by omega,fun q=>by
    rw[<-BX q];constructor
    ·rintro⟨n,hn,h⟩;exact⟨n,(hmem n).1 hn,h⟩
    ·rintro⟨n,hn,h⟩;exact⟨n,(hmem n).2 hn,h⟩⟩
   have HPW:Hid (S.Pairwise Ge.le):=hpw;have Ld:Hid (NL w u3 S w5):=hS;clear Te BX hmem hpw hS yU HF HS HK
   go_wp2_with fail
   go_ret
   exact⟨v',Ge.cC S,rfl,Lc.out,aC,Ge.adh es S Ld.out.can HPW.out Tf.out.2,fun n hn=>Ld.out.aF n ((Ge.wR S n).1 hn),dY (SU S) Tf.out.1,fun n hn=>Ld.out.can n ((Ge.wR S n).1 hn)⟩
namespace Ge
theorem Th:∀(l:List Nd)(y x:Nd),l.getLast?=some y->cC (l++[x])=if x=y then cC l else cC l++[x]
 |[],_,_,h=>by simp at h
 |[a],y,x,h=>by
  have e:a=y:=by simpa using h
  subst e;have e1:cC [a,x]=if a=x then cC [x] else a::cC [x]:=by simp[cC]
  have e2:∀z:Nd,cC [z]=[z]:=fun z=>by rw[cC]
  show cC [a,x]=_;rw[e1,e2,e2];by_cases hx:x=a
  ·subst hx;rw[ah rfl,ah rfl]
  ·rw[aa (fun h=>hx h.symm),aa hx]
   rfl
 |a::b::r,y,x,h=>by
  have ih:=Th (b::r) y x (by simpa using h)
  show cC (a::b::(r++[x]))=_;have e1:cC (a::b::(r++[x]))=if a=b then cC (b::(r++[x])) else a::cC (b::(r++[x])):=by rw[cC]
  have e2:cC (a::b::r)=if a=b then cC (b::r) else a::cC (b::r):=by rw[cC]
  have e3:cC (b::(r++[x]))=if x=y then cC (b::r) else cC (b::r)++[x]:=ih
  rw[e1,e2,e3];by_cases hx:x=y
  ·simp only[hx,fJ]
  ·by_cases hab:a=b<;>simp[hx,hab]
theorem Ti(zs:List Nd):∀m,m<=zs.length->Lib.compactUpTo zs.toArray m=cC (zs.take m)
 |0,_=>by simp[Lib.compactUpTo,cC]
 |m+1,h=>by
  have hlt:m<zs.length:=h;rw[Lib.compactUpTo_succ,Ti zs m (by omega),rT hlt]
  have hg:zs.toArray[m]! =zs[m]:=by rw[gG zs.toArray m (by simpa using hlt)];simp
  rcases Nat.eq_zero_or_pos m with h0|h0
  ·subst h0;rw[Lib.keeps_lt_one _ 0 (by omega),hg]
   simp[cC]
  ·have hp:m-1<zs.length:=by omega
   have hl:(zs.take m).getLast?=some zs[m-1]:=by
    rw[nY,ir,show min m zs.length-1=m-1 by omega,jt,ah (by omega),aD hp]
   have hg2:zs.toArray[m-1]! =zs[m-1]:=by rw[gG zs.toArray (m-1) (by simpa using hp)];simp
   rw[Th _ _ _ hl];by_cases hx:zs[m]=zs[m-1]
   ·rw[Lib.keeps_neg h0 (by rw[hg,hg2];exact hx),ah hx]
    simp
   ·rw[Lib.keeps_pos (by rw[hg,hg2];exact hx),aa hx,hg]
    simp
theorem Tj(d:Array Nd):Lib.compactUpTo d d.size=cC d.toList:=by
 have h:=Ti d.toList d.toList.length (ax _);rw[fg] at h;simpa using h
end Ge
theorem Cg(L:List Ge.Nd):(cS L).length=L.length*2:=by
 induction L with
 |nil=>rfl
 |cons n L ih=>
  have e:cS (n::L)=gu n++cS L:=by simp[cS]
  rw[e,aT,ih,cG];show 2+_=_;omega
structure RW(w:World)(g cap n:Nat)(d:Array Ge.Nd)(wr:World):Prop where
 size:d.size=n
 own:wr.ownsRow w.heap.size 83 2 (.slice (some ⟨g,0,none⟩) n cap) n (cS d.toList)
 below:Below w.heap.size w wr
theorem Tm:∀(l:List Ge.Nd)(k:Nat),(cS l).take (k*2)=cS (l.take k)
 |[],k=>by simp[cS]
 |a::l,0=>by simp[cS]
 |a::l,k+1=>by
  have ih:=Tm l k;have e:∀(b:Ge.Nd)(r:List Ge.Nd),cS (b::r)=.complex .f64 (floatOfInt .f64 b.1) (floatOfInt .f64 b.2.1):: .int .i64 b.2.2::cS r:=fun b r=>by simp[cS,gu]
  rw[zZ,e,e,<-ih];have e1:(k+1)*2=k*2+1+1:=by omega
  rw[e1,zZ,zZ]
theorem RW.blk{w:World}{g cap n:Nat}{d:Array Ge.Nd}{wr:World}(h:RW w g cap n d wr):∃cur,w.heap.size<=g/\wr.heap[g]?=some (.cells cur 83 (0,0))/\n<=cap/\cap<=maxLen/\cur.size=cap*2/\cur.toList.take (n*2)=cS d.toList:=by
 rcases h.own.2 with⟨hv,_⟩|⟨g',cap',cur,hv,h1,h2,h3,h4,h5,h6⟩
 ·simp at hv
 ·simp only[Value.slice.injEq,Option.some.injEq,Addr.mk.injEq] at hv;obtain⟨⟨rfl,_⟩,_,rfl⟩:=hv;exact⟨cur,h1,h2,h3,h4,h5,h6⟩
theorem RW.cells{w:World}{g cap n:Nat}{d:Array Ge.Nd}{wr:World}(h:RW w g cap n d wr)(i:Nat)(hi:i<n):
  wr.cell? ⟨g,i*2,none⟩=some (.complex .f64 (floatOfInt .f64 (d[i]!).1) (floatOfInt .f64 (d[i]!).2.1))/\wr.cell? ⟨g,i*2+1,none⟩=some (.int .i64 (d[i]!).2.2)/\wr.frozen? ⟨g,i*2,none⟩=false/\wr.frozen? ⟨g,i*2+1,none⟩=false:=by
 obtain⟨cur,_,hb,_,_,hs,htk⟩:=h.blk;have hd:i<d.size:=by rw[h.size];exact hi
 have hx:d.toList[i]?=some d[i]! :=by rw[iu,mf hd,gG d i hd]
 have k0:=BP _ _ _ hx 0 (by omega)
 have k1:=BP _ _ _ hx 1 (by omega)
 rw[<-htk,jt,ah (by omega),iu] at k0 k1
 refine⟨?_,?_,aX hb _,aX hb _⟩
 ·unfold World.cell?;rw[hb];exact k0
 ·unfold World.cell?;rw[hb];exact k1
theorem Tn:∀(l:List Ge.Nd)(k:Nat)(x:Ge.Nd),k<l.length->cS (l.set k x)=((cS l).set (k*2) (.complex .f64 (floatOfInt .f64 x.1) (floatOfInt .f64 x.2.1))).set (k*2+1) (.int .i64 x.2.2)
 |[],_,_,h=>by simp at h
 |a::l,0,x,_=>by simp[cS,gu]
 |a::l,k+1,x,h=>by
  have ih:=Tn l k x (by simpa using h)
  have e:∀(b:Ge.Nd)(r:List Ge.Nd),cS (b::r)=.complex .f64 (floatOfInt .f64 b.1) (floatOfInt .f64 b.2.1):: .int .i64 b.2.2::cS r:=fun b r=>by simp[cS,gu]
  rw[aG,e,e,ih];have e1:(k+1)*2=k*2+1+1:=by omega
  rw[e1,aG,aG,aG,aG]
theorem RW.set{w:World}{g cap n:Nat}{d:Array Ge.Nd}{wr:World}(h:RW w g cap n d wr)(k:Nat)(hk:k<n)(x:Ge.Nd):
  RW w g cap n (d.setIfInBounds k x) ((wr.setCell ⟨g,k*2,none⟩ (.complex .f64 (floatOfInt .f64 x.1) (floatOfInt .f64 x.2.1))).setCell ⟨g,k*2+1,none⟩ (.int .i64 x.2.2)):=by
 obtain⟨cur,hg,hb,hnc,hcm,hs,htk⟩:=h.blk;have hb1:(wr.setCell ⟨g,k*2,none⟩ (.complex .f64 (floatOfInt .f64 x.1) (floatOfInt .f64 x.2.1))).heap[g]?=some (.cells (cur.setIfInBounds (k*2) (.complex .f64 (floatOfInt .f64 x.1) (floatOfInt .f64 x.2.1))) 83 (0,0)):=by
  rw[setCell_eq_setRow wr g (k*2) cur 83 (0,0) _ hb];exact setRow_heap _ _ _ _ _ _ hb
 have hb2:((wr.setCell ⟨g,k*2,none⟩ (.complex .f64 (floatOfInt .f64 x.1) (floatOfInt .f64 x.2.1))).setCell ⟨g,k*2+1,none⟩ (.int .i64 x.2.2)).heap[g]?=some (.cells ((cur.setIfInBounds (k*2) (.complex .f64 (floatOfInt .f64 x.1) (floatOfInt .f64 x.2.1))).setIfInBounds (k*2+1) (.int .i64 x.2.2)) 83 (0,0)):=by
  rw[setCell_eq_setRow _ g (k*2+1) _ 83 (0,0) _ hb1];exact setRow_heap _ _ _ _ _ _ hb1
 have hd:k<d.toList.length:=by rw[iw,h.size];exact hk
 refine⟨by rw[vJ];exact h.size,⟨?_,af ⟨g,cap,_,rfl,hg,hb2,hnc,hcm,?_,?_⟩⟩,(h.below.setCell hg _).setCell hg _⟩
 ·rw[Cg,iw,vJ,h.size]
 ·rw[vJ,vJ];exact hs
 ·rw[Jl,Jl,Jl,Tn _ _ _ hd,<-htk,Ze,Ze]
theorem RW.clear{w:World}{g cap n:Nat}{d:Array Ge.Nd}{wr:World}(h:RW w g cap n d wr)(k:Nat)(hk:k<n)(c:Nat):
  ∃w',(∀ty,(Builtin.clear_ #[138] ty #[.slice (some ⟨g,k*2,none⟩) (n-k) c]).run Tryz.prog wr=.ok (.tuple #[]) w')/\Below w.heap.size w w'/\fM w' (.slice (some ⟨g,0,none⟩) k cap) (d.toList.take k):=by
 obtain⟨cur,hg,hb,hnc,hcm,hs,htk⟩:=h.blk;have hzl:(Builtin.zeroCells (Value.agg #[.complex .f64 0 0,.int .i64 0]).cells (n-k)).toList.length=(n-k)*2:=by
  rw[iw];unfold Builtin.zeroCells;rw[Array.size_map,Array.size_range];rfl
 have hone:∀v∈(Builtin.zeroCells (Value.agg #[.complex .f64 0 0,.int .i64 0]).cells (n-k)).toList,v.oneCell'=true:=by
  intro v hv;unfold Builtin.zeroCells at hv;simp only[Array.toList_map,bp] at hv;obtain⟨i,_,rfl⟩:=hv;have e:(Value.agg #[.complex .f64 0 0,.int .i64 0]).cells= #[.complex .f64 0 0,.int .i64 0]:=rfl;rw[e];show(#[Value.complex .f64 0 0,.int .i64 0][i%2]!).oneCell'=true;have h2:i%2=0\/i%2=1:=by omega
  rcases h2 with h2|h2<;>rw[h2]<;>rfl
 have hst:=run_storeCells_at Tryz.prog g (k*2) 83 _ 0 cur wr hb (by rw[hzl,hs];omega) hone
 simp only[oV] at hst;rw[hzl] at hst;generalize kj:(Builtin.zeroCells (Value.agg #[.complex .f64 0 0,.int .i64 0]).cells (n-k)).toList=Z at*;have yJ:=setRow_heap wr g cur (cur.toList.take (k*2)++Z++cur.toList.drop (k*2+(n-k)*2)).toArray _ _ hb;refine⟨wr.setRow g (cur.toList.take (k*2)++Z++cur.toList.drop (k*2+(n-k)*2)).toArray,fun ty=>?_,?_,?_,af ⟨g,cap,_,?_,iq _,yJ,?_,hcm,?_,?_⟩⟩
 ·obtain⟨m,hm⟩:∃m,n-k=m+1:=⟨n-k-1,by omega⟩
  rw[hm] at hst kj⊢;simp[Builtin.clear_,run_underlying Tryz.underlying138,kj,hst]
 ·refine h.below.trans ⟨rfl,rfl,rfl,by simp,fun j hj=>setRow_other _ _ _ _ (by omega)⟩
 ·rw[Cg]
 ·have e:(d.toList.take k).length=k:=by rw[ir,iw,h.size];omega
  rw[e]
 ·rw[ir,iw,h.size];omega
 ·simp only[ZE,aT,ir,qi,iw,hzl,hs];omega
 ·have e:(d.toList.take k).length=k:=by rw[ir,iw,h.size];omega
  rw[e];show((cur.toList.take (k*2)++_++_).take (k*2))=_;rw[eF,akp (by rw[ir,iw,hs];omega),Ai,Nat.min_self]
  have e2:cur.toList.take (k*2)=(cur.toList.take (n*2)).take (k*2):=by rw[Ai,Zl (by omega)]
  rw[e2,htk];exact Tm _ _
theorem Tp{d:Array Ge.Nd}(h:∀j,j<d.size->Lib.keeps d j=true):Ge.cC d.toList=d.toList:=by
 rw[<-Ge.Tj,Lib.compactUpTo_all _ _ h,Lib.range_map_get]
theorem RW.rd{w:World}{g cap n:Nat}{d:Array Ge.Nd}{wr:World}(h:RW w g cap n d wr):fM wr (.slice (some ⟨g,0,none⟩) n cap) d.toList:=by
 obtain⟨cur,hg,hb,hnc,hcm,hs,htk⟩:=h.blk;have e:d.toList.length=n:=by rw[iw,h.size]
 exact⟨by rw[Cg],af ⟨g,cap,cur,by rw[e],iq _,hb,by rw[e];exact hnc,hcm,hs,by rw[e];exact htk⟩⟩
theorem Tq(x y:Ge.Nd)(hx:cP x.1 x.2.1 x.2.2)(hy:cP y.1 y.2.1 y.2.2)(w:World):
  (Op.equalIn 10000 83 (.agg #[.complex .f64 (floatOfInt .f64 x.1) (floatOfInt .f64 x.2.1),.int .i64 x.2.2]) (.agg #[.complex .f64 (floatOfInt .f64 y.1) (floatOfInt .f64 y.2.1),.int .i64 y.2.2])).run Tryz.prog w=.ok (decide (x=y)) w:=by
 obtain⟨a1,a2⟩:=pJ hx;obtain⟨b1,b2⟩:=pJ hy;have q1:=qG a1 b1;have q2:=qG a2 b2;obtain⟨x1,x2,x3⟩:=x;obtain⟨y1,y2,y3⟩:=y;simp only at q1 q2⊢;generalize floatOfInt .f64 x1=X1 at*;generalize floatOfInt .f64 x2=X2 at*;generalize floatOfInt .f64 y1=Y1 at*;generalize floatOfInt .f64 y2=Y2 at*;have hdec:decide ((x1,x2,x3)=(y1,y2,y3))=(decide (x1=y1)&&decide (x2=y2)&&decide (x3=y3)):=by
  simp[Prod.mk.injEq,Bool.and_assoc]
 have e1:Op.floatEq .f64 X1 Y1=decide (x1=y1):=q1;have e2:Op.floatEq .f64 X2 Y2=decide (x2=y2):=q2;rw[hdec];rw[run_equalIn_agg w 9999 83 _ _ (by kernel_rfl) (by kernel_rfl)]
 have hc:∀w,(Op.equalIn 9999 81 (.complex .f64 X1 X2) (.complex .f64 Y1 Y2)).run Tryz.prog w=.ok (decide (x1=y1)&&decide (x2=y2)) w:=fun w=>by
  show(Op.equalIn (9998+1) 81 (.complex .f64 X1 X2) (.complex .f64 Y1 Y2)).run Tryz.prog w=_;rw[Op.equalIn,Sem.run_bind,run_underlying Tryz.underlying81,Result.andThen_ok,<-e1,<-e2];rfl
 clear q1 q2 e1 e2 hdec;simp[go_sem,hc]
 by_cases h1:x1=y1<;>by_cases h2:x2=y2<;>by_cases h3:x3=y3<;>simp[h1,h2,h3]
theorem Ci(x y:Ge.Nd)(hx:cP x.1 x.2.1 x.2.2)(hy:cP y.1 y.2.1 y.2.2)(w:World):
  (binOp .eql 83 (.agg #[.complex .f64 (floatOfInt .f64 x.1) (floatOfInt .f64 x.2.1),.int .i64 x.2.2]) (.agg #[.complex .f64 (floatOfInt .f64 y.1) (floatOfInt .f64 y.2.1),.int .i64 y.2.2])).run Tryz.prog w=.ok (.bool (decide (x=y))) w:=by
 rw[run_eql_struct,Tq x y hx hy w];rfl
theorem ado(x y:Ge.Nd)(hx:cP x.1 x.2.1 x.2.2)(hy:cP y.1 y.2.1 y.2.2)(w:World):
  (binOp .neq 83 (.agg #[.complex .f64 (floatOfInt .f64 x.1) (floatOfInt .f64 x.2.1),.int .i64 x.2.2]) (.agg #[.complex .f64 (floatOfInt .f64 y.1) (floatOfInt .f64 y.2.1),.int .i64 y.2.2])).run Tryz.prog w=.ok (.bool (!decide (x=y))) w:=by
 rw[run_neq_struct,Tq x y hx hy w];rfl
end Go.Proofs.YtkjhhooecopolaaGreatDoor

import Derived.Test.YtkjhhooecopolaaGreatDoorRz10
set_option maxRecDepth 100000
set_option maxHeartbeats 4000000
namespace Go.Proofs.YtkjhhooecopolaaGreatDoor
open Tryz
open Value renaming int->az,complex->aA,float->aB,agg->aC,bool->aD,string->aF,slice->aG,pointer->aH,tuple->aI
open IntKind renaming i64->aJ
open FloatKind renaming f64->aK
open Ending renaming returned->aL
open Go renaming World->aM,Value->aN,floatOfInt->aO
section
open Go.RowKit
variable{l m:Ge.Ln}{bs L:List Nat}{n base pb i j:Nat}{w wr w' w5 w6:aM}{hv s' h' gU:aN}
theorem Tu{x:PB}(hx:LD x l){n:Ge.Nd}(hn:mJ n):∃r,Fl r (l.1*n.2.1-l.2.1*n.1-l.2.2*n.2.2)/\∀w,ak 97 #[aC #[aA aK x.wa x.wb,aB aK x.sh],aC #[aA aK (aO aK n.1) (aO aK n.2.1),az aJ n.2.2]] w λe w'=>e=aL (aB aK r)/\aj w w':=
 Qq hx.fl.a hx.fl.b hx.fl.s (qG (by have:=hn.x;unfold sm;omega)) (qG (by have:=hn.y;unfold sm;omega)) hx.pS.1 hx.pS.2.1 hx.pS.2.2 (by have:=hn.d;unfold sm;omega) (by have:=hn.x;unfold sm;omega) (by have:=hn.y;unfold sm;omega)
theorem ann{x:PB}(hx:LD x l)(hf:0<x.f.2.2)(n:Ge.Nd):(l.1*n.2.1-l.2.1*n.1-l.2.2*n.2.2).sign=(Ge.cr (Ga.wv x.f x.t) (Ga.wv x.f n)).sign:=by
 have e1:x.f.2.2*(l.1*n.2.1-l.2.1*n.1-l.2.2*n.2.2)=l.1*(Ga.wv x.f n).2+l.2.1*(-(Ga.wv x.f n).1):=by
  have h:=hx.Sz;unfold Ga.wv;simp only;have:x.f.2.2*(l.1*n.2.1-l.2.1*n.1-l.2.2*n.2.2)=x.f.2.2*l.1*n.2.1-x.f.2.2*l.2.1*n.1-n.2.2*(l.2.2*x.f.2.2):=by grind
  rw[this,<-h]
  grind
 have e2:Ge.cr (Ga.wv x.f x.t) (Ga.wv x.f n)=(cZ x.f x.t).1*(Ga.wv x.f n).2+(cZ x.f x.t).2.1*(-(Ga.wv x.f n).1):=by
  rw[(vC x.f x.t).1,(vC x.f x.t).2];unfold Ge.cr
  grind
 rw[e2,<-Mg hx.par hx.pos (fW hx.pos),<-e1];have:=Ge.Ql (k:=x.f.2.2) (z:=l.1*n.2.1-l.2.1*n.1-l.2.2*n.2.2) hf;exact this.symm
def kK(Xs:List PB)(n:Ge.Nd)(i:Nat):Bool:=
 !decide (n.1*(xi Xs i).f.2.2<(xi Xs i).f.1*n.2.2)&&decide (n.1*(xi Xs i).t.2.2<(xi Xs i).t.1*n.2.2)&&decide (0<Ge.cr (Ga.wv (xi Xs i).f (xi Xs i).t) (Ga.wv (xi Xs i).f n))
theorem ano(bs:List Nat)(Xs:List PB)(hB:BD Xs)(w:aM)(g:Nat)(hR:RB w g bs Xs)(n:Ge.Nd)(hn:mJ n)(i:Nat)(hi:i<Xs.length):
  ak 170 #[aH (some ⟨bx bs i,0,none⟩),ja n] w λe w'=>e=aL (aD (kK Xs n i))/\aj w w':=by
 have hS:=hR.at hi;have hv:=hB.v _ (iH hi);obtain⟨l,hl⟩:=hB.ld _ (iH hi);obtain⟨r,fr,hL⟩:=Tu hl hn;have q:=KM fr mF;have sN:sm n.1/\sm n.2.1/\sm n.2.2:=by have:=hn.x;have:=hn.y;have:=hn.d;unfold sm;omega
 have sF:sm (xi Xs i).f.1/\sm (xi Xs i).f.2.1/\sm (xi Xs i).f.2.2:=by have:=hv.f.x;have:=hv.f.y;have:=hv.f.d;unfold sm;omega
 have sT:sm (xi Xs i).t.1/\sm (xi Xs i).t.2.1/\sm (xi Xs i).t.2.2:=by have:=hv.t.x;have:=hv.t.y;have:=hv.t.d;unfold sm;omega
 have hg:decide (0<l.1*n.2.1-l.2.1*n.1-l.2.2*n.2.2)=decide (0<Ge.cr (Ga.wv (xi Xs i).f (xi Xs i).t) (Ga.wv (xi Xs i).f n)):=by
  have h:=ann hl hv.cf.pos n;have s1:=Ga.sg (l.1*n.2.1-l.2.1*n.1-l.2.2*n.2.2);have s2:=Ga.sg (Ge.cr (Ga.wv (xi Xs i).f (xi Xs i).t) (Ga.wv (xi Xs i).f n));exact decide_eq_decide.2 aa
 unfold ja kK;exact anm _ _ _ _ _ _ _ _ _ r _ _ _ _ _ _ (bx bs i) w hS.c0 hS.c1 hS.c2 hS.c3 hS.c4 hS.c5
  (λw=>KT (qG sN.1) (qG sN.2.1) (qG sF.1) (qG sF.2.1) sF.1 sF.2.1 sN.2.2 sF.2.2 sN.1 sN.2.1 w)
  (λw=>KT (qG sN.1) (qG sN.2.1) (qG sT.1) (qG sT.2.1) sT.1 sT.2.1 sN.2.2 sT.2.2 sN.1 sN.2.1 w)
  hL (q.trans hg)
theorem anp(cf:Nat->Nat->Int)(a:Nat)(r:List Nat)(g lo cap N1 N2:Nat)(N3:Int)(w:aM)(hn:r.length<=85000000)
  (HV:Hid (∀(i:Nat) b,(a::r)[i]?=some b->w.cell? ⟨g,lo+i,none⟩=some (aH (some ⟨b,0,none⟩))))
  (HC:Hid (∀b∈a::r,∀c∈a::r,∀w',aj w w'->ak 172 #[aC #[aA aK N1 N2,az aJ N3],aH (some ⟨b,0,none⟩),aH (some ⟨c,0,none⟩)] w' λr w''=>r=aL (az aJ (cf b c))/\aj w' w'')):
  ak 171 #[aG (some ⟨g,lo,none⟩) (r.length+1) cap,.func (.func 172) #[aC #[aA aK N1 N2,az aJ N3]] #[]] w λe w'=>e=aL (aH (some ⟨cL cf r a,0,none⟩))/\aj w w':=by
 have c0:=HV.out 0 a rfl;rw[rA] at c0;have eK:g<w.heap.size:=lt_of_cell c0
 go_enter func171,ntmps171
 go_wp2_with fail
 go_loopg [5,6] r.length (λm mv iv wr=>∃k:Nat,k+m=r.length/\iv=az aJ (k+1:Nat)/\mv=aH (some ⟨cL cf (r.take k) a,0,none⟩)/\Hid (aj w wr))
 case atStart=>exact⟨0,aa,rfl,rfl,Below.refl _ _⟩
 case round=>
  obtain⟨k,hkn,rfl,rfl,HB⟩:=hrel;by_cases hlt:k<r.length
  .obtain⟨b,hb⟩:∃b,r[k]?=some b:=⟨_,bo hlt⟩;have c1:=(HB.out.cell (p:=⟨g,lo+(k+1),none⟩) eK).trans (HV.out (k+1) b (by simpa using hb))
   have kU:b∈a::r:=bX _ (bT hb);have hmm:cL cf (r.take k) a∈a::r:=by
    rcases zG cf (r.take k) a with h|h
    .rw[h];simp
    .exact bX _ (rB h)
   have jm:Hid (ak 172 #[aC #[aA aK N1 N2,az aJ N3],aH (some ⟨b,0,none⟩),aH (some ⟨cL cf (r.take k) a,0,none⟩)] wr λr' w''=>r'=aL (az aJ (cf b (cL cf (r.take k) a)))/\aj wr w''):=HC.out b kU _ hmm wr HB.out
   have iQ:Hid (cL cf (r.take (k+1)) a=if cf b (cL cf (r.take k) a)<0 then b else cL cf (r.take k) a):=by
    have htk:r.take (k+1)=r.take k++[b]:=by rw[jF,hb];rfl
    show cL cf (r.take (k+1)) a=_;rw[htk,ME]
   have gH:((k:Int)+1)<((r.length:Int)+1):=aa
   have hgr:g<wr.heap.size:=bW eK HB.out.size;clear c0 hb kU hmm;generalize cL cf (r.take k) a=M at*
   go_wp2_with fail
   refine jm.out.mono ?_;rintro e w5 ⟨rfl,bg⟩;have gJ:Hid (aj w w5):=HB.out.trans (bg.mono HB.out.size);have c5:=aS bg c1 hgr;clear jm bg c1;generalize cf b M=V at*;by_cases hV:V<0
   .have HM:Hid (cL cf (r.take (k+1)) a=b):=by rw[iQ.out,aV hV];rfl
    go_wp2_with fail
    go_roundg (gk-1)
    case measure=>omega
    case rel=>exact⟨k+1,aa,ai,by rw[HM.out],gJ⟩
   .have HM:Hid (cL cf (r.take (k+1)) a=M):=by rw[iQ.out,aQ hV];rfl
    have SC:decide (V<0)=false:=fY hV
    go_wp2_with fail
    go_roundg (gk-1)
    case measure=>omega
    case rel=>exact⟨k+1,aa,ai,by rw[HM.out],gJ⟩
  .have hk:k=r.length:=aa
   subst hk;rw[fO];clear HC HV
   go_wp2_with fail
   go_ret
   exact⟨rfl,HB.out⟩
def fG(Xs:List PB)(n:Ge.Nd)(k:Nat):List Nat:=(List.range k).filter (kK Xs n)
theorem anq(Xs:List PB)(n:Ge.Nd)(k:Nat):fG Xs n (k+1)=fG Xs n k++(if kK Xs n k then[k] else[]):=by
 unfold fG;rw[JI,JQ];congr 1;cases h:kK Xs n k<;>simp[h]
theorem Tv(Xs:List PB)(n:Ge.Nd)(k:Nat):∀j∈fG Xs n k,j<k:=λ_j hj=>sU.1 (iz.1 hj).1
theorem acF(Xs:List PB)(n:Ge.Nd)(k:Nat):(fG Xs n k).length<=k:=by
 have:=JR (kK Xs n) (List.range k);rw[agQ] at this;exact this
theorem anr(bs:List Nat)(Xs:List PB)(n:Ge.Nd)(N1 N2:Nat)(N3:Int)(g cap bM:Nat)(w:aM)(hR:RB w g bs Xs)(hl:bs.length<=85000000)
  (HI:Hid (∀i,i<bs.length->∀w',aj w w'->ak 170 #[aH (some ⟨bx bs i,0,none⟩),aC #[aA aK N1 N2,az aJ N3]] w' λe w''=>e=aL (aD (kK Xs n i))/\aj w' w''))
  (HM:Hid (∀lv wr,wr.ownsRow w.heap.size 175 1 lv (fG Xs n bs.length).length (bA ((fG Xs n bs.length).map (bx bs)))->aj w wr->ak 171 #[lv,.func (.func 172) #[aC #[aA aK N1 N2,az aJ N3]] #[]] wr λe w''=>e=aL (aH (some ⟨bM,0,none⟩))/\aj wr w'')):
  ak 114 #[aG (some ⟨g,0,none⟩) bs.length cap,aC #[aA aK N1 N2,az aJ N3]] w λe w'=>e=aL (aH (some ⟨bM,0,none⟩))/\aj w w':=by
 obtain⟨i0,hi0,hz0,hz1,hz2⟩:=info_parts BO;have BP:Hid (RB w g bs Xs):=hR;have hT0:=heap_alloc_new w (.cells #[aA aK N1 N2,az aJ N3] 83);have hs0:(w.alloc (.cells #[aA aK N1 N2,az aJ N3] 83)).heap.size=w.heap.size+1:=af
 have cK:Hid ((w.alloc (.cells #[aA aK N1 N2,az aJ N3] 83)).ownsRow (w.heap.size+1) 175 1 (aG none 0 0) (fG Xs n 0).length (bA ((fG Xs n 0).map (bx bs)))/\aj w (w.alloc (.cells #[aA aK N1 N2,az aJ N3] 83))/\(w.alloc (.cells #[aA aK N1 N2,az aJ N3] 83)).heap[w.heap.size]?=some (.cells #[aA aK N1 N2,az aJ N3] 83 (0,0))/\w.heap.size+1<=(w.alloc (.cells #[aA aK N1 N2,az aJ N3] 83)).heap.size):=⟨World.ownsRow_nil _ _ _ _,aw _ _,hT0,aa⟩
 clear hR hT0 hs0
 go_enter func114,ntmps114
 go_wp2_with fail
 generalize w.alloc (.cells #[aA aK N1 N2,az aJ N3] 83)=W0 at*
 go_loopg [5,10] bs.length (λm lv iv wr=>∃k:Nat,k+m=bs.length/\iv=az aJ k/\Hid (wr.ownsRow (w.heap.size+1) 175 1 lv (fG Xs n k).length (bA ((fG Xs n k).map (bx bs)))/\aj w wr/\wr.heap[w.heap.size]?=some (.cells #[aA aK N1 N2,az aJ N3] 83 (0,0))/\w.heap.size+1<=wr.heap.size))
 case atStart=>exact⟨0,aa,rfl,cK.out⟩
 case round=>
  obtain⟨k,hkn,rfl,HE⟩:=hrel;clear cK;obtain⟨jW,hb2,xJ,alV⟩:=HE.out;have t0:=cH xJ;have t1:=cD xJ;have oD:Hid (wr.ownsRow (w.heap.size+1) 175 1 u5 (fG Xs n k).length (bA ((fG Xs n k).map (bx bs)))/\aj w wr/\wr.heap[w.heap.size]?=some (.cells #[aA aK N1 N2,az aJ N3] 83 (0,0))):=⟨jW,hb2,xJ⟩;by_cases hlt:k<bs.length
  .have c1:=(hb2.cell (p:=⟨g,k,none⟩) (lt_of_cell (BP.out.row k _ (zI hlt)))).trans (BP.out.row k _ (zI hlt));have HIk:Hid (ak 170 #[aH (some ⟨bx bs k,0,none⟩),aC #[aA aK N1 N2,az aJ N3]] wr λe w''=>e=aL (aD (kK Xs n k))/\aj wr w''):=HI.out k hlt wr hb2
   have MZ:Hid (fG Xs n (k+1)=fG Xs n k++(if kK Xs n k then[k] else[])):=anq Xs n k
   have hsl:=acF Xs n k;have gH:(k:Int)<(bs.length:Int):=aa
   clear jW hb2 xJ HE HI HM BP;generalize kK Xs n k=B at*;generalize fG Xs n k=T at*;generalize hbb:bx bs k=bS at*
   go_wp2_with fail
   refine HIk.out.mono ?_;rintro e w5 ⟨rfl,bg⟩;have eT:w5.ownsRow (w.heap.size+1) 175 1 u5 T.length (bA (T.map (bx bs))):=bB oD.out.1 λk hk=>bg.block k (bn oD.out.1 k hk).2
   have gJ:Hid (aj w w5):=oD.out.2.1.trans (bg.mono aa)
   have sf:Hid (w5.heap[w.heap.size]?=some (.cells #[aA aK N1 N2,az aJ N3] 83 (0,0))):=(bg.block _ (lt_of_heap oD.out.2.2)).trans oD.out.2.2;have hz5:w.heap.size+1<=w5.heap.size:=by have:=bg.size;omega
   have qf:Hid (bx bs k=bS):=hbb;clear bg HIk oD c1 t0 t1 hbb;cases B
   .have cV:Hid (w5.ownsRow (w.heap.size+1) 175 1 u5 (fG Xs n (k+1)).length (bA ((fG Xs n (k+1)).map (bx bs)))/\aj w w5/\w5.heap[w.heap.size]?=some (.cells #[aA aK N1 N2,az aJ N3] 83 (0,0))/\w.heap.size+1<=w5.heap.size):=by
     show _/\_;have e:fG Xs n (k+1)=T:=by rw[MZ.out];simp
     rw[e];exact⟨eT,gJ.out,sf.out,hz5⟩
    clear eT MZ
    go_wp2_with fail
    go_roundg (gk-1)
    case measure=>omega
    case rel=>exact⟨k+1,aa,ai,cV.out⟩
   .have hnb:(w5.alloc (.cells #[aH (some ⟨bS,0,none⟩)] 175)).heap[w5.heap.size]?=some (.cells #[aH (some ⟨bS,0,none⟩)] 175 (0,0)):=heap_alloc_new _ _;have iw:(w5.alloc (.cells #[aH (some ⟨bS,0,none⟩)] 175)).ownsRow (w.heap.size+1) 175 1 u5 T.length (bA (T.map (bx bs))):=bB eT λk hk=>Below.heap_alloc _ _ _ (bn eT k hk).2
    have Tw:Hid (w5.ownsRow (w.heap.size+1) 175 1 u5 T.length (bA (T.map (bx bs)))):=eT;clear eT
    go_wp2_with (at_builtin;refine wpList_append_lies _ rfl (.tmp 17) (.tmp 19) 132 rfl (w.heap.size+1) 175 i0 _ 1 8 underlying132 hi0 hz0 hz1 hz2 rfl ah u5 T.length (bA (T.map (bx bs))) rfl iw ⟨w5.heap.size,0,none⟩ 1 1 [aH (some ⟨bS,0,none⟩)] rfl rfl (World.news_of_block (cs:= #[aH (some ⟨bS,0,none⟩)]) (t:=175) (fr:=(0,0)) hnb) (by simp[Value.oneCell']) ah (by unfold maxLen;omega) aa (by simp;omega) (w5.heap.size+1) af ?_;intro g' cap' w8 dM cI iN rN)
    have cV:Hid (w8.ownsRow (w.heap.size+1) 175 1 (aG (some ⟨g',0,none⟩) (T.length+1) cap') (fG Xs n (k+1)).length (bA ((fG Xs n (k+1)).map (bx bs)))/\aj w w8/\w8.heap[w.heap.size]?=some (.cells #[aA aK N1 N2,az aJ N3] 83 (0,0))/\w.heap.size+1<=w8.heap.size):=by
     show _/\_;have e:fG Xs n (k+1)=T++[k]:=by rw[MZ.out];simp
     rw[e,bY,jC];have e2:bA (T.map (bx bs)++[k].map (bx bs))=bA (T.map (bx bs))++[aH (some ⟨bS,0,none⟩)]:=by simp[bA,qf.out]
     rw[e2];have hzz:=cI.size;refine⟨dM,(gJ.out.alloc aa _).grown cI (by simp;omega) (λk hk=>by have:=(bn Tw.out k hk).1;omega),?_,by simp at hzz;omega⟩
     have hne:∀k,u5.ownBlock=some k->k≠w.heap.size:=λk hk=>by have:=(bn Tw.out k hk).1;omega
     exact(cI.block _ (by simp;omega) (λe=>hne _ e.symm rfl)).trans ((Below.heap_alloc _ _ _ aa).trans sf.out)
    clear dM cI iN hnb iw Tw MZ
    go_wp2_with fail
    go_roundg (gk-1)
    case measure=>omega
    case rel=>exact⟨k+1,aa,ai,cV.out⟩
  .have hk:k=bs.length:=aa
   subst hk;have Iz:Hid (ak 171 #[u5,.func (.func 172) #[aC #[aA aK N1 N2,az aJ N3]] #[]] wr λe w''=>e=aL (aH (some ⟨bM,0,none⟩))/\aj wr w''):=HM.out u5 wr (xk oD.out.1 aa) oD.out.2.1
   have jx:Hid (aj w wr):=oD.out.2.1;clear jW hb2 xJ HE HI HM BP oD
   go_wp2_with fail
   refine Iz.out.mono ?_;rintro e w9 ⟨rfl,ou⟩;have HF:Hid (aj w w9):=jx.out.trans (ou.mono aa)
   clear ou Iz jx
   go_wp2_with fail
   go_ret
   exact⟨rfl,HF.out⟩
theorem ant(X1 X2 X3 Y1 Y2 Y3 N1 N2 ra rb P Q im:Nat)(N3 p q R:Int)(b c:Nat)(w:aM)
  (a0:w.cell? ⟨b,0,none⟩=some (aA aK X1 X2))(a1:w.cell? ⟨b,1,none⟩=some (aB aK X3))(c0:w.cell? ⟨c,0,none⟩=some (aA aK Y1 Y2))(c1:w.cell? ⟨c,1,none⟩=some (aB aK Y3))
  (HLa:Hid (∀w,ak 97 #[aC #[aA aK X1 X2,aB aK X3],aC #[aA aK N1 N2,az aJ N3]] w λe w'=>e=aL (aB aK ra)/\Below w.heap.size w w'))
  (HLb:Hid (∀w,ak 97 #[aC #[aA aK Y1 Y2,aB aK Y3],aC #[aA aK N1 N2,az aJ N3]] w λe w'=>e=aL (aB aK rb)/\Below w.heap.size w w'))
  (Gk:∀t w,(binOp .mul t (aB aK ra) (aB aK Y1)).run prog w=.ok (aB aK P) w)(yU:∀t w,(binOp .mul t (aB aK rb) (aB aK X1)).run prog w=.ok (aB aK Q) w)
  (Bp:Hid (∀w,ak 183 #[aB aK P,aB aK Q] w λr w'=>r=aL (az aJ p)/\w'=w))
  (S5:Hid (∀w,ak 101 #[aA aK X1 X2,aA aK Y1 Y2] w λe w'=>e=aL (aB aK im)/\w'=w))
  (qQ:Hid (∀w,ak 183 #[aB aK im,aB aK 0] w λr w'=>r=aL (az aJ q)/\w'=w))
  (HO:Hid (∀b cap w,w.cell? ⟨b,0,none⟩=some (az aJ p)->w.cell? ⟨b,1,none⟩=some (az aJ q)->ak 182 #[aG (some ⟨b,0,none⟩) 2 cap] w λr w'=>r=aL (az aJ R)/\w'=w)):
  ak 172 #[aC #[aA aK N1 N2,az aJ N3],aH (some ⟨b,0,none⟩),aH (some ⟨c,0,none⟩)] w λe w'=>e=aL (az aJ R)/\Below w.heap.size w w':=by
 have hbz:b<w.heap.size:=lt_of_cell a0;have hcz:c<w.heap.size:=lt_of_cell c0;have hb0:Below w.heap.size w (w.alloc (.cells #[aA aK N1 N2,az aJ N3] 83)):=(Below.refl _ _).alloc (aY _) _;have hE:=heap_alloc_new w (.cells #[aA aK N1 N2,az aJ N3] 83);have hz:w.heap.size<(w.alloc (.cells #[aA aK N1 N2,az aJ N3] 83)).heap.size:=af
 go_enter func172,ntmps172
 go_wp2_with fail
 have z0:(w.alloc (.cells #[aA aK N1 N2,az aJ N3] 83)).cell? ⟨w.heap.size,0,none⟩=some (aA aK N1 N2):=cell_of hE 0;have z1:(w.alloc (.cells #[aA aK N1 N2,az aJ N3] 83)).cell? ⟨w.heap.size,1,none⟩=some (az aJ N3):=cell_of hE 1;have z2:=aS hb0 a0 hbz;have z3:=aS hb0 a1 hbz;have z4:=aS hb0 c0 hcz;have z5:=aS hb0 c1 hcz;generalize w.alloc (.cells #[aA aK N1 N2,az aJ N3] 83)=W at*;generalize tS:w.heap.size=B at*;have jw:B<W.heap.size:=aa
 have hbW:b<W.heap.size:=aa
 have Ty:c<W.heap.size:=aa
 have Tt:Below B w W:=hb0;clear hE hz a0 a1 c0 c1 hb0
 go_region_held3 (λw'=>w'.cell? ⟨B,0,none⟩=some (aA aK N1 N2)/\w'.cell? ⟨B,1,none⟩=some (az aJ N3)/\w'.cell? ⟨b,0,none⟩=some (aA aK X1 X2)/\w'.cell? ⟨b,1,none⟩=some (aB aK X3)/\w'.cell? ⟨c,0,none⟩=some (aA aK Y1 Y2)/\w'.cell? ⟨c,1,none⟩=some (aB aK Y3)) (go_keep) (first
   |(go_at_call_of 97 (Value.agg #[Value.complex FloatKind.f64 X1 X2,Value.float FloatKind.f64 X3]);refine(HLa.out _).mono ?_;rintro e w5 ⟨rfl,vI⟩;have o9:B<w5.heap.size:=bW jw vI.size;have fF:b<w5.heap.size:=bW hbW vI.size;have Tz:c<w5.heap.size:=bW Ty vI.size;have l0:=aS vI z0 jw;have l1:=aS vI z1 jw;have l2:=aS vI z2 hbW;have l3:=aS vI z3 hbW;have l4:=aS vI z4 Ty;have l5:=aS vI z5 Ty;have anw:Below B w w5:=Tt.drew.trans (vI.mono (fh jw)))
   |(go_at_call_of 97 (Value.agg #[Value.complex FloatKind.f64 Y1 Y2,Value.float FloatKind.f64 Y3]);refine(HLb.out _).mono ?_;rintro e w6 ⟨rfl,vJ⟩;have vH:B<w6.heap.size:=bW o9 vJ.size;have je:b<w6.heap.size:=bW fF vJ.size;have TB:c<w6.heap.size:=bW Tz vJ.size;have m0:=aS vJ l0 o9;have m1:=aS vJ l1 o9;have m2:=aS vJ l2 fF;have m3:=aS vJ l3 fF;have m4:=aS vJ l4 Tz;have m5:=aS vJ l5 Tz;have anx:Below B w w6:=anw.trans (vJ.mono (fh o9)))
   |(go_at_call_of 183 (Value.float FloatKind.f64 P);refine(Bp.out _).mono ?_;rintro e w7 ⟨rfl,mI⟩;replace mI:=mI.symm;subst mI)
   |(go_at_call 101;refine(S5.out _).mono ?_;rintro e w7 ⟨rfl,mI⟩;replace mI:=mI.symm;subst mI)
   |(go_at_call_of 183 (Value.float FloatKind.f64 im);refine(qQ.out _).mono ?_;rintro e w7 ⟨rfl,mI⟩;replace mI:=mI.symm;subst mI)
   |(go_at_call 182;refine(HO.out _ _ _ (cell_of (heap_alloc_new _ _) 0) (cell_of (heap_alloc_new _ _) 1)).mono ?_;rintro e w8 ⟨rfl,tJ⟩;have vK:Below w6.heap.size w6 w8:=(by(rw[tJ];exact(Below.refl _ _).alloc (aY _) _));have atS:B<w8.heap.size:=bW vH vK.size;have atT:b<w8.heap.size:=bW je vK.size;have atU:c<w8.heap.size:=bW TB vK.size;have o0:=aS vK m0 vH;have o1:=aS vK m1 vH;have o2:=aS vK m2 je;have o3:=aS vK m3 je;have o4:=aS vK m4 TB;have o5:=aS vK m5 TB;have anz:Below B w w8:=anx.trans (vK.mono (fh vH));clear tJ))
 all_goals
  go_wp2_with fail
  go_ret
  exact⟨rfl,by rw[tS];exact anz⟩
def IE(n:Ge.Nd)(x y:PB):Int:=(Ge.cr (Ga.wv x.f x.t) (Ga.wv x.f n)*(y.f.2.2*(Ga.wv y.f y.t).1)-Ge.cr (Ga.wv y.f y.t) (Ga.wv y.f n)*(x.f.2.2*(Ga.wv x.f x.t).1)).sign
def sx(n:Ge.Nd)(x y:PB):Int:=if IE n x y=0 then gq x y else IE n x y
theorem acH{x:PB}(hx:LD x l)(n:Ge.Nd):∃dl DD:Int,0<dl/\0<DD/\DD*(x.f.2.2*(l.1*n.2.1-l.2.1*n.1-l.2.2*n.2.2))=dl*Ge.cr (Ga.wv x.f x.t) (Ga.wv x.f n)/\DD*l.1=dl*(Ga.wv x.f x.t).1:=by
 have hp:=hx.par;have hd:=hx.pos;have h:=hx.Sz;rw[(vC x.f x.t).1,(vC x.f x.t).2] at hp hd;refine⟨l.1*(Ga.wv x.f x.t).1+l.2.1*(Ga.wv x.f x.t).2,Ge.dt (Ga.wv x.f x.t) (Ga.wv x.f x.t),hd,Ga.fW ?_,?_,?_⟩
 .intro e;rw[e] at hd;simp at hd
 .have e1:x.f.2.2*(l.1*n.2.1-l.2.1*n.1-l.2.2*n.2.2)=l.1*(Ga.wv x.f n).2-l.2.1*(Ga.wv x.f n).1:=by
   have e0:(Ga.wv x.f n).1=x.f.2.2*n.1-n.2.2*x.f.1:=rfl;have e0':(Ga.wv x.f n).2=x.f.2.2*n.2.1-n.2.2*x.f.2.1:=rfl;rw[e0,e0'];have:x.f.2.2*(l.1*n.2.1-l.2.1*n.1-l.2.2*n.2.2)=x.f.2.2*l.1*n.2.1-x.f.2.2*l.2.1*n.1-n.2.2*(l.2.2*x.f.2.2):=by grind
   rw[this,<-h]
   grind
  rw[e1];generalize Ga.wv x.f x.t=D at*;generalize Ga.wv x.f n=v at*;unfold Ge.dt Ge.cr;clear h e1 hd
  grind
 .generalize Ga.wv x.f x.t=D at*;unfold Ge.dt;clear h hd
  grind
theorem anB{x y:PB}(hx:LD x l)(hy:LD y m)(TC:0<x.f.2.2)(IG:0<y.f.2.2)(n:Ge.Nd):((l.1*n.2.1-l.2.1*n.1-l.2.2*n.2.2)*m.1-(m.1*n.2.1-m.2.1*n.1-m.2.2*n.2.2)*l.1).sign=IE n x y:=by
 obtain⟨d1,D1,p1,q1,e1,e2⟩:=acH hx n;obtain⟨d2,D2,p2,q2,e3,e4⟩:=acH hy n;unfold IE;generalize l.1*n.2.1-l.2.1*n.1-l.2.2*n.2.2=A at*;generalize m.1*n.2.1-m.2.1*n.1-m.2.2*n.2.2=B at*;generalize Ge.cr (Ga.wv x.f x.t) (Ga.wv x.f n)=CX at*;generalize Ge.cr (Ga.wv y.f y.t) (Ga.wv y.f n)=CY at*;generalize(Ga.wv x.f x.t).1=X1 at*;generalize(Ga.wv y.f y.t).1=Y1 at*;generalize x.f.2.2=fx at*;generalize y.f.2.2=fy at*;have k1:0<D1*D2*(fx*fy):=bJ (bJ q1 q2) (bJ TC IG);have k2:0<d1*d2:=bJ p1 p2;rw[<-Ge.Ql (z:=A*m.1-B*l.1) k1,<-Ge.Ql (z:=CX*(fy*Y1)-CY*(fx*X1)) k2];congr 1;have a1:D1*D2*(fx*fy)*(A*m.1-B*l.1)=(D1*(fx*A))*(fy*(D2*m.1))-(D2*(fy*B))*(fx*(D1*l.1)):=by grind
 rw[a1,e1,e2,e3,e4]
 grind
theorem anC(x y:PB)(hx:LD x l)(hy:LD y m)(TC:0<x.f.2.2)(IG:0<y.f.2.2)(n:Ge.Nd)(hn:mJ n)(b c:Nat)(w:aM)(h1:jy w b x)(h2:jy w c y):
  ak 172 #[ja n,aH (some ⟨b,0,none⟩),aH (some ⟨c,0,none⟩)] w λe w'=>e=aL (az aJ (sx n x y))/\aj w w':=by
 obtain⟨ra,fa,hLa⟩:=Tu hx hn;obtain⟨rb,fb,SZ⟩:=Tu hy hn;have bd:∀(k:Ge.Ln),k.1.natAbs<=100->k.2.1.natAbs<=100->k.2.2.natAbs<=10000->(k.1*n.2.1-k.2.1*n.1-k.2.2*n.2.2).natAbs<=1000000000:=λk k1 k2 k3=>by
  have a1:(k.1*n.2.1).natAbs<=100*3000000:=by rw[mq];exact CZ k1 hn.y
  have a2:(k.2.1*n.1).natAbs<=100*3000000:=by rw[mq];exact CZ k2 hn.x
  have a3:(k.2.2*n.2.2).natAbs<=10000*20000:=by rw[mq];exact CZ k3 (by have:=hn.d;omega)
  omega
 have ba:=bd l hx.b1 hx.b2 hx.b3;have bb:=bd m hy.b1 hy.b2 hy.b3;have m1:((l.1*n.2.1-l.2.1*n.1-l.2.2*n.2.2)*m.1).natAbs<=1000000000*100:=by rw[mq];exact CZ ba hy.b1
 have m2:((m.1*n.2.1-m.2.1*n.1-m.2.2*n.2.2)*l.1).natAbs<=1000000000*100:=by rw[mq];exact CZ bb hx.b1
 obtain⟨P,eP,fP⟩:=fa.mul hy.fl.a aa
 obtain⟨Q,eQ,fQ⟩:=fb.mul hx.fl.a aa
 obtain⟨im,f1,hl⟩:=Ib hx hy;have hc1:=λw=>Bo fP fQ w
 rw[anB hx hy TC IG n] at hc1;have hc2:=λw=>Bo f1 mF w
 rw[CR,Ia hx hy] at hc2;unfold ja;exact ant _ _ _ _ _ _ _ _ ra rb P Q im _ _ _ _ b c w h1.c0 h1.c1 h2.c0 h2.c1 hLa SZ (λt w=>run_float_arith (P:=prog) w .mul t aK _ _ P eP) (λt w=>run_float_arith (P:=prog) w .mul t aK _ _ Q eQ) hc1 hl hc2 (λb cap w h0 h1=>LM _ _ b cap w h0 h1)
def jf(Xs:List PB)(n:Ge.Nd):Nat:=cL (λi j=>sx n (xi Xs i) (xi Xs j)) (fG Xs n Xs.length).tail ((fG Xs n Xs.length).headD 0)
theorem acI{Xs:List PB}{n:Ge.Nd}(h:fG Xs n Xs.length≠[]):jf Xs n∈fG Xs n Xs.length:=by
 unfold jf;generalize fG Xs n Xs.length=T at*;cases T with
 |nil=>exact absurd rfl h
 |cons a t=>
  rcases zG (λi j=>sx n (xi Xs i) (xi Xs j)) t a with e|e
  .rw[show(a::t).tail=t from rfl,show(a::t).headD 0=a from rfl,e];simp
  .exact bX _ e
theorem anE(bs:List Nat)(Xs:List PB)(hB:BD Xs)(hnd:bs.Nodup)(n:Ge.Nd)(hn:mJ n)(g cap:Nat)(w:aM)(hR:RB w g bs Xs)(hne:fG Xs n Xs.length≠[]):
  ak 114 #[aG (some ⟨g,0,none⟩) bs.length cap,ja n] w λe w'=>e=aL (aH (some ⟨bx bs (jf Xs n),0,none⟩))/\aj w w':=by
 have hlen:=hR.len;have hbl:bs.length<=85000000:=by rw[hlen];exact hB.len
 refine anr bs Xs n _ _ _ g cap (bx bs (jf Xs n)) w hR hbl (λi hi w' hb=>ano bs Xs hB w' g (hR.below hb) n hn i (by rw[<-hlen];exact hi)) ?_
 intro lv wr ho hb;rw[hlen] at ho;have hT:∀j∈fG Xs n Xs.length,j<Xs.length:=Tv Xs n Xs.length;have lR:=acF Xs n Xs.length;have M0:=hB.len;have se:jf Xs n=cL (λi j=>sx n (xi Xs i) (xi Xs j)) (fG Xs n Xs.length).tail ((fG Xs n Xs.length).headD 0):=rfl
 rw[se];generalize fG Xs n Xs.length=T at*;obtain⟨t0,tr,rfl⟩:∃t0 tr,T=t0::tr:=by
  cases T with
  |nil=>exact absurd rfl hne
  |cons a t=>exact⟨a,t,rfl⟩
 obtain⟨gT,cT,rfl,_,_,_,_,_,hcell⟩:=o6 ho af
 have fB:=hR.below hb;have hm:=anp (λb b'=>sx n (xi Xs (bs.idxOf b)) (xi Xs (bs.idxOf b'))) (bx bs t0) (tr.map (bx bs)) gT 0 cT (aO aK n.1) (aO aK n.2.1) n.2.2 wr (by rw[ia];simp only[dw] at lR;omega)
  (λi b hi=>hcell i b hi)
  (λb h1 c h2 w'' hw=>by
   have key:∀b,b∈bx bs t0::tr.map (bx bs)->∃j,j<Xs.length/\b=bx bs j:=λb hb=>by
    have hb2:b∈(t0::tr).map (bx bs):=hb;obtain⟨j,hj,rfl⟩:=bQ.1 hb2;exact⟨j,hT j hj,rfl⟩
   obtain⟨j1,q1,rfl⟩:=key b h1;obtain⟨j2,q2,rfl⟩:=key c h2;have uT:=fB.below hw;rw[og hnd (by rw[hlen];exact q1),og hnd (by rw[hlen];exact q2)]
   obtain⟨l1,d1⟩:=hB.ld _ (iH q1);obtain⟨l2,d2⟩:=hB.ld _ (iH q2);exact anC _ _ d1 d2 (hB.v _ (iH q1)).cf.pos (hB.v _ (iH q2)).cf.pos n hn _ _ w'' (uT.at q1) (uT.at q2))
 have e1:cL (λb b'=>sx n (xi Xs (bs.idxOf b)) (xi Xs (bs.idxOf b'))) (tr.map (bx bs)) (bx bs t0)=bx bs (cL (λi j=>sx n (xi Xs i) (xi Xs j)) (t0::tr).tail ((t0::tr).headD 0)):=by
  refine Ih _ _ λj hj k hk=>?_
  simp only[og hnd (by rw[hlen];exact hT j hj),og hnd (by rw[hlen];exact hT k hk)]
 rw[e1,ia] at hm;exact hm
abbrev VR:=aN×List Nat
def ic(P:List Nat->Bool)(a:VR)(Z:List VR):VR:=Z.foldl (λacc p=>if P p.2 then p else acc) a
def ie(P:List Nat->Bool)(Z:List VR):List VR:=Z.filter λp=> !P p.2
theorem anF(P:List Nat->Bool)(a:VR)(Z:List VR)(p:VR):ic P a (Z++[p])=if P p.2 then p else ic P a Z:=by unfold ic;rw[JX];rfl
theorem anG(P:List Nat->Bool)(Z:List VR)(p:VR):ie P (Z++[p])=ie P Z++(if P p.2 then[] else[p]):=by
 unfold ie;rw[JQ];congr 1;cases h:P p.2<;>simp[h]
structure TK(w:aM)(base pb:Nat)(hv:aN)(s' h':aN)(hs:List aN)(wr:aM):Prop where
 lT:wr.heap[pb]?=some (.cells #[s',h'] 187 (0,0))
 own:wr.ownsRow base 185 1 h' hs.length hs
 mo:Mo (pb::hv.ownBlock.toList) w wr
 fresh:∀k,h'.ownBlock=some k->hv.ownBlock=some k\/w.heap.size<=k
 ne:h'.ownBlock≠some pb
theorem TK.below{hs:List aN}(h:TK w base pb hv s' h' hs wr)(hb:aj wr w'):TK w base pb hv s' h' hs w':=
 ⟨(hb.block _ (lt_of_heap h.lT)).trans h.lT,bB h.own λk hk=>hb.block k (bn h.own k hk).2,h.mo.trans (Mo.of _ hb),h.fresh,h.ne⟩
theorem TK.shell{hs:List aN}(h:TK w base pb hv s' h' hs wr)(v:aN):TK w base pb hv v h' hs (wr.setCell ⟨pb,0,none⟩ v):=by
 refine⟨?_,bB h.own λk hk=>Below.heap_setCell _ _ _ _ (λe=>h.ne (by rw[hk,e])),h.mo.trans (Mo.setCell (pb::hv.ownBlock.toList) wr (p:=⟨pb,0,none⟩) (OU ..) v),h.fresh,h.ne⟩
 rw[setCell_new h.lT];rfl
theorem TK.hole{hs:List aN}(h:TK w base pb hv s' h' hs wr)(hpw:pb<w.heap.size)(v:aN)(o:Obj){g' cap':Nat}{w8:aM}(cI:(wr.alloc o).grownBy w8 h'.ownBlock)
  (dM:w8.ownsRow base 185 1 (aG (some ⟨g',0,none⟩) (hs.length+1) cap') (hs.length+1) (hs++[v]))(hat:h'.ownBlock=some g'\/g'=wr.heap.size+1):
  TK w base pb hv s' (aG (some ⟨g',0,none⟩) (hs.length+1) cap') (hs++[v]) (w8.setCell ⟨pb,1,none⟩ (aG (some ⟨g',0,none⟩) (hs.length+1) cap')):=by
 have nj:=lt_of_heap h.lT;have hwz:=h.mo.size;have anH:w8.heap[pb]?=some (.cells #[s',h'] 187 (0,0)):=(cI.block pb (by simp;omega) (λe=>h.ne e.symm)).trans ((Below.heap_alloc _ _ _ nj).trans h.lT)
 have IH:g'≠pb:=λe=>by
  subst e;rcases hat with hat|hat
  .exact h.ne hat
  .omega
 refine⟨?_,?_,?_,λk hk=>?_,λe=>?_⟩
 .rw[setCell_new anH];rfl
 .rw[bY];exact bB dM λk hk=>Below.heap_setCell _ _ _ _ (λe=>by
   have:g'=k:=by simpa[Value.ownBlock] using hk
   exact IH (this.trans e))
 .have m1:Mo (pb::hv.ownBlock.toList) w w8:=by
   refine h.mo.below ((Mo.alloc h'.ownBlock.toList wr o).trans (Mo.grown cI (λk hk=>by rw[hk];simp))) λk hk hk'=>?_
   have hk2:h'.ownBlock=some k:=by simpa using hk'
   rcases h.fresh k hk2 with e|e
   .exact bX _ (by rw[e];simp)
   .omega
  exact m1.trans (Mo.setCell (pb::hv.ownBlock.toList) w8 (p:=⟨pb,1,none⟩) (OU ..) _)
 .have hk2:g'=k:=by simpa[Value.ownBlock] using hk
  subst hk2;rcases hat with hat|hat
  .exact h.fresh _ hat
  .right;omega
 .have:g'=pb:=by simpa[Value.ownBlock] using e
  exact IH this
theorem acJ(P:List Nat->Bool)(Z:List VR)(a0:VR)(pb gR anI base:Nat)(hv:aN)(hs:List aN)(w:aM)(hn:Z.length<=85000000)(hhs:hs.length<=85000000)(hbase:base<=w.heap.size)
  (hI:TK w base pb hv a0.1 hv hs w)(hgR:gR≠pb/\hv.ownBlock≠some gR)
  (HV:Hid (∀(i:Nat) p,Z[i]?=some p->w.cell? ⟨gR,i,none⟩=some p.1/\∃so n c,p.1=aG so n c))
  (HC:Hid (∀p∈Z,∀w',Mo (pb::hv.ownBlock.toList) w w'->ak 113 #[p.1] w' λe w''=>e=aL (aD (P p.2))/\aj w' w'')):
  ak 115 #[aH (some ⟨pb,0,none⟩),aG (some ⟨gR,0,none⟩) Z.length anI] w λe w'=>e=aL (aI #[])/\∃hv',TK w base pb hv (ic P a0 Z).1 hv' (hs++(ie P Z).map (·.1)) w':=by
 obtain⟨j0,Ce,hy0,hy1,hy2⟩:=info_parts acm;have cK:Hid (∃hv',TK w base pb hv (ic P a0 (Z.take 0)).1 hv' (hs++(ie P (Z.take 0)).map (·.1)) w):=⟨hv,by simpa[ic,ie] using hI⟩
 have hpw:pb<w.heap.size:=lt_of_heap hI.lT;have TD:Hid (gR≠pb/\hv.ownBlock≠some gR):=hgR;clear hI hgR
 go_enter func115,ntmps115
 go_wp2_with fail
 go_loopg [8] Z.length (λm iv wr=>∃k:Nat,k+m=Z.length/\iv=az aJ k/\Hid (∃hv',TK w base pb hv (ic P a0 (Z.take k)).1 hv' (hs++(ie P (Z.take k)).map (·.1)) wr))
 case atStart=>exact⟨0,aa,rfl,cK.out⟩
 case round=>
  obtain⟨k,hkn,rfl,HE⟩:=hrel;clear cK;by_cases hlt:k<Z.length
  .obtain⟨p,hp⟩:∃p,Z[k]?=some p:=⟨_,bo hlt⟩;obtain⟨h',kM⟩:=HE.out;obtain⟨c0,so,sn,sc,hsv⟩:=HV.out k p hp;have eK:gR<w.heap.size:=lt_of_cell c0;have c1:=(kM.mo.cell (p:=⟨gR,k,none⟩) eK (by
    intro hk;rcases bU.1 hk with e|e
    .exact TD.out.1 e
    .exact TD.out.2 (by simpa using e))).trans c0
   have hcall:=HC.out p (bT hp) wr kM.mo;have htk:Z.take (k+1)=Z.take k++[p]:=by rw[jF,hp];rfl
   have M3:Hid (ic P a0 (Z.take (k+1))=if P p.2 then p else ic P a0 (Z.take k)):=by
    show ic P a0 (Z.take (k+1))=_;rw[htk,anF]
   have M4:Hid (ie P (Z.take (k+1))=ie P (Z.take k)++(if P p.2 then[] else[p])):=by
    show ie P (Z.take (k+1))=_;rw[htk,anG]
   have TE:Hid ((hs++(ie P (Z.take k)).map (·.1)).length<=85000000+k):=by
    show _<=_;have:=JR (λp:VR=> !P p.2) (Z.take k)
    rw[bY,ia];unfold ie;rw[iB] at this;omega
   have gH:(k:Int)<(Z.length:Int):=aa
   obtain⟨v,r⟩:=p;simp only at*;subst hsv;have jm:Hid (ak 113 #[aG so sn sc] wr λe w''=>e=aL (aD (P r))/\aj wr w''):=hcall
   have oz:Hid (TK w base pb hv (ic P a0 (Z.take k)).1 h' (hs++(ie P (Z.take k)).map (·.1)) wr):=kM
   clear c0 hp kM HE hcall htk;generalize(ic P a0 (Z.take k))=sa at*;generalize(ie P (Z.take k))=hb at*;have anK:Hid (hs++hb.map (·.1)=hs++hb.map (·.1)):=rfl
   generalize hgl:hs++hb.map (·.1)=hl at*
   have HGL:Hid (hs++hb.map (·.1)=hl):=hgl
   clear anK hgl;generalize P r=B at*
   go_wp2_with fail
   refine jm.out.mono ?_;rintro e w5 ⟨rfl,bg⟩;have Cf:=oz.out.below bg;have sf:Hid (TK w base pb hv sa.1 h' hl w5):=Cf;have f0:=bK Cf.lT 0;have q0:=cH Cf.lT;have q1:=cD Cf.lT;clear jm oz c1 bg;have rK:=Cf.mo.size;obtain⟨M5,M6,h1c,rfl⟩:∃a b c,h'=aG a b c:=by
    rcases Cf.own.2 with⟨h,_⟩|⟨_,_,_,h,_⟩
    .exact⟨_,_,_,h⟩
    .exact⟨_,_,_,h⟩
   have hll:=TE.out;clear Cf;cases B
   .have Cg:Hid (hs++(ie P (Z.take (k+1))).map (·.1)=hl++[aG so sn sc]/\ic P a0 (Z.take (k+1))=sa):=by
     refine⟨?_,M3.out⟩;rw[M4.out,jC,<-fH,HGL.out];rfl
    have hnb:(w5.alloc (.cells #[aG so sn sc] 185)).heap[w5.heap.size]?=some (.cells #[aG so sn sc] 185 (0,0)):=heap_alloc_new _ _;have hro:=sf.out.own;have mL:(w5.alloc (.cells #[aG so sn sc] 185)).ownsRow base 185 1 (aG M5 M6 h1c) hl.length hl:=bB hro λk hk=>Below.heap_alloc _ _ _ (bn hro k hk).2
    have HP8:Hid (∀w8,(w5.alloc (.cells #[aG so sn sc] 185)).grownBy w8 (Value.slice M5 M6 h1c).ownBlock->w8.heap[pb]?=some (.cells #[sa.1,aG M5 M6 h1c] 187 (0,0))):=λw8 cI=>(cI.block pb (by have:=lt_of_heap sf.out.lT;simp;omega) (λe=>sf.out.ne e.symm)).trans ((Below.heap_alloc _ _ _ (lt_of_heap sf.out.lT)).trans sf.out.lT)
    clear hro M3 M4 TE
    go_wp2_with (at_builtin;refine wpList_append_lies _ rfl (.tmp 22) (.tmp 24) 183 rfl base 185 j0 _ 1 24 underlying183 Ce hy0 hy1 hy2 rfl ah (aG M5 M6 h1c) hl.length hl rfl mL ⟨w5.heap.size,0,none⟩ 1 1 [aG so sn sc] rfl rfl (World.news_of_block (cs:= #[aG so sn sc]) (t:=185) (fr:=(0,0)) hnb) (by simp[Value.oneCell']) ah (by unfold maxLen;omega) aa (by simp;omega) (w5.heap.size+1) af ?_;intro g' cap' w8 dM cI iN rN;have xK:=HP8.out w8 cI;have f81:=bK xK 1;have c81:=cD xK)
    have cV:Hid (∃hv',TK w base pb hv (ic P a0 (Z.take (k+1))).1 hv' (hs++(ie P (Z.take (k+1))).map (·.1)) (w8.setCell ⟨pb,1,none⟩ (aG (some ⟨g',0,none⟩) (hl.length+1) cap'))):=by
     show ∃hv',_;rw[Cg.out.1,Cg.out.2];exact⟨_,sf.out.hole hpw _ _ cI dM iN⟩
    clear dM cI iN xK HP8 hnb mL sf Cg
    go_wp2_with fail
    go_roundg (gk-1)
    case measure=>omega
    case rel=>exact⟨k+1,aa,ai,cV.out⟩
   .have Cg:Hid (hs++(ie P (Z.take (k+1))).map (·.1)=hl/\ic P a0 (Z.take (k+1))=(aG so sn sc,r)):=by
     refine⟨?_,M3.out⟩;rw[M4.out];simp only[kP,qu];exact HGL.out
    have cV:Hid (∃hv',TK w base pb hv (ic P a0 (Z.take (k+1))).1 hv' (hs++(ie P (Z.take (k+1))).map (·.1)) (w5.setCell ⟨pb,0,none⟩ (aG so sn sc))):=by
     show ∃hv',_;rw[Cg.out.1,Cg.out.2];exact⟨_,sf.out.shell _⟩
    clear sf Cg M3 M4 TE q1
    go_wp2_with fail
    go_roundg (gk-1)
    case measure=>omega
    case rel=>exact⟨k+1,aa,ai,cV.out⟩
  .have hk:k=Z.length:=aa
   subst hk;have HF:Hid (∃hv',TK w base pb hv (ic P a0 Z).1 hv' (hs++(ie P Z).map (·.1)) wr):=by
    have:=HE.out;rw[fO] at this;exact this
   clear HE HV HC TD
   go_wp2_with fail
   go_end0
   exact⟨rfl,HF.out⟩
structure Tg where
 k:Nat
 q:Nat
abbrev Tg.vL:Tg:=⟨0,0⟩
abbrev Tg.lT(q:Nat):Tg:=⟨1,q⟩
abbrev Tg.holes(q:Nat):Tg:=⟨2,q⟩
abbrev Tg.ring:Tg:=⟨3,0⟩
abbrev Pg:=List Nat×List (List Nat)
structure kN where
 pb:Nat
 sv:aN
 hv:aN
 hvs:List aN
def j6(p:kN):aN:=aH (some ⟨p.pb,0,none⟩)
structure M7(bs:List Nat)(base:Nat)(T:Nat->Tg)(q:Nat)(ph:kN)(ps:Pg)(wr:aM):Prop where
 blk:wr.heap[ph.pb]?=some (.cells #[ph.sv,ph.hv] 187 (0,0))
 ge:base<=ph.pb
 tp:T ph.pb=.lT q
 sh:wr.ownsRow base 175 1 ph.sv ps.1.length (bA (ps.1.map (bx bs)))
 ts:∀k,ph.sv.ownBlock=some k->T k=.ring
 ho:wr.ownsRow base 185 1 ph.hv ph.hvs.length ph.hvs
 th:∀k,ph.hv.ownBlock=some k->T k=.holes q
 hl:ph.hvs.length=ps.2.length
 hr:∀(i:Nat) v r,ph.hvs[i]?=some v->ps.2[i]?=some r->wr.ownsRow base 175 1 v r.length (bA (r.map (bx bs)))/\∀k,v.ownBlock=some k->T k=.ring
structure PI(bs:List Nat)(base:Nat)(gU:aN)(PS:List Pg)(PH:List kN)(T:Nat->Tg)(wr:aM):Prop where
 row:wr.ownsRow base 165 1 gU PH.length (PH.map j6)
 tl:∀k,gU.ownBlock=some k->T k=.vL
 len:PH.length=PS.length
 pg:∀(q:Nat) ph ps,PH[q]?=some ph->PS[q]?=some ps->M7 bs base T q ph ps wr
theorem M7.keep{T T':Nat->Tg}{q:Nat}{ph:kN}{ps:Pg}(h:M7 bs base T q ph ps wr)(hk:∀b,base<=b->b<wr.heap.size->T b=.lT q\/T b=.ring\/T b=.holes q->w'.heap[b]?=wr.heap[b]?)(hT:∀b,b<wr.heap.size->T' b=T b):M7 bs base T' q ph ps w':=by
 have nj:=lt_of_heap h.blk;refine⟨(hk _ h.ge nj (aU h.tp)).trans h.blk,h.ge,by rw[hT _ nj];exact h.tp,bB h.sh λk e=>hk k (bn h.sh k e).1 (bn h.sh k e).2 (aT (aU (h.ts k e))),λk e=>by rw[hT k (bn h.sh k e).2];exact h.ts k e,bB h.ho λk e=>hk k (bn h.ho k e).1 (bn h.ho k e).2 (aT (aT (h.th k e))),λk e=>by rw[hT k (bn h.ho k e).2];exact h.th k e,h.hl,λi v r h1 h2=>?_⟩
 obtain⟨k1,k2⟩:=h.hr i v r h1 h2;exact⟨bB k1 λk e=>hk k (bn k1 k e).1 (bn k1 k e).2 (aT (aU (k2 k e))),λk e=>by rw[hT k (bn k1 k e).2];exact k2 k e⟩
theorem PI.keep{PS:List Pg}{PH:List kN}{T:Nat->Tg}(h:PI bs base gU PS PH T wr)(hk:∀b,base<=b->b<wr.heap.size->w'.heap[b]?=wr.heap[b]?):PI bs base gU PS PH T w':=
 ⟨bB h.row λk e=>hk k (bn h.row k e).1 (bn h.row k e).2,h.tl,h.len,λq ph ps h1 h2=>(h.pg q ph ps h1 h2).keep (λb hb hz _=>hk b hb hz) (λ_ _=>rfl)⟩
theorem II{α β:Type}{a:List α}{b:List β}{p:α×β}(h:(a.zip b)[i]?=some p):a[i]?=some p.1/\b[i]?=some p.2:=by
 rw[VJ] at h;exact h
theorem TF(P:List Nat->Bool)(a:VR):∀(Z:List VR),ic P a Z=a\/(ic P a Z∈Z/\P (ic P a Z).2=true):=by
 intro Z;unfold ic;induction Z generalizing a with
 |nil=>exact aU rfl
 |cons p Z ih=>
  rw[sL];by_cases hp:P p.2=true
  .rw[aV hp];rcases ih p with h|h
   .rw[h];exact aT ⟨af,hp⟩
   .exact aT ⟨bX _ h.1,h.2⟩
  .rw[aQ hp];rcases ih a with h|h
   .exact aU h
   .exact aT ⟨bX _ h.1,h.2⟩
structure RV(bs:List Nat)(lo hi:Nat)(Z:List VR)(w:aM):Prop where
 own:∀p∈Z,w.ownsRow lo 175 1 p.1 p.2.length (bA (p.2.map (bx bs)))/\∀k,p.1.ownBlock=some k->k<hi
theorem RV.keep{lo hi:Nat}{Z:List VR}(h:RV bs lo hi Z w)(hk:∀b,lo<=b->b<hi->w'.heap[b]?=w.heap[b]?):RV bs lo hi Z w':=
 ⟨λp hp=>⟨bB (h.own p hp).1 λk e=>hk k (bn (h.own p hp).1 k e).1 ((h.own p hp).2 k e),(h.own p hp).2⟩⟩
theorem PI.push{lvQ:aN}{PS:List Pg}{PH:List kN}{T:Nat->Tg}(h:PI bs base gU PS PH T wr)(P:List Nat->Bool)(Z:List VR)(N lo:Nat)(hv':aN)
  (hlo:wr.heap.size<=lo)(hbase:base<=lo)(hN:lo<=N)(El:N<w5.heap.size)(hZ:RV bs lo N Z w6)
  (hold:∀b,base<=b->b<wr.heap.size->T b≠.vL->w6.heap[b]?=wr.heap[b]?)
  (hrow:w6.ownsRow base 165 1 lvQ (PH.length+1) (PH.map j6++[aH (some ⟨N,0,none⟩)]))(hQ:∀k,lvQ.ownBlock=some k->gU.ownBlock=some k\/(N<k/\k<w5.heap.size))
  (kM:w6.heap[N]?=some (.cells #[(ic P (aG none 0 0,[]) Z).1,hv'] 187 (0,0)))(xL:w6.ownsRow base 185 1 hv' ((ie P Z).map (·.1)).length ((ie P Z).map (·.1)))(iD:∀k,hv'.ownBlock=some k->w5.heap.size<=k):
  ∃T',PI bs base lvQ (PS++[((ic P (aG none 0 0,[]) Z).2,(ie P Z).map (·.2))]) (PH++[⟨N,(ic P (aG none 0 0,[]) Z).1,hv',(ie P Z).map (·.1)⟩]) T' w6:=by
 refine⟨λb=>if b<wr.heap.size then T b else if b=N then .lT PH.length else if hv'.ownBlock=some b then .holes PH.length else if lvQ.ownBlock=some b then .vL else .ring,?_⟩
 have M8:∀k,lo<=k->k<N->(λb=>if b<wr.heap.size then T b else if b=N then Tg.lT PH.length else if hv'.ownBlock=some b then .holes PH.length else if lvQ.ownBlock=some b then .vL else .ring) k=Tg.ring:=λk k1 k2=>by
  have e1:¬k<wr.heap.size:=aa
  have e2:¬k=N:=aa
  have e3:¬hv'.ownBlock=some k:=λe=>by have:=iD k e;omega
  have e4:¬lvQ.ownBlock=some k:=λe=>by
   rcases hQ k e with e|e
   .have:=(bn h.row k e).2;omega
   .omega
  simp only[aQ e1,aQ e2,aQ e3,aQ e4]
 refine⟨?_,λk hk=>?_,by rw[bY,bY,h.len];rfl,λq ph ps h1 h2=>?_⟩
 .rw[jC,bY];exact hrow
 .rcases hQ k hk with e|⟨e1,e2⟩
  .have hz:=(bn h.row k e).2;simp only[aV hz];exact h.tl k e
  .have a1:¬k<wr.heap.size:=aa
   have a2:¬k=N:=aa
   have a3:¬hv'.ownBlock=some k:=λe=>by have:=iD k e;omega
   simp only[aQ a1,aQ a2,aQ a3,aV hk]
 .by_cases hq:q<PH.length
  .rw[fI hq] at h1;rw[fI (by rw[<-h.len];exact hq)] at h2
   refine(h.pg q ph ps h1 h2).keep (λb hb hz ht=>hold b hb hz (λe=>by rw[e] at ht;simp at ht)) (λb hb=>by simp only[aV hb])
  .have hq2:q=PH.length:=by
    have:=(cG.1 h1).1;simp at this;omega
   subst hq2;have e1:ph=⟨N,(ic P (aG none 0 0,[]) Z).1,hv',(ie P Z).map (·.1)⟩:=by simpa using h1.symm
   have e2:ps=((ic P (aG none 0 0,[]) Z).2,(ie P Z).map (·.2)):=by rw[h.len] at h2;simpa using h2.symm
   subst e1 e2;refine⟨kM,fN hbase hN,?_,?_,λk hk=>?_,xL,λk hk=>?_,af,λi v r h3 h4=>?_⟩
   .have a1:¬N<wr.heap.size:=aa
    simp only[aQ a1,kP]
   .rcases TF P (aG none 0 0,[]) Z with e|⟨e,_⟩
    .rw[e];exact World.ownsRow_nil _ _ _ _
    .exact xk (hZ.own _ e).1 hbase
   .rcases TF P (aG none 0 0,[]) Z with e|⟨e,_⟩
    .simp only at hk;rw[e] at hk;simp[Value.ownBlock] at hk
    .exact M8 k (bn (hZ.own _ e).1 k hk).1 ((hZ.own _ e).2 k hk)
   .have hz:=iD k hk;have a1:¬k<wr.heap.size:=aa
    have a2:¬k=N:=aa
    simp only at hk;simp only[aQ a1,aQ a2,aV hk]
   .simp only at h3 h4;rw[iI] at h3 h4;obtain⟨p,hp,rfl⟩:=rp.1 h3;rw[hp] at h4;have e:p.2=r:=by simpa using h4
    subst e;have hpZ:p∈Z:=(iz.1 (bT hp)).1;obtain⟨k1,k2⟩:=hZ.own p hpZ;exact⟨xk k1 hbase,λk hk=>M8 k (bn k1 k hk).1 (k2 k hk)⟩
theorem PI.more{PS:List Pg}{PH:List kN}{T:Nat->Tg}(h:PI bs base gU PS PH T wr)(Z:List VR)(lo hi q:Nat)(ph:kN)(ps:Pg)(ig:PH[q]?=some ph)(hps:PS[q]?=some ps)(hv':aN)
  (hlo:wr.heap.size<=lo)(hbase:base<=lo)(hhi:hi<=w5.heap.size)(hlh:lo<=hi)(hZ:RV bs lo hi Z w6)
  (hold:∀b,base<=b->b<wr.heap.size->T b≠.lT q->T b≠.holes q->w6.heap[b]?=wr.heap[b]?)
  (kM:w6.heap[ph.pb]?=some (.cells #[ph.sv,hv'] 187 (0,0)))(xL:w6.ownsRow base 185 1 hv' (ph.hvs++Z.map (·.1)).length (ph.hvs++Z.map (·.1)))(iD:∀k,hv'.ownBlock=some k->ph.hv.ownBlock=some k\/w5.heap.size<=k):
  ∃T',PI bs base gU (PS.set q (ps.1,ps.2++Z.map (·.2))) (PH.set q ⟨ph.pb,ph.sv,hv',ph.hvs++Z.map (·.1)⟩) T' w6:=by
 have oF:q<PH.length:=(cG.1 ig).1;have IJ:q<PS.length:=by rw[<-h.len];exact oF
 have hP:=h.pg q ph ps ig hps;have nj:=lt_of_heap hP.blk;refine⟨λb=>if b<wr.heap.size then T b else if hv'.ownBlock=some b then .holes q else .ring,?_⟩
 have told:∀b,b<wr.heap.size->(λb=>if b<wr.heap.size then T b else if hv'.ownBlock=some b then Tg.holes q else .ring) b=T b:=λb hb=>by simp only[aV hb]
 have M8:∀k,lo<=k->k<hi->(λb=>if b<wr.heap.size then T b else if hv'.ownBlock=some b then Tg.holes q else .ring) k=Tg.ring:=λk k1 k2=>by
  have e1:¬k<wr.heap.size:=aa
  have e3:¬hv'.ownBlock=some k:=λe=>by
   rcases iD k e with e|e
   .have:=(bn hP.ho k e).2;omega
   .omega
  simp only[aQ e1,aQ e3]
 have hmap:(PH.set q ⟨ph.pb,ph.sv,hv',ph.hvs++Z.map (·.1)⟩).map j6=PH.map j6:=by
  rw[VZ];have:j6 ⟨ph.pb,ph.sv,hv',ph.hvs++Z.map (·.1)⟩=(PH.map j6)[q]'(by simpa using oF):=by
   rw[agR];have:=(cG.1 ig).2;rw[this];rfl
  rw[this];exact asE _
 refine⟨?_,λk hk=>?_,by simp[h.len],λq' vM ps' h1 h2=>?_⟩
 .rw[hmap,Fx];exact bB h.row λk e=>hold k (bn h.row k e).1 (bn h.row k e).2 (by rw[h.tl k e];simp) (by rw[h.tl k e];simp)
 .exact(told k (bn h.row k hk).2).trans (h.tl k hk)
 .by_cases qY:q=q'
  .subst qY;rw[sO oF] at h1;rw[sO IJ] at h2;injection h1 with h1;injection h2 with h2;subst h1 h2;have pR:∀b,base<=b->b<wr.heap.size->T b=.ring->w6.heap[b]?=wr.heap[b]?:=λb hb hz ht=>hold b hb hz (by rw[ht];simp) (by rw[ht];simp)
   refine⟨kM,hP.ge,(told _ nj).trans hP.tp,bB hP.sh λk e=>pR k (bn hP.sh k e).1 (bn hP.sh k e).2 (hP.ts k e),λk e=>(told k (bn hP.sh k e).2).trans (hP.ts k e),xL,λk hk=>?_,by simp[hP.hl],λi v r h3 h4=>?_⟩
   .rcases iD k hk with e|e
    .exact(told k (bn hP.ho k e).2).trans (hP.th k e)
    .have a1:¬k<wr.heap.size:=aa
     simp only at hk;simp only[aQ a1,aV hk]
   .simp only at h3 h4;by_cases hi':i<ph.hvs.length
    .rw[fI hi'] at h3;rw[fI (by rw[<-hP.hl];exact hi')] at h4
     obtain⟨k1,k2⟩:=hP.hr i v r h3 h4;exact⟨bB k1 λk e=>pR k (bn k1 k e).1 (bn k1 k e).2 (k2 k e),λk e=>(told k (bn k1 k e).2).trans (k2 k e)⟩
    .rw[nJ aa] at h3
     rw[nJ (by rw[<-hP.hl];omega),<-hP.hl] at h4
     rw[iI] at h3 h4;obtain⟨p,hp,rfl⟩:=rp.1 h3;rw[hp] at h4;have e:p.2=r:=by simpa using h4
     subst e;obtain⟨k1,k2⟩:=hZ.own p (bT hp);exact⟨xk k1 hbase,λk hk=>M8 k (bn k1 k hk).1 (k2 k hk)⟩
  .rw[wm qY] at h1 h2;refine(h.pg q' vM ps' h1 h2).keep (λb hb hz ht=>hold b hb hz (λe=>?_) (λe=>?_)) told
   .rw[e] at ht;simp at ht;exact qY ht
   .rw[e] at ht;simp at ht;exact qY ht
structure Ch(nx:Nat->Nat)(mk:Nat->Bool)(n i:Nat)(A:List Nat)(j:Nat):Prop where
 head:∀a,A[0]?=some a->a=i
 nil:A=[]->j=i
 step:∀(t a b:Nat),A[t]?=some a->A[t+1]?=some b->b=nx a
 last:∀a,A.getLast?=some a->j=nx a
 nd:A.Nodup
 free:∀a∈A,a<n/\mk a=false
theorem Ch.snoc{nx:Nat->Nat}{mk:Nat->Bool}{A:List Nat}(h:Ch nx mk n i A j)(hj:j<n)(hm:(mk j||A.contains j)=false):Ch nx mk n i (A++[j]) (nx j):=by
 have lM:mk j=false:=by revert hm;cases mk j<;>simp
 have hm2:j∉A:=by
  intro hk;rw[wC.2 hk] at hm;simp at hm
 refine⟨λa ha=>?_,λh0=>by simp at h0,λt a b ha hb=>?_,λa ha=>?_,?_,λa ha=>?_⟩
 .cases A with
  |nil=>
   have:j=a:=by simpa using ha
   rw[<-this];exact h.nil rfl
  |cons x r=>exact h.head a (by simpa using ha)
 .by_cases ht:t+1<A.length
  .rw[fI aa] at ha
   rw[fI ht] at hb;exact h.step t a b ha hb
  .have ht2:t+1=A.length:=by
    have:=(cG.1 hb).1;simp at this;omega
   have e1:b=j:=by
    rw[ht2] at hb;simpa using hb.symm
   rw[e1];refine h.last a ?_;rw[fI aa] at ha
   rw[pG,<-ht2];exact ha
 .have:a=j:=by simpa using ha.symm
  rw[this]
 .rw[OV];refine⟨h.nd,af,λa ha b hb=>?_⟩
  rw[dh.1 hb];intro e;exact hm2 (e▸ha)
 .rcases dv.1 ha with ha|ha
  .exact h.free a ha
  .rw[dh.1 ha];exact⟨hj,lM⟩
theorem acM{nx:Nat->Nat}{mk:Nat->Bool}{n i:Nat}(hnx:∀j,j<n->nx j<n):∀(m:Nat)(A:List Nat)(j:Nat),Ch nx mk n i A j->j<n->jM n mk A<=m->∃j',Ch nx mk n i (j4 nx mk m A j) j'/\j'<n/\(mk j'||(j4 nx mk m A j).contains j')=true
 |0,A,j,h,hj,hl=>by
  refine⟨j,h,hj,?_⟩;show(mk j||A.contains j)=true
  cases hm:(mk j||A.contains j)
  .have:=MR hj hm;omega
  .rfl
 |m+1,A,j,h,hj,hl=>by
  show ∃j',Ch nx mk n i (if mk j||A.contains j then A else j4 nx mk m (A++[j]) (nx j)) j'/\j'<n/\(mk j'||(if mk j||A.contains j then A else j4 nx mk m (A++[j]) (nx j)).contains j')=true
  cases hm:(mk j||A.contains j)
  .have:=MR hj hm;simp only[mi,nL];exact acM hnx m (A++[j]) (nx j) (h.snoc hj hm) (hnx j hj) aa
  .simp only[kP];exact⟨j,h,hj,hm⟩
structure pj(nx:Nat->Nat)(mk:Nat->Bool)(n i:Nat)(L:List Nat):Prop where
 head:L[0]?=some i
 step:∀(t a b:Nat),L[t]?=some a->L[t+1]?=some b->b=nx a
 back:∀a,L.getLast?=some a->nx a=i
 nd:L.Nodup
 free:∀a∈L,a<n/\mk a=false
theorem anM{nx:Nat->Nat}{mk:Nat->Bool}(hnx:∀j,j<n->nx j<n)(hinj:∀a b,a<n->b<n->nx a=nx b->a=b)(hmk:∀j,j<n->mk (nx j)=mk j)(hi:i<n)(hm:mk i=false):pj nx mk n i (j4 nx mk n [] i):=by
 have h0:Ch nx mk n i [] i:=⟨λa h=>by simp at h,λ_=>rfl,λt a b h=>by simp at h,λa h=>by simp at h,List.nodup_nil,λa h=>by simp at h⟩
 obtain⟨j,hc,hj,hjm⟩:=acM hnx n [] i h0 hi (xE _ _ _);generalize j4 nx mk n [] i=L at*;have hne:L≠[]:=by
  intro h;have:=hc.nil h;rw[h,this,hm] at hjm;simp at hjm
 have hlen:0<L.length:=jE.2 hne;obtain⟨z,hz⟩:∃z,L.getLast?=some z:=⟨_,V9 hne⟩;have TG:=hc.last z hz;have M9:z∈L:=sK hz;have Na:=hc.free z M9;have hjL:j∈L:=by
  have:mk j=false:=by rw[TG,hmk z Na.1];exact Na.2
  rw[this] at hjm;exact wC.1 (by simpa using hjm)
 have L4:j=i:=by
  obtain⟨t,ht,Ci⟩:=kO.1 hjL;have acN:L[t]?=some j:=by rw[bo ht,Ci]
  cases t with
  |zero=>exact hc.head j acN
  |succ t=>
   exfalso;obtain⟨a,ha⟩:∃a,L[t]?=some a:=⟨_,bo aa⟩
   have hja:=hc.step t a j ha acN;have TH:=bT ha;have dV:z=a:=hinj z a Na.1 (hc.free a TH).1 (TG.symm.trans hja);rw[pG] at hz;have e1:=(cG.1 hz).2;have e2:=(cG.1 ha).2;have h1:=agP hc.nd (L.length-1) aa
   have h2:=agP hc.nd t aa
   rw[e1] at h1;rw[e2,<-dV] at h2;omega
 refine⟨?_,hc.step,λa ha=>?_,hc.nd,hc.free⟩
 .obtain⟨a,ha⟩:∃a,L[0]?=some a:=⟨_,bo hlen⟩;rw[ha,hc.head a ha]
 .rw[ha] at hz;injection hz with hz;rw[hz,<-TG,L4]
theorem pj.acO{nx:Nat->Nat}{mk:Nat->Bool}(h:pj nx mk n i L)(hj:j∈L):nx j∈L:=by
 obtain⟨t,ht,Ci⟩:=kO.1 hj;by_cases hl:t+1<L.length
 .have:=h.step t j L[t+1] (by rw[bo ht,Ci]) (bo hl)
  rw[<-this];exact gZ hl
 .have:nx j=i:=h.back j (by rw[pG,show L.length-1=t by omega,bo ht,Ci])
  rw[this];exact bT h.head
theorem pj.anP{nx:Nat->Nat}{mk:Nat->Bool}(h:pj nx mk n i L)(hinj:∀a b,a<n->b<n->nx a=nx b->a=b)(hjn:j<n)(hj:nx j∈L):j∈L:=by
 obtain⟨t,ht,Ci⟩:=kO.1 hj;cases t with
 |zero=>
  have hlen:0<L.length:=ht;obtain⟨z,hz⟩:∃z,L.getLast?=some z:=⟨_,V9 (jE.1 hlen)⟩;have hzi:=h.back z hz;have hi:L[0]?=some (nx j):=by rw[bo ht,Ci]
  rw[h.head] at hi;injection hi with hi;have M9:=sK hz;rw[hinj j z hjn (h.free z M9).1 (hi.symm.trans hzi.symm)];exact M9
 |succ t=>
  have:=h.step t L[t] (nx j) (bo aa) (by rw[bo ht,Ci])
  have hm:L[t]∈L:=gZ _;rw[hinj j L[t] hjn (h.free _ hm).1 this];exact hm
theorem pj.closed{nx:Nat->Nat}{mk:Nat->Bool}(h:pj nx mk n i L)(hinj:∀a b,a<n->b<n->nx a=nx b->a=b)(hmk:∀j,j<n->mk (nx j)=mk j):∀j,j<n->(mk (nx j)||L.contains (nx j))=(mk j||L.contains j):=by
 intro j hj;rw[hmk j hj];congr 1;cases h1:L.contains j
 .cases h2:L.contains (nx j)
  .rfl
  .rw[wC.2 (h.anP hinj hj (wC.1 h2))] at h1;cases h1
 .exact wC.2 (h.acO (wC.1 h1))
end
section
open Go.RowKit
open Ge
theorem Nb{P:Nat->Bool}:∀(l:List Nat)(k:Nat),(gK P l k= -1/\∀x∈l,P x=false)\/∃(R x:Nat),gK P l k=((k+R:Nat):Int)/\l[R]?=some x/\P x=true/\∀(t y:Nat),t<R->l[t]?=some y->P y=false
 |[],_=>aU ⟨rfl,λx h=>by simp at h⟩
 |a::l,k=>by
  show((if P a then(k:Int) else gK P l (k+1))= -1/\_)\/∃(R x:Nat),(if P a then(k:Int) else gK P l (k+1))=((k+R:Nat):Int)/\_
  cases ha:P a
  .simp only[mi,nL];rcases Nb (P:=P) l (k+1) with⟨h1,h2⟩|⟨R,x,h1,h2,h3,h4⟩
   .refine aU ⟨h1,λx hx=>?_⟩
    rcases bU.1 hx with e|hx
    .rw[e];exact ha
    .exact h2 x hx
   .refine aT ⟨R+1,x,by rw[h1];congr 1;omega,by simpa using h2,h3,λt y ht hy=>?_⟩
    cases t with
    |zero=>
     have:a=y:=by simpa using hy
     rw[<-this];exact ha
    |succ t=>exact h4 t y aa (by simpa using hy)
  .simp only[kP];exact aT ⟨0,a,rfl,rfl,ha,λt y ht=>aa⟩
theorem EK(Xs:List PB)(O:List Nat)(s:Nat):(jd Xs O s<0/\∀b∈O,(xi Xs b).f≠(xi Xs s).t)\/∃(R x:Nat),jd Xs O s=(R:Int)/\O[R]?=some x/\(xi Xs x).f=(xi Xs s).t/\∀(t y:Nat),t<R->O[t]?=some y->(xi Xs y).f≠(xi Xs s).t:=by
 have e:jd Xs O s=gK (kJ Xs s) O 0:=rfl;rw[e];have cp:∀b v,kJ Xs s b=v->v=decide ((xi Xs s).t=(xi Xs b).f):=λb v h=>h.symm
 rcases Nb (P:=kJ Xs s) O 0 with⟨h1,h2⟩|⟨R,x,h1,h2,h3,h4⟩
 .refine aU ⟨aa,λb hb hk=>?_⟩
  have:=cp b _ (h2 b hb);rw[hk] at this;simp at this
 .refine aT ⟨R,x,by rw[h1];simp,h2,?_,λt y ht hy hk=>?_⟩
  .have:=cp x _ h3;exact(fV this.symm).symm
  .have:=cp y _ (h4 t y ht hy);rw[hk] at this;simp at this
section
variable{rg:List (List Pt)}{l:List Nd}{r:Int}{Xs:List PB}
abbrev fC(Xs:List PB)(i:Nat):Pt:=Ga.wv (xi Xs i).f (xi Xs i).t
theorem SX.ne(h:SX rg l r Xs){i:Nat}(hi:i<Xs.length):fC Xs i≠(0,0):=(Ga.gS h.nl (h.sd hi).pc).1
theorem SX.fl(h:SX rg l r Xs){i:Nat}(hi:i<Xs.length):(xi Xs i).f∈l/\(xi Xs i).t∈l:=(Ga.gS h.nl (h.sd hi).pc).2
theorem SX.straight(h:SX rg l r Xs){i j:Nat}(hi:i<Xs.length)(hj:j<Xs.length)(hc:(xi Xs j).f=(xi Xs i).t)(hx:gq (xi Xs j) (xi Xs i)=0):Ga.bh (fC Xs i) (fC Xs j)=true:=by
 have si:=h.sd hi;have sj:=h.sd hj;rw[hc] at sj;rw[zK] at hx;have hx':=yC.1 hx;have:=si.straight h.nl sj (by
  have e:=Ga.di (Ga.wv (xi Xs j).f (xi Xs j).t) (Ga.wv (xi Xs i).f (xi Xs i).t);rw[hc] at e hx';omega)
 unfold fC;rw[hc];exact this
def ll(Xs:List PB)(A:List Nat):Prop:=∀(t a b:Nat),A[t]?=some a->A[t+1]?=some b->(xi Xs b).f=(xi Xs a).t
theorem ll.tail{a:Nat}{A:List Nat}(h:ll Xs (a::A)):ll Xs A:=λt x y hx hy=>h (t+1) x y (by simpa using hx) (by simpa using hy)
theorem ll.drop{A:List Nat}(h:ll Xs A)(R:Nat):ll Xs (A.drop R):=λt x y hx hy=>h (R+t) x y (by rw[<-OW];exact hx) (by rw[agj,<-OW];exact hy)
theorem ll.take{A:List Nat}(h:ll Xs A)(R:Nat):ll Xs (A.take R):=λt x y hx hy=>by
 rw[kQ] at hx hy;split at hx
 .split at hy
  .exact h t x y hx hy
  .cases hy
 .cases hx
theorem anR{b s:Nat}{A:List Nat}(h:tI Xs b (s::A)=[]):gq (xi Xs s) (xi Xs b)=0/\tI Xs s A=[]:=by
 have h':(if gq (xi Xs s) (xi Xs b)=0 then[] else[s])++tI Xs s A=[]:=h
 obtain⟨h1,h2⟩:=List.append_eq_nil_iff.1 h';refine⟨?_,h2⟩;apply mj;intro hk;rw[aQ hk] at h1;cases h1
theorem SX.Mq(h:SX rg l r Xs){i:Nat}(hi:i<Xs.length):(Ga.bV (fC Xs i)->lt (aX (xi Xs i).f) (aX (xi Xs i).t))/\(¬Ga.bV (fC Xs i)->lt (aX (xi Xs i).t) (aX (xi Xs i).f)):=by
 obtain⟨h1,h2⟩:=h.fl hi;have c1:=h.nl.can _ h1;have c2:=h.nl.can _ h2;refine⟨λhr=>(Ga.oc c1 c2).2 hr,λhr=>(Ga.oc c2 c1).2 ?_⟩
 rw[Ga.fT (xi Xs i).f];exact Ga.il (h.ne hi) hr
theorem SX.mono(h:SX rg l r Xs):∀(A:List Nat)(b:Nat),b<Xs.length->(∀a∈A,a<Xs.length)->ll Xs (b::A)->tI Xs b A=[]->A≠[]->∀z,A.getLast?=some z->(Ga.bV (fC Xs b)->lt (aX (xi Xs b).t) (aX (xi Xs z).t))/\(¬Ga.bV (fC Xs b)->lt (aX (xi Xs z).t) (aX (xi Xs b).t))
 |[],_,_,_,_,_,h0,_,_=>absurd rfl h0
 |s::A,b,hb,hA,hc,ht,_,z,hz=>by
  obtain⟨h1,h2⟩:=anR ht;have hs:=hA s af
  have hcs:(xi Xs s).f=(xi Xs b).t:=hc 0 b s rfl rfl;have hst:=h.straight hb hs hcs h1;have rR:=Ga.H4 hst;obtain⟨l1,l2⟩:=h.Mq hs;rw[hcs] at l1 l2;have can:∀j,j<Xs.length->Ge.Can (xi Xs j).t:=λj hj=>h.nl.can _ (h.fl hj).2
  cases A with
  |nil=>
   have:s=z:=by simpa using hz
   rw[<-this];exact⟨λhr=>l1 (rR.1 hr),λhr=>l2 (λk=>hr (rR.2 k))⟩
  |cons s' A'=>
   have hzl:z<Xs.length:=hA z (sK hz);have ih:=h.mono (s'::A') s hs (λa ha=>hA a (bX _ ha)) hc.tail h2 af z (by simpa using hz)
   exact⟨λhr=>lt_trans (dW (can b hb)) (dW (can s hs)) (dW (can z hzl)) (l1 (rR.1 hr)) (ih.1 (rR.1 hr)),λhr=>lt_trans (dW (can z hzl)) (dW (can s hs)) (dW (can b hb)) (ih.2 λk=>hr (rR.2 k)) (l2 λk=>hr (rR.2 k))⟩
theorem SX.anS(h:SX rg l r Xs){D:List Nat}(hD:D≠[])(hl:∀a∈D,a<Xs.length)(hc:ll Xs D)(hcl:∀a z,D[0]?=some a->D.getLast?=some z->(xi Xs a).f=(xi Xs z).t):eo Xs D≠[]:=by
 intro ht;obtain⟨z,hz⟩:∃z,D.getLast?=some z:=⟨_,V9 hD⟩;have hzl:D.getLastD 0=z:=by rw[nK,hz];rfl
 have hzb:=hl z (sK hz);unfold eo at ht;rw[hzl] at ht;have hcz:ll Xs (z::D):=λt a b ha hb=>by
  cases t with
  |zero=>
   have e:a=z:=by simpa using ha.symm
   rw[e];exact hcl b z (by simpa using hb) hz
  |succ t=>exact hc t a b (by simpa using ha) (by simpa using hb)
 obtain⟨m1,m2⟩:=h.mono D z hzb hl hcz ht hD z hz;by_cases hr:Ga.bV (fC Xs z)
 .exact lt_irrefl _ (m1 hr)
 .exact lt_irrefl _ (m2 hr)
structure OC(Xs:List PB)(L:List Nat)(n0:Nd)(k:Nat)(O:List Nat):Prop where
 conn:ll Xs O
 hd:∀a,O[0]?=some a->(xi Xs a).f=n0
 lst:∀a s,O.getLast?=some a->L[k]?=some s->(xi Xs s).f=(xi Xs a).t
 nil:O=[]->∀s,L[k]?=some s->(xi Xs s).f=n0
 new:∀a,O.getLast?=some a->∀b∈O,(xi Xs b).f≠(xi Xs a).t
theorem OC.snoc{L:List Nat}{n0:Nd}{k s:Nat}{O:List Nat}(h:OC Xs L n0 k O)(hs:L[k]?=some s):ll Xs (O++[s])/\∀a,(O++[s])[0]?=some a->(xi Xs a).f=n0:=by
 refine⟨λt a b ha hb=>?_,λa ha=>?_⟩
 .by_cases ht:t+1<O.length
  .rw[fI aa] at ha
   rw[fI ht] at hb;exact h.conn t a b ha hb
  .have ht2:t+1=O.length:=by
    have:=(cG.1 hb).1;simp at this;omega
   have e1:b=s:=by
    rw[ht2] at hb;simpa using hb.symm
   rw[e1];refine h.lst a s ?_ hs;rw[fI aa] at ha
   rw[pG,<-ht2];exact ha
 .cases O with
  |nil=>
   have:s=a:=by simpa using ha
   rw[<-this];exact h.nil rfl s hs
  |cons x rr=>exact h.hd a (by simpa using ha)
theorem OC.step{L:List Nat}{n0:Nd}{k s:Nat}{O:List Nat}{Rs:List (List Nat)}(h:OC Xs L n0 k O)(hs:L[k]?=some s)(hL:ll Xs L):OC Xs L n0 (k+1) (j5 Xs (O,Rs) s).1:=by
 obtain⟨hc,hh⟩:=h.snoc hs;have hnx:∀s',L[k+1]?=some s'->(xi Xs s').f=(xi Xs s).t:=λs' hs'=>hL k s s' hs hs'
 unfold j5;simp only;rcases EK Xs (O++[s]) s with⟨h1,h2⟩|⟨R,x,h1,h2,h3,h4⟩
 .rw[aQ aa]
  have hlast:∀a,(O++[s]).getLast?=some a->a=s:=λa ha=>by simpa using ha.symm
  refine⟨hc,hh,λa s' ha hs'=>?_,λh0=>by simp at h0,λa ha b hb=>?_⟩
  .rw[hlast a ha];exact hnx s' hs'
  .rw[hlast a ha];exact h2 b hb
 .rw[aV aa,h1,JM]
  have xD:R<(O++[s]).length:=(cG.1 h2).1;have hlast:∀a,((O++[s]).take R).getLast?=some a->(xi Xs s).t=(xi Xs a).t/\0<R:=λa ha=>by
   rw[pG,kQ,iB] at ha;split at ha
   .rename_i hlt
    have Cc:0<R:=aa
    refine⟨?_,Cc⟩;have e:min R (O++[s]).length-1=R-1:=aa
    rw[e] at ha;have:=hc (R-1) a x ha (by rw[show R-1+1=R by omega];exact h2)
    rw[<-h3,this]
   .cases ha
  refine⟨hc.take R,λa ha=>?_,λa s' ha hs'=>?_,λh0 s' hs'=>?_,λa ha b hb=>?_⟩
  .rw[kQ] at ha;split at ha
   .exact hh a ha
   .cases ha
  .rw[hnx s' hs',(hlast a ha).1]
  .have Cc:R=0:=by
    have:=aZ List.length h0;rw[iB] at this;simp at this;simp at xD;omega
   rw[Cc] at h2;rw[hnx s' hs',<-h3];exact hh x h2
  .rw[<-(hlast a ha).1];obtain⟨t,ht,LV⟩:=kO.1 hb;rw[iB] at ht;refine h4 t b aa ?_
   rw[<-LV,List.getElem_take,bo]
theorem OC.all{L:List Nat}{n0:Nd}(hL:ll Xs L)(h0:∀s,L[0]?=some s->(xi Xs s).f=n0):∀k,k<=L.length->OC Xs L n0 k (cP Xs (L.take k)).1
 |0,_=>⟨λt a b h=>by simp[cP] at h,λa h=>by simp[cP] at h,λa s h=>by simp[cP] at h,λ_ s hs=>h0 s hs,λa h=>by simp[cP] at h⟩
 |k+1,hk=>by
  obtain⟨s,hs⟩:∃s,L[k]?=some s:=⟨_,bo aa⟩
  have htk:L.take (k+1)=L.take k++[s]:=by rw[jF,hs];rfl
  rw[htk,zQ];have:=(OC.all hL h0 k aa).step (Rs:=(cP Xs (L.take k)).2) hs hL
  exact this
theorem SX.parts(h:SX rg l r Xs){L:List Nat}{n0:Nd}(hL:ll Xs L)(hl:∀a∈L,a<Xs.length)(h0:∀s,L[0]?=some s->(xi Xs s).f=n0)(k s:Nat)(hs:L[k]?=some s)(hst:0<=jd Xs ((cP Xs (L.take k)).1++[s]) s):
  eo Xs (((cP Xs (L.take k)).1++[s]).drop (jd Xs ((cP Xs (L.take k)).1++[s]) s).toNat)≠[]:=by
 have hk:k<L.length:=(cG.1 hs).1;have vN:=OC.all hL h0 k aa
 obtain⟨hc,hh⟩:=vN.snoc hs;rcases EK Xs ((cP Xs (L.take k)).1++[s]) s with⟨h1,_⟩|⟨R,x,h1,h2,h3,_⟩
 .omega
 .rw[h1,JM];have xD:R<((cP Xs (L.take k)).1++[s]).length:=(cG.1 h2).1;refine h.anS ?_ ?_ (hc.drop R) ?_
  .intro hn;have:=aZ List.length hn;rw[uB] at this;simp only[iJ] at this;omega
  .intro a ha;rcases dv.1 (VY ha) with ha|ha
   .exact hl a (MW Xs L k a ha)
   .rw[dh.1 ha];exact hl s (bT hs)
  .intro a z ha hz;rw[OW,rA,h2] at ha;injection ha with ha;rw[<-ha,h3];have:z=s:=by
    rw[List.getLast?_drop,aQ aa] at hz
    simpa using hz.symm
   rw[this]
end
theorem acQ{cf:Nat->Nat->Int}:∀(l:List Nat)(m:Nat),(∀x∈l,¬cf x m<0)->cL cf l m=m
 |[],_,_=>rfl
 |b::l,m,h=>by
  show cL cf l (if cf b m<0 then b else m)=m
  rw[aQ (h b af)]
  exact acQ l m λx hx=>h x (bX _ hx)
theorem anT(r:Int):takes r 0=false:=by
 unfold takes;split
 .rfl
 .split
  .rfl
  .split<;>rfl
section
variable{rg:List (List Pt)}{l:List Nd}{r:Int}{Xs:List PB}
theorem SX.TI(h:SX rg l r Xs):∀(A:List Nat)(b c:Nat),b<Xs.length->(∀a∈A,a<Xs.length)->ll Xs (b::A)->Ga.bh (fC Xs c) (fC Xs b)=true->Ga.bh (fC Xs ((tI Xs b A).getLastD c)) (fC Xs (A.getLastD b))=true
 |[],b,c,_,_,_,hs=>hs
 |s::A,b,c,hb,hA,hc,hs=>by
  have hsl:=hA s af
  have hcs:(xi Xs s).f=(xi Xs b).t:=hc 0 b s rfl rfl;have ht:tI Xs b (s::A)=(if gq (xi Xs s) (xi Xs b)=0 then[] else[s])++tI Xs s A:=rfl
  have hlast:(s::A).getLastD b=A.getLastD s:=by cases A<;>rfl
  rw[ht,hlast];by_cases hx:gq (xi Xs s) (xi Xs b)=0
  .rw[aV hx,sI];exact h.TI A s c hsl (λa ha=>hA a (bX _ ha)) hc.tail (Ga.RZ hs (h.straight hb hsl hcs hx))
  .rw[aQ hx];have e:([s]++tI Xs s A).getLastD c=(tI Xs s A).getLastD s:=by
    cases tI Xs s A<;>rfl
   rw[e];have TJ:Ga.bh (fC Xs s) (fC Xs s)=true:=(Ga.dP _ _).2 ⟨by unfold cr;grind,Ga.fW (h.ne hsl)⟩
   exact h.TI A s s hsl (λa ha=>hA a (bX _ ha)) hc.tail TJ
theorem SX.shell(h:SX rg l r Xs){hh:Nat}{tl:List Nat}(hl:∀a∈hh::tl,a<Xs.length)(hc:ll Xs (hh::tl))(TM:∀b∈tl,¬cE (xi Xs b).f (xi Xs hh).f<0)(hturn:0<cr (fC Xs (tl.getLastD hh)) (fC Xs hh)):dm Xs (ez Xs (hh::tl))=true:=by
 have IK:=hl hh af
 have hlast:(hh::tl).getLastD 0=tl.getLastD hh:=by cases tl<;>rfl
 have hx:gq (xi Xs hh) (xi Xs (tl.getLastD hh))≠0:=by
  rw[zK];intro hk;have:=yC.1 hk;have e:=Ga.di (fC Xs (tl.getLastD hh)) (fC Xs hh);unfold fC at*;omega
 have hT:eo Xs (hh::tl)=hh::tI Xs hh tl:=by
  unfold eo;rw[hlast];show(if gq (xi Xs hh) (xi Xs (tl.getLastD hh))=0 then[] else[hh])++tI Xs hh tl=_
  rw[aQ hx];rfl
 have hle:lQ Xs (hh::tI Xs hh tl)=hh:=acQ _ _ λx hx=>TM x (EJ Xs tl hh x hx)
 have TN:vG Xs (hh::tI Xs hh tl)=0:=by
  unfold vG;rw[hle];have:ib (λj=>j == hh) (hh::tI Xs hh tl)=0:=by
   show(if(hh == hh)=true then((0:Nat):Int) else _)=0
   rw[aV af]
   rfl
  rw[this];rfl
 have anU:ez Xs (hh::tl)=hh::tI Xs hh tl:=by
  unfold ez;rw[hT,TN];simp
 rw[anU];unfold dm;refine dO ?_;have e1:(hh::tI Xs hh tl).getLastD 0=(tI Xs hh tl).getLastD hh:=by cases tI Xs hh tl<;>rfl
 rw[e1,show(hh::tI Xs hh tl).headD 0=hh from rfl,zK]
 have TJ:Ga.bh (fC Xs hh) (fC Xs hh)=true:=(Ga.dP _ _).2 ⟨by unfold cr;grind,Ga.fW (h.ne IK)⟩
 have hsm:=h.TI tl hh hh IK (λa ha=>hl a (bX _ ha)) hc TJ
 have k:=Ga.xx hsm (fC Xs hh);have s1:=Ga.di (fC Xs hh) (fC Xs ((tI Xs hh tl).getLastD hh));have s2:=Ga.di (fC Xs hh) (fC Xs (tl.getLastD hh));have hpos:0<cr (fC Xs ((tI Xs hh tl).getLastD hh)) (fC Xs hh):=aa
 rw[oJ hpos];decide
structure Wk(Xs:List PB)(i:Nat)(L:List Nat):Prop where
 lt:∀a∈L,a<Xs.length
 head:L[0]?=some i
 conn:ll Xs L
 Pz:∀a∈L,dC Xs a∈L
 back:∀a,L.getLast?=some a->(xi Xs a).t=(xi Xs i).f
 least:∀a∈L,¬cE (xi Xs a).f (xi Xs i).f<0
def zS(Xs:List PB)(x y:Nat):Bool:=Ga.nz (fC Xs x)&&Ga.nz (fC Xs y)&&Ga.bf (fC Xs y) (fC Xs x)
theorem anV(x y z:Nat)(h1:zS Xs x y=true)(h2:zS Xs y z=true):zS Xs x z=true:=by
 unfold zS Ga.nz at*;simp only[qs,yF] at*;exact⟨⟨h1.1.1,h2.1.2⟩,Ga.iV h2.1.2 h1.1.2 h1.1.1 h2.2 h1.2⟩
theorem anW(x:Nat):zS Xs x x=false:=by unfold zS;rw[Ga.tA];simp
theorem SX.acR(h:SX rg l r Xs)(hB:BD Xs){i:Nat}{L:List Nat}(hW:Wk Xs i L)(hout:takes r (Ga.PP (aR rg) (xi Xs i).f)=false):∃ring∈cJ Xs L,dm Xs ring=true:=by
 have xM:i∈L:=bT hW.head;have hi:=hW.lt i xM;obtain⟨hh,hhL,hhT,hmax⟩:=Ga.Mt (lt:=zS Xs) (anV (Xs:=Xs)) (anW (Xs:=Xs)) (λa=>decide ((xi Xs a).f=(xi Xs i).f)) L _ i xM af (aY _)
 have xN:(xi Xs hh).f=(xi Xs i).f:=fV hhT;have Cj:=hW.lt hh hhL;have hmin:∀y∈L,(xi Xs y).f=(xi Xs i).f->Ga.bf (fC Xs y) (fC Xs hh)=false:=λy hy IG=>by
  have:=hmax y hy (dO IG);cases hk:Ga.bf (fC Xs y) (fC Xs hh)
  .rfl
  .unfold zS Ga.nz at this;rw[hk,dO (h.ne Cj),dO (h.ne (hW.lt y hy))] at this;cases this
 obtain⟨t0,ht0,hht⟩:=kO.1 hhL;have TP:L[t0]?=some hh:=by rw[bo ht0,hht]
 have h0:∀s,L[0]?=some s->(xi Xs s).f=(xi Xs i).f:=λs hs=>by
  rw[hW.head] at hs;injection hs with hs;rw[hs]
 have hne:∀j,j<Xs.length->(xi Xs j).f≠(xi Xs j).t:=λj hj e=>by
  have:=h.ne hj;unfold fC at this;rw[<-e] at this;exact this (by unfold Ga.wv;simp)
 have hstep:∀k,k<L.length->∀s,L[k]?=some s->cP Xs (L.take (k+1))=j5 Xs (cP Xs (L.take k)) s:=λk hk s hs=>by
  have htk:L.take (k+1)=L.take k++[s]:=by rw[jF,hs];rfl
  rw[htk,zQ]
 have anZ:∀p s,∀ring∈(p:List Nat×List (List Nat)).2,ring∈(j5 Xs p s).2:=λp s ring hr=>by
  unfold j5;split
  .exact vX _ hr
  .exact hr
 have key:∀d,t0+1+d<=L.length->(∃ring∈(cP Xs (L.take (t0+1+d))).2,dm Xs ring=true)\/((∃tl,(cP Xs (L.take (t0+1+d))).1=hh::tl/\∀b∈tl,(xi Xs b).f≠(xi Xs i).f)/\∀z,L[t0+d]?=some z->(xi Xs z).t≠(xi Xs i).f):=by
  intro d;induction d with
  |zero=>
   intro _;right;have vN:=OC.all hW.conn h0 t0 aa
   have hO:(cP Xs (L.take t0)).1=[]:=by
    apply mj;intro hk;obtain⟨z,hz⟩:∃z,(cP Xs (L.take t0)).1.getLast?=some z:=⟨_,V9 hk⟩;obtain⟨a,ha⟩:∃a,(cP Xs (L.take t0)).1[0]?=some a:=⟨_,bo (jE.2 hk)⟩;have e1:=vN.lst z hh hz TP;exact vN.new z hz a (bT ha) (by rw[vN.hd a ha,<-e1,xN])
   rw[rA,hstep t0 ht0 hh TP];have hto:(xi Xs hh).t≠(xi Xs i).f:=λe=>hne hh Cj (xN.trans e.symm)
   refine⟨⟨[],?_,λb hb=>by simp at hb⟩,λz hz=>?_⟩
   .unfold j5;rw[hO];rcases EK Xs ([]++[hh]) hh with⟨h1,_⟩|⟨R,x,h1,h2,h3,_⟩
    .rw[aQ aa]
     rfl
    .exfalso;have:x=hh:=by
      have:=bT h2;simpa using this
     rw[this] at h3;exact hne hh Cj h3
   .rw[rA,TP] at hz;injection hz with hz;rw[<-hz];exact hto
  |succ d ih=>
   intro hd;have hk:t0+1+d<L.length:=aa
   obtain⟨s,hs⟩:∃s,L[t0+1+d]?=some s:=⟨_,bo hk⟩;have hsL:=bT hs;have hsl:=hW.lt s hsL;rw[show t0+1+(d+1)=t0+1+d+1 by omega,hstep _ hk s hs]
   rcases ih aa with⟨ring,hr1,hr2⟩|⟨⟨tl,hO,htl⟩,hz⟩
   .exact aU ⟨ring,anZ _ s ring hr1,hr2⟩
   .have vN:=OC.all hW.conn h0 (t0+1+d) aa
    obtain⟨hcs,_⟩:=vN.snoc hs;rw[hO] at vN hcs;have Dp:∀b∈hh::tl,b∈L:=λb hb=>MW Xs L (t0+1+d) b (by rw[hO];exact hb)
    have TQ:(xi Xs s).f≠(xi Xs i).f:=by
     obtain⟨a,ha⟩:∃a,L[t0+d]?=some a:=⟨_,bo aa⟩
     rw[hW.conn (t0+d) a s ha (by rw[show t0+d+1=t0+1+d by omega];exact hs)]
     exact hz a ha
    have hzs:∀z,L[t0+(d+1)]?=some z->z=s:=λz hz'=>by
     rw[show t0+(d+1)=t0+1+d by omega,hs] at hz'
     injection hz' with hz';exact hz'.symm
    by_cases hst:(xi Xs s).t=(xi Xs i).f
    ·
     left;refine⟨ez Xs (hh::(tl++[s])),?_,?_⟩
     .unfold j5;rw[hO];rcases EK Xs (hh::tl++[s]) s with⟨h1,h2⟩|⟨R,x,h1,h2,h3,h4⟩
      .exfalso;exact h2 hh af (xN.trans hst.symm)
      .have Cc:R=0:=by
        apply mj;intro hk;exact h4 0 hh aa rfl (xN.trans hst.symm)
       rw[aV aa,h1,Cc]
       simp
     .refine h.shell (λa ha=>?_) hcs (λb hb=>?_) ?_
      .have:a∈(hh::tl)\/a=s:=by simpa[or_assoc] using ha
       rcases this with ha|ha
       .exact hW.lt a (Dp a ha)
       .rw[ha];exact hsl
      .have:b∈tl\/b=s:=by simpa using hb
       rw[xN];rcases this with hb|hb
       .exact hW.least b (Dp b (bX _ hb))
       .rw[hb];exact hW.least s hsL
      .have e:(tl++[s]).getLastD hh=s:=af
       rw[e];obtain⟨n1,n2,n3⟩:=h.next hB hsl
       have hnL:=hW.Pz s hsL;have xO:=h.sd hsl;have sdn:=h.sd n1;have sdh:=h.sd Cj;rw[hst] at xO;rw[n2,hst] at sdn;rw[xN] at sdh;have hris:Ga.bV (Ga.wv (xi Xs i).f (xi Xs s).f):=by
        have c1:=h.nl.can _ (h.fl hi).1;have c2:=h.nl.can _ (h.fl hsl).1;refine(Ga.oc c1 c2).1 (Ea c1 c2 ?_ (λe=>TQ e.symm))
        exact hW.least s hsL
       have hle:=hmin (dC Xs s) hnL (n2.trans hst);unfold fC at hle;rw[n2,hst,xN] at hle;have hres:=Ga.amn h.nl hout xO hris sdn (λc' hc'=>by
        obtain⟨q,hq,q1,q2⟩:=h.find hc';have:=n3 q hq (by rw[q1,hst])
        rw[MJ,q1,q2,n2,hst] at this;exact this) sdh hle
       unfold fC;rw[hst,xN];exact hres
    .right;refine⟨?_,λz hz'=>by rw[hzs z hz'];exact hst⟩
     unfold j5;rw[hO];rcases EK Xs (hh::tl++[s]) s with⟨h1,h2⟩|⟨R,x,h1,h2,h3,h4⟩
     .rw[aQ aa]
      refine⟨tl++[s],rfl,λb hb=>?_⟩
      have:b∈tl\/b=s:=by simpa using hb
      rcases this with hb|hb
      .exact htl b hb
      .rw[hb];exact TQ
     .rw[aV aa,h1,JM]
      obtain⟨R',rfl⟩:∃R',R=R'+1:=by
       cases R with
       |zero=>
        exfalso;have:x=hh:=by simpa using h2.symm
        rw[this] at h3;exact hst (h3.symm.trans xN)
       |succ R'=>exact⟨R',rfl⟩
      refine⟨(tl++[s]).take R',af,λb hb=>?_⟩
      have:=rB hb;have:b∈tl\/b=s:=by simpa using this
      rcases this with hb|hb
      .exact htl b hb
      .rw[hb];exact TQ
 have hfin:=key (L.length-(t0+1)) aa
 rw[show t0+1+(L.length-(t0+1))=L.length by omega,fO] at hfin
 rcases hfin with hfin|⟨_,hz⟩
 .exact hfin
 .exfalso;obtain⟨z,hzl⟩:∃z,L[L.length-1]?=some z:=⟨_,bo aa⟩
  refine hz z (by rw[show t0+(L.length-(t0+1))=L.length-1 by omega];exact hzl) ?_
  exact hW.back z (by rw[pG];exact hzl)
theorem acV{n:Nd}(hn:Ge.Can n){j:Nat}(hv:dX (xi Xs j))(hb:kK Xs n j=true):lt (aX (xi Xs j).f) (aX n):=by
 unfold kK at hb;simp only[qs,OS,JS,yF] at hb;obtain⟨⟨h1,h2⟩,h3⟩:=hb;refine(Ga.oc hv.cf hn).2 ?_;have hfp:=hv.cf.pos;have BC:=hv.ct.pos;have vF:=hn.pos;generalize(xi Xs j).f=f at*;generalize(xi Xs j).t=t at*;have e1:(Ga.wv f n).1=n.1*f.2.2-f.1*n.2.2:=by unfold Ga.wv;simp only;grind
 have e2:n.2.2*(Ga.wv f t).1=f.2.2*(t.1*n.2.2-n.1*t.2.2)+t.2.2*(Ga.wv f n).1:=by unfold Ga.wv;simp only;grind
 by_cases hx:0<(Ga.wv f n).1
 .exact aU hx
 .have hx0:(Ga.wv f n).1=0:=aa
  rw[hx0,C5,Int.add_zero] at e2;have hp:=bJ hfp (show 0<t.1*n.2.2-n.1*t.2.2 by omega)
  have hD:0<(Ga.wv f t).1:=(Ga.bO vF).1 aa
  unfold cr at h3;rw[hx0,C5,CR] at h3;exact aT ⟨hx0,(Ga.bO hD).1 h3⟩
theorem SX.seen(h:SX rg l r Xs)(hB:BD Xs){i:Nat}{L:List Nat}(hW:Wk Xs i L)(hno:∀ring∈cJ Xs L,dm Xs ring=false):fG Xs (xi Xs i).f Xs.length≠[]:=by
 have hi:=hW.lt i (bT hW.head);have hfl:=(h.fl hi).1;intro hs;cases hp:takes r (Ga.PP (aR rg) (xi Xs i).f)
 .obtain⟨ring,h1,h2⟩:=h.acR hB hW hp;rw[hno ring h1] at h2;cases h2
 .obtain⟨f,t,vA,h1,h2,h3⟩:=Ga.alN h.nl (anT r) hfl hp;obtain⟨j,hj,j1,j2⟩:=h.find vA;have hm:j∈fG Xs (xi Xs i).f Xs.length:=by
   refine iz.2 ⟨sU.2 hj,?_⟩;unfold kK;rw[j1,j2];generalize(xi Xs i).f=n at*;have e1:(Ga.wv n f).1=f.1*n.2.2-n.1*f.2.2:=by unfold Ga.wv;simp only;grind
   have e2:(Ga.wv n t).1=t.1*n.2.2-n.1*t.2.2:=by unfold Ga.wv;simp only;grind
   simp only[qs,OS,JS,yF];exact⟨⟨aa,aa⟩,h3⟩
  rw[hs] at hm;simp at hm
end
end
section
open Go.RowKit
structure St where
 bz:Nat->Bool
 ow:Nat->Nat
 ps:List Pg
def vO(P:List Nat->Bool)(Rs:List (List Nat)):List Nat:=Rs.foldl (λacc r=>if P r then r else acc) []
def dI(Xs:List PB)(mk:Nat->Bool)(i:Nat):List Nat:=j4 (dC Xs) mk Xs.length [] i
def qi(Xs:List PB)(st:St)(i:Nat):St:=
 if st.bz i then st
 else if(cJ Xs (dI Xs st.bz i)).any (dm Xs) then
  ⟨λj=>st.bz j||(dI Xs st.bz i).contains j,λj=>if(dI Xs st.bz i).contains j then st.ps.length else st.ow j,st.ps++[(vO (dm Xs) (cJ Xs (dI Xs st.bz i)),(cJ Xs (dI Xs st.bz i)).filter λr=> !dm Xs r)]⟩
 else
  ⟨λj=>st.bz j||(dI Xs st.bz i).contains j,λj=>if(dI Xs st.bz i).contains j then st.ow (jf Xs (xi Xs i).f) else st.ow j,st.ps.set (st.ow (jf Xs (xi Xs i).f)) ((st.ps.getD (st.ow (jf Xs (xi Xs i).f)) ([],[])).1,(st.ps.getD (st.ow (jf Xs (xi Xs i).f)) ([],[])).2++cJ Xs (dI Xs st.bz i))⟩
def bG(Xs:List PB)(k:Nat):St:=(List.range k).foldl (qi Xs) ⟨λ_=>false,λ_=>0,[]⟩
theorem Ck(Xs:List PB)(k:Nat):bG Xs (k+1)=qi Xs (bG Xs k) k:=by unfold bG;rw[JI,JX];rfl
structure Ctl(bs:List Nat)(g cap:Nat)(Inv:Nat->aN->aM->Prop)(B:Nat->aN->aM->Prop)(C1:Nat->aN->Nat->Nat->List Nat->aM->Prop)(C2:Nat->aN->Nat->Nat->List Nat->Nat->Nat->Nat->aM->Prop)
  (D1 D2:Nat->aN->Nat->Nat->List Nat->Nat->Nat->Nat->Nat->aM->Prop)(E:Nat->aN->Nat->Nat->List Nat->Nat->Nat->Nat->Nat->aM->Prop)(F:Nat->aN->Nat->Nat->List Nat->Nat->Nat->aM->Prop)(Q:aN->aM->Prop)(base:Nat):Prop where
 row:∀k lv wr,Inv k lv wr->k<bs.length->wr.cell? ⟨g,k,none⟩=some (aH (some ⟨bx bs k,0,none⟩))/\∃m,wr.cell? ⟨bx bs k,6,none⟩=some (aD m)/\(m=true->Inv (k+1) lv wr)/\(m=false->B k lv wr)
 walk:∀k lv wr,B k lv wr->ak 110 #[aG (some ⟨g,0,none⟩) bs.length cap,aH (some ⟨bx bs k,0,none⟩)] wr λe w1=>∃gW cW L,e=aL (aG (some ⟨gW,0,none⟩) L.length cW)/\L.length<=85000000/\C1 k lv gW cW L w1
 rings:∀k lv gW cW L w1,C1 k lv gW cW L w1->ak 111 #[aG (some ⟨gW,0,none⟩) L.length cW] w1 λe w2=>∃gR cR n,e=aL (aG (some ⟨gR,0,none⟩) n cR)/\C2 k lv gW cW L gR cR n w2
 con:∀k lv gW cW L gR cR n w2,C2 k lv gW cW L gR cR n w2->ak 112 #[aG (some ⟨gR,0,none⟩) n cR,.func (.func 113) #[] #[]] (w2.alloc (.cells #[aG none 0 0,aG none 0 0] 187)) λe w4=>∃b,e=aL (aD b)/\(b=true->D1 k lv gW cW L gR cR n w2.heap.size w4)/\(b=false->D2 k lv gW cW L gR cR n w2.heap.size w4)
 push:∀k lv gW cW L gR cR n N w4,D1 k lv gW cW L gR cR n N w4->∃np pp,w4.ownsRow base 165 1 lv np pp/\np<=85000000/\base<=w4.heap.size/\∀g' cap' w8,w8.ownsRow base 165 1 (aG (some ⟨g',0,none⟩) (np+1) cap') (np+1) (pp++[aH (some ⟨N,0,none⟩)])->(w4.alloc (.cells #[aH (some ⟨N,0,none⟩)] 165)).grownBy w8 lv.ownBlock->(lv.ownBlock=some g'\/g'=w4.heap.size+1)->E k (aG (some ⟨g',0,none⟩) (np+1) cap') gW cW L gR cR n N w8
 below:∀k lv gW cW L gR cR n N w4,D2 k lv gW cW L gR cR n N w4->∃N1 N2 N3,w4.cell? ⟨bx bs k,2,none⟩=some (aA aK N1 N2)/\w4.cell? ⟨bx bs k,3,none⟩=some (az aJ N3)/\ak 114 #[aG (some ⟨g,0,none⟩) bs.length cap,aC #[aA aK N1 N2,az aJ N3]] w4 λe w5=>∃bL ob,e=aL (aH (some ⟨bL,0,none⟩))/\w5.cell? ⟨bL,7,none⟩=some (aH (some ⟨ob,0,none⟩))/\E k lv gW cW L gR cR n ob w5
 take:∀k lv gW cW L gR cR n ob w5,E k lv gW cW L gR cR n ob w5->ak 115 #[aH (some ⟨ob,0,none⟩),aG (some ⟨gR,0,none⟩) n cR] w5 λe w6=>e=aL (aI #[])/\F k lv gW cW L ob 0 w6
 own:∀k lv gW cW L ob t wr,F k lv gW cW L ob t wr->t<L.length->∃b o,wr.cell? ⟨gW,t,none⟩=some (aH (some ⟨b,0,none⟩))/\wr.cell? ⟨b,7,none⟩=some o/\wr.frozen? ⟨b,7,none⟩=false/\F k lv gW cW L ob (t+1) (wr.setCell ⟨b,7,none⟩ (aH (some ⟨ob,0,none⟩)))
 done:∀k lv gW cW L ob wr,F k lv gW cW L ob L.length wr->k<bs.length->Inv (k+1) lv wr
 sort:∀lv wr,Inv bs.length lv wr->ak 116 #[lv] wr λe w'=>e=aL (aI #[])/\Q lv w'
theorem an4:(Tryz.prog.info? 165).map (λi=>(i.zero,i.size,i.bytes))=some (some (aH none),1,8):=ag
theorem an5(bs:List Nat)(g cap:Nat)(Inv:Nat->aN->aM->Prop)(B:Nat->aN->aM->Prop)(C1:Nat->aN->Nat->Nat->List Nat->aM->Prop)(C2:Nat->aN->Nat->Nat->List Nat->Nat->Nat->Nat->aM->Prop)
  (D1 D2:Nat->aN->Nat->Nat->List Nat->Nat->Nat->Nat->Nat->aM->Prop)(E:Nat->aN->Nat->Nat->List Nat->Nat->Nat->Nat->Nat->aM->Prop)(F:Nat->aN->Nat->Nat->List Nat->Nat->Nat->aM->Prop)(Q:aN->aM->Prop)(base:Nat)
  (HK:Hid (Ctl bs g cap Inv B C1 C2 D1 D2 E F Q base))(w:aM)(hl:bs.length<=85000000)(h0:Inv 0 (aG none 0 0) w):
  ak 69 #[aG (some ⟨g,0,none⟩) bs.length cap] w λe w'=>∃lv,e=aL lv/\Q lv w':=by
 obtain⟨j0,Ce,hy0,hy1,hy2⟩:=info_parts an4;have cK:Hid (Inv 0 (aG none 0 0) w):=h0;clear h0
 go_enter func69,ntmps69
 go_wp2_with fail
 go_loopg [3,13] bs.length (λm lv iv wr=>∃k:Nat,k+m=bs.length/\iv=az aJ k/\Hid (Inv k lv wr))
 case atStart=>exact⟨0,aa,rfl,cK.out⟩
 case round=>
  obtain⟨k,hkn,rfl,HE⟩:=hrel;clear cK;obtain⟨G0,mH⟩:∃G0,G0=gk:=⟨gk,rfl⟩;subst mH;by_cases hlt:k<bs.length
  .obtain⟨c1,m,c6,lM,hm2⟩:=HK.out.row k u3 wr HE.out hlt;have gH:(k:Int)<(bs.length:Int):=aa
   cases m
   .have HB:Hid (B k u3 wr):=hm2 rfl;have hWc:=HK.out.walk k u3 wr HB.out;have HWc:Hid (ak 110 #[aG (some ⟨g,0,none⟩) bs.length cap,aH (some ⟨bx bs k,0,none⟩)] wr λe w1=>∃gW cW L,e=aL (aG (some ⟨gW,0,none⟩) L.length cW)/\L.length<=85000000/\C1 k u3 gW cW L w1):=hWc
    clear lM hm2 hWc HE HB
    go_wp2_with fail
    refine HWc.out.mono ?_;rintro e w1 ⟨gW,cW,L,rfl,kZ,hC1⟩;have HRc:Hid (ak 111 #[aG (some ⟨gW,0,none⟩) L.length cW] w1 λe w2=>∃gR cR n,e=aL (aG (some ⟨gR,0,none⟩) n cR)/\C2 k u3 gW cW L gR cR n w2):=HK.out.rings k u3 gW cW L w1 hC1
    clear hC1 HWc c1 c6
    go_wp2_with fail
    refine HRc.out.mono ?_;rintro e w2 ⟨gR,cR,n,rfl,Kj⟩;have TU:Hid (ak 112 #[aG (some ⟨gR,0,none⟩) n cR,.func (.func 113) #[] #[]] (w2.alloc (.cells #[aG none 0 0,aG none 0 0] 187)) λe w4=>∃b,e=aL (aD b)/\(b=true->D1 k u3 gW cW L gR cR n w2.heap.size w4)/\(b=false->D2 k u3 gW cW L gR cR n w2.heap.size w4)):=HK.out.con k u3 gW cW L gR cR n w2 Kj
    clear Kj HRc
    go_wp2_with fail
    refine TU.out.mono ?_;rintro e w4 ⟨b,rfl,hb1,hb2⟩;cases b
    .have uG:=hb2 rfl;obtain⟨N1,N2,N3,f2,f3,hBc⟩:=HK.out.below k u3 gW cW L gR cR n w2.heap.size w4 uG;have HBc:Hid (ak 114 #[aG (some ⟨g,0,none⟩) bs.length cap,aC #[aA aK N1 N2,az aJ N3]] w4 λe w5=>∃bL ob,e=aL (aH (some ⟨bL,0,none⟩))/\w5.cell? ⟨bL,7,none⟩=some (aH (some ⟨ob,0,none⟩))/\E k u3 gW cW L gR cR n ob w5):=hBc
     clear hb1 hb2 uG hBc TU
     go_wp2_with fail
     refine HBc.out.mono ?_;rintro e w5 ⟨bL,ob,rfl,o7,GR⟩;have IL:Hid (E k u3 gW cW L gR cR n ob w5):=GR;clear GR HBc f2 f3
     go_wp2_with fail
     have qZ:Hid (ak 115 #[aH (some ⟨ob,0,none⟩),aG (some ⟨gR,0,none⟩) n cR] w5 λe w6=>e=aL (aI #[])/\F k u3 gW cW L ob 0 w6):=HK.out.take k u3 gW cW L gR cR n ob w5 IL.out
     clear IL
     go_wp2_with fail
     refine qZ.out.mono ?_;rintro e w6 ⟨rfl,hF⟩;have xq:Hid (F k u3 gW cW L ob 0 w6):=hF;clear hF qZ
     go_wp2_with fail
     go_loopg [49] L.length (λm iv wr=>∃t:Nat,t+m=L.length/\iv=az aJ t/\Hid (F k u3 gW cW L ob t wr))
     case atStart=>exact⟨0,aa,rfl,xq.out⟩
     case round=>
      obtain⟨t,htn,rfl,xP⟩:=hrel;clear xq;by_cases htl:t<L.length
      .obtain⟨bb,oo,d1,d2,d3,IM⟩:=HK.out.own k u3 gW cW L ob t wr xP.out htl;have hti:(t:Int)<(L.length:Int):=aa
       have TV:Hid (F k u3 gW cW L ob (t+1) (wr.setCell ⟨bb,7,none⟩ (aH (some ⟨ob,0,none⟩)))):=IM;clear IM xP
       go_wp2_with fail
       go_roundg (gk-1)
       case measure=>omega
       case rel=>exact⟨t+1,aa,ai,TV.out⟩
      .have TW:t=L.length:=aa
       subst TW;have cV:Hid (Inv (k+1) u3 wr):=HK.out.done k u3 gW cW L ob wr xP.out hlt;clear xP
       go_wp2_with fail
       go_roundg (G0-1)
       case measure=>omega
       case rel=>exact⟨k+1,aa,ai,cV.out⟩
    .have hD1:=hb1 rfl;obtain⟨np,pp,ho,vF,hbz,zT⟩:=HK.out.push k u3 gW cW L gR cR n w2.heap.size w4 hD1;have zk:Hid (∀g' cap' w8,w8.ownsRow base 165 1 (aG (some ⟨g',0,none⟩) (np+1) cap') (np+1) (pp++[aH (some ⟨w2.heap.size,0,none⟩)])->(w4.alloc (.cells #[aH (some ⟨w2.heap.size,0,none⟩)] 165)).grownBy w8 u3.ownBlock->(u3.ownBlock=some g'\/g'=w4.heap.size+1)->E k (aG (some ⟨g',0,none⟩) (np+1) cap') gW cW L gR cR n w2.heap.size w8):=zT;have hnb:(w4.alloc (.cells #[aH (some ⟨w2.heap.size,0,none⟩)] 165)).heap[w4.heap.size]?=some (.cells #[aH (some ⟨w2.heap.size,0,none⟩)] 165 (0,0)):=heap_alloc_new _ _;have mL:(w4.alloc (.cells #[aH (some ⟨w2.heap.size,0,none⟩)] 165)).ownsRow base 165 1 u3 np pp:=bB ho λk hk=>Below.heap_alloc _ _ _ (bn ho k hk).2
     clear hb1 hb2 hD1 zT ho TU
     go_wp2_with (at_builtin;refine wpList_append_lies _ rfl (.tmp 30) (.tmp 32) 131 rfl base 165 j0 _ 1 8 underlying131 Ce hy0 hy1 hy2 rfl ah u3 np pp rfl mL ⟨w4.heap.size,0,none⟩ 1 1 [aH (some ⟨w2.heap.size,0,none⟩)] rfl rfl (World.news_of_block (cs:= #[aH (some ⟨w2.heap.size,0,none⟩)]) (t:=165) (fr:=(0,0)) hnb) (by simp[Value.oneCell']) ah (by unfold maxLen;omega) aa (by simp;omega) (w4.heap.size+1) af ?_;intro g' cap' w8 dM cI iN rN)
     have IL:Hid (E k (aG (some ⟨g',0,none⟩) (np+1) cap') gW cW L gR cR n w2.heap.size w8):=zk.out g' cap' w8 dM cI iN;generalize w2.heap.size=N at*;clear dM cI iN hnb mL zk;have qZ:Hid (ak 115 #[aH (some ⟨N,0,none⟩),aG (some ⟨gR,0,none⟩) n cR] w8 λe w6=>e=aL (aI #[])/\F k (aG (some ⟨g',0,none⟩) (np+1) cap') gW cW L N 0 w6):=HK.out.take k (aG (some ⟨g',0,none⟩) (np+1) cap') gW cW L gR cR n N w8 IL.out
     clear IL
     go_wp2_with fail
     refine qZ.out.mono ?_;rintro e w6 ⟨rfl,hF⟩;have xq:Hid (F k (aG (some ⟨g',0,none⟩) (np+1) cap') gW cW L N 0 w6):=hF;clear hF qZ
     go_wp2_with fail
     go_loopg [49] L.length (λm iv wr=>∃t:Nat,t+m=L.length/\iv=az aJ t/\Hid (F k (aG (some ⟨g',0,none⟩) (np+1) cap') gW cW L N t wr))
     case atStart=>exact⟨0,aa,rfl,xq.out⟩
     case round=>
      obtain⟨t,htn,rfl,xP⟩:=hrel;clear xq;by_cases htl:t<L.length
      .obtain⟨bb,oo,d1,d2,d3,IM⟩:=HK.out.own k (aG (some ⟨g',0,none⟩) (np+1) cap') gW cW L N t wr xP.out htl;have hti:(t:Int)<(L.length:Int):=aa
       have TV:Hid (F k (aG (some ⟨g',0,none⟩) (np+1) cap') gW cW L N (t+1) (wr.setCell ⟨bb,7,none⟩ (aH (some ⟨N,0,none⟩)))):=IM;clear IM xP
       go_wp2_with fail
       go_roundg (gk-1)
       case measure=>omega
       case rel=>exact⟨t+1,aa,ai,TV.out⟩
      .have TW:t=L.length:=aa
       subst TW;have cV:Hid (Inv (k+1) (aG (some ⟨g',0,none⟩) (np+1) cap') wr):=HK.out.done k (aG (some ⟨g',0,none⟩) (np+1) cap') gW cW L N wr xP.out hlt;clear xP
       go_wp2_with fail
       go_roundg (G0-1)
       case measure=>omega
       case rel=>exact⟨k+1,aa,ai,cV.out⟩
   .have cV:Hid (Inv (k+1) u3 wr):=lM rfl;clear lM hm2 HE HK
    go_wp2_with fail
    go_roundg (G0-1)
    case measure=>omega
    case rel=>exact⟨k+1,aa,ai,cV.out⟩
  .have hk:k=bs.length:=aa
   subst hk;have HSc:Hid (ak 116 #[u3] wr λe w'=>e=aL (aI #[])/\Q u3 w'):=HK.out.sort u3 wr HE.out
   clear HE HK
   go_wp2_with fail
   refine HSc.out.mono ?_;rintro e w9 ⟨rfl,hQ⟩;have HQ:Hid (Q u3 w9):=hQ;clear hQ HSc
   go_wp2_with fail
   go_ret
   exact⟨u3,rfl,HQ.out⟩
end
section
open Go.RowKit
open Ge
theorem zU{nx:Nat->Nat}{mk:Nat->Bool}{n:Nat}(hnx:∀j,j<n->nx j<n):∀(m:Nat)(A:List Nat)(j:Nat),j<n->jM n mk (j4 nx mk m A j)+(j4 nx mk m A j).length<=jM n mk A+A.length
 |0,_,_,_=>aY _
 |m+1,A,j,hj=>by
  show jM n mk (if mk j||A.contains j then A else j4 nx mk m (A++[j]) (nx j))+(if mk j||A.contains j then A else j4 nx mk m (A++[j]) (nx j)).length<=_
  cases hm:(mk j||A.contains j)
  .simp only[mi,nL];have h1:=MR hj hm;have h2:=zU (mk:=mk) hnx m (A++[j]) (nx j) (hnx j hj);rw[bY] at h2;simp only[dw,iJ] at h2;omega
  .simp only[kP];exact aY _
section
variable{rg:List (List Pt)}{l:List Nd}{r:Int}{Xs:List PB}
structure PV(Xs:List PB)(st:St)(k:Nat):Prop where
 closed:∀j,j<Xs.length->st.bz (dC Xs j)=st.bz j
 low:∀j,j<k->st.bz j=true
 own:∀j,j<Xs.length->st.bz j=true->st.ow j<st.ps.length
 len:st.ps.length<=k
 hol:∀(q:Nat) p,st.ps[q]?=some p->p.2.length+jM Xs.length st.bz []<=Xs.length
theorem PV.zero(Xs:List PB):PV Xs (bG Xs 0) 0:=by
 refine⟨λ_ _=>rfl,λj h=>aa,λj _ h=>?_,aY _,λq p h=>?_⟩
 .simp[bG] at h
 .simp[bG] at h
theorem SX.walk(h:SX rg l r Xs)(hB:BD Xs){st:St}{k:Nat}(hP:PV Xs st k)(hk:k<Xs.length)(hm:st.bz k=false):pj (dC Xs) st.bz Xs.length k (dI Xs st.bz k)/\Wk Xs k (dI Xs st.bz k):=by
 have hc:=anM (nx:=dC Xs) (mk:=st.bz) (n:=Xs.length) (i:=k) (λj hj=>(h.next hB hj).1) (λa b ha hb he=>h.inj hB ha hb he) hP.closed hk hm
 refine⟨hc,λa ha=>(hc.free a ha).1,hc.head,λt a b ha hb=>?_,λa ha=>hc.acO ha,λa ha=>?_,λa ha=>?_⟩
 .have hal:=(hc.free a (bT ha)).1;rw[hc.step t a b ha hb];exact(h.next hB hal).2.1
 .have hal:=(hc.free a (sK ha)).1;have:=hc.back a ha;rw[<-this];exact(h.next hB hal).2.1.symm
 .obtain⟨h1,h2⟩:=hc.free a ha;have hka:k<=a:=by
   apply Nat.not_lt.1;intro hlt;rw[hP.low a hlt] at h2;cases h2
  rcases agS hka with hlt|he
  .have gx:∀{i:Nat}(hi:i<Xs.length),xi Xs i=Xs[i]:=λhi=>vB (bo hi)
   have:=mn.1 hB.qU k a hk h1 hlt;rw[gx hk,gx h1];exact this
  .rw[<-he,zJ];omega
theorem TY{L:List Nat}{k:Nat}(hW:Wk Xs k L):cJ Xs L≠[]:=by
 have hlen:0<L.length:=jE.2 (λe=>by have:=hW.head;rw[e] at this;simp at this)
 obtain⟨z,hz⟩:∃z,L[L.length-1]?=some z:=⟨_,bo aa⟩
 have h0:∀s,L[0]?=some s->(xi Xs s).f=(xi Xs k).f:=λs hs=>by
  rw[hW.head] at hs;injection hs with hs;rw[hs]
 have vN:=OC.all hW.conn h0 (L.length-1) aa
 obtain⟨_,hh⟩:=vN.snoc hz;have hlt:L=L.take (L.length-1)++[z]:=by
  conv=>lhs;rw[<-fO (l:=L),show L.length=L.length-1+1 by omega,jF,hz]
  rfl
 have Mu:=hW.back z (by rw[pG];exact hz)
 unfold cJ;rw[hlt,zQ];unfold j5;rcases EK Xs ((cP Xs (L.take (L.length-1))).1++[z]) z with⟨_,h2⟩|⟨R,x,h1,_⟩
 .exfalso;obtain⟨a,ha⟩:∃a,((cP Xs (L.take (L.length-1))).1++[z])[0]?=some a:=⟨_,bo af⟩
  exact h2 a (bT ha) ((hh a ha).trans Mu.symm)
 .rw[aV aa]
  simp
theorem PV.step(h:SX rg l r Xs)(hB:BD Xs){st:St}{k:Nat}(hP:PV Xs st k)(hk:k<Xs.length):PV Xs (qi Xs st k) (k+1):=by
 cases hm:st.bz k
 .obtain⟨hc,hW⟩:=h.walk hB hP hk hm;have hkL:k∈dI Xs st.bz k:=bT hW.head;have ac5:=hc.closed (λa b ha hb he=>h.inj hB ha hb he) hP.closed
  have hleft:=zU (mk:=st.bz) (λj hj=>(h.next hB hj).1) Xs.length [] k hk
  have IP:jM Xs.length (λj=>st.bz j||(dI Xs st.bz k).contains j) []=jM Xs.length st.bz (dI Xs st.bz k):=by unfold jM;simp
  have hrl:(cJ Xs (dI Xs st.bz k)).length<=(dI Xs st.bz k).length:=by
   have:=(IA Xs (dI Xs st.bz k) (dI Xs st.bz k).length).2;rw[fO] at this;exact this
  have atY:jM Xs.length st.bz (dI Xs st.bz k)+(dI Xs st.bz k).length<=jM Xs.length st.bz []:=hleft;have se:∀j,j<k+1->(st.bz j||(dI Xs st.bz k).contains j)=true:=λj hj=>by
   by_cases e:j=k
   .rw[e,wC.2 hkL];simp
   .rw[hP.low j aa];rfl
  have hl0:=xE Xs.length st.bz [];unfold qi;rw[hm];simp only[mi,nL];split
  .refine⟨ac5,se,λj hj nB=>?_,by simp;exact hP.len,λq p hq=>?_⟩
   .simp only[bY,dw,iJ];split
    .omega
    .rename_i hne
     have:st.bz j=true:=by
      have e:(dI Xs st.bz k).contains j=false:=by simpa using hne
      simp only[e,JW] at nB;exact nB
     have:=hP.own j hj this;omega
   .rw[IP];simp only at hq;by_cases oF:q<st.ps.length
    .rw[fI oF] at hq;have:=hP.hol q p hq;omega
    .have hq2:q=st.ps.length:=by
      have:=(cG.1 hq).1;simp at this;omega
     rw[hq2] at hq;have e:p=(vO (dm Xs) (cJ Xs (dI Xs st.bz k)),(cJ Xs (dI Xs st.bz k)).filter λr=> !dm Xs r):=by simpa using hq.symm
     rw[e];have:=JR (λr=> !dm Xs r) (cJ Xs (dI Xs st.bz k))
     simp only;omega
  .rename_i hno
   have an7:∀ring∈cJ Xs (dI Xs st.bz k),dm Xs ring=false:=λring hr=>by
    cases hs:dm Xs ring
    .rfl
    .exact absurd (Fv.2 ⟨ring,hr,hs⟩) (by simpa using hno)
   have EL:=h.seen hB hW an7;have hlm:=acI EL;have hll:=Tv Xs _ _ _ hlm;have hlk:jf Xs (xi Xs k).f<k:=by
    apply Nat.not_le.1;intro hle;have hb:=acV (Xs:=Xs) (hB.v _ (iH hk)).cf (hB.v _ (iH hll)) (iz.1 hlm).2;rcases agS hle with hlt|he
    .have gx:∀{i:Nat}(hi:i<Xs.length),xi Xs i=Xs[i]:=λhi=>vB (bo hi)
     have:=mn.1 hB.qU k _ hk hll hlt;rw[<-gx hk,<-gx hll] at this;exact this hb
    .rw[<-he] at hb;exact lt_irrefl _ hb
   have TZ:=hP.own _ hll (hP.low _ hlk);refine⟨ac5,se,λj hj nB=>?_,by simp;have:=hP.len;omega,λq p hq=>?_⟩
   .simp only[Fx];split
    .exact TZ
    .rename_i hne
     have:st.bz j=true:=by
      have e:(dI Xs st.bz k).contains j=false:=by simpa using hne
      simp only[e,JW] at nB;exact nB
     exact hP.own j hj this
   .rw[IP];simp only at hq;by_cases qY:st.ow (jf Xs (xi Xs k).f)=q
    .rw[qY] at hq;rw[sO (by rw[<-qY];exact TZ)] at hq
     injection hq with hq;rw[<-hq];simp only[bY];have hg:st.ps[q]?=some (st.ps.getD q ([],[])):=by
      rw[nN,bo (by rw[<-qY];exact TZ)];rfl
     have:=hP.hol q _ hg;omega
    .rw[wm qY] at hq;have:=hP.hol q p hq;omega
 .unfold qi;rw[hm];simp only[kP];refine⟨hP.closed,λj hj=>?_,hP.own,by have:=hP.len;omega,hP.hol⟩
  by_cases e:j=k
  .rw[e];exact hm
  .exact hP.low j aa
theorem SX.pv(h:SX rg l r Xs)(hB:BD Xs):∀k,k<=Xs.length->PV Xs (bG Xs k) k
 |0,_=>PV.zero Xs
 |k+1,hk=>by
  rw[Ck];exact(h.pv hB k aa).step h hB aa
theorem SX.low(h:SX rg l r Xs)(hB:BD Xs){st:St}{k:Nat}(hP:PV Xs st k)(hk:k<Xs.length)(hm:st.bz k=false)(hno:∀ring∈cJ Xs (dI Xs st.bz k),dm Xs ring=false):fG Xs (xi Xs k).f Xs.length≠[]/\jf Xs (xi Xs k).f<Xs.length/\st.bz (jf Xs (xi Xs k).f)=true:=by
 obtain⟨_,hW⟩:=h.walk hB hP hk hm;have EL:=h.seen hB hW hno;have hlm:=acI EL;have hll:=Tv Xs _ _ _ hlm;refine⟨EL,hll,hP.low _ ?_⟩;apply Nat.not_le.1;intro hle;have hb:=acV (Xs:=Xs) (hB.v _ (iH hk)).cf (hB.v _ (iH hll)) (iz.1 hlm).2;rcases agS hle with hlt|he
 .have gx:∀{i:Nat}(hi:i<Xs.length),xi Xs i=Xs[i]:=λhi=>vB (bo hi)
  have:=mn.1 hB.qU k _ hk hll hlt;rw[<-gx hk,<-gx hll] at this;exact this hb
 .rw[<-he] at hb;exact lt_irrefl _ hb
end
theorem po{w:aM}{base:Nat}{e:TypeId}{v:aN}{n:Nat}{xs:List aN}(h:w.ownsRow base e 1 v n xs)(hn:0<n):
  ∃gT cT,v=aG (some ⟨gT,0,none⟩) n cT/\base<=gT/\gT<w.heap.size/\xs.length=n/\∀(i:Nat) u,xs[i]?=some u->w.cell? ⟨gT,i,none⟩=some u:=by
 obtain⟨h1,h2⟩:=h;rcases h2 with⟨_,h0⟩|⟨g,cap,cur,hv,hg,hb,hc,hm,hs,ht⟩
 .omega
 .refine⟨g,cap,hv,hg,lt_of_heap hb,aa,λi u hi=>?_⟩
  rw[<-ht,kQ] at hi;split at hi
  .unfold World.cell?;rw[hb];simpa using hi
  .cases hi
theorem IQ{w:aM}{base:Nat}{e:TypeId}{v:aN}{n:Nat}{xs:List aN}(h:w.ownsRow base e 1 v n xs):∃so m c,v=aG so m c:=by
 rcases h.2 with⟨h,_⟩|⟨_,_,_,h,_⟩
 .exact⟨_,_,_,h⟩
 .exact⟨_,_,_,h⟩
theorem T8(Xs:List PB)(A:List Nat):(ez Xs A).length=(eo Xs A).length:=by
 unfold ez;rw[bY,uB,iB];omega
theorem an8(Xs:List PB)(A:List Nat):∀a∈ez Xs A,a∈A:=λa ha=>by
 unfold ez at ha;rcases dv.1 ha with h|h
 .exact Td Xs A a (VY h)
 .exact Td Xs A a (rB h)
section
variable{rg:List (List Pt)}{l:List Nd}{r:Int}{Xs:List PB}
theorem SX.T9(h:SX rg l r Xs){L:List Nat}{n0:Nd}(hL:ll Xs L)(hl:∀a∈L,a<Xs.length)(h0:∀s,L[0]?=some s->(xi Xs s).f=n0):∀k,k<=L.length->∀ring∈(cP Xs (L.take k)).2,ring≠[]/\(∀a∈ring,a∈L)/\ring.length<=L.length
 |0,_,ring,hr=>by simp[cP] at hr
 |k+1,hk,ring,hr=>by
  obtain⟨s,hs⟩:∃s,L[k]?=some s:=⟨_,bo aa⟩
  have htk:L.take (k+1)=L.take k++[s]:=by rw[jF,hs];rfl
  rw[htk,zQ] at hr;unfold j5 at hr;split at hr
  .rename_i hst
   rcases dv.1 hr with hr|hr
   .exact h.T9 hL hl h0 k aa ring hr
   .have e:=dh.1 hr;have hne:=h.parts hL hl h0 k s hs hst;have hlen:=IA Xs L k;have hm:∀a∈(cP Xs (L.take k)).1++[s],a∈L:=λa ha=>by
     rcases dv.1 ha with ha|ha
     .exact MW Xs L k a ha
     .rw[dh.1 ha];exact bT hs
    refine⟨λh'=>?_,λa ha=>?_,?_⟩
    .have:=aZ List.length h';rw[e,T8] at this;exact hne (iU.1 this)
    .rw[e] at ha;exact hm a (VY (an8 Xs _ a ha))
    .rw[e,T8];have:=Te Xs (((cP Xs (L.take k)).1++[s]).drop (jd Xs ((cP Xs (L.take k)).1++[s]) s).toNat);rw[uB,bY] at this;simp only[dw,iJ] at this;omega
  .exact h.T9 hL hl h0 k aa ring hr
theorem SX.Nc(h:SX rg l r Xs){L:List Nat}{k:Nat}(hW:Wk Xs k L):∀ring∈cJ Xs L,ring≠[]/\(∀a∈ring,a∈L)/\ring.length<=L.length:=by
 have h0:∀s,L[0]?=some s->(xi Xs s).f=(xi Xs k).f:=λs hs=>by
  rw[hW.head] at hs;injection hs with hs;rw[hs]
 have:=h.T9 hW.conn hW.lt h0 L.length (aY _);rw[fO] at this;exact this
end
structure HI(bs:List Nat)(Xs:List PB)(g:Nat)(w0:aM)(k:Nat)(lv:aN)(PH:List kN)(T:Nat->Tg)(ow:Nat->Option Nat)(wr:aM):Prop where
 sw:SW g bs Xs (bG Xs k).bz ow wr
 pi:PI bs w0.heap.size lv (bG Xs k).ps PH T wr
 own:∀j,j<Xs.length->(bG Xs k).bz j=true->∃ph,PH[(bG Xs k).ow j]?=some ph/\ow j=some ph.pb
 mo:Mo bs w0 wr
structure nD(bs:List Nat)(Xs:List PB)(g:Nat)(w0:aM)(k:Nat)(lv:aN)(gW cW:Nat)(L:List Nat)(gR cR n:Nat)(PH:List kN)(T:Nat->Tg)(ow:Nat->Option Nat)(wr w1 w2:aM)(lo:aN)(O:List Nat)(rv:List aN):Prop where
 hi:HI bs Xs g w0 k lv PH T ow wr
 kl:k<Xs.length
 un:(bG Xs k).bz k=false
 eL:L=dI Xs (bG Xs k).bz k
 ws:WS wr g bs Xs (bG Xs k).bz ow (aG (some ⟨gW,0,none⟩) L.length cW) L w1
 ri:RI bs w1 lo (aG (some ⟨gR,0,none⟩) n cR) O (cJ Xs L) rv w2
 en:n=rv.length
section
variable{bs:List Nat}{Xs:List PB}{g:Nat}{w0:aM}{k:Nat}{lv:aN}{gW cW:Nat}{L:List Nat}{gR cR n:Nat}{PH:List kN}{T:Nat->Tg}{ow:Nat->Option Nat}{wr w1 w2:aM}{lo:aN}{O:List Nat}{rv:List aN}
theorem nD.sz(h:nD bs Xs g w0 k lv gW cW L gR cR n PH T ow wr w1 w2 lo O rv):w0.heap.size<=wr.heap.size/\wr.heap.size<=w1.heap.size/\w1.heap.size<=w2.heap.size:=⟨h.hi.mo.size,h.ws.mo.size,h.ri.below.size⟩
theorem nD.same(h:nD bs Xs g w0 k lv gW cW L gR cR n PH T ow wr w1 w2 lo O rv)(hbb:∀b∈bs,b<w0.heap.size){b:Nat}(hb:w0.heap.size<=b)(hz:b<wr.heap.size):w2.heap[b]?=wr.heap[b]?:=by
 have hs:=h.sz;exact(h.ri.below.block b aa).trans (h.ws.mo.block b hz (λhk=>by have:=hbb b hk;omega))
theorem nD.Nf(h:nD bs Xs g w0 k lv gW cW L gR cR n PH T ow wr w1 w2 lo O rv):SW g bs Xs (λj=>(bG Xs k).bz j||L.contains j) ow w2:=h.ws.sw.below h.ri.below
theorem nD.Ua(h:nD bs Xs g w0 k lv gW cW L gR cR n PH T ow wr w1 w2 lo O rv):RV bs w1.heap.size w2.heap.size (rv.zip (cJ Xs L)) w2:=by
 refine⟨λp hp=>?_⟩
 obtain⟨i,hi,e⟩:=kO.1 hp;obtain⟨h1,h2⟩:=II (by rw[bo hi,e]:(rv.zip (cJ Xs L))[i]?=some p)
 have k1:=(h.ri.ring i p.1 p.2 h1 h2).1;exact⟨k1,λk e=>(bn k1 k e).2⟩
theorem nD.shell(h:nD bs Xs g w0 k lv gW cW L gR cR n PH T ow wr w1 w2 lo O rv)(hB:BD Xs)(Cm:∀ring∈cJ Xs L,ring≠[]/\(∀a∈ring,a∈L)/\ring.length<=L.length)(kZ:∀a∈L,a<Xs.length)(hLn:L.length<=85000000)(p:VR)(hp:p∈rv.zip (cJ Xs L))(w':aM)(hg:w'.heap[g]?=w2.heap[g]?)(hbs:∀b∈bs,w'.heap[b]?=w2.heap[b]?)(hr:∀b,w1.heap.size<=b->b<w2.heap.size->w'.heap[b]?=w2.heap[b]?):
  ak 113 #[p.1] w' λe w''=>e=aL (aD (dm Xs p.2))/\aj w' w'':=by
 have hsw:=h.Nf;have an9:SW g bs Xs (λj=>(bG Xs k).bz j||L.contains j) ow w':=
  ⟨hsw.len,hsw.nd,hsw.ng,λi hi=>(World.cell?_of_block (w:=w2) hg).trans (hsw.row i hi),λi hi=>(hbs _ (rZ hi)).trans (hsw.side i hi)⟩
 have hz:=(h.Ua).keep (w':=w') hr;have hpr:p.2∈cJ Xs L:=by
  obtain⟨i,hi,e⟩:=kO.1 hp;exact bT (II (by rw[bo hi,e]:(rv.zip (cJ Xs L))[i]?=some p)).2
 obtain⟨f1,f2,f3⟩:=Cm p.2 hpr;exact anj bs Xs hB g _ ow w' an9 p.2 f1 aa (λa ha=>by rw[hsw.len];exact kZ a (f2 a ha)) _ p.1 (hz.own p hp).1
end
end
end Go.Proofs.YtkjhhooecopolaaGreatDoor

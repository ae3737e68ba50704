import Derived.Test.YtkjhhooecopolaaGreatDoorSz12
set_option maxRecDepth 100000
set_option maxHeartbeats 4000000
namespace Go.Proofs.YtkjhhooecopolaaGreatDoor
open Tryz
open Value renaming int->az,complex->aA,float->aB,agg->aC,bool->aD,string->aF,slice->aG,pointer->aH,tuple->aI
open IntKind renaming i64->aJ
open FloatKind renaming f64->aK
open Ending renaming returned->aL
open Go renaming World->aM,Value->aN,floatOfInt->aO
section
open Go.RowKit
variable{bs L:List Nat}{n base pb i j:Nat}{mk:Nat->Bool}{nx:Nat->Nat}{w wr w' w5 w6:aM}{hv s' h' iu:aN}
theorem aoY(cf:Nat->Nat->Int)(a:Nat)(r:List Nat)(g lo cap N1 N2:Nat)(N3:Int)(w:aM)(hn:r.length<=85000000)
  (HV:Hid (∀(i:Nat) b,(a::r)[i]?=some b->w.cell? ⟨g,lo+i,none⟩=some (aH (some ⟨b,0,none⟩))))
  (HC:Hid (∀b∈a::r,∀c∈a::r,∀w',aj w w'->ak 172 #[aC #[aA aK N1 N2,az aJ N3],aH (some ⟨b,0,none⟩),aH (some ⟨c,0,none⟩)] w' λr w''=>r=aL (az aJ (cf b c))/\aj w' w'')):
  ak 171 #[aG (some ⟨g,lo,none⟩) (r.length+1) cap,.func (.func 172) #[aC #[aA aK N1 N2,az aJ N3]] #[]] w λe w'=>e=aL (aH (some ⟨cN cf r a,0,none⟩))/\aj w w':=by
 have c0:=HV.out 0 a rfl;rw[rM] at c0;have fh:g<w.heap.size:=lt_of_cell c0
 go_enter func171,ntmps171
 go_wp2_with fail
 go_loopg [5,6] r.length (λm mv iv wr=>∃k:Nat,k+m=r.length/\iv=az aJ (k+1:Nat)/\mv=aH (some ⟨cN cf (r.take k) a,0,none⟩)/\Hid (aj w wr))
 case atStart=>exact⟨0,aa,rfl,rfl,Below.refl _ _⟩
 case round=>
  obtain⟨k,hkn,rfl,rfl,HB⟩:=hrel;by_cases hlt:k<r.length
  .obtain⟨b,hb⟩:∃b,r[k]?=some b:=⟨_,bo hlt⟩;have c1:=(HB.out.cell (p:=⟨g,lo+(k+1),none⟩) fh).trans (HV.out (k+1) b (by simpa using hb))
   have lM:b∈a::r:=bV _ (bA hb);have hmm:cN cf (r.take k) a∈a::r:=by
    rcases zN cf (r.take k) a with h|h
    .rw[h];simp
    .exact bV _ (rN h)
   have jo:Hid (ak 172 #[aC #[aA aK N1 N2,az aJ N3],aH (some ⟨b,0,none⟩),aH (some ⟨cN cf (r.take k) a,0,none⟩)] wr λr' w''=>r'=aL (az aJ (cf b (cN cf (r.take k) a)))/\aj wr w''):=HC.out b lM _ hmm wr HB.out
   have iQ:Hid (cN cf (r.take (k+1)) a=if cf b (cN cf (r.take k) a)<0 then b else cN cf (r.take k) a):=by
    have htk:r.take (k+1)=r.take k++[b]:=by rw[ju,hb];rfl
    show cN cf (r.take (k+1)) a=_;rw[htk,MV]
   have ij:((k:Int)+1)<((r.length:Int)+1):=aa
   have hgr:g<wr.heap.size:=bW fh HB.out.size;clear c0 hb lM hmm;generalize cN cf (r.take k) a=M at*
   go_wp2_with fail
   refine jo.out.mono ?_;rintro e w5 ⟨rfl,bh⟩;have gV:Hid (aj w w5):=HB.out.trans (bh.mono HB.out.size);have c5:=aQ bh c1 hgr;clear jo bh c1;generalize cf b M=V at*;by_cases hV:V<0
   .have HM:Hid (cN cf (r.take (k+1)) a=b):=by rw[iQ.out,aV hV];rfl
    go_wp2_with fail
    go_roundg (gk-1)
    case measure=>omega
    case rel=>exact⟨k+1,aa,ai,by rw[HM.out],gV⟩
   .have HM:Hid (cN cf (r.take (k+1)) a=M):=by rw[iQ.out,aP hV];rfl
    have Ta:decide (V<0)=false:=jU hV
    go_wp2_with fail
    go_roundg (gk-1)
    case measure=>omega
    case rel=>exact⟨k+1,aa,ai,by rw[HM.out],gV⟩
  .have hk:k=r.length:=aa
   subst hk;rw[gv];clear HC HV
   go_wp2_with fail
   go_ret
   exact⟨rfl,HB.out⟩
def fT(Xs:List PB)(n:Ge.Nd)(k:Nat):List Nat:=(List.range k).filter (ll Xs n)
theorem aoZ(Xs:List PB)(n:Ge.Nd)(k:Nat):fT Xs n (k+1)=fT Xs n k++(if ll Xs n k then[k] else[]):=by
 unfold fT;rw[JZ,J8];congr 1;cases h:ll Xs n k<;>simp[h]
theorem Uw(Xs:List PB)(n:Ge.Nd)(k:Nat):∀j∈fT Xs n k,j<k:=λ_j hj=>tN.1 (jr.1 hj).1
theorem adR(Xs:List PB)(n:Ge.Nd)(k:Nat):(fT Xs n k).length<=k:=by
 have:=J9 (ll Xs n) (List.range k);rw[ahv] at this;exact this
theorem ao0(bs:List Nat)(Xs:List PB)(n:Ge.Nd)(N1 N2:Nat)(N3:Int)(g cap bM:Nat)(w:aM)(hR:RB w g bs Xs)(hl:bs.length<=85000000)
  (HI:Hid (∀i,i<bs.length->∀w',aj w w'->ak 170 #[aH (some ⟨bx bs i,0,none⟩),aC #[aA aK N1 N2,az aJ N3]] w' λe w''=>e=aL (aD (ll Xs n i))/\aj w' w''))
  (HM:Hid (∀lv wr,wr.ownsRow w.heap.size 175 1 lv (fT Xs n bs.length).length (bC ((fT Xs n bs.length).map (bx bs)))->aj w wr->ak 171 #[lv,.func (.func 172) #[aC #[aA aK N1 N2,az aJ N3]] #[]] wr λe w''=>e=aL (aH (some ⟨bM,0,none⟩))/\aj wr w'')):
  ak 114 #[aG (some ⟨g,0,none⟩) bs.length cap,aC #[aA aK N1 N2,az aJ N3]] w λe w'=>e=aL (aH (some ⟨bM,0,none⟩))/\aj w w':=by
 obtain⟨i0,hi0,hz0,hz1,hz2⟩:=info_parts Cj;have Ck:Hid (RB w g bs Xs):=hR;have hT0:=heap_alloc_new w (.cells #[aA aK N1 N2,az aJ N3] 83);have hs0:(w.alloc (.cells #[aA aK N1 N2,az aJ N3] 83)).heap.size=w.heap.size+1:=af
 have cQ:Hid ((w.alloc (.cells #[aA aK N1 N2,az aJ N3] 83)).ownsRow (w.heap.size+1) 175 1 (aG none 0 0) (fT Xs n 0).length (bC ((fT Xs n 0).map (bx bs)))/\aj w (w.alloc (.cells #[aA aK N1 N2,az aJ N3] 83))/\(w.alloc (.cells #[aA aK N1 N2,az aJ N3] 83)).heap[w.heap.size]?=some (.cells #[aA aK N1 N2,az aJ N3] 83 (0,0))/\w.heap.size+1<=(w.alloc (.cells #[aA aK N1 N2,az aJ N3] 83)).heap.size):=⟨World.ownsRow_nil _ _ _ _,aw _ _,hT0,aa⟩
 clear hR hT0 hs0
 go_enter func114,ntmps114
 go_wp2_with fail
 generalize w.alloc (.cells #[aA aK N1 N2,az aJ N3] 83)=W0 at*
 go_loopg [5,10] bs.length (λm lv iv wr=>∃k:Nat,k+m=bs.length/\iv=az aJ k/\Hid (wr.ownsRow (w.heap.size+1) 175 1 lv (fT Xs n k).length (bC ((fT Xs n k).map (bx bs)))/\aj w wr/\wr.heap[w.heap.size]?=some (.cells #[aA aK N1 N2,az aJ N3] 83 (0,0))/\w.heap.size+1<=wr.heap.size))
 case atStart=>exact⟨0,aa,rfl,cQ.out⟩
 case round=>
  obtain⟨k,hkn,rfl,HE⟩:=hrel;clear cQ;obtain⟨j5,hb2,xV,amA⟩:=HE.out;have t0:=cL xV;have t1:=cK xV;have jQ:Hid (wr.ownsRow (w.heap.size+1) 175 1 u5 (fT Xs n k).length (bC ((fT Xs n k).map (bx bs)))/\aj w wr/\wr.heap[w.heap.size]?=some (.cells #[aA aK N1 N2,az aJ N3] 83 (0,0))):=⟨j5,hb2,xV⟩;by_cases hlt:k<bs.length
  .have c1:=(hb2.cell (p:=⟨g,k,none⟩) (lt_of_cell (Ck.out.row k _ (zP hlt)))).trans (Ck.out.row k _ (zP hlt));have HIk:Hid (ak 170 #[aH (some ⟨bx bs k,0,none⟩),aC #[aA aK N1 N2,az aJ N3]] wr λe w''=>e=aL (aD (ll Xs n k))/\aj wr w''):=HI.out k hlt wr hb2
   have NU:Hid (fT Xs n (k+1)=fT Xs n k++(if ll Xs n k then[k] else[])):=aoZ Xs n k
   have hsl:=adR Xs n k;have ij:(k:Int)<(bs.length:Int):=aa
   clear j5 hb2 xV HE HI HM Ck;generalize ll Xs n k=B at*;generalize fT Xs n k=T at*;generalize hbb:bx bs k=bS at*
   go_wp2_with fail
   refine HIk.out.mono ?_;rintro e w5 ⟨rfl,bh⟩;have fD:w5.ownsRow (w.heap.size+1) 175 1 u5 T.length (bC (T.map (bx bs))):=bG jQ.out.1 λk hk=>bh.block k (bn jQ.out.1 k hk).2
   have gV:Hid (aj w w5):=jQ.out.2.1.trans (bh.mono aa)
   have td:Hid (w5.heap[w.heap.size]?=some (.cells #[aA aK N1 N2,az aJ N3] 83 (0,0))):=(bh.block _ (lt_of_heap jQ.out.2.2)).trans jQ.out.2.2;have hz5:w.heap.size+1<=w5.heap.size:=by have:=bh.size;omega
   have qp:Hid (bx bs k=bS):=hbb;clear bh HIk jQ c1 t0 t1 hbb;cases B
   .have dw:Hid (w5.ownsRow (w.heap.size+1) 175 1 u5 (fT Xs n (k+1)).length (bC ((fT Xs n (k+1)).map (bx bs)))/\aj w w5/\w5.heap[w.heap.size]?=some (.cells #[aA aK N1 N2,az aJ N3] 83 (0,0))/\w.heap.size+1<=w5.heap.size):=by
     show _/\_;have e:fT Xs n (k+1)=T:=by rw[NU.out];simp
     rw[e];exact⟨fD,gV.out,td.out,hz5⟩
    clear fD NU
    go_wp2_with fail
    go_roundg (gk-1)
    case measure=>omega
    case rel=>exact⟨k+1,aa,ai,dw.out⟩
   .have hnb:(w5.alloc (.cells #[aH (some ⟨bS,0,none⟩)] 175)).heap[w5.heap.size]?=some (.cells #[aH (some ⟨bS,0,none⟩)] 175 (0,0)):=heap_alloc_new _ _;have gU:(w5.alloc (.cells #[aH (some ⟨bS,0,none⟩)] 175)).ownsRow (w.heap.size+1) 175 1 u5 T.length (bC (T.map (bx bs))):=bG fD λk hk=>Below.heap_alloc _ _ _ (bn fD k hk).2
    have Ux:Hid (w5.ownsRow (w.heap.size+1) 175 1 u5 T.length (bC (T.map (bx bs)))):=fD;clear fD
    go_wp2_with (at_builtin;refine wpList_append_lies _ rfl (.tmp 17) (.tmp 19) 132 rfl (w.heap.size+1) 175 i0 _ 1 8 underlying132 hi0 hz0 hz1 hz2 rfl ah u5 T.length (bC (T.map (bx bs))) rfl gU ⟨w5.heap.size,0,none⟩ 1 1 [aH (some ⟨bS,0,none⟩)] rfl rfl (World.news_of_block (cs:= #[aH (some ⟨bS,0,none⟩)]) (t:=175) (fr:=(0,0)) hnb) (by simp[Value.oneCell']) ah (by unfold maxLen;omega) aa (by simp;omega) (w5.heap.size+1) af ?_;intro g' cap' w8 dW cI iN sH)
    have dw:Hid (w8.ownsRow (w.heap.size+1) 175 1 (aG (some ⟨g',0,none⟩) (T.length+1) cap') (fT Xs n (k+1)).length (bC ((fT Xs n (k+1)).map (bx bs)))/\aj w w8/\w8.heap[w.heap.size]?=some (.cells #[aA aK N1 N2,az aJ N3] 83 (0,0))/\w.heap.size+1<=w8.heap.size):=by
     show _/\_;have e:fT Xs n (k+1)=T++[k]:=by rw[NU.out];simp
     rw[e,bX,jV];have e2:bC (T.map (bx bs)++[k].map (bx bs))=bC (T.map (bx bs))++[aH (some ⟨bS,0,none⟩)]:=by simp[bC,qp.out]
     rw[e2];have hzz:=cI.size;refine⟨dW,(gV.out.alloc aa _).grown cI (by simp;omega) (λk hk=>by have:=(bn Ux.out k hk).1;omega),?_,by simp at hzz;omega⟩
     have hne:∀k,u5.ownBlock=some k->k≠w.heap.size:=λk hk=>by have:=(bn Ux.out k hk).1;omega
     exact(cI.block _ (by simp;omega) (λe=>hne _ e.symm rfl)).trans ((Below.heap_alloc _ _ _ aa).trans td.out)
    clear dW cI iN hnb gU Ux NU
    go_wp2_with fail
    go_roundg (gk-1)
    case measure=>omega
    case rel=>exact⟨k+1,aa,ai,dw.out⟩
  .have hk:k=bs.length:=aa
   subst hk;have I9:Hid (ak 171 #[u5,.func (.func 172) #[aC #[aA aK N1 N2,az aJ N3]] #[]] wr λe w''=>e=aL (aH (some ⟨bM,0,none⟩))/\aj wr w''):=HM.out u5 wr (xH jQ.out.1 aa) jQ.out.2.1
   have fw:Hid (aj w wr):=jQ.out.2.1;clear j5 hb2 xV HE HI HM Ck jQ
   go_wp2_with fail
   refine I9.out.mono ?_;rintro e w9 ⟨rfl,oJ⟩;have HF:Hid (aj w w9):=fw.out.trans (oJ.mono aa)
   clear oJ I9 fw
   go_wp2_with fail
   go_ret
   exact⟨rfl,HF.out⟩
theorem ao1(X1 X2 X3 Y1 Y2 Y3 N1 N2 ra rb P Q im:Nat)(N3 p q R:Int)(b c:Nat)(w:aM)
  (a0:w.cell? ⟨b,0,none⟩=some (aA aK X1 X2))(a1:w.cell? ⟨b,1,none⟩=some (aB aK X3))(c0:w.cell? ⟨c,0,none⟩=some (aA aK Y1 Y2))(c1:w.cell? ⟨c,1,none⟩=some (aB aK Y3))
  (HLa:Hid (∀w,ak 97 #[aC #[aA aK X1 X2,aB aK X3],aC #[aA aK N1 N2,az aJ N3]] w λe w'=>e=aL (aB aK ra)/\Below w.heap.size w w'))
  (HLb:Hid (∀w,ak 97 #[aC #[aA aK Y1 Y2,aB aK Y3],aC #[aA aK N1 N2,az aJ N3]] w λe w'=>e=aL (aB aK rb)/\Below w.heap.size w w'))
  (GG:∀t w,(binOp .mul t (aB aK ra) (aB aK Y1)).run prog w=.ok (aB aK P) w)(zk:∀t w,(binOp .mul t (aB aK rb) (aB aK X1)).run prog w=.ok (aB aK Q) w)
  (BM:Hid (∀w,ak 183 #[aB aK P,aB aK Q] w λr w'=>r=aL (az aJ p)/\w'=w))
  (Uc:Hid (∀w,ak 101 #[aA aK X1 X2,aA aK Y1 Y2] w λe w'=>e=aL (aB aK im)/\w'=w))
  (q8:Hid (∀w,ak 183 #[aB aK im,aB aK 0] w λr w'=>r=aL (az aJ q)/\w'=w))
  (HO:Hid (∀b cap w,w.cell? ⟨b,0,none⟩=some (az aJ p)->w.cell? ⟨b,1,none⟩=some (az aJ q)->ak 182 #[aG (some ⟨b,0,none⟩) 2 cap] w λr w'=>r=aL (az aJ R)/\w'=w)):
  ak 172 #[aC #[aA aK N1 N2,az aJ N3],aH (some ⟨b,0,none⟩),aH (some ⟨c,0,none⟩)] w λe w'=>e=aL (az aJ R)/\Below w.heap.size w w':=by
 have hbz:b<w.heap.size:=lt_of_cell a0;have hcz:c<w.heap.size:=lt_of_cell c0;have hb0:Below w.heap.size w (w.alloc (.cells #[aA aK N1 N2,az aJ N3] 83)):=(Below.refl _ _).alloc (aY _) _;have hE:=heap_alloc_new w (.cells #[aA aK N1 N2,az aJ N3] 83);have hz:w.heap.size<(w.alloc (.cells #[aA aK N1 N2,az aJ N3] 83)).heap.size:=af
 go_enter func172,ntmps172
 go_wp2_with fail
 have z0:(w.alloc (.cells #[aA aK N1 N2,az aJ N3] 83)).cell? ⟨w.heap.size,0,none⟩=some (aA aK N1 N2):=cell_of hE 0;have z1:(w.alloc (.cells #[aA aK N1 N2,az aJ N3] 83)).cell? ⟨w.heap.size,1,none⟩=some (az aJ N3):=cell_of hE 1;have z2:=aQ hb0 a0 hbz;have z3:=aQ hb0 a1 hbz;have z4:=aQ hb0 c0 hcz;have z5:=aQ hb0 c1 hcz;generalize w.alloc (.cells #[aA aK N1 N2,az aJ N3] 83)=W at*;generalize ui:w.heap.size=B at*;have jA:B<W.heap.size:=aa
 have hbW:b<W.heap.size:=aa
 have Uy:c<W.heap.size:=aa
 have Uu:Below B w W:=hb0;clear hE hz a0 a1 c0 c1 hb0
 go_region_held3 (λw'=>w'.cell? ⟨B,0,none⟩=some (aA aK N1 N2)/\w'.cell? ⟨B,1,none⟩=some (az aJ N3)/\w'.cell? ⟨b,0,none⟩=some (aA aK X1 X2)/\w'.cell? ⟨b,1,none⟩=some (aB aK X3)/\w'.cell? ⟨c,0,none⟩=some (aA aK Y1 Y2)/\w'.cell? ⟨c,1,none⟩=some (aB aK Y3)) (go_keep) (first
   |(go_at_call_of 97 (Value.agg #[Value.complex FloatKind.f64 X1 X2,Value.float FloatKind.f64 X3]);refine(HLa.out _).mono ?_;rintro e w5 ⟨rfl,wu⟩;have pN:B<w5.heap.size:=bW jA wu.size;have fS:b<w5.heap.size:=bW hbW wu.size;have Uz:c<w5.heap.size:=bW Uy wu.size;have l0:=aQ wu z0 jA;have l1:=aQ wu z1 jA;have l2:=aQ wu z2 hbW;have l3:=aQ wu z3 hbW;have l4:=aQ wu z4 Uy;have l5:=aQ wu z5 Uy;have ao4:Below B w w5:=Uu.drew.trans (wu.mono (fF jA)))
   |(go_at_call_of 97 (Value.agg #[Value.complex FloatKind.f64 Y1 Y2,Value.float FloatKind.f64 Y3]);refine(HLb.out _).mono ?_;rintro e w6 ⟨rfl,wz⟩;have wq:B<w6.heap.size:=bW pN wz.size;have jh:b<w6.heap.size:=bW fS wz.size;have UA:c<w6.heap.size:=bW Uz wz.size;have m0:=aQ wz l0 pN;have m1:=aQ wz l1 pN;have m2:=aQ wz l2 fS;have m3:=aQ wz l3 fS;have m4:=aQ wz l4 Uz;have m5:=aQ wz l5 Uz;have ao5:Below B w w6:=ao4.trans (wz.mono (fF pN)))
   |(go_at_call_of 183 (Value.float FloatKind.f64 P);refine(BM.out _).mono ?_;rintro e w7 ⟨rfl,ni⟩;replace ni:=ni.symm;subst ni)
   |(go_at_call 101;refine(Uc.out _).mono ?_;rintro e w7 ⟨rfl,ni⟩;replace ni:=ni.symm;subst ni)
   |(go_at_call_of 183 (Value.float FloatKind.f64 im);refine(q8.out _).mono ?_;rintro e w7 ⟨rfl,ni⟩;replace ni:=ni.symm;subst ni)
   |(go_at_call 182;refine(HO.out _ _ _ (cell_of (heap_alloc_new _ _) 0) (cell_of (heap_alloc_new _ _) 1)).mono ?_;rintro e w8 ⟨rfl,ua⟩;have wC:Below w6.heap.size w6 w8:=(by(rw[ua];exact(Below.refl _ _).alloc (aY _) _));have au4:B<w8.heap.size:=bW wq wC.size;have au5:b<w8.heap.size:=bW jh wC.size;have au6:c<w8.heap.size:=bW UA wC.size;have o0:=aQ wC m0 wq;have o1:=aQ wC m1 wq;have o2:=aQ wC m2 jh;have o3:=aQ wC m3 jh;have o4:=aQ wC m4 UA;have o5:=aQ wC m5 UA;have ao6:Below B w w8:=ao5.trans (wC.mono (fF wq));clear ua))
 all_goals
  go_wp2_with fail
  go_ret
  exact⟨rfl,by rw[ui];exact ao6⟩
def Je(n:Ge.Nd)(x y:PB):Int:=(Ge.cr (Ga.wv x.f x.t) (Ga.wv x.f n)*(y.f.2.2*(Ga.wv y.f y.t).1)-Ge.cr (Ga.wv y.f y.t) (Ga.wv y.f n)*(x.f.2.2*(Ga.wv x.f x.t).1)).sign
def tA(n:Ge.Nd)(x y:PB):Int:=if Je n x y=0 then gA x y else Je n x y
theorem adU{x:PB}{l:Ge.Ln}(hx:LD x l)(n:Ge.Nd):∃dl DD:Int,0<dl/\0<DD/\DD*(x.f.2.2*(l.1*n.2.1-l.2.1*n.1-l.2.2*n.2.2))=dl*Ge.cr (Ga.wv x.f x.t) (Ga.wv x.f n)/\DD*l.1=dl*(Ga.wv x.f x.t).1:=by
 have hp:=hx.par;have hd:=hx.pos;have h:=hx.S6;rw[(vV x.f x.t).1,(vV x.f x.t).2] at hp hd;refine⟨l.1*(Ga.wv x.f x.t).1+l.2.1*(Ga.wv x.f x.t).2,Ge.dt (Ga.wv x.f x.t) (Ga.wv x.f x.t),hd,Ga.dC ?_,?_,?_⟩
 .intro e;rw[e] at hd;simp at hd
 .have e1:x.f.2.2*(l.1*n.2.1-l.2.1*n.1-l.2.2*n.2.2)=l.1*(Ga.wv x.f n).2-l.2.1*(Ga.wv x.f n).1:=by
   have e0:(Ga.wv x.f n).1=x.f.2.2*n.1-n.2.2*x.f.1:=rfl;have e0':(Ga.wv x.f n).2=x.f.2.2*n.2.1-n.2.2*x.f.2.1:=rfl;rw[e0,e0'];have:x.f.2.2*(l.1*n.2.1-l.2.1*n.1-l.2.2*n.2.2)=x.f.2.2*l.1*n.2.1-x.f.2.2*l.2.1*n.1-n.2.2*(l.2.2*x.f.2.2):=by grind
   rw[this,<-h]
   grind
  rw[e1];generalize Ga.wv x.f x.t=D at*;generalize Ga.wv x.f n=v at*;unfold Ge.dt Ge.cr;clear h e1 hd
  grind
 .generalize Ga.wv x.f x.t=D at*;unfold Ge.dt;clear h hd
  grind
theorem ao8{x y:PB}{l m:Ge.Ln}(hx:LD x l)(hy:LD y m)(UB:0<x.f.2.2)(Jf:0<y.f.2.2)(n:Ge.Nd):((l.1*n.2.1-l.2.1*n.1-l.2.2*n.2.2)*m.1-(m.1*n.2.1-m.2.1*n.1-m.2.2*n.2.2)*l.1).sign=Je n x y:=by
 obtain⟨d1,D1,p1,q1,e1,e2⟩:=adU hx n;obtain⟨d2,D2,p2,q2,e3,e4⟩:=adU hy n;unfold Je;generalize l.1*n.2.1-l.2.1*n.1-l.2.2*n.2.2=A at*;generalize m.1*n.2.1-m.2.1*n.1-m.2.2*n.2.2=B at*;generalize Ge.cr (Ga.wv x.f x.t) (Ga.wv x.f n)=CX at*;generalize Ge.cr (Ga.wv y.f y.t) (Ga.wv y.f n)=CY at*;generalize(Ga.wv x.f x.t).1=X1 at*;generalize(Ga.wv y.f y.t).1=Y1 at*;generalize x.f.2.2=fx at*;generalize y.f.2.2=fy at*;have k1:0<D1*D2*(fx*fy):=bJ (bJ q1 q2) (bJ UB Jf);have k2:0<d1*d2:=bJ p1 p2;rw[<-Ge.QJ (z:=A*m.1-B*l.1) k1,<-Ge.QJ (z:=CX*(fy*Y1)-CY*(fx*X1)) k2];congr 1;have a1:D1*D2*(fx*fy)*(A*m.1-B*l.1)=(D1*(fx*A))*(fy*(D2*m.1))-(D2*(fy*B))*(fx*(D1*l.1)):=by grind
 rw[a1,e1,e2,e3,e4]
 grind
theorem ao9(x y:PB){l m:Ge.Ln}(hx:LD x l)(hy:LD y m)(UB:0<x.f.2.2)(Jf:0<y.f.2.2)(n:Ge.Nd)(hn:nj n)(b c:Nat)(w:aM)(h1:jB w b x)(h2:jB w c y):
  ak 172 #[jb n,aH (some ⟨b,0,none⟩),aH (some ⟨c,0,none⟩)] w λe w'=>e=aL (az aJ (tA n x y))/\aj w w':=by
 obtain⟨ra,fa,hLa⟩:=Uv hx hn;obtain⟨rb,fb,UC⟩:=Uv hy hn;have bd:∀(k:Ge.Ln),k.1.natAbs<=100->k.2.1.natAbs<=100->k.2.2.natAbs<=10000->(k.1*n.2.1-k.2.1*n.1-k.2.2*n.2.2).natAbs<=1000000000:=λk k1 k2 k3=>by
  have a1:(k.1*n.2.1).natAbs<=100*3000000:=by rw[oX];exact De k1 hn.y
  have a2:(k.2.1*n.1).natAbs<=100*3000000:=by rw[oX];exact De k2 hn.x
  have a3:(k.2.2*n.2.2).natAbs<=10000*20000:=by rw[oX];exact De k3 (by have:=hn.d;omega)
  omega
 have ba:=bd l hx.b1 hx.b2 hx.b3;have bb:=bd m hy.b1 hy.b2 hy.b3;have m1:((l.1*n.2.1-l.2.1*n.1-l.2.2*n.2.2)*m.1).natAbs<=1000000000*100:=by rw[oX];exact De ba hy.b1
 have m2:((m.1*n.2.1-m.2.1*n.1-m.2.2*n.2.2)*l.1).natAbs<=1000000000*100:=by rw[oX];exact De bb hx.b1
 obtain⟨P,eP,fP⟩:=fa.mul hy.fl.a aa
 obtain⟨Q,eQ,fQ⟩:=fb.mul hx.fl.a aa
 obtain⟨im,f1,hl⟩:=Iw hx hy;have hc1:=λw=>BK fP fQ w
 rw[ao8 hx hy UB Jf n] at hc1;have hc2:=λw=>BK f1 mV w
 rw[C9,Iu hx hy] at hc2;unfold jb;exact ao1 _ _ _ _ _ _ _ _ ra rb P Q im _ _ _ _ b c w h1.c0 h1.c1 h2.c0 h2.c1 hLa UC (λt w=>run_float_arith (P:=prog) w .mul t aK _ _ P eP) (λt w=>run_float_arith (P:=prog) w .mul t aK _ _ Q eQ) hc1 hl hc2 (λb cap w h0 h1=>L9 _ _ b cap w h0 h1)
def ji(Xs:List PB)(n:Ge.Nd):Nat:=cN (λi j=>tA n (xi Xs i) (xi Xs j)) (fT Xs n Xs.length).tail ((fT Xs n Xs.length).headD 0)
theorem adV{Xs:List PB}{n:Ge.Nd}(h:fT Xs n Xs.length≠[]):ji Xs n∈fT Xs n Xs.length:=by
 unfold ji;generalize fT Xs n Xs.length=T at*;cases T with
 |nil=>exact absurd rfl h
 |cons a t=>
  rcases zN (λi j=>tA n (xi Xs i) (xi Xs j)) t a with e|e
  .rw[show(a::t).tail=t from rfl,show(a::t).headD 0=a from rfl,e];simp
  .exact bV _ e
theorem apb(bs:List Nat)(Xs:List PB)(hB:BD Xs)(hnd:bs.Nodup)(n:Ge.Nd)(hn:nj n)(g cap:Nat)(w:aM)(hR:RB w g bs Xs)(hne:fT Xs n Xs.length≠[]):
  ak 114 #[aG (some ⟨g,0,none⟩) bs.length cap,jb n] w λe w'=>e=aL (aH (some ⟨bx bs (ji Xs n),0,none⟩))/\aj w w':=by
 have hlen:=hR.len;have hbl:bs.length<=85000000:=by rw[hlen];exact hB.len
 refine ao0 bs Xs n _ _ _ g cap (bx bs (ji Xs n)) w hR hbl (λi hi w' hb=>aoX bs Xs hB w' g (hR.below hb) n hn i (by rw[<-hlen];exact hi)) ?_
 intro lv wr ho hb;rw[hlen] at ho;have hT:∀j∈fT Xs n Xs.length,j<Xs.length:=Uw Xs n Xs.length;have mi:=adR Xs n Xs.length;have NV:=hB.len;have tB:ji Xs n=cN (λi j=>tA n (xi Xs i) (xi Xs j)) (fT Xs n Xs.length).tail ((fT Xs n Xs.length).headD 0):=rfl
 rw[tB];generalize fT Xs n Xs.length=T at*;obtain⟨t0,tr,rfl⟩:∃t0 tr,T=t0::tr:=by
  cases T with
  |nil=>exact absurd rfl hne
  |cons a t=>exact⟨a,t,rfl⟩
 obtain⟨gT,cT,rfl,_,_,_,_,_,hcell⟩:=pL ho af
 have fJ:=hR.below hb;have hm:=aoY (λb b'=>tA n (xi Xs (bs.idxOf b)) (xi Xs (bs.idxOf b'))) (bx bs t0) (tr.map (bx bs)) gT 0 cT (aO aK n.1) (aO aK n.2.1) n.2.2 wr (by rw[gG];simp only[dG] at mi;omega)
  (λi b hi=>hcell i b hi)
  (λb h1 c h2 w'' hw=>by
   have key:∀b,b∈bx bs t0::tr.map (bx bs)->∃j,j<Xs.length/\b=bx bs j:=λb hb=>by
    have hb2:b∈(t0::tr).map (bx bs):=hb;obtain⟨j,hj,rfl⟩:=bQ.1 hb2;exact⟨j,hT j hj,rfl⟩
   obtain⟨j1,q1,rfl⟩:=key b h1;obtain⟨j2,q2,rfl⟩:=key c h2;have vw:=fJ.below hw;rw[oH hnd (by rw[hlen];exact q1),oH hnd (by rw[hlen];exact q2)]
   obtain⟨l1,d1⟩:=hB.ld _ (iM q1);obtain⟨l2,d2⟩:=hB.ld _ (iM q2);exact ao9 _ _ d1 d2 (hB.v _ (iM q1)).cf.pos (hB.v _ (iM q2)).cf.pos n hn _ _ w'' (vw.at q1) (vw.at q2))
 have e1:cN (λb b'=>tA n (xi Xs (bs.idxOf b)) (xi Xs (bs.idxOf b'))) (tr.map (bx bs)) (bx bs t0)=bx bs (cN (λi j=>tA n (xi Xs i) (xi Xs j)) (t0::tr).tail ((t0::tr).headD 0)):=by
  refine IB _ _ λj hj k hk=>?_
  simp only[oH hnd (by rw[hlen];exact hT j hj),oH hnd (by rw[hlen];exact hT k hk)]
 rw[e1,gG] at hm;exact hm
abbrev VR:=aN×List Nat
def iA(P:List Nat->Bool)(a:VR)(Z:List VR):VR:=Z.foldl (λacc p=>if P p.2 then p else acc) a
def iB(P:List Nat->Bool)(Z:List VR):List VR:=Z.filter λp=> !P p.2
theorem apc(P:List Nat->Bool)(a:VR)(Z:List VR)(p:VR):iA P a (Z++[p])=if P p.2 then p else iA P a Z:=by unfold iA;rw[Pz];rfl
theorem apd(P:List Nat->Bool)(Z:List VR)(p:VR):iB P (Z++[p])=iB P Z++(if P p.2 then[] else[p]):=by
 unfold iB;rw[J8];congr 1;cases h:P p.2<;>simp[h]
structure TK(w:aM)(base pb:Nat)(hv:aN)(s' h':aN)(hs:List aN)(wr:aM):Prop where
 mq:wr.heap[pb]?=some (.cells #[s',h'] 187 (0,0))
 own:wr.ownsRow base 185 1 h' hs.length hs
 mo:Mo (pb::hv.ownBlock.toList) w wr
 fresh:∀k,h'.ownBlock=some k->hv.ownBlock=some k\/w.heap.size<=k
 ne:h'.ownBlock≠some pb
theorem TK.below{hs:List aN}(h:TK w base pb hv s' h' hs wr)(hb:aj wr w'):TK w base pb hv s' h' hs w':=
 ⟨(hb.block _ (lt_of_heap h.mq)).trans h.mq,bG h.own λk hk=>hb.block k (bn h.own k hk).2,h.mo.trans (Mo.of _ hb),h.fresh,h.ne⟩
theorem TK.shell{hs:List aN}(h:TK w base pb hv s' h' hs wr)(v:aN):TK w base pb hv v h' hs (wr.setCell ⟨pb,0,none⟩ v):=by
 refine⟨?_,bG h.own λk hk=>Below.heap_setCell _ _ _ _ (λe=>h.ne (by rw[hk,e])),h.mo.trans (Mo.setCell (pb::hv.ownBlock.toList) wr (p:=⟨pb,0,none⟩) (Kc ..) v),h.fresh,h.ne⟩
 rw[setCell_new h.mq];rfl
theorem TK.hole{hs:List aN}(h:TK w base pb hv s' h' hs wr)(hpw:pb<w.heap.size)(v:aN)(o:Obj){g' cap':Nat}{w8:aM}(cI:(wr.alloc o).grownBy w8 h'.ownBlock)
  (dW:w8.ownsRow base 185 1 (aG (some ⟨g',0,none⟩) (hs.length+1) cap') (hs.length+1) (hs++[v]))(hat:h'.ownBlock=some g'\/g'=wr.heap.size+1):
  TK w base pb hv s' (aG (some ⟨g',0,none⟩) (hs.length+1) cap') (hs++[v]) (w8.setCell ⟨pb,1,none⟩ (aG (some ⟨g',0,none⟩) (hs.length+1) cap')):=by
 have kf:=lt_of_heap h.mq;have hwz:=h.mo.size;have ape:w8.heap[pb]?=some (.cells #[s',h'] 187 (0,0)):=(cI.block pb (by simp;omega) (λe=>h.ne e.symm)).trans ((Below.heap_alloc _ _ _ kf).trans h.mq)
 have Jg:g'≠pb:=λe=>by
  subst e;rcases hat with hat|hat
  .exact h.ne hat
  .omega
 refine⟨?_,?_,?_,λk hk=>?_,λe=>?_⟩
 .rw[setCell_new ape];rfl
 .rw[bX];exact bG dW λk hk=>Below.heap_setCell _ _ _ _ (λe=>by
   have:g'=k:=by simpa[Value.ownBlock] using hk
   exact Jg (this.trans e))
 .have m1:Mo (pb::hv.ownBlock.toList) w w8:=by
   refine h.mo.below ((Mo.alloc h'.ownBlock.toList wr o).trans (Mo.grown cI (λk hk=>by rw[hk];simp))) λk hk hk'=>?_
   have hk2:h'.ownBlock=some k:=by simpa using hk'
   rcases h.fresh k hk2 with e|e
   .exact bV _ (by rw[e];simp)
   .omega
  exact m1.trans (Mo.setCell (pb::hv.ownBlock.toList) w8 (p:=⟨pb,1,none⟩) (Kc ..) _)
 .have hk2:g'=k:=by simpa[Value.ownBlock] using hk
  subst hk2;rcases hat with hat|hat
  .exact h.fresh _ hat
  .right;omega
 .have:g'=pb:=by simpa[Value.ownBlock] using e
  exact Jg this
theorem adW(P:List Nat->Bool)(Z:List VR)(a0:VR)(pb gR apf base:Nat)(hv:aN)(hs:List aN)(w:aM)(hn:Z.length<=85000000)(hhs:hs.length<=85000000)(hbase:base<=w.heap.size)
  (hI:TK w base pb hv a0.1 hv hs w)(hgR:gR≠pb/\hv.ownBlock≠some gR)
  (HV:Hid (∀(i:Nat) p,Z[i]?=some p->w.cell? ⟨gR,i,none⟩=some p.1/\∃so n c,p.1=aG so n c))
  (HC:Hid (∀p∈Z,∀w',Mo (pb::hv.ownBlock.toList) w w'->ak 113 #[p.1] w' λe w''=>e=aL (aD (P p.2))/\aj w' w'')):
  ak 115 #[aH (some ⟨pb,0,none⟩),aG (some ⟨gR,0,none⟩) Z.length apf] w λe w'=>e=aL (aI #[])/\∃hv',TK w base pb hv (iA P a0 Z).1 hv' (hs++(iB P Z).map (·.1)) w':=by
 obtain⟨j0,Cv,hy0,hy1,hy2⟩:=info_parts ady;have cQ:Hid (∃hv',TK w base pb hv (iA P a0 (Z.take 0)).1 hv' (hs++(iB P (Z.take 0)).map (·.1)) w):=⟨hv,by simpa[iA,iB] using hI⟩
 have hpw:pb<w.heap.size:=lt_of_heap hI.mq;have UD:Hid (gR≠pb/\hv.ownBlock≠some gR):=hgR;clear hI hgR
 go_enter func115,ntmps115
 go_wp2_with fail
 go_loopg [8] Z.length (λm iv wr=>∃k:Nat,k+m=Z.length/\iv=az aJ k/\Hid (∃hv',TK w base pb hv (iA P a0 (Z.take k)).1 hv' (hs++(iB P (Z.take k)).map (·.1)) wr))
 case atStart=>exact⟨0,aa,rfl,cQ.out⟩
 case round=>
  obtain⟨k,hkn,rfl,HE⟩:=hrel;clear cQ;by_cases hlt:k<Z.length
  .obtain⟨p,hp⟩:∃p,Z[k]?=some p:=⟨_,bo hlt⟩;obtain⟨h',ly⟩:=HE.out;obtain⟨c0,so,sn,sc,hsv⟩:=HV.out k p hp;have fh:gR<w.heap.size:=lt_of_cell c0;have c1:=(ly.mo.cell (p:=⟨gR,k,none⟩) fh (by
    intro hk;rcases bU.1 hk with e|e
    .exact UD.out.1 e
    .exact UD.out.2 (by simpa using e))).trans c0
   have hcall:=HC.out p (bA hp) wr ly.mo;have htk:Z.take (k+1)=Z.take k++[p]:=by rw[ju,hp];rfl
   have NW:Hid (iA P a0 (Z.take (k+1))=if P p.2 then p else iA P a0 (Z.take k)):=by
    show iA P a0 (Z.take (k+1))=_;rw[htk,apc]
   have NY:Hid (iB P (Z.take (k+1))=iB P (Z.take k)++(if P p.2 then[] else[p])):=by
    show iB P (Z.take (k+1))=_;rw[htk,apd]
   have UE:Hid ((hs++(iB P (Z.take k)).map (·.1)).length<=85000000+k):=by
    show _<=_;have:=J9 (λp:VR=> !P p.2) (Z.take k)
    rw[bX,gG];unfold iB;rw[iE] at this;omega
   have ij:(k:Int)<(Z.length:Int):=aa
   obtain⟨v,r⟩:=p;simp only at*;subst hsv;have jo:Hid (ak 113 #[aG so sn sc] wr λe w''=>e=aL (aD (P r))/\aj wr w''):=hcall
   have oK:Hid (TK w base pb hv (iA P a0 (Z.take k)).1 h' (hs++(iB P (Z.take k)).map (·.1)) wr):=ly
   clear c0 hp ly HE hcall htk;generalize(iA P a0 (Z.take k))=sa at*;generalize(iB P (Z.take k))=hb at*;have aph:Hid (hs++hb.map (·.1)=hs++hb.map (·.1)):=rfl
   generalize hgl:hs++hb.map (·.1)=hl at*
   have HGL:Hid (hs++hb.map (·.1)=hl):=hgl
   clear aph hgl;generalize P r=B at*
   go_wp2_with fail
   refine jo.out.mono ?_;rintro e w5 ⟨rfl,bh⟩;have CG:=oK.out.below bh;have td:Hid (TK w base pb hv sa.1 h' hl w5):=CG;have f0:=bK CG.mq 0;have q0:=cL CG.mq;have q1:=cK CG.mq;clear jo oK c1 bh;have sB:=CG.mo.size;obtain⟨NZ,N0,h1c,rfl⟩:∃a b c,h'=aG a b c:=by
    rcases CG.own.2 with⟨h,_⟩|⟨_,_,_,h,_⟩
    .exact⟨_,_,_,h⟩
    .exact⟨_,_,_,h⟩
   have hll:=UE.out;clear CG;cases B
   .have CH:Hid (hs++(iB P (Z.take (k+1))).map (·.1)=hl++[aG so sn sc]/\iA P a0 (Z.take (k+1))=sa):=by
     refine⟨?_,NW.out⟩;rw[NY.out,jV,<-fL,HGL.out];rfl
    have hnb:(w5.alloc (.cells #[aG so sn sc] 185)).heap[w5.heap.size]?=some (.cells #[aG so sn sc] 185 (0,0)):=heap_alloc_new _ _;have hro:=td.out.own;have nu:(w5.alloc (.cells #[aG so sn sc] 185)).ownsRow base 185 1 (aG NZ N0 h1c) hl.length hl:=bG hro λk hk=>Below.heap_alloc _ _ _ (bn hro k hk).2
    have HP8:Hid (∀w8,(w5.alloc (.cells #[aG so sn sc] 185)).grownBy w8 (Value.slice NZ N0 h1c).ownBlock->w8.heap[pb]?=some (.cells #[sa.1,aG NZ N0 h1c] 187 (0,0))):=λw8 cI=>(cI.block pb (by have:=lt_of_heap td.out.mq;simp;omega) (λe=>td.out.ne e.symm)).trans ((Below.heap_alloc _ _ _ (lt_of_heap td.out.mq)).trans td.out.mq)
    clear hro NW NY UE
    go_wp2_with (at_builtin;refine wpList_append_lies _ rfl (.tmp 22) (.tmp 24) 183 rfl base 185 j0 _ 1 24 underlying183 Cv hy0 hy1 hy2 rfl ah (aG NZ N0 h1c) hl.length hl rfl nu ⟨w5.heap.size,0,none⟩ 1 1 [aG so sn sc] rfl rfl (World.news_of_block (cs:= #[aG so sn sc]) (t:=185) (fr:=(0,0)) hnb) (by simp[Value.oneCell']) ah (by unfold maxLen;omega) aa (by simp;omega) (w5.heap.size+1) af ?_;intro g' cap' w8 dW cI iN sH;have xZ:=HP8.out w8 cI;have f81:=bK xZ 1;have c81:=cK xZ)
    have dw:Hid (∃hv',TK w base pb hv (iA P a0 (Z.take (k+1))).1 hv' (hs++(iB P (Z.take (k+1))).map (·.1)) (w8.setCell ⟨pb,1,none⟩ (aG (some ⟨g',0,none⟩) (hl.length+1) cap'))):=by
     show ∃hv',_;rw[CH.out.1,CH.out.2];exact⟨_,td.out.hole hpw _ _ cI dW iN⟩
    clear dW cI iN xZ HP8 hnb nu td CH
    go_wp2_with fail
    go_roundg (gk-1)
    case measure=>omega
    case rel=>exact⟨k+1,aa,ai,dw.out⟩
   .have CH:Hid (hs++(iB P (Z.take (k+1))).map (·.1)=hl/\iA P a0 (Z.take (k+1))=(aG so sn sc,r)):=by
     refine⟨?_,NW.out⟩;rw[NY.out];simp only[lG,qC];exact HGL.out
    have dw:Hid (∃hv',TK w base pb hv (iA P a0 (Z.take (k+1))).1 hv' (hs++(iB P (Z.take (k+1))).map (·.1)) (w5.setCell ⟨pb,0,none⟩ (aG so sn sc))):=by
     show ∃hv',_;rw[CH.out.1,CH.out.2];exact⟨_,td.out.shell _⟩
    clear td CH NW NY UE q1
    go_wp2_with fail
    go_roundg (gk-1)
    case measure=>omega
    case rel=>exact⟨k+1,aa,ai,dw.out⟩
  .have hk:k=Z.length:=aa
   subst hk;have HF:Hid (∃hv',TK w base pb hv (iA P a0 Z).1 hv' (hs++(iB P Z).map (·.1)) wr):=by
    have:=HE.out;rw[gv] at this;exact this
   clear HE HV HC UD
   go_wp2_with fail
   go_end0
   exact⟨rfl,HF.out⟩
structure Tg where
 k:Nat
 q:Nat
abbrev Tg.ym:Tg:=⟨0,0⟩
abbrev Tg.mq(q:Nat):Tg:=⟨1,q⟩
abbrev Tg.holes(q:Nat):Tg:=⟨2,q⟩
abbrev Tg.ring:Tg:=⟨3,0⟩
abbrev Pg:=List Nat×List (List Nat)
structure lC where
 pb:Nat
 sv:aN
 hv:aN
 hvs:List aN
def ko(p:lC):aN:=aH (some ⟨p.pb,0,none⟩)
structure N4(bs:List Nat)(base:Nat)(T:Nat->Tg)(q:Nat)(ph:lC)(ps:Pg)(wr:aM):Prop where
 blk:wr.heap[ph.pb]?=some (.cells #[ph.sv,ph.hv] 187 (0,0))
 ge:base<=ph.pb
 tp:T ph.pb=.mq q
 sh:wr.ownsRow base 175 1 ph.sv ps.1.length (bC (ps.1.map (bx bs)))
 ts:∀k,ph.sv.ownBlock=some k->T k=.ring
 ho:wr.ownsRow base 185 1 ph.hv ph.hvs.length ph.hvs
 th:∀k,ph.hv.ownBlock=some k->T k=.holes q
 hl:ph.hvs.length=ps.2.length
 hr:∀(i:Nat) v r,ph.hvs[i]?=some v->ps.2[i]?=some r->wr.ownsRow base 175 1 v r.length (bC (r.map (bx bs)))/\∀k,v.ownBlock=some k->T k=.ring
structure PI(bs:List Nat)(base:Nat)(iu:aN)(PS:List Pg)(PH:List lC)(T:Nat->Tg)(wr:aM):Prop where
 row:wr.ownsRow base 165 1 iu PH.length (PH.map ko)
 tl:∀k,iu.ownBlock=some k->T k=.ym
 len:PH.length=PS.length
 pg:∀(q:Nat) ph ps,PH[q]?=some ph->PS[q]?=some ps->N4 bs base T q ph ps wr
theorem N4.keep{T T':Nat->Tg}{q:Nat}{ph:lC}{ps:Pg}(h:N4 bs base T q ph ps wr)(hk:∀b,base<=b->b<wr.heap.size->T b=.mq q\/T b=.ring\/T b=.holes q->w'.heap[b]?=wr.heap[b]?)(hT:∀b,b<wr.heap.size->T' b=T b):N4 bs base T' q ph ps w':=by
 have kf:=lt_of_heap h.blk;refine⟨(hk _ h.ge kf (aS h.tp)).trans h.blk,h.ge,by rw[hT _ kf];exact h.tp,bG h.sh λk e=>hk k (bn h.sh k e).1 (bn h.sh k e).2 (aR (aS (h.ts k e))),λk e=>by rw[hT k (bn h.sh k e).2];exact h.ts k e,bG h.ho λk e=>hk k (bn h.ho k e).1 (bn h.ho k e).2 (aR (aR (h.th k e))),λk e=>by rw[hT k (bn h.ho k e).2];exact h.th k e,h.hl,λi v r h1 h2=>?_⟩
 obtain⟨k1,k2⟩:=h.hr i v r h1 h2;exact⟨bG k1 λk e=>hk k (bn k1 k e).1 (bn k1 k e).2 (aR (aS (k2 k e))),λk e=>by rw[hT k (bn k1 k e).2];exact k2 k e⟩
theorem PI.keep{PS:List Pg}{PH:List lC}{T:Nat->Tg}(h:PI bs base iu PS PH T wr)(hk:∀b,base<=b->b<wr.heap.size->w'.heap[b]?=wr.heap[b]?):PI bs base iu PS PH T w':=
 ⟨bG h.row λk e=>hk k (bn h.row k e).1 (bn h.row k e).2,h.tl,h.len,λq ph ps h1 h2=>(h.pg q ph ps h1 h2).keep (λb hb hz _=>hk b hb hz) (λ_ _=>rfl)⟩
theorem Jh{α β:Type}{a:List α}{b:List β}{p:α×β}(h:(a.zip b)[i]?=some p):a[i]?=some p.1/\b[i]?=some p.2:=by
 rw[Wn] at h;exact h
theorem UF(P:List Nat->Bool)(a:VR):∀(Z:List VR),iA P a Z=a\/(iA P a Z∈Z/\P (iA P a Z).2=true):=by
 intro Z;unfold iA;induction Z generalizing a with
 |nil=>exact aS rfl
 |cons p Z ih=>
  rw[uT];by_cases hp:P p.2=true
  .rw[aV hp];rcases ih p with h|h
   .rw[h];exact aR ⟨af,hp⟩
   .exact aR ⟨bV _ h.1,h.2⟩
  .rw[aP hp];rcases ih a with h|h
   .exact aS h
   .exact aR ⟨bV _ h.1,h.2⟩
structure RV(bs:List Nat)(lo hi:Nat)(Z:List VR)(w:aM):Prop where
 own:∀p∈Z,w.ownsRow lo 175 1 p.1 p.2.length (bC (p.2.map (bx bs)))/\∀k,p.1.ownBlock=some k->k<hi
theorem RV.keep{lo hi:Nat}{Z:List VR}(h:RV bs lo hi Z w)(hk:∀b,lo<=b->b<hi->w'.heap[b]?=w.heap[b]?):RV bs lo hi Z w':=
 ⟨λp hp=>⟨bG (h.own p hp).1 λk e=>hk k (bn (h.own p hp).1 k e).1 ((h.own p hp).2 k e),(h.own p hp).2⟩⟩
theorem PI.push{lvQ:aN}{PS:List Pg}{PH:List lC}{T:Nat->Tg}(h:PI bs base iu PS PH T wr)(P:List Nat->Bool)(Z:List VR)(N lo:Nat)(hv':aN)
  (hlo:wr.heap.size<=lo)(hbase:base<=lo)(hN:lo<=N)(Ey:N<w5.heap.size)(hZ:RV bs lo N Z w6)
  (hold:∀b,base<=b->b<wr.heap.size->T b≠.ym->w6.heap[b]?=wr.heap[b]?)
  (hrow:w6.ownsRow base 165 1 lvQ (PH.length+1) (PH.map ko++[aH (some ⟨N,0,none⟩)]))(hQ:∀k,lvQ.ownBlock=some k->iu.ownBlock=some k\/(N<k/\k<w5.heap.size))
  (ly:w6.heap[N]?=some (.cells #[(iA P (aG none 0 0,[]) Z).1,hv'] 187 (0,0)))(yo:w6.ownsRow base 185 1 hv' ((iB P Z).map (·.1)).length ((iB P Z).map (·.1)))(iK:∀k,hv'.ownBlock=some k->w5.heap.size<=k):
  ∃T',PI bs base lvQ (PS++[((iA P (aG none 0 0,[]) Z).2,(iB P Z).map (·.2))]) (PH++[⟨N,(iA P (aG none 0 0,[]) Z).1,hv',(iB P Z).map (·.1)⟩]) T' w6:=by
 refine⟨λb=>if b<wr.heap.size then T b else if b=N then .mq PH.length else if hv'.ownBlock=some b then .holes PH.length else if lvQ.ownBlock=some b then .ym else .ring,?_⟩
 have N5:∀k,lo<=k->k<N->(λb=>if b<wr.heap.size then T b else if b=N then Tg.mq PH.length else if hv'.ownBlock=some b then .holes PH.length else if lvQ.ownBlock=some b then .ym else .ring) k=Tg.ring:=λk k1 k2=>by
  have e1:¬k<wr.heap.size:=aa
  have e2:¬k=N:=aa
  have e3:¬hv'.ownBlock=some k:=λe=>by have:=iK k e;omega
  have e4:¬lvQ.ownBlock=some k:=λe=>by
   rcases hQ k e with e|e
   .have:=(bn h.row k e).2;omega
   .omega
  simp only[aP e1,aP e2,aP e3,aP e4]
 refine⟨?_,λk hk=>?_,by rw[bX,bX,h.len];rfl,λq ph ps h1 h2=>?_⟩
 .rw[jV,bX];exact hrow
 .rcases hQ k hk with e|⟨e1,e2⟩
  .have hz:=(bn h.row k e).2;simp only[aV hz];exact h.tl k e
  .have a1:¬k<wr.heap.size:=aa
   have a2:¬k=N:=aa
   have a3:¬hv'.ownBlock=some k:=λe=>by have:=iK k e;omega
   simp only[aP a1,aP a2,aP a3,aV hk]
 .by_cases hq:q<PH.length
  .rw[fM hq] at h1;rw[fM (by rw[<-h.len];exact hq)] at h2
   refine(h.pg q ph ps h1 h2).keep (λb hb hz ht=>hold b hb hz (λe=>by rw[e] at ht;simp at ht)) (λb hb=>by simp only[aV hb])
  .have hq2:q=PH.length:=by
    have:=(cG.1 h1).1;simp at this;omega
   subst hq2;have e1:ph=⟨N,(iA P (aG none 0 0,[]) Z).1,hv',(iB P Z).map (·.1)⟩:=by simpa using h1.symm
   have e2:ps=((iA P (aG none 0 0,[]) Z).2,(iB P Z).map (·.2)):=by rw[h.len] at h2;simpa using h2.symm
   subst e1 e2;refine⟨ly,fN hbase hN,?_,?_,λk hk=>?_,yo,λk hk=>?_,af,λi v r h3 h4=>?_⟩
   .have a1:¬N<wr.heap.size:=aa
    simp only[aP a1,lG]
   .rcases UF P (aG none 0 0,[]) Z with e|⟨e,_⟩
    .rw[e];exact World.ownsRow_nil _ _ _ _
    .exact xH (hZ.own _ e).1 hbase
   .rcases UF P (aG none 0 0,[]) Z with e|⟨e,_⟩
    .simp only at hk;rw[e] at hk;simp[Value.ownBlock] at hk
    .exact N5 k (bn (hZ.own _ e).1 k hk).1 ((hZ.own _ e).2 k hk)
   .have hz:=iK k hk;have a1:¬k<wr.heap.size:=aa
    have a2:¬k=N:=aa
    simp only at hk;simp only[aP a1,aP a2,aV hk]
   .simp only at h3 h4;rw[iy] at h3 h4;obtain⟨p,hp,rfl⟩:=rG.1 h3;rw[hp] at h4;have e:p.2=r:=by simpa using h4
    subst e;have hpZ:p∈Z:=(jr.1 (bA hp)).1;obtain⟨k1,k2⟩:=hZ.own p hpZ;exact⟨xH k1 hbase,λk hk=>N5 k (bn k1 k hk).1 (k2 k hk)⟩
theorem PI.more{PS:List Pg}{PH:List lC}{T:Nat->Tg}(h:PI bs base iu PS PH T wr)(Z:List VR)(lo hi q:Nat)(ph:lC)(ps:Pg)(iC:PH[q]?=some ph)(hps:PS[q]?=some ps)(hv':aN)
  (hlo:wr.heap.size<=lo)(hbase:base<=lo)(hhi:hi<=w5.heap.size)(hlh:lo<=hi)(hZ:RV bs lo hi Z w6)
  (hold:∀b,base<=b->b<wr.heap.size->T b≠.mq q->T b≠.holes q->w6.heap[b]?=wr.heap[b]?)
  (ly:w6.heap[ph.pb]?=some (.cells #[ph.sv,hv'] 187 (0,0)))(yo:w6.ownsRow base 185 1 hv' (ph.hvs++Z.map (·.1)).length (ph.hvs++Z.map (·.1)))(iK:∀k,hv'.ownBlock=some k->ph.hv.ownBlock=some k\/w5.heap.size<=k):
  ∃T',PI bs base iu (PS.set q (ps.1,ps.2++Z.map (·.2))) (PH.set q ⟨ph.pb,ph.sv,hv',ph.hvs++Z.map (·.1)⟩) T' w6:=by
 have oO:q<PH.length:=(cG.1 iC).1;have Ji:q<PS.length:=by rw[<-h.len];exact oO
 have hP:=h.pg q ph ps iC hps;have kf:=lt_of_heap hP.blk;refine⟨λb=>if b<wr.heap.size then T b else if hv'.ownBlock=some b then .holes q else .ring,?_⟩
 have told:∀b,b<wr.heap.size->(λb=>if b<wr.heap.size then T b else if hv'.ownBlock=some b then Tg.holes q else .ring) b=T b:=λb hb=>by simp only[aV hb]
 have N5:∀k,lo<=k->k<hi->(λb=>if b<wr.heap.size then T b else if hv'.ownBlock=some b then Tg.holes q else .ring) k=Tg.ring:=λk k1 k2=>by
  have e1:¬k<wr.heap.size:=aa
  have e3:¬hv'.ownBlock=some k:=λe=>by
   rcases iK k e with e|e
   .have:=(bn hP.ho k e).2;omega
   .omega
  simp only[aP e1,aP e3]
 have hmap:(PH.set q ⟨ph.pb,ph.sv,hv',ph.hvs++Z.map (·.1)⟩).map ko=PH.map ko:=by
  rw[WG];have:ko ⟨ph.pb,ph.sv,hv',ph.hvs++Z.map (·.1)⟩=(PH.map ko)[q]'(by simpa using oO):=by
   rw[ahw];have:=(cG.1 iC).2;rw[this];rfl
  rw[this];exact atB _
 refine⟨?_,λk hk=>?_,by simp[h.len],λq' wD ps' h1 h2=>?_⟩
 .rw[hmap,FU];exact bG h.row λk e=>hold k (bn h.row k e).1 (bn h.row k e).2 (by rw[h.tl k e];simp) (by rw[h.tl k e];simp)
 .exact(told k (bn h.row k hk).2).trans (h.tl k hk)
 .by_cases rD:q=q'
  .subst rD;rw[tK oO] at h1;rw[tK Ji] at h2;injection h1 with h1;injection h2 with h2;subst h1 h2;have qf:∀b,base<=b->b<wr.heap.size->T b=.ring->w6.heap[b]?=wr.heap[b]?:=λb hb hz ht=>hold b hb hz (by rw[ht];simp) (by rw[ht];simp)
   refine⟨ly,hP.ge,(told _ kf).trans hP.tp,bG hP.sh λk e=>qf k (bn hP.sh k e).1 (bn hP.sh k e).2 (hP.ts k e),λk e=>(told k (bn hP.sh k e).2).trans (hP.ts k e),yo,λk hk=>?_,by simp[hP.hl],λi v r h3 h4=>?_⟩
   .rcases iK k hk with e|e
    .exact(told k (bn hP.ho k e).2).trans (hP.th k e)
    .have a1:¬k<wr.heap.size:=aa
     simp only at hk;simp only[aP a1,aV hk]
   .simp only at h3 h4;by_cases hi':i<ph.hvs.length
    .rw[fM hi'] at h3;rw[fM (by rw[<-hP.hl];exact hi')] at h4
     obtain⟨k1,k2⟩:=hP.hr i v r h3 h4;exact⟨bG k1 λk e=>qf k (bn k1 k e).1 (bn k1 k e).2 (k2 k e),λk e=>(told k (bn k1 k e).2).trans (k2 k e)⟩
    .rw[nE aa] at h3
     rw[nE (by rw[<-hP.hl];omega),<-hP.hl] at h4
     rw[iy] at h3 h4;obtain⟨p,hp,rfl⟩:=rG.1 h3;rw[hp] at h4;have e:p.2=r:=by simpa using h4
     subst e;obtain⟨k1,k2⟩:=hZ.own p (bA hp);exact⟨xH k1 hbase,λk hk=>N5 k (bn k1 k hk).1 (k2 k hk)⟩
  .rw[wP rD] at h1 h2;refine(h.pg q' wD ps' h1 h2).keep (λb hb hz ht=>hold b hb hz (λe=>?_) (λe=>?_)) told
   .rw[e] at ht;simp at ht;exact rD ht
   .rw[e] at ht;simp at ht;exact rD ht
structure Ch(nx:Nat->Nat)(mk:Nat->Bool)(n i:Nat)(A:List Nat)(j:Nat):Prop where
 head:∀a,A[0]?=some a->a=i
 nil:A=[]->j=i
 step:∀(t a b:Nat),A[t]?=some a->A[t+1]?=some b->b=nx a
 last:∀a,A.getLast?=some a->j=nx a
 nd:A.Nodup
 free:∀a∈A,a<n/\mk a=false
theorem Ch.snoc{A:List Nat}(h:Ch nx mk n i A j)(hj:j<n)(hm:(mk j||A.contains j)=false):Ch nx mk n i (A++[j]) (nx j):=by
 have mf:mk j=false:=by revert hm;cases mk j<;>simp
 have hm2:j∉A:=by
  intro hk;rw[wW.2 hk] at hm;simp at hm
 refine⟨λa ha=>?_,λh0=>by simp at h0,λt a b ha hb=>?_,λa ha=>?_,?_,λa ha=>?_⟩
 .cases A with
  |nil=>
   have:j=a:=by simpa using ha
   rw[<-this];exact h.nil rfl
  |cons x r=>exact h.head a (by simpa using ha)
 .by_cases ht:t+1<A.length
  .rw[fM aa] at ha
   rw[fM ht] at hb;exact h.step t a b ha hb
  .have ht2:t+1=A.length:=by
    have:=(cG.1 hb).1;simp at this;omega
   have e1:b=j:=by
    rw[ht2] at hb;simpa using hb.symm
   rw[e1];refine h.last a ?_;rw[fM aa] at ha
   rw[nX,<-ht2];exact ha
 .have:a=j:=by simpa using ha.symm
  rw[this]
 .rw[Pq];refine⟨h.nd,af,λa ha b hb=>?_⟩
  rw[dB.1 hb];intro e;exact hm2 (e▸ha)
 .rcases dF.1 ha with ha|ha
  .exact h.free a ha
  .rw[dB.1 ha];exact⟨hj,mf⟩
theorem adZ(hnx:∀j,j<n->nx j<n):∀(m:Nat)(A:List Nat)(j:Nat),Ch nx mk n i A j->j<n->jR n mk A<=m->∃j',Ch nx mk n i (ki nx mk m A j) j'/\j'<n/\(mk j'||(ki nx mk m A j).contains j')=true
 |0,A,j,h,hj,hl=>by
  refine⟨j,h,hj,?_⟩;show(mk j||A.contains j)=true
  cases hm:(mk j||A.contains j)
  .have:=NI hj hm;omega
  .rfl
 |m+1,A,j,h,hj,hl=>by
  show ∃j',Ch nx mk n i (if mk j||A.contains j then A else ki nx mk m (A++[j]) (nx j)) j'/\j'<n/\(mk j'||(if mk j||A.contains j then A else ki nx mk m (A++[j]) (nx j)).contains j')=true
  cases hm:(mk j||A.contains j)
  .have:=NI hj hm;simp only[mO,nY];exact adZ hnx m (A++[j]) (nx j) (h.snoc hj hm) (hnx j hj) aa
  .simp only[lG];exact⟨j,h,hj,hm⟩
structure qu(nx:Nat->Nat)(mk:Nat->Bool)(n i:Nat)(L:List Nat):Prop where
 head:L[0]?=some i
 step:∀(t a b:Nat),L[t]?=some a->L[t+1]?=some b->b=nx a
 back:∀a,L.getLast?=some a->nx a=i
 nd:L.Nodup
 free:∀a∈L,a<n/\mk a=false
theorem apj(hnx:∀j,j<n->nx j<n)(hinj:∀a b,a<n->b<n->nx a=nx b->a=b)(hmk:∀j,j<n->mk (nx j)=mk j)(hi:i<n)(hm:mk i=false):qu nx mk n i (ki nx mk n [] i):=by
 have h0:Ch nx mk n i [] i:=⟨λa h=>by simp at h,λ_=>rfl,λt a b h=>by simp at h,λa h=>by simp at h,List.nodup_nil,λa h=>by simp at h⟩
 obtain⟨j,hc,hj,hjm⟩:=adZ hnx n [] i h0 hi (yi _ _ _);generalize ki nx mk n [] i=L at*;have hne:L≠[]:=by
  intro h;have:=hc.nil h;rw[h,this,hm] at hjm;simp at hjm
 have hlen:0<L.length:=jk.2 hne;obtain⟨z,hz⟩:∃z,L.getLast?=some z:=⟨_,WI hne⟩;have UG:=hc.last z hz;have N6:z∈L:=rH hz;have Ng:=hc.free z N6;have hjL:j∈L:=by
  have:mk j=false:=by rw[UG,hmk z Ng.1];exact Ng.2
  rw[this] at hjm;exact wW.1 (by simpa using hjm)
 have Mm:j=i:=by
  obtain⟨t,ht,CJ⟩:=jG.1 hjL;have ad0:L[t]?=some j:=by rw[bo ht,CJ]
  cases t with
  |zero=>exact hc.head j ad0
  |succ t=>
   exfalso;obtain⟨a,ha⟩:∃a,L[t]?=some a:=⟨_,bo aa⟩
   have hja:=hc.step t a j ha ad0;have UH:=bA ha;have ez:z=a:=hinj z a Ng.1 (hc.free a UH).1 (UG.symm.trans hja);rw[nX] at hz;have e1:=(cG.1 hz).2;have e2:=(cG.1 ha).2;have h1:=aht hc.nd (L.length-1) aa
   have h2:=aht hc.nd t aa
   rw[e1] at h1;rw[e2,<-ez] at h2;omega
 refine⟨?_,hc.step,λa ha=>?_,hc.nd,hc.free⟩
 .obtain⟨a,ha⟩:∃a,L[0]?=some a:=⟨_,bo hlen⟩;rw[ha,hc.head a ha]
 .rw[ha] at hz;injection hz with hz;rw[hz,<-UG,Mm]
theorem qu.ad1(h:qu nx mk n i L)(hj:j∈L):nx j∈L:=by
 obtain⟨t,ht,CJ⟩:=jG.1 hj;by_cases hl:t+1<L.length
 .have:=h.step t j L[t+1] (by rw[bo ht,CJ]) (bo hl)
  rw[<-this];exact iw hl
 .have:nx j=i:=h.back j (by rw[nX,show L.length-1=t by omega,bo ht,CJ])
  rw[this];exact bA h.head
theorem qu.apm(h:qu nx mk n i L)(hinj:∀a b,a<n->b<n->nx a=nx b->a=b)(hjn:j<n)(hj:nx j∈L):j∈L:=by
 obtain⟨t,ht,CJ⟩:=jG.1 hj;cases t with
 |zero=>
  have hlen:0<L.length:=ht;obtain⟨z,hz⟩:∃z,L.getLast?=some z:=⟨_,WI (jk.1 hlen)⟩;have hzi:=h.back z hz;have hi:L[0]?=some (nx j):=by rw[bo ht,CJ]
  rw[h.head] at hi;injection hi with hi;have N6:=rH hz;rw[hinj j z hjn (h.free z N6).1 (hi.symm.trans hzi.symm)];exact N6
 |succ t=>
  have:=h.step t L[t] (nx j) (bo aa) (by rw[bo ht,CJ])
  have hm:L[t]∈L:=iw _;rw[hinj j L[t] hjn (h.free _ hm).1 this];exact hm
theorem qu.closed(h:qu nx mk n i L)(hinj:∀a b,a<n->b<n->nx a=nx b->a=b)(hmk:∀j,j<n->mk (nx j)=mk j):∀j,j<n->(mk (nx j)||L.contains (nx j))=(mk j||L.contains j):=by
 intro j hj;rw[hmk j hj];congr 1;cases h1:L.contains j
 .cases h2:L.contains (nx j)
  .rfl
  .rw[wW.2 (h.apm hinj hj (wW.1 h2))] at h1;cases h1
 .exact wW.2 (h.ad1 (wW.1 h1))
end
section
open Go.RowKit
open Ge
theorem N7{P:Nat->Bool}:∀(l:List Nat)(k:Nat),(gZ P l k= -1/\∀x∈l,P x=false)\/∃(R x:Nat),gZ P l k=((k+R:Nat):Int)/\l[R]?=some x/\P x=true/\∀(t y:Nat),t<R->l[t]?=some y->P y=false
 |[],_=>aS ⟨rfl,λx h=>by simp at h⟩
 |a::l,k=>by
  show((if P a then(k:Int) else gZ P l (k+1))= -1/\_)\/∃(R x:Nat),(if P a then(k:Int) else gZ P l (k+1))=((k+R:Nat):Int)/\_
  cases ha:P a
  .simp only[mO,nY];rcases N7 (P:=P) l (k+1) with⟨h1,h2⟩|⟨R,x,h1,h2,h3,h4⟩
   .refine aS ⟨h1,λx hx=>?_⟩
    rcases bU.1 hx with e|hx
    .rw[e];exact ha
    .exact h2 x hx
   .refine aR ⟨R+1,x,by rw[h1];congr 1;omega,by simpa using h2,h3,λt y ht hy=>?_⟩
    cases t with
    |zero=>
     have:a=y:=by simpa using hy
     rw[<-this];exact ha
    |succ t=>exact h4 t y aa (by simpa using hy)
  .simp only[lG];exact aR ⟨0,a,rfl,rfl,ha,λt y ht=>aa⟩
theorem Fe(Xs:List PB)(O:List Nat)(s:Nat):(jg Xs O s<0/\∀b∈O,(xi Xs b).f≠(xi Xs s).t)\/∃(R x:Nat),jg Xs O s=(R:Int)/\O[R]?=some x/\(xi Xs x).f=(xi Xs s).t/\∀(t y:Nat),t<R->O[t]?=some y->(xi Xs y).f≠(xi Xs s).t:=by
 have e:jg Xs O s=gZ (nB Xs s) O 0:=rfl;rw[e];have cp:∀b v,nB Xs s b=v->v=decide ((xi Xs s).t=(xi Xs b).f):=λb v h=>h.symm
 rcases N7 (P:=nB Xs s) O 0 with⟨h1,h2⟩|⟨R,x,h1,h2,h3,h4⟩
 .refine aS ⟨aa,λb hb hk=>?_⟩
  have:=cp b _ (h2 b hb);rw[hk] at this;simp at this
 .refine aR ⟨R,x,by rw[h1];simp,h2,?_,λt y ht hy hk=>?_⟩
  .have:=cp x _ h3;exact(ia this.symm).symm
  .have:=cp y _ (h4 t y ht hy);rw[hk] at this;simp at this
section
variable{rg:List (List Pt)}{l:List Nd}{r:Int}{Xs:List PB}
abbrev fK(Xs:List PB)(i:Nat):Pt:=Ga.wv (xi Xs i).f (xi Xs i).t
theorem SX.ne(h:SX rg l r Xs){i:Nat}(hi:i<Xs.length):fK Xs i≠(0,0):=(Ga.iP h.nl (h.sd hi).pc).1
theorem SX.fl(h:SX rg l r Xs){i:Nat}(hi:i<Xs.length):(xi Xs i).f∈l/\(xi Xs i).t∈l:=(Ga.iP h.nl (h.sd hi).pc).2
theorem SX.straight(h:SX rg l r Xs){i j:Nat}(hi:i<Xs.length)(hj:j<Xs.length)(hc:(xi Xs j).f=(xi Xs i).t)(hx:gA (xi Xs j) (xi Xs i)=0):Ga.bg (fK Xs i) (fK Xs j)=true:=by
 have si:=h.sd hi;have sj:=h.sd hj;rw[hc] at sj;rw[zR] at hx;have hx':=yL.1 hx;have:=si.straight h.nl sj (by
  have e:=Ga.dh (Ga.wv (xi Xs j).f (xi Xs j).t) (Ga.wv (xi Xs i).f (xi Xs i).t);rw[hc] at e hx';omega)
 unfold fK;rw[hc];exact this
def lU(Xs:List PB)(A:List Nat):Prop:=∀(t a b:Nat),A[t]?=some a->A[t+1]?=some b->(xi Xs b).f=(xi Xs a).t
theorem lU.tail{a:Nat}{A:List Nat}(h:lU Xs (a::A)):lU Xs A:=λt x y hx hy=>h (t+1) x y (by simpa using hx) (by simpa using hy)
theorem lU.drop{A:List Nat}(h:lU Xs A)(R:Nat):lU Xs (A.drop R):=λt x y hx hy=>h (R+t) x y (by rw[<-Py];exact hx) (by rw[agY,<-Py];exact hy)
theorem lU.take{A:List Nat}(h:lU Xs A)(R:Nat):lU Xs (A.take R):=λt x y hx hy=>by
 rw[lH] at hx hy;split at hx
 .split at hy
  .exact h t x y hx hy
  .cases hy
 .cases hx
theorem apo{b s:Nat}{A:List Nat}(h:tI Xs b (s::A)=[]):gA (xi Xs s) (xi Xs b)=0/\tI Xs s A=[]:=by
 have h':(if gA (xi Xs s) (xi Xs b)=0 then[] else[s])++tI Xs s A=[]:=h
 obtain⟨h1,h2⟩:=List.append_eq_nil_iff.1 h';refine⟨?_,h2⟩;apply iV;intro hk;rw[aP hk] at h1;cases h1
theorem SX.MH(h:SX rg l r Xs){i:Nat}(hi:i<Xs.length):(Ga.bz (fK Xs i)->lt (aU (xi Xs i).f) (aU (xi Xs i).t))/\(¬Ga.bz (fK Xs i)->lt (aU (xi Xs i).t) (aU (xi Xs i).f)):=by
 obtain⟨h1,h2⟩:=h.fl hi;have c1:=h.nl.can _ h1;have c2:=h.nl.can _ h2;refine⟨λhr=>(Ga.pA c1 c2).2 hr,λhr=>(Ga.pA c2 c1).2 ?_⟩
 rw[Ga.gu (xi Xs i).f];exact Ga.ie (h.ne hi) hr
theorem SX.mono(h:SX rg l r Xs):∀(A:List Nat)(b:Nat),b<Xs.length->(∀a∈A,a<Xs.length)->lU Xs (b::A)->tI Xs b A=[]->A≠[]->∀z,A.getLast?=some z->(Ga.bz (fK Xs b)->lt (aU (xi Xs b).t) (aU (xi Xs z).t))/\(¬Ga.bz (fK Xs b)->lt (aU (xi Xs z).t) (aU (xi Xs b).t))
 |[],_,_,_,_,_,h0,_,_=>absurd rfl h0
 |s::A,b,hb,hA,hc,ht,_,z,hz=>by
  obtain⟨h1,h2⟩:=apo ht;have hs:=hA s af
  have hcs:(xi Xs s).f=(xi Xs b).t:=hc 0 b s rfl rfl;have hst:=h.straight hb hs hcs h1;have sK:=Ga.Ce hst;obtain⟨l1,l2⟩:=h.MH hs;rw[hcs] at l1 l2;have can:∀j,j<Xs.length->Ge.Can (xi Xs j).t:=λj hj=>h.nl.can _ (h.fl hj).2
  cases A with
  |nil=>
   have:s=z:=by simpa using hz
   rw[<-this];exact⟨λhr=>l1 (sK.1 hr),λhr=>l2 (λk=>hr (sK.2 k))⟩
  |cons s' A'=>
   have hzl:z<Xs.length:=hA z (rH hz);have ih:=h.mono (s'::A') s hs (λa ha=>hA a (bV _ ha)) hc.tail h2 af z (by simpa using hz)
   exact⟨λhr=>lt_trans (eA (can b hb)) (eA (can s hs)) (eA (can z hzl)) (l1 (sK.1 hr)) (ih.1 (sK.1 hr)),λhr=>lt_trans (eA (can z hzl)) (eA (can s hs)) (eA (can b hb)) (ih.2 λk=>hr (sK.2 k)) (l2 λk=>hr (sK.2 k))⟩
theorem SX.apq(h:SX rg l r Xs){D:List Nat}(hD:D≠[])(hl:∀a∈D,a<Xs.length)(hc:lU Xs D)(hcl:∀a z,D[0]?=some a->D.getLast?=some z->(xi Xs a).f=(xi Xs z).t):eJ Xs D≠[]:=by
 intro ht;obtain⟨z,hz⟩:∃z,D.getLast?=some z:=⟨_,WI hD⟩;have hzl:D.getLastD 0=z:=by rw[nG,hz];rfl
 have hzb:=hl z (rH hz);unfold eJ at ht;rw[hzl] at ht;have hcz:lU Xs (z::D):=λt a b ha hb=>by
  cases t with
  |zero=>
   have e:a=z:=by simpa using ha.symm
   rw[e];exact hcl b z (by simpa using hb) hz
  |succ t=>exact hc t a b (by simpa using ha) (by simpa using hb)
 obtain⟨m1,m2⟩:=h.mono D z hzb hl hcz ht hD z hz;by_cases hr:Ga.bz (fK Xs z)
 .exact lt_irrefl _ (m1 hr)
 .exact lt_irrefl _ (m2 hr)
structure OC(Xs:List PB)(L:List Nat)(n0:Nd)(k:Nat)(O:List Nat):Prop where
 conn:lU Xs O
 hd:∀a,O[0]?=some a->(xi Xs a).f=n0
 lst:∀a s,O.getLast?=some a->L[k]?=some s->(xi Xs s).f=(xi Xs a).t
 nil:O=[]->∀s,L[k]?=some s->(xi Xs s).f=n0
 new:∀a,O.getLast?=some a->∀b∈O,(xi Xs b).f≠(xi Xs a).t
theorem OC.snoc{L:List Nat}{n0:Nd}{k s:Nat}{O:List Nat}(h:OC Xs L n0 k O)(hs:L[k]?=some s):lU Xs (O++[s])/\∀a,(O++[s])[0]?=some a->(xi Xs a).f=n0:=by
 refine⟨λt a b ha hb=>?_,λa ha=>?_⟩
 .by_cases ht:t+1<O.length
  .rw[fM aa] at ha
   rw[fM ht] at hb;exact h.conn t a b ha hb
  .have ht2:t+1=O.length:=by
    have:=(cG.1 hb).1;simp at this;omega
   have e1:b=s:=by
    rw[ht2] at hb;simpa using hb.symm
   rw[e1];refine h.lst a s ?_ hs;rw[fM aa] at ha
   rw[nX,<-ht2];exact ha
 .cases O with
  |nil=>
   have:s=a:=by simpa using ha
   rw[<-this];exact h.nil rfl s hs
  |cons x rr=>exact h.hd a (by simpa using ha)
theorem OC.step{L:List Nat}{n0:Nd}{k s:Nat}{O:List Nat}{Rs:List (List Nat)}(h:OC Xs L n0 k O)(hs:L[k]?=some s)(hL:lU Xs L):OC Xs L n0 (k+1) (kj Xs (O,Rs) s).1:=by
 obtain⟨hc,hh⟩:=h.snoc hs;have hnx:∀s',L[k+1]?=some s'->(xi Xs s').f=(xi Xs s).t:=λs' hs'=>hL k s s' hs hs'
 unfold kj;simp only;rcases Fe Xs (O++[s]) s with⟨h1,h2⟩|⟨R,x,h1,h2,h3,h4⟩
 .rw[aP aa]
  have hlast:∀a,(O++[s]).getLast?=some a->a=s:=λa ha=>by simpa using ha.symm
  refine⟨hc,hh,λa s' ha hs'=>?_,λh0=>by simp at h0,λa ha b hb=>?_⟩
  .rw[hlast a ha];exact hnx s' hs'
  .rw[hlast a ha];exact h2 b hb
 .rw[aV aa,h1,J4]
  have xP:R<(O++[s]).length:=(cG.1 h2).1;have hlast:∀a,((O++[s]).take R).getLast?=some a->(xi Xs s).t=(xi Xs a).t/\0<R:=λa ha=>by
   rw[nX,lH,iE] at ha;split at ha
   .rename_i hlt
    have CF:0<R:=aa
    refine⟨?_,CF⟩;have e:min R (O++[s]).length-1=R-1:=aa
    rw[e] at ha;have:=hc (R-1) a x ha (by rw[show R-1+1=R by omega];exact h2)
    rw[<-h3,this]
   .cases ha
  refine⟨hc.take R,λa ha=>?_,λa s' ha hs'=>?_,λh0 s' hs'=>?_,λa ha b hb=>?_⟩
  .rw[lH] at ha;split at ha
   .exact hh a ha
   .cases ha
  .rw[hnx s' hs',(hlast a ha).1]
  .have CF:R=0:=by
    have:=aZ List.length h0;rw[iE] at this;simp at this;simp at xP;omega
   rw[CF] at h2;rw[hnx s' hs',<-h3];exact hh x h2
  .rw[<-(hlast a ha).1];obtain⟨t,ht,Mg⟩:=jG.1 hb;rw[iE] at ht;refine h4 t b aa ?_
   rw[<-Mg,List.getElem_take,bo]
theorem OC.all{L:List Nat}{n0:Nd}(hL:lU Xs L)(h0:∀s,L[0]?=some s->(xi Xs s).f=n0):∀k,k<=L.length->OC Xs L n0 k (cU Xs (L.take k)).1
 |0,_=>⟨λt a b h=>by simp[cU] at h,λa h=>by simp[cU] at h,λa s h=>by simp[cU] at h,λ_ s hs=>h0 s hs,λa h=>by simp[cU] at h⟩
 |k+1,hk=>by
  obtain⟨s,hs⟩:∃s,L[k]?=some s:=⟨_,bo aa⟩
  have htk:L.take (k+1)=L.take k++[s]:=by rw[ju,hs];rfl
  rw[htk,Ab];have:=(OC.all hL h0 k aa).step (Rs:=(cU Xs (L.take k)).2) hs hL
  exact this
theorem SX.parts(h:SX rg l r Xs){L:List Nat}{n0:Nd}(hL:lU Xs L)(hl:∀a∈L,a<Xs.length)(h0:∀s,L[0]?=some s->(xi Xs s).f=n0)(k s:Nat)(hs:L[k]?=some s)(hst:0<=jg Xs ((cU Xs (L.take k)).1++[s]) s):
  eJ Xs (((cU Xs (L.take k)).1++[s]).drop (jg Xs ((cU Xs (L.take k)).1++[s]) s).toNat)≠[]:=by
 have hk:k<L.length:=(cG.1 hs).1;have wE:=OC.all hL h0 k aa
 obtain⟨hc,hh⟩:=wE.snoc hs;rcases Fe Xs ((cU Xs (L.take k)).1++[s]) s with⟨h1,_⟩|⟨R,x,h1,h2,h3,_⟩
 .omega
 .rw[h1,J4];have xP:R<((cU Xs (L.take k)).1++[s]).length:=(cG.1 h2).1;refine h.apq ?_ ?_ (hc.drop R) ?_
  .intro hn;have:=aZ List.length hn;rw[rJ] at this;simp only[ib] at this;omega
  .intro a ha;rcases dF.1 (WH ha) with ha|ha
   .exact hl a (NR Xs L k a ha)
   .rw[dB.1 ha];exact hl s (bA hs)
  .intro a z ha hz;rw[Py,rM,h2] at ha;injection ha with ha;rw[<-ha,h3];have:z=s:=by
    rw[List.getLast?_drop,aP aa] at hz
    simpa using hz.symm
   rw[this]
end
theorem ad3{cf:Nat->Nat->Int}:∀(l:List Nat)(m:Nat),(∀x∈l,¬cf x m<0)->cN cf l m=m
 |[],_,_=>rfl
 |b::l,m,h=>by
  show cN cf l (if cf b m<0 then b else m)=m
  rw[aP (h b af)]
  exact ad3 l m λx hx=>h x (bV _ hx)
theorem apr(r:Int):takes r 0=false:=by
 unfold takes;split
 .rfl
 .split
  .rfl
  .split<;>rfl
section
variable{rg:List (List Pt)}{l:List Nd}{r:Int}{Xs:List PB}
theorem SX.UI(h:SX rg l r Xs):∀(A:List Nat)(b c:Nat),b<Xs.length->(∀a∈A,a<Xs.length)->lU Xs (b::A)->Ga.bg (fK Xs c) (fK Xs b)=true->Ga.bg (fK Xs ((tI Xs b A).getLastD c)) (fK Xs (A.getLastD b))=true
 |[],b,c,_,_,_,hs=>hs
 |s::A,b,c,hb,hA,hc,hs=>by
  have hsl:=hA s af
  have hcs:(xi Xs s).f=(xi Xs b).t:=hc 0 b s rfl rfl;have ht:tI Xs b (s::A)=(if gA (xi Xs s) (xi Xs b)=0 then[] else[s])++tI Xs s A:=rfl
  have hlast:(s::A).getLastD b=A.getLastD s:=by cases A<;>rfl
  rw[ht,hlast];by_cases hx:gA (xi Xs s) (xi Xs b)=0
  .rw[aV hx,tE];exact h.UI A s c hsl (λa ha=>hA a (bV _ ha)) hc.tail (Ga.SC hs (h.straight hb hsl hcs hx))
  .rw[aP hx];have e:([s]++tI Xs s A).getLastD c=(tI Xs s A).getLastD s:=by
    cases tI Xs s A<;>rfl
   rw[e];have UJ:Ga.bg (fK Xs s) (fK Xs s)=true:=(Ga.dm _ _).2 ⟨by unfold cr;grind,Ga.dC (h.ne hsl)⟩
   exact h.UI A s s hsl (λa ha=>hA a (bV _ ha)) hc.tail UJ
theorem SX.shell(h:SX rg l r Xs){hh:Nat}{tl:List Nat}(hl:∀a∈hh::tl,a<Xs.length)(hc:lU Xs (hh::tl))(UK:∀b∈tl,¬cE (xi Xs b).f (xi Xs hh).f<0)(hturn:0<cr (fK Xs (tl.getLastD hh)) (fK Xs hh)):dA Xs (eF Xs (hh::tl))=true:=by
 have Jj:=hl hh af
 have hlast:(hh::tl).getLastD 0=tl.getLastD hh:=by cases tl<;>rfl
 have hx:gA (xi Xs hh) (xi Xs (tl.getLastD hh))≠0:=by
  rw[zR];intro hk;have:=yL.1 hk;have e:=Ga.dh (fK Xs (tl.getLastD hh)) (fK Xs hh);unfold fK at*;omega
 have hT:eJ Xs (hh::tl)=hh::tI Xs hh tl:=by
  unfold eJ;rw[hlast];show(if gA (xi Xs hh) (xi Xs (tl.getLastD hh))=0 then[] else[hh])++tI Xs hh tl=_
  rw[aP hx];rfl
 have hle:mj Xs (hh::tI Xs hh tl)=hh:=ad3 _ _ λx hx=>UK x (Fb Xs tl hh x hx)
 have UL:wm Xs (hh::tI Xs hh tl)=0:=by
  unfold wm;rw[hle];have:iz (λj=>j == hh) (hh::tI Xs hh tl)=0:=by
   show(if(hh == hh)=true then((0:Nat):Int) else _)=0
   rw[aV af]
   rfl
  rw[this];rfl
 have aps:eF Xs (hh::tl)=hh::tI Xs hh tl:=by
  unfold eF;rw[hT,UL];simp
 rw[aps];unfold dA;refine iD ?_;have e1:(hh::tI Xs hh tl).getLastD 0=(tI Xs hh tl).getLastD hh:=by cases tI Xs hh tl<;>rfl
 rw[e1,show(hh::tI Xs hh tl).headD 0=hh from rfl,zR]
 have UJ:Ga.bg (fK Xs hh) (fK Xs hh)=true:=(Ga.dm _ _).2 ⟨by unfold cr;grind,Ga.dC (h.ne Jj)⟩
 have hsm:=h.UI tl hh hh Jj (λa ha=>hl a (bV _ ha)) hc UJ
 have k:=Ga.ux hsm (fK Xs hh);have s1:=Ga.dh (fK Xs hh) (fK Xs ((tI Xs hh tl).getLastD hh));have s2:=Ga.dh (fK Xs hh) (fK Xs (tl.getLastD hh));have hpos:0<cr (fK Xs ((tI Xs hh tl).getLastD hh)) (fK Xs hh):=aa
 rw[nV hpos];decide
structure Wk(Xs:List PB)(i:Nat)(L:List Nat):Prop where
 lt:∀a∈L,a<Xs.length
 head:L[0]?=some i
 conn:lU Xs L
 Qk:∀a∈L,dM Xs a∈L
 back:∀a,L.getLast?=some a->(xi Xs a).t=(xi Xs i).f
 least:∀a∈L,¬cE (xi Xs a).f (xi Xs i).f<0
def Ad(Xs:List PB)(x y:Nat):Bool:=Ga.nz (fK Xs x)&&Ga.nz (fK Xs y)&&Ga.bf (fK Xs y) (fK Xs x)
theorem apt(x y z:Nat)(h1:Ad Xs x y=true)(h2:Ad Xs y z=true):Ad Xs x z=true:=by
 unfold Ad Ga.nz at*;simp only[tH,AL] at*;exact⟨⟨h1.1.1,h2.1.2⟩,Ga.iY h2.1.2 h1.1.2 h1.1.1 h2.2 h1.2⟩
theorem apu(x:Nat):Ad Xs x x=false:=by unfold Ad;rw[Ga.tT];simp
theorem SX.ad4(h:SX rg l r Xs)(hB:BD Xs){i:Nat}{L:List Nat}(hW:Wk Xs i L)(hout:takes r (Ga.PP (aT rg) (xi Xs i).f)=false):∃ring∈cJ Xs L,dA Xs ring=true:=by
 have yq:i∈L:=bA hW.head;have hi:=hW.lt i yq;obtain⟨hh,hhL,hhT,hmax⟩:=Ga.SL (lt:=Ad Xs) (apt (Xs:=Xs)) (apu (Xs:=Xs)) (λa=>decide ((xi Xs a).f=(xi Xs i).f)) L _ i yq af (aY _)
 have yr:(xi Xs hh).f=(xi Xs i).f:=ia hhT;have CK:=hW.lt hh hhL;have hmin:∀y∈L,(xi Xs y).f=(xi Xs i).f->Ga.bf (fK Xs y) (fK Xs hh)=false:=λy hy Jf=>by
  have:=hmax y hy (iD Jf);cases hk:Ga.bf (fK Xs y) (fK Xs hh)
  .rfl
  .unfold Ad Ga.nz at this;rw[hk,iD (h.ne CK),iD (h.ne (hW.lt y hy))] at this;cases this
 obtain⟨t0,ht0,hht⟩:=jG.1 hhL;have UM:L[t0]?=some hh:=by rw[bo ht0,hht]
 have h0:∀s,L[0]?=some s->(xi Xs s).f=(xi Xs i).f:=λs hs=>by
  rw[hW.head] at hs;injection hs with hs;rw[hs]
 have hne:∀j,j<Xs.length->(xi Xs j).f≠(xi Xs j).t:=λj hj e=>by
  have:=h.ne hj;unfold fK at this;rw[<-e] at this;exact this (by unfold Ga.wv;simp)
 have hstep:∀k,k<L.length->∀s,L[k]?=some s->cU Xs (L.take (k+1))=kj Xs (cU Xs (L.take k)) s:=λk hk s hs=>by
  have htk:L.take (k+1)=L.take k++[s]:=by rw[ju,hs];rfl
  rw[htk,Ab]
 have apx:∀p s,∀ring∈(p:List Nat×List (List Nat)).2,ring∈(kj Xs p s).2:=λp s ring hr=>by
  unfold kj;split
  .exact Ap _ hr
  .exact hr
 have key:∀d,t0+1+d<=L.length->(∃ring∈(cU Xs (L.take (t0+1+d))).2,dA Xs ring=true)\/((∃tl,(cU Xs (L.take (t0+1+d))).1=hh::tl/\∀b∈tl,(xi Xs b).f≠(xi Xs i).f)/\∀z,L[t0+d]?=some z->(xi Xs z).t≠(xi Xs i).f):=by
  intro d;induction d with
  |zero=>
   intro _;right;have wE:=OC.all hW.conn h0 t0 aa
   have hO:(cU Xs (L.take t0)).1=[]:=by
    apply iV;intro hk;obtain⟨z,hz⟩:∃z,(cU Xs (L.take t0)).1.getLast?=some z:=⟨_,WI hk⟩;obtain⟨a,ha⟩:∃a,(cU Xs (L.take t0)).1[0]?=some a:=⟨_,bo (jk.2 hk)⟩;have e1:=wE.lst z hh hz UM;exact wE.new z hz a (bA ha) (by rw[wE.hd a ha,<-e1,yr])
   rw[rM,hstep t0 ht0 hh UM];have hto:(xi Xs hh).t≠(xi Xs i).f:=λe=>hne hh CK (yr.trans e.symm)
   refine⟨⟨[],?_,λb hb=>by simp at hb⟩,λz hz=>?_⟩
   .unfold kj;rw[hO];rcases Fe Xs ([]++[hh]) hh with⟨h1,_⟩|⟨R,x,h1,h2,h3,_⟩
    .rw[aP aa]
     rfl
    .exfalso;have:x=hh:=by
      have:=bA h2;simpa using this
     rw[this] at h3;exact hne hh CK h3
   .rw[rM,UM] at hz;injection hz with hz;rw[<-hz];exact hto
  |succ d ih=>
   intro hd;have hk:t0+1+d<L.length:=aa
   obtain⟨s,hs⟩:∃s,L[t0+1+d]?=some s:=⟨_,bo hk⟩;have hsL:=bA hs;have hsl:=hW.lt s hsL;rw[show t0+1+(d+1)=t0+1+d+1 by omega,hstep _ hk s hs]
   rcases ih aa with⟨ring,hr1,hr2⟩|⟨⟨tl,hO,htl⟩,hz⟩
   .exact aS ⟨ring,apx _ s ring hr1,hr2⟩
   .have wE:=OC.all hW.conn h0 (t0+1+d) aa
    obtain⟨hcs,_⟩:=wE.snoc hs;rw[hO] at wE hcs;have DF:∀b∈hh::tl,b∈L:=λb hb=>NR Xs L (t0+1+d) b (by rw[hO];exact hb)
    have UN:(xi Xs s).f≠(xi Xs i).f:=by
     obtain⟨a,ha⟩:∃a,L[t0+d]?=some a:=⟨_,bo aa⟩
     rw[hW.conn (t0+d) a s ha (by rw[show t0+d+1=t0+1+d by omega];exact hs)]
     exact hz a ha
    have hzs:∀z,L[t0+(d+1)]?=some z->z=s:=λz hz'=>by
     rw[show t0+(d+1)=t0+1+d by omega,hs] at hz'
     injection hz' with hz';exact hz'.symm
    by_cases hst:(xi Xs s).t=(xi Xs i).f
    ·
     left;refine⟨eF Xs (hh::(tl++[s])),?_,?_⟩
     .unfold kj;rw[hO];rcases Fe Xs (hh::tl++[s]) s with⟨h1,h2⟩|⟨R,x,h1,h2,h3,h4⟩
      .exfalso;exact h2 hh af (yr.trans hst.symm)
      .have CF:R=0:=by
        apply iV;intro hk;exact h4 0 hh aa rfl (yr.trans hst.symm)
       rw[aV aa,h1,CF]
       simp
     .refine h.shell (λa ha=>?_) hcs (λb hb=>?_) ?_
      .have:a∈(hh::tl)\/a=s:=by simpa[or_assoc] using ha
       rcases this with ha|ha
       .exact hW.lt a (DF a ha)
       .rw[ha];exact hsl
      .have:b∈tl\/b=s:=by simpa using hb
       rw[yr];rcases this with hb|hb
       .exact hW.least b (DF b (bV _ hb))
       .rw[hb];exact hW.least s hsL
      .have e:(tl++[s]).getLastD hh=s:=af
       rw[e];obtain⟨n1,n2,n3⟩:=h.next hB hsl
       have hnL:=hW.Qk s hsL;have yt:=h.sd hsl;have sdn:=h.sd n1;have sdh:=h.sd CK;rw[hst] at yt;rw[n2,hst] at sdn;rw[yr] at sdh;have hris:Ga.bz (Ga.wv (xi Xs i).f (xi Xs s).f):=by
        have c1:=h.nl.can _ (h.fl hi).1;have c2:=h.nl.can _ (h.fl hsl).1;refine(Ga.pA c1 c2).1 (Em c1 c2 ?_ (λe=>UN e.symm))
        exact hW.least s hsL
       have hle:=hmin (dM Xs s) hnL (n2.trans hst);unfold fK at hle;rw[n2,hst,yr] at hle;have hres:=Ga.am2 h.nl hout yt hris sdn (λc' hc'=>by
        obtain⟨q,hq,q1,q2⟩:=h.find hc';have:=n3 q hq (by rw[q1,hst])
        rw[M0,q1,q2,n2,hst] at this;exact this) sdh hle
       unfold fK;rw[hst,yr];exact hres
    .right;refine⟨?_,λz hz'=>by rw[hzs z hz'];exact hst⟩
     unfold kj;rw[hO];rcases Fe Xs (hh::tl++[s]) s with⟨h1,h2⟩|⟨R,x,h1,h2,h3,h4⟩
     .rw[aP aa]
      refine⟨tl++[s],rfl,λb hb=>?_⟩
      have:b∈tl\/b=s:=by simpa using hb
      rcases this with hb|hb
      .exact htl b hb
      .rw[hb];exact UN
     .rw[aV aa,h1,J4]
      obtain⟨R',rfl⟩:∃R',R=R'+1:=by
       cases R with
       |zero=>
        exfalso;have:x=hh:=by simpa using h2.symm
        rw[this] at h3;exact hst (h3.symm.trans yr)
       |succ R'=>exact⟨R',rfl⟩
      refine⟨(tl++[s]).take R',af,λb hb=>?_⟩
      have:=rN hb;have:b∈tl\/b=s:=by simpa using this
      rcases this with hb|hb
      .exact htl b hb
      .rw[hb];exact UN
 have hfin:=key (L.length-(t0+1)) aa
 rw[show t0+1+(L.length-(t0+1))=L.length by omega,gv] at hfin
 rcases hfin with hfin|⟨_,hz⟩
 .exact hfin
 .exfalso;obtain⟨z,hzl⟩:∃z,L[L.length-1]?=some z:=⟨_,bo aa⟩
  refine hz z (by rw[show t0+(L.length-(t0+1))=L.length-1 by omega];exact hzl) ?_
  exact hW.back z (by rw[nX];exact hzl)
theorem ad8{n:Nd}(hn:Ge.Can n){j:Nat}(hv:eB (xi Xs j))(hb:ll Xs n j=true):lt (aU (xi Xs j).f) (aU n):=by
 unfold ll at hb;simp only[tH,Wz,WA,AL] at hb;obtain⟨⟨h1,h2⟩,h3⟩:=hb;refine(Ga.pA hv.cf hn).2 ?_;have hfp:=hv.cf.pos;have Cc:=hv.ct.pos;have Ff:=hn.pos;generalize(xi Xs j).f=f at*;generalize(xi Xs j).t=t at*;have e1:(Ga.wv f n).1=n.1*f.2.2-f.1*n.2.2:=by unfold Ga.wv;simp only;grind
 have e2:n.2.2*(Ga.wv f t).1=f.2.2*(t.1*n.2.2-n.1*t.2.2)+t.2.2*(Ga.wv f n).1:=by unfold Ga.wv;simp only;grind
 by_cases hx:0<(Ga.wv f n).1
 .exact aS hx
 .have hx0:(Ga.wv f n).1=0:=aa
  rw[hx0,Dk,Int.add_zero] at e2;have hp:=bJ hfp (show 0<t.1*n.2.2-n.1*t.2.2 by omega)
  have hD:0<(Ga.wv f t).1:=(Ga.bT Ff).1 aa
  unfold cr at h3;rw[hx0,Dk,C9] at h3;exact aR ⟨hx0,(Ga.bT hD).1 h3⟩
theorem SX.seen(h:SX rg l r Xs)(hB:BD Xs){i:Nat}{L:List Nat}(hW:Wk Xs i L)(hno:∀ring∈cJ Xs L,dA Xs ring=false):fT Xs (xi Xs i).f Xs.length≠[]:=by
 have hi:=hW.lt i (bA hW.head);have hfl:=(h.fl hi).1;intro hs;cases hp:takes r (Ga.PP (aT rg) (xi Xs i).f)
 .obtain⟨ring,h1,h2⟩:=h.ad4 hB hW hp;rw[hno ring h1] at h2;cases h2
 .obtain⟨f,t,Iy,h1,h2,h3⟩:=Ga.ams h.nl (apr r) hfl hp;obtain⟨j,hj,j1,j2⟩:=h.find Iy;have hm:j∈fT Xs (xi Xs i).f Xs.length:=by
   refine jr.2 ⟨tN.2 hj,?_⟩;unfold ll;rw[j1,j2];generalize(xi Xs i).f=n at*;have e1:(Ga.wv n f).1=f.1*n.2.2-n.1*f.2.2:=by unfold Ga.wv;simp only;grind
   have e2:(Ga.wv n t).1=t.1*n.2.2-n.1*t.2.2:=by unfold Ga.wv;simp only;grind
   simp only[tH,Wz,WA,AL];exact⟨⟨aa,aa⟩,h3⟩
  rw[hs] at hm;simp at hm
end
end
section
open Go.RowKit
structure St where
 bB:Nat->Bool
 ow:Nat->Nat
 ps:List Pg
def wF(P:List Nat->Bool)(Rs:List (List Nat)):List Nat:=Rs.foldl (λacc r=>if P r then r else acc) []
def dR(Xs:List PB)(mk:Nat->Bool)(i:Nat):List Nat:=ki (dM Xs) mk Xs.length [] i
def qw(Xs:List PB)(st:St)(i:Nat):St:=
 if st.bB i then st
 else if(cJ Xs (dR Xs st.bB i)).any (dA Xs) then
  ⟨λj=>st.bB j||(dR Xs st.bB i).contains j,λj=>if(dR Xs st.bB i).contains j then st.ps.length else st.ow j,st.ps++[(wF (dA Xs) (cJ Xs (dR Xs st.bB i)),(cJ Xs (dR Xs st.bB i)).filter λr=> !dA Xs r)]⟩
 else
  ⟨λj=>st.bB j||(dR Xs st.bB i).contains j,λj=>if(dR Xs st.bB i).contains j then st.ow (ji Xs (xi Xs i).f) else st.ow j,st.ps.set (st.ow (ji Xs (xi Xs i).f)) ((st.ps.getD (st.ow (ji Xs (xi Xs i).f)) ([],[])).1,(st.ps.getD (st.ow (ji Xs (xi Xs i).f)) ([],[])).2++cJ Xs (dR Xs st.bB i))⟩
def bH(Xs:List PB)(k:Nat):St:=(List.range k).foldl (qw Xs) ⟨λ_=>false,λ_=>0,[]⟩
theorem CL(Xs:List PB)(k:Nat):bH Xs (k+1)=qw Xs (bH Xs k) k:=by unfold bH;rw[JZ,Pz];rfl
structure Ctl(bs:List Nat)(g cap:Nat)(Inv:Nat->aN->aM->Prop)(B:Nat->aN->aM->Prop)(C1:Nat->aN->Nat->Nat->List Nat->aM->Prop)(C2:Nat->aN->Nat->Nat->List Nat->Nat->Nat->Nat->aM->Prop)
  (D1 D2:Nat->aN->Nat->Nat->List Nat->Nat->Nat->Nat->Nat->aM->Prop)(E:Nat->aN->Nat->Nat->List Nat->Nat->Nat->Nat->Nat->aM->Prop)(F:Nat->aN->Nat->Nat->List Nat->Nat->Nat->aM->Prop)(Q:aN->aM->Prop)(base:Nat):Prop where
 row:∀k lv wr,Inv k lv wr->k<bs.length->wr.cell? ⟨g,k,none⟩=some (aH (some ⟨bx bs k,0,none⟩))/\∃m,wr.cell? ⟨bx bs k,6,none⟩=some (aD m)/\(m=true->Inv (k+1) lv wr)/\(m=false->B k lv wr)
 walk:∀k lv wr,B k lv wr->ak 110 #[aG (some ⟨g,0,none⟩) bs.length cap,aH (some ⟨bx bs k,0,none⟩)] wr λe w1=>∃gW cW L,e=aL (aG (some ⟨gW,0,none⟩) L.length cW)/\L.length<=85000000/\C1 k lv gW cW L w1
 rings:∀k lv gW cW L w1,C1 k lv gW cW L w1->ak 111 #[aG (some ⟨gW,0,none⟩) L.length cW] w1 λe w2=>∃gR cR n,e=aL (aG (some ⟨gR,0,none⟩) n cR)/\C2 k lv gW cW L gR cR n w2
 con:∀k lv gW cW L gR cR n w2,C2 k lv gW cW L gR cR n w2->ak 112 #[aG (some ⟨gR,0,none⟩) n cR,.func (.func 113) #[] #[]] (w2.alloc (.cells #[aG none 0 0,aG none 0 0] 187)) λe w4=>∃b,e=aL (aD b)/\(b=true->D1 k lv gW cW L gR cR n w2.heap.size w4)/\(b=false->D2 k lv gW cW L gR cR n w2.heap.size w4)
 push:∀k lv gW cW L gR cR n N w4,D1 k lv gW cW L gR cR n N w4->∃np pp,w4.ownsRow base 165 1 lv np pp/\np<=85000000/\base<=w4.heap.size/\∀g' cap' w8,w8.ownsRow base 165 1 (aG (some ⟨g',0,none⟩) (np+1) cap') (np+1) (pp++[aH (some ⟨N,0,none⟩)])->(w4.alloc (.cells #[aH (some ⟨N,0,none⟩)] 165)).grownBy w8 lv.ownBlock->(lv.ownBlock=some g'\/g'=w4.heap.size+1)->E k (aG (some ⟨g',0,none⟩) (np+1) cap') gW cW L gR cR n N w8
 below:∀k lv gW cW L gR cR n N w4,D2 k lv gW cW L gR cR n N w4->∃N1 N2 N3,w4.cell? ⟨bx bs k,2,none⟩=some (aA aK N1 N2)/\w4.cell? ⟨bx bs k,3,none⟩=some (az aJ N3)/\ak 114 #[aG (some ⟨g,0,none⟩) bs.length cap,aC #[aA aK N1 N2,az aJ N3]] w4 λe w5=>∃bL ob,e=aL (aH (some ⟨bL,0,none⟩))/\w5.cell? ⟨bL,7,none⟩=some (aH (some ⟨ob,0,none⟩))/\E k lv gW cW L gR cR n ob w5
 take:∀k lv gW cW L gR cR n ob w5,E k lv gW cW L gR cR n ob w5->ak 115 #[aH (some ⟨ob,0,none⟩),aG (some ⟨gR,0,none⟩) n cR] w5 λe w6=>e=aL (aI #[])/\F k lv gW cW L ob 0 w6
 own:∀k lv gW cW L ob t wr,F k lv gW cW L ob t wr->t<L.length->∃b o,wr.cell? ⟨gW,t,none⟩=some (aH (some ⟨b,0,none⟩))/\wr.cell? ⟨b,7,none⟩=some o/\wr.frozen? ⟨b,7,none⟩=false/\F k lv gW cW L ob (t+1) (wr.setCell ⟨b,7,none⟩ (aH (some ⟨ob,0,none⟩)))
 done:∀k lv gW cW L ob wr,F k lv gW cW L ob L.length wr->k<bs.length->Inv (k+1) lv wr
 sort:∀lv wr,Inv bs.length lv wr->ak 116 #[lv] wr λe w'=>e=aL (aI #[])/\Q lv w'
theorem apC:(Tryz.prog.info? 165).map (λi=>(i.zero,i.size,i.bytes))=some (some (aH none),1,8):=ag
theorem apD(bs:List Nat)(g cap:Nat)(Inv:Nat->aN->aM->Prop)(B:Nat->aN->aM->Prop)(C1:Nat->aN->Nat->Nat->List Nat->aM->Prop)(C2:Nat->aN->Nat->Nat->List Nat->Nat->Nat->Nat->aM->Prop)
  (D1 D2:Nat->aN->Nat->Nat->List Nat->Nat->Nat->Nat->Nat->aM->Prop)(E:Nat->aN->Nat->Nat->List Nat->Nat->Nat->Nat->Nat->aM->Prop)(F:Nat->aN->Nat->Nat->List Nat->Nat->Nat->aM->Prop)(Q:aN->aM->Prop)(base:Nat)
  (HK:Hid (Ctl bs g cap Inv B C1 C2 D1 D2 E F Q base))(w:aM)(hl:bs.length<=85000000)(h0:Inv 0 (aG none 0 0) w):
  ak 69 #[aG (some ⟨g,0,none⟩) bs.length cap] w λe w'=>∃lv,e=aL lv/\Q lv w':=by
 obtain⟨j0,Cv,hy0,hy1,hy2⟩:=info_parts apC;have cQ:Hid (Inv 0 (aG none 0 0) w):=h0;clear h0
 go_enter func69,ntmps69
 go_wp2_with fail
 go_loopg [3,13] bs.length (λm lv iv wr=>∃k:Nat,k+m=bs.length/\iv=az aJ k/\Hid (Inv k lv wr))
 case atStart=>exact⟨0,aa,rfl,cQ.out⟩
 case round=>
  obtain⟨k,hkn,rfl,HE⟩:=hrel;clear cQ;obtain⟨G0,mZ⟩:∃G0,G0=gk:=⟨gk,rfl⟩;subst mZ;by_cases hlt:k<bs.length
  .obtain⟨c1,m,c6,mf,hm2⟩:=HK.out.row k u3 wr HE.out hlt;have ij:(k:Int)<(bs.length:Int):=aa
   cases m
   .have HB:Hid (B k u3 wr):=hm2 rfl;have hWc:=HK.out.walk k u3 wr HB.out;have HWc:Hid (ak 110 #[aG (some ⟨g,0,none⟩) bs.length cap,aH (some ⟨bx bs k,0,none⟩)] wr λe w1=>∃gW cW L,e=aL (aG (some ⟨gW,0,none⟩) L.length cW)/\L.length<=85000000/\C1 k u3 gW cW L w1):=hWc
    clear mf hm2 hWc HE HB
    go_wp2_with fail
    refine HWc.out.mono ?_;rintro e w1 ⟨gW,cW,L,rfl,lO,hC1⟩;have HRc:Hid (ak 111 #[aG (some ⟨gW,0,none⟩) L.length cW] w1 λe w2=>∃gR cR n,e=aL (aG (some ⟨gR,0,none⟩) n cR)/\C2 k u3 gW cW L gR cR n w2):=HK.out.rings k u3 gW cW L w1 hC1
    clear hC1 HWc c1 c6
    go_wp2_with fail
    refine HRc.out.mono ?_;rintro e w2 ⟨gR,cR,n,rfl,Ky⟩;have UO:Hid (ak 112 #[aG (some ⟨gR,0,none⟩) n cR,.func (.func 113) #[] #[]] (w2.alloc (.cells #[aG none 0 0,aG none 0 0] 187)) λe w4=>∃b,e=aL (aD b)/\(b=true->D1 k u3 gW cW L gR cR n w2.heap.size w4)/\(b=false->D2 k u3 gW cW L gR cR n w2.heap.size w4)):=HK.out.con k u3 gW cW L gR cR n w2 Ky
    clear Ky HRc
    go_wp2_with fail
    refine UO.out.mono ?_;rintro e w4 ⟨b,rfl,hb1,hb2⟩;cases b
    .have uX:=hb2 rfl;obtain⟨N1,N2,N3,f2,f3,hBc⟩:=HK.out.below k u3 gW cW L gR cR n w2.heap.size w4 uX;have HBc:Hid (ak 114 #[aG (some ⟨g,0,none⟩) bs.length cap,aC #[aA aK N1 N2,az aJ N3]] w4 λe w5=>∃bL ob,e=aL (aH (some ⟨bL,0,none⟩))/\w5.cell? ⟨bL,7,none⟩=some (aH (some ⟨ob,0,none⟩))/\E k u3 gW cW L gR cR n ob w5):=hBc
     clear hb1 hb2 uX hBc UO
     go_wp2_with fail
     refine HBc.out.mono ?_;rintro e w5 ⟨bL,ob,rfl,o7,G5⟩;have Ae:Hid (E k u3 gW cW L gR cR n ob w5):=G5;clear G5 HBc f2 f3
     go_wp2_with fail
     have ru:Hid (ak 115 #[aH (some ⟨ob,0,none⟩),aG (some ⟨gR,0,none⟩) n cR] w5 λe w6=>e=aL (aI #[])/\F k u3 gW cW L ob 0 w6):=HK.out.take k u3 gW cW L gR cR n ob w5 Ae.out
     clear Ae
     go_wp2_with fail
     refine ru.out.mono ?_;rintro e w6 ⟨rfl,hF⟩;have xK:Hid (F k u3 gW cW L ob 0 w6):=hF;clear hF ru
     go_wp2_with fail
     go_loopg [49] L.length (λm iv wr=>∃t:Nat,t+m=L.length/\iv=az aJ t/\Hid (F k u3 gW cW L ob t wr))
     case atStart=>exact⟨0,aa,rfl,xK.out⟩
     case round=>
      obtain⟨t,htn,rfl,yu⟩:=hrel;clear xK;by_cases htl:t<L.length
      .obtain⟨bb,oo,d1,d2,d3,Jk⟩:=HK.out.own k u3 gW cW L ob t wr yu.out htl;have hti:(t:Int)<(L.length:Int):=aa
       have UQ:Hid (F k u3 gW cW L ob (t+1) (wr.setCell ⟨bb,7,none⟩ (aH (some ⟨ob,0,none⟩)))):=Jk;clear Jk yu
       go_wp2_with fail
       go_roundg (gk-1)
       case measure=>omega
       case rel=>exact⟨t+1,aa,ai,UQ.out⟩
      .have UR:t=L.length:=aa
       subst UR;have dw:Hid (Inv (k+1) u3 wr):=HK.out.done k u3 gW cW L ob wr yu.out hlt;clear yu
       go_wp2_with fail
       go_roundg (G0-1)
       case measure=>omega
       case rel=>exact⟨k+1,aa,ai,dw.out⟩
    .have hD1:=hb1 rfl;obtain⟨np,pp,ho,Ff,hbz,zV⟩:=HK.out.push k u3 gW cW L gR cR n w2.heap.size w4 hD1;have zD:Hid (∀g' cap' w8,w8.ownsRow base 165 1 (aG (some ⟨g',0,none⟩) (np+1) cap') (np+1) (pp++[aH (some ⟨w2.heap.size,0,none⟩)])->(w4.alloc (.cells #[aH (some ⟨w2.heap.size,0,none⟩)] 165)).grownBy w8 u3.ownBlock->(u3.ownBlock=some g'\/g'=w4.heap.size+1)->E k (aG (some ⟨g',0,none⟩) (np+1) cap') gW cW L gR cR n w2.heap.size w8):=zV;have hnb:(w4.alloc (.cells #[aH (some ⟨w2.heap.size,0,none⟩)] 165)).heap[w4.heap.size]?=some (.cells #[aH (some ⟨w2.heap.size,0,none⟩)] 165 (0,0)):=heap_alloc_new _ _;have nu:(w4.alloc (.cells #[aH (some ⟨w2.heap.size,0,none⟩)] 165)).ownsRow base 165 1 u3 np pp:=bG ho λk hk=>Below.heap_alloc _ _ _ (bn ho k hk).2
     clear hb1 hb2 hD1 zV ho UO
     go_wp2_with (at_builtin;refine wpList_append_lies _ rfl (.tmp 30) (.tmp 32) 131 rfl base 165 j0 _ 1 8 underlying131 Cv hy0 hy1 hy2 rfl ah u3 np pp rfl nu ⟨w4.heap.size,0,none⟩ 1 1 [aH (some ⟨w2.heap.size,0,none⟩)] rfl rfl (World.news_of_block (cs:= #[aH (some ⟨w2.heap.size,0,none⟩)]) (t:=165) (fr:=(0,0)) hnb) (by simp[Value.oneCell']) ah (by unfold maxLen;omega) aa (by simp;omega) (w4.heap.size+1) af ?_;intro g' cap' w8 dW cI iN sH)
     have Ae:Hid (E k (aG (some ⟨g',0,none⟩) (np+1) cap') gW cW L gR cR n w2.heap.size w8):=zD.out g' cap' w8 dW cI iN;generalize w2.heap.size=N at*;clear dW cI iN hnb nu zD;have ru:Hid (ak 115 #[aH (some ⟨N,0,none⟩),aG (some ⟨gR,0,none⟩) n cR] w8 λe w6=>e=aL (aI #[])/\F k (aG (some ⟨g',0,none⟩) (np+1) cap') gW cW L N 0 w6):=HK.out.take k (aG (some ⟨g',0,none⟩) (np+1) cap') gW cW L gR cR n N w8 Ae.out
     clear Ae
     go_wp2_with fail
     refine ru.out.mono ?_;rintro e w6 ⟨rfl,hF⟩;have xK:Hid (F k (aG (some ⟨g',0,none⟩) (np+1) cap') gW cW L N 0 w6):=hF;clear hF ru
     go_wp2_with fail
     go_loopg [49] L.length (λm iv wr=>∃t:Nat,t+m=L.length/\iv=az aJ t/\Hid (F k (aG (some ⟨g',0,none⟩) (np+1) cap') gW cW L N t wr))
     case atStart=>exact⟨0,aa,rfl,xK.out⟩
     case round=>
      obtain⟨t,htn,rfl,yu⟩:=hrel;clear xK;by_cases htl:t<L.length
      .obtain⟨bb,oo,d1,d2,d3,Jk⟩:=HK.out.own k (aG (some ⟨g',0,none⟩) (np+1) cap') gW cW L N t wr yu.out htl;have hti:(t:Int)<(L.length:Int):=aa
       have UQ:Hid (F k (aG (some ⟨g',0,none⟩) (np+1) cap') gW cW L N (t+1) (wr.setCell ⟨bb,7,none⟩ (aH (some ⟨N,0,none⟩)))):=Jk;clear Jk yu
       go_wp2_with fail
       go_roundg (gk-1)
       case measure=>omega
       case rel=>exact⟨t+1,aa,ai,UQ.out⟩
      .have UR:t=L.length:=aa
       subst UR;have dw:Hid (Inv (k+1) (aG (some ⟨g',0,none⟩) (np+1) cap') wr):=HK.out.done k (aG (some ⟨g',0,none⟩) (np+1) cap') gW cW L N wr yu.out hlt;clear yu
       go_wp2_with fail
       go_roundg (G0-1)
       case measure=>omega
       case rel=>exact⟨k+1,aa,ai,dw.out⟩
   .have dw:Hid (Inv (k+1) u3 wr):=mf rfl;clear mf hm2 HE HK
    go_wp2_with fail
    go_roundg (G0-1)
    case measure=>omega
    case rel=>exact⟨k+1,aa,ai,dw.out⟩
  .have hk:k=bs.length:=aa
   subst hk;have HSc:Hid (ak 116 #[u3] wr λe w'=>e=aL (aI #[])/\Q u3 w'):=HK.out.sort u3 wr HE.out
   clear HE HK
   go_wp2_with fail
   refine HSc.out.mono ?_;rintro e w9 ⟨rfl,hQ⟩;have HQ:Hid (Q u3 w9):=hQ;clear hQ HSc
   go_wp2_with fail
   go_ret
   exact⟨u3,rfl,HQ.out⟩
end
section
open Go.RowKit
open Ge
theorem Af{nx:Nat->Nat}{mk:Nat->Bool}{n:Nat}(hnx:∀j,j<n->nx j<n):∀(m:Nat)(A:List Nat)(j:Nat),j<n->jR n mk (ki nx mk m A j)+(ki nx mk m A j).length<=jR n mk A+A.length
 |0,_,_,_=>aY _
 |m+1,A,j,hj=>by
  show jR n mk (if mk j||A.contains j then A else ki nx mk m (A++[j]) (nx j))+(if mk j||A.contains j then A else ki nx mk m (A++[j]) (nx j)).length<=_
  cases hm:(mk j||A.contains j)
  .simp only[mO,nY];have h1:=NI hj hm;have h2:=Af (mk:=mk) hnx m (A++[j]) (nx j) (hnx j hj);rw[bX] at h2;simp only[dG,ib] at h2;omega
  .simp only[lG];exact aY _
section
variable{rg:List (List Pt)}{l:List Nd}{r:Int}{Xs:List PB}
structure PV(Xs:List PB)(st:St)(k:Nat):Prop where
 closed:∀j,j<Xs.length->st.bB (dM Xs j)=st.bB j
 low:∀j,j<k->st.bB j=true
 own:∀j,j<Xs.length->st.bB j=true->st.ow j<st.ps.length
 len:st.ps.length<=k
 hol:∀(q:Nat) p,st.ps[q]?=some p->p.2.length+jR Xs.length st.bB []<=Xs.length
theorem PV.zero(Xs:List PB):PV Xs (bH Xs 0) 0:=by
 refine⟨λ_ _=>rfl,λj h=>aa,λj _ h=>?_,aY _,λq p h=>?_⟩
 .simp[bH] at h
 .simp[bH] at h
theorem SX.walk(h:SX rg l r Xs)(hB:BD Xs){st:St}{k:Nat}(hP:PV Xs st k)(hk:k<Xs.length)(hm:st.bB k=false):qu (dM Xs) st.bB Xs.length k (dR Xs st.bB k)/\Wk Xs k (dR Xs st.bB k):=by
 have hc:=apj (nx:=dM Xs) (mk:=st.bB) (n:=Xs.length) (i:=k) (λj hj=>(h.next hB hj).1) (λa b ha hb he=>h.inj hB ha hb he) hP.closed hk hm
 refine⟨hc,λa ha=>(hc.free a ha).1,hc.head,λt a b ha hb=>?_,λa ha=>hc.ad1 ha,λa ha=>?_,λa ha=>?_⟩
 .have hal:=(hc.free a (bA ha)).1;rw[hc.step t a b ha hb];exact(h.next hB hal).2.1
 .have hal:=(hc.free a (rH ha)).1;have:=hc.back a ha;rw[<-this];exact(h.next hB hal).2.1.symm
 .obtain⟨h1,h2⟩:=hc.free a ha;have hka:k<=a:=by
   apply Nat.not_lt.1;intro hlt;rw[hP.low a hlt] at h2;cases h2
  rcases ahx hka with hlt|he
  .have gx:∀{i:Nat}(hi:i<Xs.length),xi Xs i=Xs[i]:=λhi=>vU (bo hi)
   have:=lW.1 hB.rp k a hk h1 hlt;rw[gx hk,gx h1];exact this
  .rw[<-he,zQ];omega
theorem UT{L:List Nat}{k:Nat}(hW:Wk Xs k L):cJ Xs L≠[]:=by
 have hlen:0<L.length:=jk.2 (λe=>by have:=hW.head;rw[e] at this;simp at this)
 obtain⟨z,hz⟩:∃z,L[L.length-1]?=some z:=⟨_,bo aa⟩
 have h0:∀s,L[0]?=some s->(xi Xs s).f=(xi Xs k).f:=λs hs=>by
  rw[hW.head] at hs;injection hs with hs;rw[hs]
 have wE:=OC.all hW.conn h0 (L.length-1) aa
 obtain⟨_,hh⟩:=wE.snoc hz;have hlt:L=L.take (L.length-1)++[z]:=by
  conv=>lhs;rw[<-gv (l:=L),show L.length=L.length-1+1 by omega,ju,hz]
  rfl
 have ML:=hW.back z (by rw[nX];exact hz)
 unfold cJ;rw[hlt,Ab];unfold kj;rcases Fe Xs ((cU Xs (L.take (L.length-1))).1++[z]) z with⟨_,h2⟩|⟨R,x,h1,_⟩
 .exfalso;obtain⟨a,ha⟩:∃a,((cU Xs (L.take (L.length-1))).1++[z])[0]?=some a:=⟨_,bo af⟩
  exact h2 a (bA ha) ((hh a ha).trans ML.symm)
 .rw[aV aa]
  simp
theorem PV.step(h:SX rg l r Xs)(hB:BD Xs){st:St}{k:Nat}(hP:PV Xs st k)(hk:k<Xs.length):PV Xs (qw Xs st k) (k+1):=by
 cases hm:st.bB k
 .obtain⟨hc,hW⟩:=h.walk hB hP hk hm;have hkL:k∈dR Xs st.bB k:=bA hW.head;have aei:=hc.closed (λa b ha hb he=>h.inj hB ha hb he) hP.closed
  have hleft:=Af (mk:=st.bB) (λj hj=>(h.next hB hj).1) Xs.length [] k hk
  have Jl:jR Xs.length (λj=>st.bB j||(dR Xs st.bB k).contains j) []=jR Xs.length st.bB (dR Xs st.bB k):=by unfold jR;simp
  have hrl:(cJ Xs (dR Xs st.bB k)).length<=(dR Xs st.bB k).length:=by
   have:=(Ja Xs (dR Xs st.bB k) (dR Xs st.bB k).length).2;rw[gv] at this;exact this
  have ava:jR Xs.length st.bB (dR Xs st.bB k)+(dR Xs st.bB k).length<=jR Xs.length st.bB []:=hleft;have tB:∀j,j<k+1->(st.bB j||(dR Xs st.bB k).contains j)=true:=λj hj=>by
   by_cases e:j=k
   .rw[e,wW.2 hkL];simp
   .rw[hP.low j aa];rfl
  have hl0:=yi Xs.length st.bB [];unfold qw;rw[hm];simp only[mO,nY];split
  .refine⟨aei,tB,λj hj nR=>?_,by simp;exact hP.len,λq p hq=>?_⟩
   .simp only[bX,dG,ib];split
    .omega
    .rename_i hne
     have:st.bB j=true:=by
      have e:(dR Xs st.bB k).contains j=false:=by simpa using hne
      simp only[e,Kf] at nR;exact nR
     have:=hP.own j hj this;omega
   .rw[Jl];simp only at hq;by_cases oO:q<st.ps.length
    .rw[fM oO] at hq;have:=hP.hol q p hq;omega
    .have hq2:q=st.ps.length:=by
      have:=(cG.1 hq).1;simp at this;omega
     rw[hq2] at hq;have e:p=(wF (dA Xs) (cJ Xs (dR Xs st.bB k)),(cJ Xs (dR Xs st.bB k)).filter λr=> !dA Xs r):=by simpa using hq.symm
     rw[e];have:=J9 (λr=> !dA Xs r) (cJ Xs (dR Xs st.bB k))
     simp only;omega
  .rename_i hno
   have apF:∀ring∈cJ Xs (dR Xs st.bB k),dA Xs ring=false:=λring hr=>by
    cases hs:dA Xs ring
    .rfl
    .exact absurd (WJ.2 ⟨ring,hr,hs⟩) (by simpa using hno)
   have Fg:=h.seen hB hW apF;have hlm:=adV Fg;have hll:=Uw Xs _ _ _ hlm;have hlk:ji Xs (xi Xs k).f<k:=by
    apply Nat.not_le.1;intro hle;have hb:=ad8 (Xs:=Xs) (hB.v _ (iM hk)).cf (hB.v _ (iM hll)) (jr.1 hlm).2;rcases ahx hle with hlt|he
    .have gx:∀{i:Nat}(hi:i<Xs.length),xi Xs i=Xs[i]:=λhi=>vU (bo hi)
     have:=lW.1 hB.rp k _ hk hll hlt;rw[<-gx hk,<-gx hll] at this;exact this hb
    .rw[<-he] at hb;exact lt_irrefl _ hb
   have UU:=hP.own _ hll (hP.low _ hlk);refine⟨aei,tB,λj hj nR=>?_,by simp;have:=hP.len;omega,λq p hq=>?_⟩
   .simp only[FU];split
    .exact UU
    .rename_i hne
     have:st.bB j=true:=by
      have e:(dR Xs st.bB k).contains j=false:=by simpa using hne
      simp only[e,Kf] at nR;exact nR
     exact hP.own j hj this
   .rw[Jl];simp only at hq;by_cases rD:st.ow (ji Xs (xi Xs k).f)=q
    .rw[rD] at hq;rw[tK (by rw[<-rD];exact UU)] at hq
     injection hq with hq;rw[<-hq];simp only[bX];have hg:st.ps[q]?=some (st.ps.getD q ([],[])):=by
      rw[n9,bo (by rw[<-rD];exact UU)];rfl
     have:=hP.hol q _ hg;omega
    .rw[wP rD] at hq;have:=hP.hol q p hq;omega
 .unfold qw;rw[hm];simp only[lG];refine⟨hP.closed,λj hj=>?_,hP.own,by have:=hP.len;omega,hP.hol⟩
  by_cases e:j=k
  .rw[e];exact hm
  .exact hP.low j aa
theorem SX.pv(h:SX rg l r Xs)(hB:BD Xs):∀k,k<=Xs.length->PV Xs (bH Xs k) k
 |0,_=>PV.zero Xs
 |k+1,hk=>by
  rw[CL];exact(h.pv hB k aa).step h hB aa
theorem SX.low(h:SX rg l r Xs)(hB:BD Xs){st:St}{k:Nat}(hP:PV Xs st k)(hk:k<Xs.length)(hm:st.bB k=false)(hno:∀ring∈cJ Xs (dR Xs st.bB k),dA Xs ring=false):fT Xs (xi Xs k).f Xs.length≠[]/\ji Xs (xi Xs k).f<Xs.length/\st.bB (ji Xs (xi Xs k).f)=true:=by
 obtain⟨_,hW⟩:=h.walk hB hP hk hm;have Fg:=h.seen hB hW hno;have hlm:=adV Fg;have hll:=Uw Xs _ _ _ hlm;refine⟨Fg,hll,hP.low _ ?_⟩;apply Nat.not_le.1;intro hle;have hb:=ad8 (Xs:=Xs) (hB.v _ (iM hk)).cf (hB.v _ (iM hll)) (jr.1 hlm).2;rcases ahx hle with hlt|he
 .have gx:∀{i:Nat}(hi:i<Xs.length),xi Xs i=Xs[i]:=λhi=>vU (bo hi)
  have:=lW.1 hB.rp k _ hk hll hlt;rw[<-gx hk,<-gx hll] at this;exact this hb
 .rw[<-he] at hb;exact lt_irrefl _ hb
end
theorem pP{w:aM}{base:Nat}{e:TypeId}{v:aN}{n:Nat}{xs:List aN}(h:w.ownsRow base e 1 v n xs)(hn:0<n):
  ∃gT cT,v=aG (some ⟨gT,0,none⟩) n cT/\base<=gT/\gT<w.heap.size/\xs.length=n/\∀(i:Nat) u,xs[i]?=some u->w.cell? ⟨gT,i,none⟩=some u:=by
 obtain⟨h1,h2⟩:=h;rcases h2 with⟨_,h0⟩|⟨g,cap,cur,hv,hg,hb,hc,hm,hs,ht⟩
 .omega
 .refine⟨g,cap,hv,hg,lt_of_heap hb,aa,λi u hi=>?_⟩
  rw[<-ht,lH] at hi;split at hi
  .unfold World.cell?;rw[hb];simpa using hi
  .cases hi
theorem Jm{w:aM}{base:Nat}{e:TypeId}{v:aN}{n:Nat}{xs:List aN}(h:w.ownsRow base e 1 v n xs):∃so m c,v=aG so m c:=by
 rcases h.2 with⟨h,_⟩|⟨_,_,_,h,_⟩
 .exact⟨_,_,_,h⟩
 .exact⟨_,_,_,h⟩
theorem UW(Xs:List PB)(A:List Nat):(eF Xs A).length=(eJ Xs A).length:=by
 unfold eF;rw[bX,rJ,iE];omega
theorem apG(Xs:List PB)(A:List Nat):∀a∈eF Xs A,a∈A:=λa ha=>by
 unfold eF at ha;rcases dF.1 ha with h|h
 .exact Uk Xs A a (WH h)
 .exact Uk Xs A a (rN h)
section
variable{rg:List (List Pt)}{l:List Nd}{r:Int}{Xs:List PB}
theorem SX.UX(h:SX rg l r Xs){L:List Nat}{n0:Nd}(hL:lU Xs L)(hl:∀a∈L,a<Xs.length)(h0:∀s,L[0]?=some s->(xi Xs s).f=n0):∀k,k<=L.length->∀ring∈(cU Xs (L.take k)).2,ring≠[]/\(∀a∈ring,a∈L)/\ring.length<=L.length
 |0,_,ring,hr=>by simp[cU] at hr
 |k+1,hk,ring,hr=>by
  obtain⟨s,hs⟩:∃s,L[k]?=some s:=⟨_,bo aa⟩
  have htk:L.take (k+1)=L.take k++[s]:=by rw[ju,hs];rfl
  rw[htk,Ab] at hr;unfold kj at hr;split at hr
  .rename_i hst
   rcases dF.1 hr with hr|hr
   .exact h.UX hL hl h0 k aa ring hr
   .have e:=dB.1 hr;have hne:=h.parts hL hl h0 k s hs hst;have hlen:=Ja Xs L k;have hm:∀a∈(cU Xs (L.take k)).1++[s],a∈L:=λa ha=>by
     rcases dF.1 ha with ha|ha
     .exact NR Xs L k a ha
     .rw[dB.1 ha];exact bA hs
    refine⟨λh'=>?_,λa ha=>?_,?_⟩
    .have:=aZ List.length h';rw[e,UW] at this;exact hne (iX.1 this)
    .rw[e] at ha;exact hm a (WH (apG Xs _ a ha))
    .rw[e,UW];have:=Ul Xs (((cU Xs (L.take k)).1++[s]).drop (jg Xs ((cU Xs (L.take k)).1++[s]) s).toNat);rw[rJ,bX] at this;simp only[dG,ib] at this;omega
  .exact h.UX hL hl h0 k aa ring hr
theorem SX.N8(h:SX rg l r Xs){L:List Nat}{k:Nat}(hW:Wk Xs k L):∀ring∈cJ Xs L,ring≠[]/\(∀a∈ring,a∈L)/\ring.length<=L.length:=by
 have h0:∀s,L[0]?=some s->(xi Xs s).f=(xi Xs k).f:=λs hs=>by
  rw[hW.head] at hs;injection hs with hs;rw[hs]
 have:=h.UX hW.conn hW.lt h0 L.length (aY _);rw[gv] at this;exact this
end
structure HI(bs:List Nat)(Xs:List PB)(g:Nat)(w0:aM)(k:Nat)(lv:aN)(PH:List lC)(T:Nat->Tg)(ow:Nat->Option Nat)(wr:aM):Prop where
 sw:SW g bs Xs (bH Xs k).bB ow wr
 pi:PI bs w0.heap.size lv (bH Xs k).ps PH T wr
 own:∀j,j<Xs.length->(bH Xs k).bB j=true->∃ph,PH[(bH Xs k).ow j]?=some ph/\ow j=some ph.pb
 mo:Mo bs w0 wr
structure nS(bs:List Nat)(Xs:List PB)(g:Nat)(w0:aM)(k:Nat)(lv:aN)(gW cW:Nat)(L:List Nat)(gR cR n:Nat)(PH:List lC)(T:Nat->Tg)(ow:Nat->Option Nat)(wr w1 w2:aM)(lo:aN)(O:List Nat)(rv:List aN):Prop where
 hi:HI bs Xs g w0 k lv PH T ow wr
 kl:k<Xs.length
 un:(bH Xs k).bB k=false
 eL:L=dR Xs (bH Xs k).bB k
 ws:WS wr g bs Xs (bH Xs k).bB ow (aG (some ⟨gW,0,none⟩) L.length cW) L w1
 ri:RI bs w1 lo (aG (some ⟨gR,0,none⟩) n cR) O (cJ Xs L) rv w2
 en:n=rv.length
section
variable{bs:List Nat}{Xs:List PB}{g:Nat}{w0:aM}{k:Nat}{lv:aN}{gW cW:Nat}{L:List Nat}{gR cR n:Nat}{PH:List lC}{T:Nat->Tg}{ow:Nat->Option Nat}{wr w1 w2:aM}{lo:aN}{O:List Nat}{rv:List aN}
theorem nS.sz(h:nS bs Xs g w0 k lv gW cW L gR cR n PH T ow wr w1 w2 lo O rv):w0.heap.size<=wr.heap.size/\wr.heap.size<=w1.heap.size/\w1.heap.size<=w2.heap.size:=⟨h.hi.mo.size,h.ws.mo.size,h.ri.below.size⟩
theorem nS.same(h:nS bs Xs g w0 k lv gW cW L gR cR n PH T ow wr w1 w2 lo O rv)(hbb:∀b∈bs,b<w0.heap.size){b:Nat}(hb:w0.heap.size<=b)(hz:b<wr.heap.size):w2.heap[b]?=wr.heap[b]?:=by
 have hs:=h.sz;exact(h.ri.below.block b aa).trans (h.ws.mo.block b hz (λhk=>by have:=hbb b hk;omega))
theorem nS.N9(h:nS bs Xs g w0 k lv gW cW L gR cR n PH T ow wr w1 w2 lo O rv):SW g bs Xs (λj=>(bH Xs k).bB j||L.contains j) ow w2:=h.ws.sw.below h.ri.below
theorem nS.UY(h:nS bs Xs g w0 k lv gW cW L gR cR n PH T ow wr w1 w2 lo O rv):RV bs w1.heap.size w2.heap.size (rv.zip (cJ Xs L)) w2:=by
 refine⟨λp hp=>?_⟩
 obtain⟨i,hi,e⟩:=jG.1 hp;obtain⟨h1,h2⟩:=Jh (by rw[bo hi,e]:(rv.zip (cJ Xs L))[i]?=some p)
 have k1:=(h.ri.ring i p.1 p.2 h1 h2).1;exact⟨k1,λk e=>(bn k1 k e).2⟩
theorem nS.shell(h:nS bs Xs g w0 k lv gW cW L gR cR n PH T ow wr w1 w2 lo O rv)(hB:BD Xs)(CM:∀ring∈cJ Xs L,ring≠[]/\(∀a∈ring,a∈L)/\ring.length<=L.length)(lO:∀a∈L,a<Xs.length)(hLn:L.length<=85000000)(p:VR)(hp:p∈rv.zip (cJ Xs L))(w':aM)(hg:w'.heap[g]?=w2.heap[g]?)(hbs:∀b∈bs,w'.heap[b]?=w2.heap[b]?)(hr:∀b,w1.heap.size<=b->b<w2.heap.size->w'.heap[b]?=w2.heap[b]?):
  ak 113 #[p.1] w' λe w''=>e=aL (aD (dA Xs p.2))/\aj w' w'':=by
 have hsw:=h.N9;have apH:SW g bs Xs (λj=>(bH Xs k).bB j||L.contains j) ow w':=
  ⟨hsw.len,hsw.nd,hsw.ng,λi hi=>(World.cell?_of_block (w:=w2) hg).trans (hsw.row i hi),λi hi=>(hbs _ (sQ hi)).trans (hsw.side i hi)⟩
 have hz:=(h.UY).keep (w':=w') hr;have hpr:p.2∈cJ Xs L:=by
  obtain⟨i,hi,e⟩:=jG.1 hp;exact bA (Jh (by rw[bo hi,e]:(rv.zip (cJ Xs L))[i]?=some p)).2
 obtain⟨f1,f2,f3⟩:=CM p.2 hpr;exact aoS bs Xs hB g _ ow w' apH p.2 f1 aa (λa ha=>by rw[hsw.len];exact lO a (f2 a ha)) _ p.1 (hz.own p hp).1
end
end
end Go.Proofs.YtkjhhooecopolaaGreatDoor

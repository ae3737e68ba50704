import Derived.Test.YtkjhhooecopolaaGreatDoorRz04
set_option maxRecDepth 100000
set_option maxHeartbeats 4000000
namespace Go.Proofs.YtkjhhooecopolaaGreatDoor
open Tryz
open Value renaming int->az,complex->aA,float->aB,agg->aC,bool->aD,string->aF,slice->aG,pointer->aH,tuple->aI
open IntKind renaming i64->aJ
open FloatKind renaming f64->aK
open Ending renaming returned->aL
open Go renaming World->aM,Value->aN,floatOfInt->aO
section
open Go.RowKit
theorem LM(p q:Int)(b cap:Nat)(w:aM)(h0:w.cell? ⟨b,0,none⟩=some (az aJ p))(h1:w.cell? ⟨b,1,none⟩=some (az aJ q)):
  ak 182 #[aG (some ⟨b,0,none⟩) 2 cap] w λr w'=>r=aL (az aJ (if p=0 then q else p))/\w'=w:=by
 go_enter func182,ntmps182
 go_wp2_with fail
 go_loopg [8] 2 (λn iv wr=>wr=w/\((n=2/\iv=az aJ 0)\/(n=1/\iv=az aJ 1/\p=0)\/(n=0/\iv=az aJ 2/\p=0/\q=0)))
 case atStart=>exact⟨rfl,aU ⟨rfl,rfl⟩⟩
 case round=>
  obtain⟨rfl,⟨rfl,rfl⟩|⟨rfl,rfl,hp⟩|⟨rfl,rfl,hp,hq⟩⟩:=hrel
  .by_cases hp:p=0
   .subst hp
    go_wp2_with fail
    go_roundg 1
    case measure=>omega
    case rel=>exact⟨rfl,aT (aU ⟨rfl,rfl,trivial⟩)⟩
   .go_wp2_with fail
    go_ret
    exact⟨af,rfl⟩
  .subst hp;by_cases hq:q=0
   .subst hq
    go_wp2_with fail
    go_roundg 0
    case measure=>omega
    case rel=>exact⟨rfl,aT (aT ⟨rfl,rfl,af⟩)⟩
   .go_wp2_with fail
    go_ret
    exact⟨af,rfl⟩
  .subst hp;subst hq
   go_wp2_with fail
   go_ret
   exact⟨af,rfl⟩
theorem Zw{n:Ge.Nd}(h:eI n.1 n.2.1 n.2.2):sm n.1/\sm n.2.1/\sm n.2.2:=by
 have hx:=h.x;have hy:=h.y;have hd:=h.d;unfold sm;omega
theorem ajU(N1 N2 M1 M2 re im re' LN:Nat)(P Q p q R:Int)(w:aM)
  (HO:Hid (∀b cap w,w.cell? ⟨b,0,none⟩=some (az aJ p)->w.cell? ⟨b,1,none⟩=some (az aJ q)->ak 182 #[aG (some ⟨b,0,none⟩) 2 cap] w λr w'=>r=aL (az aJ R)/\w'=w))
  (HM:Hid (∀w,ak 152 #[aC #[aA aK M1 M2,az aJ Q],aA aK N1 N2] w λe w'=>e=aL (aA aK re im)/\Below w.heap.size w w'/\w.drawn<=w'.drawn))
  (HT:Hid (∀w,ak 152 #[aC #[aA aK N1 N2,az aJ P],aA aK M1 M2] w λe w'=>e=aL (aA aK re' LN)/\Below w.heap.size w w'/\w.drawn<=w'.drawn))
  (Bp:Hid (∀w,ak 183 #[aB aK re,aB aK re'] w λr w'=>r=aL (az aJ p)/\w'=w))
  (qQ:Hid (∀w,ak 183 #[aB aK im,aB aK LN] w λr w'=>r=aL (az aJ q)/\w'=w)):
  ak 125 #[aC #[aA aK N1 N2,az aJ P],aC #[aA aK M1 M2,az aJ Q]] w λr w'=>r=aL (az aJ R)/\Below w.heap.size w w'/\w.drawn<=w'.drawn:=by
 go_enter func125,ntmps125
 go_wp2_with fail
 have hX:((w.alloc (.cells #[aA aK N1 N2,az aJ P] 83)).alloc (.cells #[aA aK M1 M2,az aJ Q] 83)).heap[w.heap.size]?=some (.cells #[aA aK N1 N2,az aJ P] 83 (0,0)):=by
  rw[Below.heap_alloc _ _ _ af];exact heap_alloc_new _ _
 have hY:((w.alloc (.cells #[aA aK N1 N2,az aJ P] 83)).alloc (.cells #[aA aK M1 M2,az aJ Q] 83)).heap[w.heap.size+1]?=some (.cells #[aA aK M1 M2,az aJ Q] 83 (0,0)):=by
  have:=heap_alloc_new (w.alloc (.cells #[aA aK N1 N2,az aJ P] 83)) (.cells #[aA aK M1 M2,az aJ Q] 83);simpa using this
 have hb0:Below w.heap.size w ((w.alloc (.cells #[aA aK N1 N2,az aJ P] 83)).alloc (.cells #[aA aK M1 M2,az aJ Q] 83)):=((Below.refl _ _).alloc (aY _) _).alloc af _
 have eO:w.heap.size+1<((w.alloc (.cells #[aA aK N1 N2,az aJ P] 83)).alloc (.cells #[aA aK M1 M2,az aJ Q] 83)).heap.size:=af
 have hd0:w.drawn<=((w.alloc (.cells #[aA aK N1 N2,az aJ P] 83)).alloc (.cells #[aA aK M1 M2,az aJ Q] 83)).drawn:=aY _;generalize(w.alloc (.cells #[aA aK N1 N2,az aJ P] 83)).alloc (.cells #[aA aK M1 M2,az aJ Q] 83)=W at*;generalize hB:w.heap.size=B at*;have a0:=cH hX;have a1:=cD hX;have a2:=cH hY;have a3:=cD hY;clear hX hY
 go_region_held3 (λw'=>w'.cell? ⟨B,0,none⟩=some (aA aK N1 N2)/\w'.cell? ⟨B,1,none⟩=some (az aJ P)/\w'.cell? ⟨B+1,0,none⟩=some (aA aK M1 M2)/\w'.cell? ⟨B+1,1,none⟩=some (az aJ Q)) (go_keep) (first
   |(go_at_call_of 152 (Value.complex FloatKind.f64 N1 N2);refine(HM.out _).mono ?_;rintro e w6 ⟨rfl,bp,GW⟩;have hbz:B+1<w6.heap.size:=bW eO bp.size;have b0:=aS bp a0 (eG eO);have b1:=aS bp a1 (eG eO);have b2:=aS bp a2 eO;have b3:=(aS bp a3 eO))
   |(go_at_call_of 152 (Value.complex FloatKind.f64 M1 M2);refine(HT.out _).mono ?_;rintro e w7 ⟨rfl,bw,GX⟩;have hcz:B+1<w7.heap.size:=bW hbz bw.size;have c0:=aS bw b0 (eG hbz);have c1:=aS bw b1 (eG hbz);have c2:=aS bw b2 hbz;have c3:=(aS bw b3 hbz)))
 have aW:=(hb0.drew.trans (bp.mono (fh (eG eO)))).trans (bw.mono (fh (eG hbz)));have HD:Hid (w.drawn<=w7.drawn):=by
  have h1:W.drawn<=W.drew.drawn:=pI _;exact fN hd0 (fN h1 (fN GW GX))
 clear bp bw hb0 GW GX hd0
 go_wp2_with fail
 refine(Bp.out _).mono ?_;rintro e w8 ⟨rfl,rfl⟩
 go_wp2_with fail
 refine(qQ.out _).mono ?_;rintro e w9 ⟨rfl,rfl⟩
 go_wp2_with fail
 have hO:=heap_alloc_new w9 (.cells #[az aJ p,az aJ q] 3);have ajV:=aW.alloc aa (.cells #[az aJ p,az aJ q] 3)
 have HDO:Hid (w.drawn<=(w9.alloc (.cells #[az aJ p,az aJ q] 3)).drawn):=HD;generalize w9.alloc (.cells #[az aJ p,az aJ q] 3)=WO at*;refine(HO.out _ _ _ (cell_of hO 0) (cell_of hO 1)).mono ?_;rintro e Zx ⟨rfl,rfl⟩
 go_wp2_with fail
 go_ret
 exact⟨rfl,by rw[hB];exact ajV,HDO.out⟩
theorem GY(n m:Ge.Nd)(hn:eI n.1 n.2.1 n.2.2)(hm:eI m.1 m.2.1 m.2.2)(cn:Ge.Can n)(cm:Ge.Can m)(w:aM):
  ak 125 #[ja n,ja m] w λr w'=>r=aL (az aJ (Ge.pc (Ge.aX n) (Ge.aX m)))/\aj w w'/\w.drawn<=w'.drawn:=by
 obtain⟨a1,a2⟩:=tT hn;obtain⟨b1,b2⟩:=tT hm;obtain⟨s1,s2,s3⟩:=Zw hn;obtain⟨t1,t2,t3⟩:=Zw hm;obtain⟨re,im,f1,f2,hM⟩:=Gj (aO aK m.1) (aO aK m.2.1) m.2.2 a1 a2 s1 s2 t3;obtain⟨re',LN,g1,g2,hT⟩:=Gj (aO aK n.1) (aO aK n.2.1) n.2.2 b1 b2 t1 t2 s3;rw[Ge.LB cn cm];exact ajU _ _ _ _ re im re' LN n.2.2 m.2.2 _ _ _ w (λb cap w h0 h1=>LM _ _ b cap w h0 h1) hM hT (λw=>Bo f1 g1 w) (λw=>Bo f2 g2 w)
end
end Go.Proofs.YtkjhhooecopolaaGreatDoor

import Derived.Test.YtkjhhooecopolaaGreatDoorYz09
set_option maxRecDepth 100000
set_option maxHeartbeats 4000000
namespace Go.Proofs.YtkjhhooecopolaaGreatDoor
open Go.RowKit
theorem uU{q:List UInt8}{l:List Pl.Tk}(h:(Pl.wd q l).1=false):(Pl.wd q l).2=l:=by
 cases l with
 |nil=>rfl
 |cons t r=>
  by_cases hk:t.k=119/\t.raw=q
  ·simp only[Pl.wd] at h;rw[ah hk] at h;cases h
  ·simp only[Pl.wd];rw[aa hk]
def Pl.aM(l:List Pl.Tk):Bool×List Pl.Tk×List (List (List (Int×Int))):=
 if(Pl.wd Pl.bB l).1=true then((Pl.bA (Pl.wd Pl.bB l).2).1,(Pl.bA (Pl.wd Pl.bB l).2).2.1,[(Pl.bA (Pl.wd Pl.bB l).2).2.2])
 else if(Pl.wd Pl.cP l).1=true then Pl.eY (Pl.wd Pl.cP l).2
 else(false,l,[])
theorem Uw(hO:nG)(rb:Nat)(s:ByteArray)(A l:List Pl.Tk)(rg:List (List (Int×Int)))(w:World)(cx:Cx rb s A)(hR:RD rb s A l rg w)(hG:Gl w)(hrg:rg.length+l.length<=1000):
  Calls Tryz.prog 95 #[.pointer (some ⟨rb,0,none⟩)] w (ou rb s A (Pl.bA l).1 (Pl.bA l).2.1 (rg++(Pl.bA l).2.2) w):=by
 generalize hT:Pl.bA l=T;have HT:Hid (Pl.bA l=T):=hT;clear hT;have hlt:=hR.lt
 go_enter Tryz.func95,Tryz.ntmps95
 go_wp2_with fail
 refine(Hp hO Pl.EMPTY 69 [77,80,84,89] rfl (by decide) rb s A l _ _ cx hR hG).mono ?_
 rintro e w1 ⟨rfl,dO,hb1⟩;have cH:Gl w1:=hG.below hb1 cx.rb;cases hm:(Pl.wd Pl.EMPTY l).1
 ·rw[uU hm] at dO
  go_wp2_with fail
  refine(sB hO 40 (by decide) rb s A l _ _ cx dO cH).mono ?_
  rintro e w2 ⟨rfl,cG,hb2⟩;simp only[show(40:UInt8).toNat=40 from rfl] at cG⊢
  have jL:Gl w2:=cH.below hb2 cx.rb;cases hm2:(Pl.mk 40 l).1
  ·have hT:=HT.out;rw[Pl.bA,aa (by rw[hm];simp),aa (by rw[hm2];simp)] at hT
   subst hT;rw[yC hm2] at cG;clear HT
   go_wp2_with fail
   go_ret
   exact⟨rfl,⟨_,cG,fun h=>(by cases h)⟩,hb1.trans hb2⟩
  ·have hT:=HT.out;rw[Pl.bA,aa (by rw[hm];simp),ah hm2] at hT
   subst hT;clear HT;have hlm:=Pl.AB 40 l
   go_wp2_with fail
   refine(aeV Pl.dB (fun acc=>rg++acc) (fun l acc=>rg.length+acc.length+l.length<=1000) hO rb s A cx
    (fun l' acc w' hR' Dy hB'=>by
     rw[<-fI];exact aeZ hO rb s A l' (rg++acc) w' cx hR' Dy (by simp;omega)) Pl.Ib
    (fun l' acc hB' hi'=>by
     have q1:=Pl.Ib l' hi';have q2:=Pl.AB 44 (Pl.dB l').2.1;simp only[aX,bW,fJ];omega)
    l.length (Pl.mk 40 l).2 [] w2 (by simpa using cG) jL (by simp;omega) hlm).mono ?_
   rintro e w4 ⟨rfl,⟨uR,uS,uT⟩,hb4⟩
   go_wp2_with fail
   go_ret
   exact⟨rfl,⟨uR,uS,uT⟩,(hb1.trans hb2).trans hb4⟩
 ·have hT:=HT.out;rw[Pl.bA,ah hm] at hT;subst hT;clear HT
  go_wp2_with fail
  go_ret
  exact⟨rfl,⟨_,dO,fun _=>by simp⟩,hb1⟩
theorem ae0(hO:nG)(rb:Nat)(s:ByteArray)(A l:List Pl.Tk)(rg:List (List (Int×Int)))(w:World)(cx:Cx rb s A)(hR:RD rb s A l rg w)(hG:Gl w)(hrg:rg.length+l.length<=1000):
  Calls Tryz.prog 96 #[.pointer (some ⟨rb,0,none⟩)] w (ou rb s A (Pl.eY l).1 (Pl.eY l).2.1 (rg++(Pl.eY l).2.2.flatten) w):=by
 generalize hT:Pl.eY l=T;have HT:Hid (Pl.eY l=T):=hT;clear hT;have hlt:=hR.lt
 go_enter Tryz.func96,Tryz.ntmps96
 go_wp2_with fail
 refine(Hp hO Pl.EMPTY 69 [77,80,84,89] rfl (by decide) rb s A l _ _ cx hR hG).mono ?_
 rintro e w1 ⟨rfl,dO,hb1⟩;have cH:Gl w1:=hG.below hb1 cx.rb;cases hm:(Pl.wd Pl.EMPTY l).1
 ·rw[uU hm] at dO
  go_wp2_with fail
  refine(sB hO 40 (by decide) rb s A l _ _ cx dO cH).mono ?_
  rintro e w2 ⟨rfl,cG,hb2⟩;simp only[show(40:UInt8).toNat=40 from rfl] at cG⊢
  have jL:Gl w2:=cH.below hb2 cx.rb;cases hm2:(Pl.mk 40 l).1
  ·have hT:=HT.out;rw[Pl.eY,aa (by rw[hm];simp),aa (by rw[hm2];simp)] at hT
   subst hT;rw[yC hm2] at cG;clear HT
   go_wp2_with fail
   go_ret
   exact⟨rfl,⟨_,cG,fun h=>(by cases h)⟩,hb1.trans hb2⟩
  ·have hT:=HT.out;rw[Pl.eY,aa (by rw[hm];simp),ah hm2] at hT
   subst hT;clear HT;have hlm:=Pl.AB 40 l
   go_wp2_with fail
   refine(aeW Pl.bA (fun acc=>rg++acc.flatten) (fun l acc=>rg.length+acc.flatten.length+l.length<=1000) hO rb s A cx
    (fun l' acc w' hR' Dy hB'=>by
     have e:rg++(acc++[(Pl.bA l').2.2]).flatten=(rg++acc.flatten)++(Pl.bA l').2.2:=by simp
     rw[e];exact Uw hO rb s A l' (rg++acc.flatten) w' cx hR' Dy (by rw[aX];exact hB')) (fun l h=>(Pl.Dx l h).1)
    (fun l' acc hB' hi'=>by
     have q1:=(Pl.Dx l' hi').2;have q2:=Pl.AB 44 (Pl.bA l').2.1;have e:(acc++[(Pl.bA l').2.2]).flatten.length=acc.flatten.length+(Pl.bA l').2.2.length:=by
      rw[RQ,aX];simp
     show rg.length+(acc++[(Pl.bA l').2.2]).flatten.length+(Pl.mk 44 (Pl.bA l').2.1).2.length<=1000;rw[e];omega)
    l.length (Pl.mk 40 l).2 [] w2 (by simpa using cG) jL (by simp;omega) hlm).mono ?_
   rintro e w4 ⟨rfl,⟨uR,uS,uT⟩,hb4⟩
   go_wp2_with fail
   go_ret
   exact⟨rfl,⟨uR,uS,uT⟩,(hb1.trans hb2).trans hb4⟩
 ·have hT:=HT.out;rw[Pl.eY,ah hm] at hT;subst hT;clear HT
  go_wp2_with fail
  go_ret
  exact⟨rfl,⟨_,dO,fun _=>by simp⟩,hb1⟩
theorem Ux(hO:nG)(rb:Nat)(s:ByteArray)(A l:List Pl.Tk)(w:World)(cx:Cx rb s A)(hR:RD rb s A l [] w)(hG:Gl w):
  Calls Tryz.prog 61 #[.pointer (some ⟨rb,0,none⟩)] w (ou rb s A (Pl.aM l).1 (Pl.aM l).2.1 (Pl.aM l).2.2.flatten w):=by
 generalize hT:Pl.aM l=T;have HT:Hid (Pl.aM l=T):=hT;clear hT;have hlt:=hR.lt;have hle:=hR.le;have hcl:=cx.len
 go_enter Tryz.func61,Tryz.ntmps61
 go_wp2_with fail
 refine(Hp hO Pl.bB 80 [79,76,89,71,79,78] rfl (by decide) rb s A l _ _ cx hR hG).mono ?_
 rintro e w1 ⟨rfl,dO,hb1⟩;have cH:Gl w1:=hG.below hb1 cx.rb;cases hm:(Pl.wd Pl.bB l).1
 ·rw[uU hm] at dO
  go_wp2_with fail
  refine(Hp hO Pl.cP 77 [85,76,84,73,80,79,76,89,71,79,78] rfl (by decide) rb s A l _ _ cx dO cH).mono ?_
  rintro e w2 ⟨rfl,cG,hb2⟩;have jL:Gl w2:=cH.below hb2 cx.rb;cases hm2:(Pl.wd Pl.cP l).1
  ·have hT:=HT.out;rw[Pl.aM,aa (by rw[hm];simp),aa (by rw[hm2];simp)] at hT
   subst hT;rw[uU hm2] at cG;clear HT
   go_wp2_with fail
   go_ret
   exact⟨rfl,⟨_,cG,fun h=>(by cases h)⟩,hb1.trans hb2⟩
  ·have hT:=HT.out;rw[Pl.aM,aa (by rw[hm];simp),ah hm2] at hT
   subst hT;clear HT;have hlm:=Pl.wU hm2
   go_wp2_with fail
   refine(ae0 hO rb s A _ [] _ cx cG jL (by simp;omega)).mono ?_
   rintro e w3 ⟨rfl,⟨uR,uS,uT⟩,hb4⟩
   go_wp2_with fail
   go_ret
   exact⟨rfl,⟨uR,uS,fun h=>by simpa using uT h⟩,(hb1.trans hb2).trans hb4⟩
 ·have hT:=HT.out;rw[Pl.aM,ah hm] at hT;subst hT;clear HT;have hlm:=Pl.wU hm
  go_wp2_with fail
  refine(Uw hO rb s A _ [] _ cx dO cH (by simp;omega)).mono ?_
  rintro e w3 ⟨rfl,⟨uR,uS,uT⟩,hb4⟩
  go_wp2_with fail
  go_ret
  exact⟨rfl,⟨uR,uS,fun h=>by simpa using uT h⟩,hb1.trans hb4⟩
theorem ae1(k:Int)(raw:ByteArray)(n:Int)(p j:Nat)(w:World)(hp:p<=1000)(hr:raw.size<=1000)(hj:j=p+raw.size):
  Calls Tryz.prog 195 #[.agg #[.int .i64 k,.string raw,.int .i64 n,.int .i64 p]] w fun e w'=>e=.returned (.int .i64 j)/\Below w.heap.size w w':=by
 have HJ:Hid (j=p+raw.size):=hj;clear hj
 go_enter Tryz.func195,Tryz.ntmps195
 go_wp2
 go_ret
 exact⟨se (by rw[HJ.out];simp),(Below.refl _ _).alloc (ai _) _⟩
theorem ae2:(Tryz.prog.info? 76).map (fun i=>(i.zero,i.size,i.bytes))=some (some (.agg #[.int .i64 0,.string ⟨#[]⟩,.int .i64 0,.int .i64 0]),4,40):=by kernel_rfl
theorem Gl.drew{w:World}(h:Gl w):Gl w.drew:=⟨h.sz,h.es,h.er,h.tab⟩
def Uy(rb:Nat)(s:ByteArray)(rv:Value)(tv:Value)(m:Nat)(xs:List Value)(c0 c1 c2 c3:Value)(w w':World):Prop:=
 (∃AG,w'.heap[rb]?=some (.cells #[.string s,c0,c1,c2,c3,AG,rv] 80 (0,0))/\w'.ownsRow (rb+1) 76 4 AG m xs/\(∀k,AG.ownBlock=some k->tv.ownBlock=some k\/w.heap.size<=k))/\
 (∀k,k<w.heap.size->k≠rb->tv.ownBlock≠some k->w'.heap[k]?=w.heap[k]?)/\Below rb w w'
theorem ae3{rb:Nat}{s:ByteArray}{k:Value}{raw n p:Value}{tv rv:Value}{m:Nat}{xs ys:List Value}{w w1 w3 w4:World}{o:Obj}{g cap:Nat}{c0 c1 c2 c3:Value}
  (hb:w.heap[rb]?=some (.cells #[.string s,k,raw,n,p,tv,rv] 80 (0,0)))
  (hown:w.ownsRow (rb+1) 76 4 tv m xs)
  (ho:w1.ownsRow (rb+1) 76 4 (.slice (some ⟨g,0,none⟩) (m+1) cap) (m+1) ys)
  (hgrow:(w.alloc o).drew.grownBy w1 tv.ownBlock)(hat:tv.ownBlock=some g\/g=w.heap.size+1)
  (hb3:Below (w1.setCell ⟨rb,5,none⟩ (.slice (some ⟨g,0,none⟩) (m+1) cap)).drew.heap.size (w1.setCell ⟨rb,5,none⟩ (.slice (some ⟨g,0,none⟩) (m+1) cap)).drew w3)
  (hb4:Below w3.heap.size w3 w4):
  Uy rb s rv tv (m+1) ys c0 c1 c2 c3 w ((((w4.setCell ⟨rb,1,none⟩ c0).setCell ⟨rb,2,none⟩ c1).setCell ⟨rb,3,none⟩ c2).setCell ⟨rb,4,none⟩ c3):=by
 have hlt:=lt_of_heap hb;have hs1:w.heap.size+1<=w1.heap.size:=by have:=hgrow.size;simpa using this
 have hW:(w1.setCell ⟨rb,5,none⟩ (.slice (some ⟨g,0,none⟩) (m+1) cap)).drew.heap.size=w1.heap.size:=by simp[World.drew]
 have hs3:w1.heap.size<=w3.heap.size:=by have:=hb3.size;rw[hW] at this;exact this
 have hs4:w3.heap.size<=w4.heap.size:=hb4.size;have e1:∀k,k<w1.heap.size->k≠rb->w4.heap[k]?=w1.heap[k]?:=fun k hk hne=>by
  rw[hb4.block k (by omega),hb3.block k (by rw[hW];exact hk)]
  exact bu hne _
 have e2:∀k,k<w.heap.size->k≠rb->tv.ownBlock≠some k->w4.heap[k]?=w.heap[k]?:=fun k hk hne ht=>by
  rw[e1 k (by omega) hne];exact sx hgrow k hk ht
 have hb1:w1.heap[rb]?=some (.cells #[.string s,k,raw,n,p,tv,rv] 80 (0,0)):=(sx hgrow rb hlt (sy hown rb (by omega))).trans hb
 have Ic:w4.heap[rb]?=some (.cells #[.string s,k,raw,n,p,.slice (some ⟨g,0,none⟩) (m+1) cap,rv] 80 (0,0)):=by
  rw[hb4.block rb (by omega),hb3.block rb (by rw[hW];omega)]
  exact heap_set hb1 _
 refine⟨⟨.slice (some ⟨g,0,none⟩) (m+1) cap,?_,?_,?_⟩,?_,?_⟩
 ·exact heap_set (heap_set (heap_set (heap_set Ic _) _) _) _
 ·refine aO ho fun k hk=>?_
  obtain⟨q1,q2⟩:=aA ho k hk;rw[bu (by omega),bu (by omega),bu (by omega),bu (by omega)]
  exact e1 k q2 (by omega)
 ·intro k hk;have qN:g=k:=by simpa[Value.ownBlock] using hk
  rcases hat with h|h
  ·exact ae (by rw[h,qN])
  ·exact af (by omega)
 ·intro k hk hne ht;rw[bu hne,bu hne,bu hne,bu hne];exact e2 k hk hne ht
 ·have q:Below rb w w4:=by
   refine⟨?_,?_,?_,by omega,fun k hk=>e2 k (by omega) (by omega) (sy hown k (by omega))⟩
   ·rw[hb4.os,hb3.os];exact hgrow.os
   ·rw[hb4.tape,hb3.tape];exact hgrow.tape
   ·rw[hb4.output,hb3.output];exact hgrow.output
  exact(((q.setCell (ai _) _).setCell (ai _) _).setCell (ai _) _).setCell (ai _) _
theorem ae4(rb:Nat)(s raw:ByteArray)(k n:Int)(p j:Nat)(tv rv:Value)(m:Nat)(xs:List Value)(w:World)(k':Int)(ML:ByteArray)(n':Int)(p':Nat)
  (hb:w.heap[rb]?=some (.cells #[.string s,.int .i64 k,.string raw,.int .i64 n,.int .i64 p,tv,rv] 80 (0,0)))
  (hown:w.ownsRow (rb+1) 76 4 tv m xs)(hm:m<=1000)(hp:p<=1000)(hr:raw.size<=1000)(hj:j=p+raw.size)(hG:Gl w)(sA:6<=rb)
  (hT:∀w1,Gl w1->Calls Tryz.prog 60 #[.string s,.int .i64 j] w1 fun e w'=>e=.returned (.agg #[.int .i64 k',.string ML,.int .i64 n',.int .i64 p'])/\Below w1.heap.size w1 w'):
  Calls Tryz.prog 148 #[.pointer (some ⟨rb,0,none⟩)] w fun e w'=>e=.returned (.tuple #[])/\
   Uy rb s rv tv (m+1) (xs++[.int .i64 k,.string raw,.int .i64 n,.int .i64 p]) (.int .i64 k') (.string ML) (.int .i64 n') (.int .i64 p') w w':=by
 have HJ:Hid (j=p+raw.size):=hj;have HT:Hid (∀w1,Gl w1->Calls Tryz.prog 60 #[.string s,.int .i64 j] w1 fun e w'=>e=.returned (.agg #[.int .i64 k',.string ML,.int .i64 n',.int .i64 p'])/\Below w1.heap.size w1 w'):=hT
 clear hj hT;obtain⟨i0,hi,hz0,hz1,hz2⟩:=info_parts ae2;have c0:w.cell? ⟨rb,0,none⟩=some (.string s):=cell_of hb 0;have c1:w.cell? ⟨rb,1,none⟩=some (.int .i64 k):=cell_of hb 1;have c2:w.cell? ⟨rb,2,none⟩=some (.string raw):=cell_of hb 2;have c3:w.cell? ⟨rb,3,none⟩=some (.int .i64 n):=cell_of hb 3;have c4:w.cell? ⟨rb,4,none⟩=some (.int .i64 p):=cell_of hb 4;have c5:w.cell? ⟨rb,5,none⟩=some tv:=cell_of hb 5;have hlt:=lt_of_heap hb
 go_enter Tryz.func148,Tryz.ntmps148
 go_wp2_with fail
 go_region_law (refine step_append_lies _ rfl (.tmp 6) (.tmp 11) 77 rfl (rb+1) 76 i0 _ 4 40 Tryz.underlying77 hi hz0 hz1 hz2 rfl (by decide) tv m xs (by simp[Act.eval]) (aO hown (fun k hk=>Below.heap_alloc _ _ _ (aA hown k hk).2)) ⟨w.heap.size,0,none⟩ 1 1 [.int .i64 k,.string raw,.int .i64 n,.int .i64 p] (by simp[Act.eval]) rfl (World.news_of_block (cs:= #[.int .i64 k,.string raw,.int .i64 n,.int .i64 p]) (t:=76) (fr:=(0,0)) (heap_alloc_new w _)) (by simp[Value.oneCell']) (by decide) (by unfold maxLen;omega) (by omega) (by simp;omega) (w.heap.size+1) (by simp) ?_;intro g cap w1 ho hgrow hat wH;have hb1:=(sx hgrow rb hlt (sy hown rb (by omega))).trans hb;have d5:w1.cell? ⟨rb,5,none⟩=some tv:=cell_of hb1 5;have f5:w1.frozen? ⟨rb,5,none⟩=false:=aH hb1 5)
 all_goals
  have d0:w1.cell? ⟨rb,0,none⟩=some (.string s):=cell_of hb1 0;have d1:w1.cell? ⟨rb,1,none⟩=some (.int .i64 k):=cell_of hb1 1;have d2:w1.cell? ⟨rb,2,none⟩=some (.string raw):=cell_of hb1 2;have d3:w1.cell? ⟨rb,3,none⟩=some (.int .i64 n):=cell_of hb1 3;have d4:w1.cell? ⟨rb,4,none⟩=some (.int .i64 p):=cell_of hb1 4;have q1:w1.frozen? ⟨rb,1,none⟩=false:=aH hb1 1;have q2:w1.frozen? ⟨rb,2,none⟩=false:=aH hb1 2;have q3:w1.frozen? ⟨rb,3,none⟩=false:=aH hb1 3;have q4:w1.frozen? ⟨rb,4,none⟩=false:=aH hb1 4;have kQ:rb<w1.heap.size:=lt_of_heap hb1;have HH:Hid (Gl (w1.setCell ⟨rb,5,none⟩ (.slice (some ⟨g,0,none⟩) (m+1) cap)).drew):=by
   have q:Below rb w w1:=((Below.refl _ _).alloc (eF hlt) _).drew.grown hgrow (by show rb<=(w.alloc _).heap.size;simp;omega) (fun k hk=>by have:=(aA hown k hk).1;omega)
   exact(hG.below (q.setCell (ai _) _) sA).drew
  clear c0 c1 c2 c3 c4 c5
  go_wp2_with fail
  go_region_with (first
   |(go_at_call 195;refine(ae1 _ _ _ _ j _ hp hr HJ.out).mono ?_;rintro e w3 ⟨rfl,hb3⟩;have hx3:w3.heap[rb]?=some (.cells #[.string s,.int .i64 k,.string raw,.int .i64 n,.int .i64 p,.slice (some ⟨g,0,none⟩) (m+1) cap,rv] 80 (0,0)):=(hb3.block rb (by simp;omega)).trans (heap_set hb1 _);have x0:w3.cell? ⟨rb,0,none⟩=some (.string s):=cell_of hx3 0)
   |(go_at_call 60;refine(HT.out _ (HH.out.below hb3 (by simp;omega))).mono ?_;rintro e w4 ⟨rfl,hb4⟩;have oz:=(hb4.block rb (lt_of_heap hx3)).trans hx3;have y1:w4.cell? ⟨rb,1,none⟩=some (.int .i64 k):=cell_of oz 1;have y2:w4.cell? ⟨rb,2,none⟩=some (.string raw):=cell_of oz 2;have y3:w4.cell? ⟨rb,3,none⟩=some (.int .i64 n):=cell_of oz 3;have y4:w4.cell? ⟨rb,4,none⟩=some (.int .i64 p):=cell_of oz 4;have z1:w4.frozen? ⟨rb,1,none⟩=false:=aH oz 1;have z2:w4.frozen? ⟨rb,2,none⟩=false:=aH oz 2;have z3:w4.frozen? ⟨rb,3,none⟩=false:=aH oz 3;have z4:w4.frozen? ⟨rb,4,none⟩=false:=aH oz 4))
  all_goals
   go_wp2_with fail
   go_end0
   exact⟨rfl,ae3 hb hown ho hgrow hat hb3 hb4⟩
theorem ae5{rb:Nat}{s:ByteArray}{A r:List Pl.Tk}{t:Pl.Tk}{rg:List (List (Int×Int))}{w:World}(cx:Cx rb s A)(hR:RD rb s A (t::r) rg w)(hG:Gl w)
  (hk:t.k=119\/t.k=110\/t.k=40\/t.k=41\/t.k=44):
  Calls Tryz.prog 148 #[.pointer (some ⟨rb,0,none⟩)] w fun e w'=>e=.returned (.tuple #[])/\RD rb s A r rg w'/\Below rb w w'/\Kp rb w w':=by
 obtain⟨c,t',r',tv,rv,hc,hl,hb,hown,hrg⟩:=hR;injection hl with h1 h2;subst h1 h2;have hch:Pl.eJ s.data.toList (t::r):=Pl.Mb _ c _ (by rw[hc];exact cx.ch) (by simp)
 obtain⟨u,r',hr,hu,hcr⟩:=Pl.S3 _ t r hch (by omega)
 have hpl:=cx.pl t (by rw[<-hc];simp)
 have hsz:s.data.toList.length=s.size:=by simp
 have hlen:c.length+(r.length+1)<=402:=by have:=cx.len;rw[<-hc] at this;simpa using this
 have ae6:Pl.fO t=t.raw:=by unfold Pl.fO;rw[aa (by omega)]
 have hp1:=hpl.1;rw[hsz] at hp1;have hrs:(⟨(Pl.fO t).toArray⟩:ByteArray).size=t.raw.length:=by rw[ae6];rfl
 have hs:=cx.hs;refine(ae4 rb s _ _ _ t.pl (t.pl+t.raw.length) tv rv c.length (uI c) w (Pl.pk u) ⟨(Pl.fO u).toArray⟩ u.n u.pl hb hown (by omega) (by omega) (by rw[hrs];omega) (by rw[hrs]) hG cx.rb ?_).mono ?_
 ·intro w1 g1;have:=S8 Tj s (t.pl+t.raw.length) w1 hp1 cx.hs g1;rw[<-hu] at this;exact this
 ·rintro e w' ⟨rfl,⟨⟨AG,hb',hown',htv⟩,oC,ak⟩⟩;refine⟨rfl,⟨c++[t],u,r',AG,rv,by rw[<-hc];simp,hr,hb',?_,?_⟩,ak,?_⟩
  ·rw[adX];simpa[fA] using hown'
  ·refine hrg.kept fun k cur e hk' he hlt=>?_
   refine oC k (lt_of_heap hk') (by omega) (n9 hown hk' ?_)
   rcases he with rfl|rfl<;>decide
  ·rintro k o hne ⟨tv0,h0,h1⟩ hk';rw[cell_of hb 5] at h0;injection h0 with h0;subst h0;refine⟨(oC k (lt_of_heap hk') hne h1).trans hk',AG,cell_of hb' 5,fun e=>?_⟩
   rcases htv k e with h|h
   ·exact h1 h
   ·have:=lt_of_heap hk';omega
theorem Uz:nG:=fun _ _ _ _ _ _ _ cx hR hG hk=>ae5 cx hR hG hk
def kR(b v:Int):Bool:=decide (-b<=v/\v<=b)
theorem Ie(v b:Int)(w:World)(h0:0<=b)(h1:b<=1000000):
  Calls Tryz.prog 34 #[.int .i64 v,.int .i64 b] w fun e w'=>e=.returned (.bool (kR b v))/\w'=w:=by
 by_cases h: -b<=v
 ·go_enter Tryz.func34,Tryz.ntmps34
  go_wp2
  go_ret
  exact⟨r9 (by unfold kR;simp[h]),rfl⟩
 ·have h':decide (-b<=v)=false:=by simpa using h
  go_enter Tryz.func34,Tryz.ntmps34
  go_wp2
  go_ret
  exact⟨r9 (by unfold kR;simp;omega),rfl⟩
theorem UA(s:ByteArray)(w:World)(hs:s.size<=400)(hG:Gl w):
  Calls Tryz.prog 60 #[.string s,.int .i64 0] w fun e w'=>e=.returned (.agg (fA (Pl.tk s.data.toList 0)))/\Below w.heap.size w w':=
 S8 Tj s 0 w (iI _) hs hG
theorem Dz(s:List UInt8):∃r,Pl.all s=Pl.tk s 0::r:=Pl.Ma s _ 0
theorem RD.fresh{s:ByteArray}{w:World}{o:Obj}(ho:o=.cells (Hm s (Pl.tk s.data.toList 0) (.slice none 0 0) (.slice none 0 0)) 80 (0,0)):RD w.heap.size s (Pl.all s.data.toList) (Pl.all s.data.toList) [] (w.alloc o):=by
 obtain⟨r,hr⟩:=Dz s.data.toList;refine⟨[],_,r,.slice none 0 0,.slice none 0 0,rfl,hr,?_,World.ownsRow_nil _ _ _ _,[],rfl,World.ownsRow_nil _ _ _ _,?_,?_⟩
 ·rw[heap_alloc_new,ho]
 ·intro i v g hi;simp at hi
 ·intro i j v u k hi;simp at hi
theorem Cx.mk'{s:ByteArray}{rb:Nat}(hs:s.size<=400)(sA:6<=rb):Cx rb s (Pl.all s.data.toList):=
 ⟨hs,Pl.yo _,by have:=Pl.yq s.data.toList;simp at this;omega,Pl.Hj _,sA⟩
def outT(t:Pl.Tk):Bool:=decide (t.k=110)&& !kR 50 t.n
theorem Ig(c:List Pl.Tk)(k:Nat)(t:Pl.Tk)(h:c[k]?=some t)(j:Nat)(hj:j<4):(uI c)[k*4+j]?=(fA t)[j]?:=by
 induction c generalizing k with
 |nil=>simp at h
 |cons a r ih=>
  cases k with
  |zero=>
   have:a=t:=by simpa using h
   subst this;simp only[uI,uj,zO,jn];rw[eD (by simp[fA];omega)]
   simp
  |succ k=>
   have h':r[k]?=some t:=by simpa using h
   have:=ih k h';simp only[uI,uj] at this⊢;rw[nT (by simp[fA];omega)]
   rw[<-this];congr 1;simp[fA];omega
theorem ae8(s:ByteArray)(w:World)(hs:400<s.size)(hm:s.size<=maxLen):
  Calls Tryz.prog 33 #[.string s] w fun e w'=>e=.returned (.tuple #[.pointer none,.int .i64 1,.int .i64 0])/\w'=w:=by
 unfold maxLen at hm
 go_enter Tryz.func33,Tryz.ntmps33
 go_wp2
 go_ret3
 exact⟨rfl,rfl⟩
theorem ae9(s:ByteArray)(w:World)(hs:s.size<=400)(hG:Gl w)(l':List Pl.Tk)(t:Pl.Tk)(r:List Pl.Tk)(b:Bool)(v:List (List (List (Int×Int))))
  (hp:Pl.aM (Pl.all s.data.toList)=(b,l',v))(hl:l'=t::r)(hbad:b=false\/t.k≠101):
  Calls Tryz.prog 33 #[.string s] w fun e w'=>e=.returned (.tuple #[.pointer none,.int .i64 2,.int .i64 t.pl])/\Below w.heap.size w w':=by
 have HP:Hid (Pl.aM (Pl.all s.data.toList)=(b,l',v)):=hp;have HT:Hid (∀w1,Gl w1->Calls Tryz.prog 60 #[.string s,.int .i64 0] w1 fun e w'=>e=.returned (.agg (fA (Pl.tk s.data.toList 0)))/\Below w1.heap.size w1 w'):=fun w1 g1=>UA s w1 hs g1
 clear hp;generalize hk:Pl.tk s.data.toList 0=t0 at*;have HK:Hid (Pl.tk s.data.toList 0=t0):=hk;unfold fA at HT;clear hk
 go_enter Tryz.func33,Tryz.ntmps33
 go_wp2_with fail
 refine(HT.out _ hG).mono ?_;rintro e w1 ⟨rfl,hb1⟩;have cH:Gl w1:=hG.below hb1 hG.sz
 go_wp2_with fail
 have Ih:RD w1.heap.size s (Pl.all s.data.toList) (Pl.all s.data.toList) [] (w1.alloc (.cells (Hm s t0 (.slice none 0 0) (.slice none 0 0)) 80)):=RD.fresh (by rw[HK.out])
 have cx:Cx w1.heap.size s (Pl.all s.data.toList):=Cx.mk' hs cH.sz;refine(Ux Uz w1.heap.size s _ _ _ cx Ih (cH.alloc _)).mono ?_;rintro e w2 ⟨rfl,⟨rg2,cG,hrg2⟩,hb2⟩;rw[HP.out] at cG⊢;simp only at cG⊢;subst hl;obtain⟨t',r',hl,c0,c1,c2,c3,c4⟩:=cG.cells;injection hl with h1 h2;subst h1 h2;have ak:Below w.heap.size w w2:=((hb1.alloc hb1.size _).trans (hb2.mono hb1.size));cases b
 ·go_wp2_with fail
  go_quiet (fail)
  go_wp2_with fail
  go_ret3
  exact⟨rfl,⟨ak.os,ak.tape,ak.output,ak.size,ak.block⟩⟩
 ·have hk:(Pl.pk t != 1)=true:=by
   rw[vX];intro h;rcases hbad with h'|h'
   ·cases h'
   ·exact h' (Pl.Tp.1 h)
  go_wp2_with fail
  go_quiet (fail)
  go_wp2_with fail
  go_ret3
  exact⟨rfl,⟨ak.os,ak.tape,ak.output,ak.size,ak.block⟩⟩
structure Fp(pb:Nat)(w w':World):Prop where
 os:w'.os=w.os
 tape:w'.tape=w.tape
 output:w'.output=w.output
 size:w.heap.size<=w'.heap.size
 block:∀k,k<w.heap.size->k≠pb->w'.heap[k]?=w.heap[k]?
theorem Fp.refl(pb:Nat)(w:World):Fp pb w w:=⟨rfl,rfl,rfl,ai _,fun _ _ _=>rfl⟩
theorem Fp.trans{pb:Nat}{a b c:World}(h:Fp pb a b)(k:Fp pb b c):Fp pb a c:=
 ⟨k.os.trans h.os,k.tape.trans h.tape,k.output.trans h.output,dY h.size k.size,fun i hi hne=>(k.block i (aQ hi h.size) hne).trans (h.block i hi hne)⟩
theorem Fp.drewN{pb:Nat}{a w:World}(h:Fp pb a w)(n:Nat):Fp pb a (w.drewN n):=⟨h.os,h.tape,h.output,h.size,h.block⟩
theorem Fp.set{pb:Nat}{a w:World}(h:Fp pb a w)(o:Nat)(v:Value):Fp pb a (w.setCell ⟨pb,o,none⟩ v):=
 ⟨h.os,h.tape,h.output,by simp;exact h.size,fun k hk hne=>(bu hne _).trans (h.block k hk hne)⟩
theorem Fp.below{pb:Nat}{w w':World}(h:Fp pb w w')(B:Nat)(hB:B<=pb)(hs:B<=w.heap.size):Below B w w':=⟨h.os,h.tape,h.output,h.size,fun k hk=>h.block k (by omega) (by omega)⟩
def bO(c:List Pl.Tk):Int:=match c.find? outT with |some u=>u.pl|none=> -1
def PS(pb tb cap:Nat)(A l:List Pl.Tk)(bad:Bool)(w:World):Prop:=
 tb≠pb/\(∃cur,w.heap[tb]?=some (.cells cur 61 (0,0))/\∀(j:Nat) u,(ql A)[j]?=some u->cur[j]?=some u)/\
 ∃c,c++l=A/\w.heap[pb]?=some (.cells #[.slice (some ⟨tb,0,none⟩) A.length cap,.int .i64 c.length,.bool bad,.int .i64 (bO c)] 55 (0,0))
theorem afb(c:List Pl.Tk)(k:Nat)(t:Pl.Tk)(h:c[k]?=some t)(j:Nat)(hj:j<4):(ql c)[k*4+j]?=(sL t)[j]?:=by
 induction c generalizing k with
 |nil=>simp at h
 |cons a r ih=>
  cases k with
  |zero=>
   have:a=t:=by simpa using h
   subst this;simp only[ql,uj,zO,jn];rw[eD (by simp[sL];omega)]
   simp
  |succ k=>
   have h':r[k]?=some t:=by simpa using h
   have:=ih k h';simp only[ql,uj] at this⊢;rw[nT (by simp[sL];omega)]
   rw[<-this];congr 1;simp[sL];omega
theorem PS.cells{pb tb cap:Nat}{A r:List Pl.Tk}{t:Pl.Tk}{bad:Bool}{w:World}(h:PS pb tb cap A (t::r) bad w):
  ∃c:List Pl.Tk,c++t::r=A/\w.heap[pb]?=some (.cells #[.slice (some ⟨tb,0,none⟩) A.length cap,.int .i64 c.length,.bool bad,.int .i64 (bO c)] 55 (0,0))/\
   w.cell? ⟨tb,c.length*4,none⟩=some (.int .u8 t.k)/\w.cell? ⟨tb,c.length*4+1,none⟩=some (.string ⟨(Pl.rS t).toArray⟩)/\w.cell? ⟨tb,c.length*4+2,none⟩=some (.int .i64 t.n)/\w.cell? ⟨tb,c.length*4+3,none⟩=some (.int .i64 t.pl)/\
   c.length<A.length/\tb<w.heap.size:=by
 obtain⟨hne,⟨cur,gf,hrow⟩,c,hc,hb⟩:=h;have hg:A[c.length]?=some t:=by rw[<-hc];simp
 have hcell:∀j u,j<4->(sL t)[j]?=some u->w.cell? ⟨tb,c.length*4+j,none⟩=some u:=fun j u hj hu=>by
  rw[cell_of gf];exact hrow _ _ (by rw[afb A c.length t hg j hj];exact hu)
 exact⟨c,hc,hb,by simpa using hcell 0 (.int .u8 t.k) (by omega) rfl,hcell 1 _ (by omega) rfl,hcell 2 _ (by omega) rfl,hcell 3 _ (by omega) rfl,by rw[<-hc];simp,lt_of_heap gf⟩
theorem PS.mono{pb tb cap:Nat}{A l:List Pl.Tk}{bad:Bool}{w w':World}(h:PS pb tb cap A l bad w)(hk:∀k,k<w.heap.size->w'.heap[k]?=w.heap[k]?):PS pb tb cap A l bad w':=by
 obtain⟨hne,⟨cur,gf,hrow⟩,c,hc,hb⟩:=h;exact⟨hne,⟨cur,(hk _ (lt_of_heap gf)).trans gf,hrow⟩,c,hc,(hk _ (lt_of_heap hb)).trans hb⟩
theorem PS.put{pb tb cap:Nat}{A l l':List Pl.Tk}{bad bad':Bool}{w w':World}(h:PS pb tb cap A l bad w)(c:List Pl.Tk)(hc:c++l'=A)
  (hk:∀k,k<w.heap.size->k≠pb->w'.heap[k]?=w.heap[k]?)(hb:w'.heap[pb]?=some (.cells #[.slice (some ⟨tb,0,none⟩) A.length cap,.int .i64 c.length,.bool bad',.int .i64 (bO c)] 55 (0,0))):PS pb tb cap A l' bad' w':=by
 obtain⟨hne,⟨cur,gf,hrow⟩,_⟩:=h;exact⟨hne,⟨cur,(hk _ (lt_of_heap gf) hne).trans gf,hrow⟩,c,hc,hb⟩
theorem MM(c:List Pl.Tk)(t:Pl.Tk)(h:t.k≠110):bO (c++[t])=bO c:=by
 unfold bO;have:outT t=false:=by unfold outT;simp[h]
 rw[zR];cases h1:c.find? outT<;>simp[this]
theorem Ii(pb tb cap:Nat)(A r:List Pl.Tk)(t:Pl.Tk)(w:World)(k:Nat)(hP:PS pb tb cap A (t::r) false w)(hl:A.length<=402)(hk:t.k=k)(aof:k≠110):
  Calls Tryz.prog 42 #[.pointer (some ⟨pb,0,none⟩),.int .u8 k] w fun e w'=>e=.returned (.tuple #[])/\PS pb tb cap A r false w'/\Fp pb w w':=by
 obtain⟨c,hc,hb,e0,e1,e2,e3,hcl,jr⟩:=hP.cells;have HC:Hid (c++t::r=A):=hc;have HO:Hid (bO (c++[t])=bO c):=MM c t (by omega)
 have c0:w.cell? ⟨pb,0,none⟩=some (.slice (some ⟨tb,0,none⟩) A.length cap):=cell_of hb 0;have c1:w.cell? ⟨pb,1,none⟩=some (.int .i64 c.length):=cell_of hb 1;have c2:w.cell? ⟨pb,2,none⟩=some (.bool false):=cell_of hb 2;have f1:w.frozen? ⟨pb,1,none⟩=false:=aH hb 1;rw[hk] at e0;clear hc hk;have hib:(c.length:Int)<(A.length:Int):=by omega
 go_enter Tryz.func42,Tryz.ntmps42
 go_wp2_with fail
 go_quiet (fail)
 go_wp2_with fail
 go_end0
 refine⟨rfl,hP.put (c++[t]) (by rw[<-HC.out];simp) (fun k hk hne=>bu hne _) ?_,((Fp.refl pb w).drewN nq).set 1 _⟩
 have q:=heap_set (w:=w.drewN nq) (o:=1) hb (.int .i64 ((c.length:Int)+1));rw[HO.out];simpa using q
theorem Ij(pb tb cap:Nat)(A r:List Pl.Tk)(t:Pl.Tk)(w:World)(k:Nat)(hP:PS pb tb cap A (t::r) false w)(_hl:A.length<=402)(hk:t.k≠k):
  Calls Tryz.prog 42 #[.pointer (some ⟨pb,0,none⟩),.int .u8 k] w fun e w'=>e=.returned (.tuple #[])/\PS pb tb cap A (t::r) true w'/\Fp pb w w':=by
 obtain⟨c,hc,hb,e0,e1,e2,e3,hcl,jr⟩:=hP.cells;have HC:Hid (c++t::r=A):=hc;have c0:w.cell? ⟨pb,0,none⟩=some (.slice (some ⟨tb,0,none⟩) A.length cap):=cell_of hb 0;have c1:w.cell? ⟨pb,1,none⟩=some (.int .i64 c.length):=cell_of hb 1;have c2:w.cell? ⟨pb,2,none⟩=some (.bool false):=cell_of hb 2;have c3:w.cell? ⟨pb,3,none⟩=some (.int .i64 (bO c)):=cell_of hb 3;have f1:w.frozen? ⟨pb,1,none⟩=false:=aH hb 1;have f2:w.frozen? ⟨pb,2,none⟩=false:=aH hb 2;have f3:w.frozen? ⟨pb,3,none⟩=false:=aH hb 3;have hib:(c.length:Int)<(A.length:Int):=by omega
 clear hc;have hkb:((t.k:Int) == (k:Int))=false:=by rw[uv];omega
 clear hk
 go_enter Tryz.func42,Tryz.ntmps42
 go_wp2_with fail
 go_quiet (fail)
 go_wp2_with fail
 go_end0
 refine⟨rfl,hP.put c HC.out (fun k hk hne=>bu hne _) ?_,((Fp.refl pb w).drewN nq).set 2 _⟩
 exact heap_set (w:=w.drewN nq) (o:=2) hb (.bool true)
theorem afc(pb tb cap:Nat)(A r:List Pl.Tk)(t:Pl.Tk)(w:World)(k:Nat)(hP:PS pb tb cap A (t::r) true w)(_hl:A.length<=402):
  Calls Tryz.prog 42 #[.pointer (some ⟨pb,0,none⟩),.int .u8 k] w fun e w'=>e=.returned (.tuple #[])/\PS pb tb cap A (t::r) true w'/\Fp pb w w':=by
 obtain⟨c,hc,hb,e0,e1,e2,e3,hcl,jr⟩:=hP.cells;have HC:Hid (c++t::r=A):=hc;have c0:w.cell? ⟨pb,0,none⟩=some (.slice (some ⟨tb,0,none⟩) A.length cap):=cell_of hb 0;have c1:w.cell? ⟨pb,1,none⟩=some (.int .i64 c.length):=cell_of hb 1;have c2:w.cell? ⟨pb,2,none⟩=some (.bool true):=cell_of hb 2;have c3:w.cell? ⟨pb,3,none⟩=some (.int .i64 (bO c)):=cell_of hb 3;have f1:w.frozen? ⟨pb,1,none⟩=false:=aH hb 1;have f2:w.frozen? ⟨pb,2,none⟩=false:=aH hb 2;have f3:w.frozen? ⟨pb,3,none⟩=false:=aH hb 3;have hib:(c.length:Int)<(A.length:Int):=by omega
 clear hc
 go_enter Tryz.func42,Tryz.ntmps42
 go_wp2_with fail
 go_quiet (fail)
 go_wp2_with fail
 go_end0
 refine⟨rfl,hP.put c HC.out (fun k hk hne=>bu hne _) ?_,((Fp.refl pb w).drewN nq).set 2 _⟩
 exact heap_set (w:=w.drewN nq) (o:=2) hb (.bool true)
theorem afd(pb tb cap:Nat)(A r:List Pl.Tk)(t:Pl.Tk)(w:World)(k:Nat)(hP:PS pb tb cap A (t::r) false w)(_hl:A.length<=402):
  Calls Tryz.prog 44 #[.pointer (some ⟨pb,0,none⟩),.int .u8 k] w fun e w'=>e=.returned (.bool (decide (t.k=k)))/\∃n,w'=w.drewN n:=by
 obtain⟨c,hc,hb,e0,e1,e2,e3,hcl,jr⟩:=hP.cells;have HC:Hid (c++t::r=A):=hc;have c0:w.cell? ⟨pb,0,none⟩=some (.slice (some ⟨tb,0,none⟩) A.length cap):=cell_of hb 0;have c1:w.cell? ⟨pb,1,none⟩=some (.int .i64 c.length):=cell_of hb 1;have c2:w.cell? ⟨pb,2,none⟩=some (.bool false):=cell_of hb 2;have c3:w.cell? ⟨pb,3,none⟩=some (.int .i64 (bO c)):=cell_of hb 3;have f1:w.frozen? ⟨pb,1,none⟩=false:=aH hb 1;have f2:w.frozen? ⟨pb,2,none⟩=false:=aH hb 2;have f3:w.frozen? ⟨pb,3,none⟩=false:=aH hb 3;have hib:(c.length:Int)<(A.length:Int):=by omega
 clear hc
 go_enter Tryz.func44,Tryz.ntmps44
 go_wp2_with fail
 go_quiet (fail)
 go_wp2_with fail
 go_ret
 refine⟨r9 ?_,_,rfl⟩;rw[nj];simp;omega
theorem afe(pb tb cap:Nat)(A r:List Pl.Tk)(t:Pl.Tk)(w:World)(k:Nat)(hP:PS pb tb cap A (t::r) true w)(_hl:A.length<=402):
  Calls Tryz.prog 44 #[.pointer (some ⟨pb,0,none⟩),.int .u8 k] w fun e w'=>e=.returned (.bool false)/\∃n,w'=w.drewN n:=by
 obtain⟨c,hc,hb,e0,e1,e2,e3,hcl,jr⟩:=hP.cells;have HC:Hid (c++t::r=A):=hc;have c0:w.cell? ⟨pb,0,none⟩=some (.slice (some ⟨tb,0,none⟩) A.length cap):=cell_of hb 0;have c1:w.cell? ⟨pb,1,none⟩=some (.int .i64 c.length):=cell_of hb 1;have c2:w.cell? ⟨pb,2,none⟩=some (.bool true):=cell_of hb 2;have c3:w.cell? ⟨pb,3,none⟩=some (.int .i64 (bO c)):=cell_of hb 3;have f1:w.frozen? ⟨pb,1,none⟩=false:=aH hb 1;have f2:w.frozen? ⟨pb,2,none⟩=false:=aH hb 2;have f3:w.frozen? ⟨pb,3,none⟩=false:=aH hb 3;have hib:(c.length:Int)<(A.length:Int):=by omega
 clear hc
 go_enter Tryz.func44,Tryz.ntmps44
 go_wp2_with fail
 go_quiet (fail)
 go_wp2_with fail
 go_ret
 exact⟨rfl,_,rfl⟩
end Go.Proofs.YtkjhhooecopolaaGreatDoor

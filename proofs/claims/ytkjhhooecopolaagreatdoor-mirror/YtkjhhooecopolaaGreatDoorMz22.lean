import Derived.Test.YtkjhhooecopolaaGreatDoorMz21
set_option maxRecDepth 100000
set_option maxHeartbeats 4000000
namespace Go.Proofs.YtkjhhooecopolaaGreatDoor
open Go.RowKit
theorem MW{w w':World}{v:Value}{es:List Ed}(h:gu w v es)(hb:Below w.heap.size w w'):gu w' v es:=by
 obtain⟨xs,h1,h2,h3⟩:=h;exact⟨xs,h1,Hr h2 fun k cur hc=>hb.block k (lt_of_heap hc),h3⟩
theorem agv(x y d:Int):Pl.Aq x y d=(decide (d<1)||decide (60<d)|| !kH 100000 x|| !kH 100000 y):=by
 unfold Pl.Aq kH;rw[mO];simp only[QV,decide_eq_true_eq,KJ,decide_eq_false_iff_not];omega
theorem VV(s:ByteArray)(x y d:Int)(w:World)(hm:s.size<=maxLen)(od:Gl w):
  Calls Tryz.prog 17 #[.string s,.int .i64 x,.int .i64 y,.int .i64 d] w fun e w'=>e=.returned (Pl.Ar (Pl.dL s.data.toList x y d))/\Below w.heap.size w w':=by
 by_cases h0:(Pl.err s.data.toList).1=0
 ·have hp2:=(yh h0).2.1;obtain⟨hro,hrl,jm,hel⟩:=H9 h0;have HR:Hid (∀w1,Gl w1->Calls Tryz.prog 33 #[.string s] w1 fun e w'=>Below w1.heap.size w1 w'/\∃rb rv,e=.returned (.tuple #[.pointer (some ⟨rb,0,none⟩),.int .i64 0,.int .i64 0])/\
    w'.cell? ⟨rb,6,none⟩=some rv/\rb<w'.heap.size/\uK w' rv (Pl.rings s.data.toList)):=fun w1 g1=>by
   refine(Hp s w1 hm g1).mono ?_;rintro e w' ⟨hb,pv,rfl,fL⟩;obtain⟨rb,rfl,_,hR⟩:=fL h0;obtain⟨c,t,r,tv,rv,hc,hl',hbk,hown,MX⟩:=hR;exact⟨hb,rb,rv,by rw[h0,hp2];rfl,cell_of hbk 6,lt_of_heap hbk,UN MX⟩
  have qQ:Hid (∀w1,Calls Tryz.prog 34 #[.int .i64 x,.int .i64 100000] w1 fun e w'=>e=.returned (.bool (kH 100000 x))/\w'=w1):=fun w1=>Hh x 100000 w1 (by omega) (by omega)
  have sV:Hid (∀w1,Calls Tryz.prog 34 #[.int .i64 y,.int .i64 100000] w1 fun e w'=>e=.returned (.bool (kH 100000 y))/\w'=w1):=fun w1=>Hh y 100000 w1 (by omega) (by omega)
  have hbad:=agv x y d;have hwd:Pl.Aq x y d=true->Pl.dL s.data.toList x y d=(0,false,5,0):=fun h=>by unfold Pl.dL;rw[if_pos h0,if_pos h]
  by_cases h1:d<1
  ·rw[hwd (by rw[hbad];simp[h1])]
   simp only[Pl.Ar];clear hwd hbad qQ sV
   go_enter Tryz.func17,Tryz.ntmps17
   go_wp2_with fail
   refine(HR.out _ od).mono ?_;rintro e w1 ⟨hb1,rb,rv,rfl,c6,hlt,qR⟩
   go_wp2_with fail
   refine bodyPost_ret (v:=.tuple #[.int .i64 0,.bool false,.int .i64 5,.int .i64 0]) (by simp[results,Tryz.results17,go_sem]) rfl ⟨rfl,hb1⟩
  ·by_cases h2:60<d
   ·rw[hwd (by rw[hbad];simp[h2])]
    simp only[Pl.Ar];clear hwd hbad qQ sV
    go_enter Tryz.func17,Tryz.ntmps17
    go_wp2_with fail
    refine(HR.out _ od).mono ?_;rintro e w1 ⟨hb1,rb,rv,rfl,c6,hlt,qR⟩
    go_wp2_with fail
    refine bodyPost_ret (v:=.tuple #[.int .i64 0,.bool false,.int .i64 5,.int .i64 0]) (by simp[results,Tryz.results17,go_sem]) rfl ⟨rfl,hb1⟩
   ·cases qT:kH 100000 x
    ·rw[hwd (by rw[hbad,qT];simp)]
     rw[qT] at qQ;simp only[Pl.Ar];clear hwd hbad sV qT
     go_enter Tryz.func17,Tryz.ntmps17
     go_wp2_with fail
     refine(HR.out _ od).mono ?_;rintro e w1 ⟨hb1,rb,rv,rfl,c6,hlt,qR⟩
     go_wp2_with fail
     refine(qQ.out _).mono ?_;rintro e w2 ⟨rfl,rfl⟩
     go_wp2_with fail
     refine bodyPost_ret (v:=.tuple #[.int .i64 0,.bool false,.int .i64 5,.int .i64 0]) (by simp[results,Tryz.results17,go_sem]) rfl ⟨rfl,hb1⟩
    ·cases yC:kH 100000 y
     ·rw[hwd (by rw[hbad,yC];simp)]
      rw[qT] at qQ;rw[yC] at sV;simp only[Pl.Ar];clear hwd hbad qT yC
      go_enter Tryz.func17,Tryz.ntmps17
      go_wp2_with fail
      refine(HR.out _ od).mono ?_;rintro e w1 ⟨hb1,rb,rv,rfl,c6,hlt,qR⟩
      go_wp2_with fail
      refine(qQ.out _).mono ?_;rintro e w2 ⟨rfl,rfl⟩
      go_wp2_with fail
      refine(sV.out _).mono ?_;rintro e w2 ⟨rfl,rfl⟩
      go_wp2_with fail
      refine bodyPost_ret (v:=.tuple #[.int .i64 0,.bool false,.int .i64 5,.int .i64 0]) (by simp[results,Tryz.results17,go_sem]) rfl ⟨rfl,hb1⟩
     ·have VW:Pl.Aq x y d=false:=by rw[hbad,qT,yC];simp[h1,h2]
      have hxr: -100000<=x/\x<=100000:=of_decide_eq_true qT;have hyr: -100000<=y/\y<=100000:=of_decide_eq_true yC;obtain⟨G,uO⟩:∃G,Int.gcd (Int.gcd x y:Nat) d=G:=⟨_,rfl⟩;have uv:0<G:=by rw[<-uO];exact rY (by omega)
      have uP:(G:Int)∣(Int.gcd x y:Nat):=by rw[<-uO];exact xm _ _
      have dx:(G:Int)∣x:=xq uP (xm _ _);have dy:(G:Int)∣y:=xq uP (vD _ _);have dd:(G:Int)∣d:=by rw[<-uO];exact vD _ _
      have ex:=(rH dx).symm;have ey:=(rH dy).symm;have ed:=(rH dd).symm;rw[afG h0 VW (show(0:Int)<G by omega) ex ey ed]
      have lx:=LZ ex uv;have ly:=LZ ey uv;have ld:=LZ ed uv;have fx:Fl (floatOfInt .f64 x) x:=pS (by omega)
      have fy:Fl (floatOfInt .f64 y) y:=pS (by omega)
      have HNA:Hid (∀w1,Calls Tryz.prog 37 #[.complex .f64 (floatOfInt .f64 x) (floatOfInt .f64 y),.int .i64 d] w1 fun e w'=>e=.returned (.agg #[.complex .f64 (floatOfInt .f64 (x.tdiv G)) (floatOfInt .f64 (y.tdiv G)),.int .i64 (d.tdiv G)])/\Below w1.heap.size w1 w'):=fun w1=>Tu d fx fy (by omega) (by omega) (by omega) G uO w1
      have HPA:Hid (∀w1,Calls Tryz.prog 38 #[.int .i64 x,.int .i64 y] w1 fun e w'=>e=.returned (.complex .f64 (floatOfInt .f64 x) (floatOfInt .f64 y))/\w'=w1):=fun w1=>CK x y w1
      have hDp:0<d.tdiv (G:Int):=by
       rcases fk (d.tdiv (G:Int)) 0 with h|h|h
       ·have:=vC (show(0:Int)<G by omega) h;omega
       ·rw[h] at ed;omega
       ·exact h
      have DU:Hid (∀v w1,gu w1 v (Ge.aa (Pl.rings s.data.toList))->Calls Tryz.prog 35 #[v,.agg #[.complex .f64 (floatOfInt .f64 (x.tdiv G)) (floatOfInt .f64 (y.tdiv G)),.int .i64 (d.tdiv G)]] w1 fun e w'=>e=.returned (if(Ge.aa (Pl.rings s.data.toList)).any (Ge.fo (x.tdiv G,y.tdiv G) (d.tdiv G)) then .tuple #[.int .i64 0,.bool true] else .tuple #[.int .i64 (Ge.total (Ge.fr (x.tdiv G,y.tdiv G) (d.tdiv G)) (Ge.aa (Pl.rings s.data.toList))),.bool false])/\Below w1.heap.size w1 w'):=fun v w1 hv=>
       ad4 _ v w1 hv hel jm (pS (by omega)) (pS (by omega)) ⟨by omega,by omega,by omega⟩
      have kK:Hid (∀v w1,uK w1 v (Pl.rings s.data.toList)->Calls Tryz.prog 36 #[v] w1 fun e w'=>∃v,e=.returned v/\gu w' v (Ge.aa (Pl.rings s.data.toList))/\Below w1.heap.size w1 w'):=fun v w1 hv=>UQ _ v w1 hv hro hrl
      rw[qT] at qQ;rw[yC] at sV;clear hwd hbad VW qT yC uP dx dy dd ex ey ed lx ly ld fx fy hDp uO hel jm hro hrl hp2 h0;generalize Pl.rings s.data.toList=RG at*;generalize Ge.aa RG=ES at*;generalize x.tdiv (G:Int)=XQ at*;generalize y.tdiv (G:Int)=YQ at*;generalize d.tdiv (G:Int)=DQ at*
      go_enter Tryz.func17,Tryz.ntmps17
      go_wp2_with fail
      refine(HR.out _ od).mono ?_;rintro e w1 ⟨hb1,rb,rv,rfl,c6,hlt,qR⟩
      go_wp2_with fail
      refine(qQ.out _).mono ?_;rintro e w2 ⟨rfl,rfl⟩
      go_wp2_with fail
      refine(sV.out _).mono ?_;rintro e w2 ⟨rfl,rfl⟩
      go_wp2_with fail
      refine(kK.out _ _ qR).mono ?_;rintro e w3 ⟨ev,rfl,rU,hb3⟩;have jP:=hb1.trans (hb3.mono hb1.size)
      go_wp2_with fail
      refine(HPA.out _).mono ?_;rintro e w4 ⟨rfl,rfl⟩
      go_wp2_with fail
      refine(HNA.out _).mono ?_;rintro e w5 ⟨rfl,ai⟩;have kA:=jP.trans (ai.mono jP.size);have agz:=MW rU ai
      go_wp2_with fail
      refine(DU.out _ _ agz).mono ?_;rintro e w6 ⟨rfl,ax⟩;have VX:=kA.trans (ax.mono kA.size);by_cases ha:ES.any (Ge.fo (XQ,YQ) DQ)=true
      ·rw[if_pos ha]
       go_wp2_with fail
       refine bodyPost_ret (v:=.tuple #[.int .i64 0,.bool true,.int .i64 0,.int .i64 0]) (by simp[results,Tryz.results17,go_sem]) rfl ⟨?_,VX⟩
       first
        |rfl
        |(rw[if_pos ha];rfl)
      ·rw[if_neg ha]
       go_wp2_with fail
       refine bodyPost_ret (v:=.tuple #[.int .i64 (Ge.total (Ge.fr (XQ,YQ) DQ) ES),.bool false,.int .i64 0,.int .i64 0]) (by simp[results,Tryz.results17,go_sem]) rfl ⟨?_,VX⟩
       first
        |rfl
        |(rw[if_neg ha];rfl)
 ·have hw:Pl.dL s.data.toList x y d=(0,false,Pl.err s.data.toList):=if_neg h0;rw[hw];have hne:(((Pl.err s.data.toList).1:Int) != 0)=true:=by rw[bne_iff_ne];omega
  have HR:Hid (∀w1,Gl w1->Calls Tryz.prog 33 #[.string s] w1 fun e w'=>Below w1.heap.size w1 w'/\∃pv,e=.returned (.tuple #[.pointer pv,.int .i64 (Pl.err s.data.toList).1,.int .i64 (Pl.err s.data.toList).2])):=fun w1 g1=>by
   refine(Hp s w1 hm g1).mono ?_;rintro e w' ⟨hb,pv,rfl,_⟩;exact⟨hb,pv,rfl⟩
  simp only[Pl.Ar];generalize(Pl.err s.data.toList).1=E at*;generalize(Pl.err s.data.toList).2=Pp at*;clear hw h0
  go_enter Tryz.func17,Tryz.ntmps17
  go_wp2_with fail
  refine(HR.out _ od).mono ?_;rintro e w1 ⟨hb1,pv,rfl⟩
  go_wp2_with fail
  refine bodyPost_ret (v:=.tuple #[.int .i64 0,.bool false,.int .i64 E,.int .i64 Pp]) (by simp[results,Tryz.results17,go_sem]) rfl ⟨rfl,hb1⟩
namespace Ge
def held(e:Pt×Pt)(l:List Nd):List Nd:=l.filter fun n=>fo (n.1,n.2.1) n.2.2 e
def nexts:List Nd->List (Nd×Nd)
 |[]=>[]
 |[_]=>[]
 |a::b::r=>(a,b)::nexts (b::r)
theorem VY:∀(l:List Nd)(y x:Nd),l.getLast?=some y->nexts (l++[x])=nexts l++[(y,x)]
 |[],_,_,h=>by simp at h
 |[a],y,x,h=>by
  have e:a=y:=by simpa using h
  subst e;simp[nexts]
 |a::b::r,y,x,h=>by
  have ih:=VY (b::r) y x (by simpa using h)
  show nexts (a::b::(r++[x]))=nexts (a::b::r)++[(y,x)];simp only[nexts,lN];rw[<-ih];rfl
theorem agA{e:Pt×Pt}{l:List Nd}{k:Nat}{n:Nd}(h:l[k]?=some n):held e (l.take (k+1))=held e (l.take k)++(if fo (n.1,n.2.1) n.2.2 e then[n] else[]):=by
 obtain⟨hlt,he⟩:=bT.1 h;unfold held;rw[oK hlt,he,F4];congr 1;cases hf:fo (n.1,n.2.1) n.2.2 e<;>simp[hf]
end Ge
def cI(l:List PB):List Value:=l.flatMap PB.cells
theorem agB(l:List PB)(x:PB):cI (l++[x])=cI l++x.cells:=by simp[cI]
theorem VZ:(Tryz.prog.info? 171).map (fun i=>(i.zero,i.size,i.bytes))=some (some (.agg #[.complex .f64 0 0,.float .f64 0,.complex .f64 0 0,.int .i64 0,.complex .f64 0 0,.int .i64 0]),6,72):=by kernel_rfl
def PL(w:World)(lv:Value)(L:List PB)(wr:World):Prop:=wr.ownsRow w.heap.size 171 6 lv L.length (cI L)/\Below w.heap.size w wr
def qU(w:World)(v:Value)(l:List PB):Prop:=w.ownsRow 0 171 6 v l.length (cI l)
def eO(a b s:Nat)(e:Ed)(l:List Ge.Nd):List PB:=(Ge.nexts (Ge.held e l)).map fun p=>⟨a,b,s,p.1,p.2⟩
def V2(e:Ed)(l:List Ge.Nd)(k:Nat)(b:Int):Prop:=(b= -1/\Ge.held e (l.take k)=[])\/∃(j:Nat)(n:Ge.Nd),b=(j:Int)/\j<k/\l[j]?=some n/\(Ge.held e (l.take k)).getLast?=some n
structure uQ(w:World)(R:Nat)(ec rc:Array Value)(lv:Value)(L:List PB)(wr:World):Prop where
 own:wr.ownsRow (R+1) 171 6 lv L.length (cI L)
 below:Below w.heap.size w wr
 e:wr.heap[w.heap.size]?=some (.cells ec 124 (0,0))
 r:wr.heap[R]?=some (.cells rc 122 (0,0))
theorem uQ.keep{w:World}{R:Nat}{ec rc:Array Value}{lv:Value}{L:List PB}{wr w':World}(h:uQ w R ec rc lv L wr)(hb:Below wr.heap.size wr w'):uQ w R ec rc lv L w':=
 ⟨aJ h.own fun k hk=>hb.block k (au h.own k hk).2,h.below.trans (hb.mono h.below.size),(hb.block _ (lt_of_heap h.e)).trans h.e,(hb.block _ (lt_of_heap h.r)).trans h.r⟩
theorem uR{w:World}{b b':Nat}{e:TypeId}{size:Nat}{v:Value}{n:Nat}{xs:List Value}(h:w.ownsRow b e size v n xs)(hb:b'<=b):w.ownsRow b' e size v n xs:=by
 obtain⟨h1,h2⟩:=h;refine⟨h1,?_⟩;rcases h2 with h|⟨g,cap,cur,hv,hg,hr⟩
 ·exact Or.inl h
 ·exact Or.inr ⟨g,cap,cur,hv,dS hb hg,hr⟩
theorem lt_of_cell{w:World}{b o:Nat}{v:Value}(h:w.cell? ⟨b,o,none⟩=some v):b<w.heap.size:=World.block_lt_of_cell? w _ h
theorem V3(a b s:Nat)(e:Ed)(l:List Ge.Nd):(eO a b s e l).length<=l.length:=by
 have h1:∀m:List Ge.Nd,(Ge.nexts m).length<=m.length:=fun m=>by
  induction m with
  |nil=>simp[Ge.nexts]
  |cons x r ih=>
   cases r with
   |nil=>simp[Ge.nexts]
   |cons y q=>simp only[Ge.nexts,bO] at ih⊢;omega
 unfold eO;rw[iH];refine dS (h1 _) ?_;exact F5 _ _
theorem agC(x:EB)(e:Ed)(l:List Ge.Nd)(v:Value)(w:World)(hx:iT x e)(hs:fg e)(hR:iq w v l)(hn:∀n∈l,dm n.1 n.2.1 n.2.2)(hl:l.length<=200000)
  {a b s:Nat}(hr:∀w,Calls Tryz.prog 198 #[.agg #[.complex .f64 x.wa x.wb,.float .f64 x.sh]] w fun e w'=>e=.returned (.agg #[.complex .f64 a b,.float .f64 s])/\Below w.heap.size w w'):
  Calls Tryz.prog 155 #[.agg x.cells,v] w fun r w'=>∃v',r=.returned v'/\PL w v' (eO a b s e l) w':=by
 obtain⟨so,cap,rfl⟩:=Iu hR;obtain⟨i0,hi,hz0,hz1,hz2⟩:=info_parts VZ;have HR:Hid (iq w (.slice so l.length cap) l):=hR;have DV:Hid (∀w,Calls Tryz.prog 198 #[.agg #[.complex .f64 x.wa x.wb,.float .f64 x.sh]] w fun e w'=>e=.returned (.agg #[.complex .f64 a b,.float .f64 s])/\Below w.heap.size w w'):=hr
 have HH:Hid (∀n∈l,∀w1,Calls Tryz.prog 62 #[.agg #[.complex .f64 x.wa x.wb,.float .f64 x.sh,.complex .f64 x.fa x.fb,.complex .f64 x.ta x.tb],.agg #[.complex .f64 (floatOfInt .f64 n.1) (floatOfInt .f64 n.2.1),.int .i64 n.2.2]] w1 fun e' w'=>e'=.returned (.bool (Ge.fo (n.1,n.2.1) n.2.2 e))/\Below w1.heap.size w1 w'):=fun n h w1=>CT x e hx hs (qP (hn n h)).1 (qP (hn n h)).2 (hn n h) w1
 clear hR hr hx hs hn;obtain⟨wa,wb,sh,fa,fb,ta,tb⟩:=x;simp only[EB.cells] at*;have hb0:Below w.heap.size w (w.alloc (.cells #[.complex .f64 wa wb,.float .f64 sh,.complex .f64 fa fb,.complex .f64 ta tb] 124)):=(Below.refl _ _).alloc (ae _) _;have mZ:=heap_alloc_new w (.cells #[.complex .f64 wa wb,.float .f64 sh,.complex .f64 fa fb,.complex .f64 ta tb] 124);have hz:w.heap.size<(w.alloc (.cells #[.complex .f64 wa wb,.float .f64 sh,.complex .f64 fa fb,.complex .f64 ta tb] 124)).heap.size:=by simp
 go_enter Tryz.func155,Tryz.ntmps155
 go_wp2_with fail
 generalize w.alloc (.cells #[.complex .f64 wa wb,.float .f64 sh,.complex .f64 fa fb,.complex .f64 ta tb] 124)=W at*;refine(DV.out _).mono ?_;rintro r w1 ⟨rfl,hb1⟩;have jz:=(hb1.block _ hz).trans mZ;have DW:w.heap.size<w1.heap.size:=aL hz hb1.size;have sM:=hb0.trans (hb1.mono hb0.size);clear hb0 hb1 mZ DV
 go_wp2_with (simp only[fA,lX];go_simp)
 have bh:Hid (uQ w w1.heap.size #[.complex .f64 wa wb,.float .f64 sh,.complex .f64 fa fb,.complex .f64 ta tb] #[.complex .f64 a b,.float .f64 s] (.slice none 0 0) (eO a b s e (l.take 0)) (w1.alloc (.cells #[.complex .f64 a b,.float .f64 s] 122))/\V2 e l 0 (-1)):=by
  refine⟨⟨?_,sM.alloc sM.size _,(Below.heap_alloc _ _ _ DW).trans jz,heap_alloc_new _ _⟩,Or.inl ⟨rfl,by simp[Ge.held]⟩⟩
  have e0:eO a b s e (l.take 0)=[]:=by simp[eO,Ge.held,Ge.nexts]
  rw[e0];exact World.ownsRow_nil _ _ _ _
 have hRz:w.heap.size<w1.heap.size:=DW;clear jz sM DW;generalize w1.heap.size=R at*;generalize w1.alloc (.cells #[.complex .f64 a b,.float .f64 s] 122)=WL at*
 go_loopg [5,7,15] l.length (fun m lv bv iv wr=>∃(k:Nat)(bb:Int),k+m=l.length/\iv=.int .i64 k/\bv=.int .i64 bb/\Hid (uQ w R #[.complex .f64 wa wb,.float .f64 sh,.complex .f64 fa fb,.complex .f64 ta tb] #[.complex .f64 a b,.float .f64 s] lv (eO a b s e (l.take k)) wr/\V2 e l k bb))
 case atStart=>exact⟨0, -1,by omega,rfl,rfl,bh⟩
 case round=>
  obtain⟨k,bb,hkn,rfl,rfl,HC⟩:=hrel;clear bh;have ag:=HC.out.1.below;by_cases hlt:k<l.length
  ·obtain⟨n,DX⟩:∃n,l[k]?=some n:=⟨_,ay hlt⟩;obtain⟨bN,rfl,uS,c0,c1⟩:=Iw HR.out DX;have r0:=(ag.cell (p:=⟨bN,k*2,none⟩) uS).trans c0;have r1:=(ag.cell (p:=⟨bN,k*2+1,none⟩) uS).trans c1;have eD:(k:Int)<(l.length:Int):=by omega
   have hbr:bN<wr.heap.size:=aL uS ag.size;have g0:wr.cell? ⟨w.heap.size,0,none⟩=some (.complex .f64 wa wb):=cell_of HC.out.1.e 0;have g1:wr.cell? ⟨w.heap.size,1,none⟩=some (.float .f64 sh):=cell_of HC.out.1.e 1;have g2:wr.cell? ⟨w.heap.size,2,none⟩=some (.complex .f64 fa fb):=cell_of HC.out.1.e 2;have g3:wr.cell? ⟨w.heap.size,3,none⟩=some (.complex .f64 ta tb):=cell_of HC.out.1.e 3;have hez:w.heap.size<wr.heap.size:=lt_of_heap HC.out.1.e;have xG:R<wr.heap.size:=lt_of_heap HC.out.1.r;have qE:=HH.out n (aY DX);have DY:Hid (∀w1,Calls Tryz.prog 62 #[.agg #[.complex .f64 wa wb,.float .f64 sh,.complex .f64 fa fb,.complex .f64 ta tb],.agg #[.complex .f64 (floatOfInt .f64 n.1) (floatOfInt .f64 n.2.1),.int .i64 n.2.2]] w1 fun e' w'=>e'=.returned (.bool (Ge.fo (n.1,n.2.1) n.2.2 e))/\Below w1.heap.size w1 w'):=qE
   have HT:=Ge.agA (e:=e) DX;have uT:Hid (Ge.held e (l.take (k+1))=Ge.held e (l.take k)++(if Ge.fo (n.1,n.2.1) n.2.2 e then[n] else[])):=HT
   have V4:Hid (l[k]?=some n):=DX;have HV:Hid (gV n=[.complex .f64 (floatOfInt .f64 n.1) (floatOfInt .f64 n.2.1),.int .i64 n.2.2]):=rfl;clear c0 c1 DX qE HT;generalize floatOfInt .f64 n.1=N1 at*;generalize floatOfInt .f64 n.2.1=N2 at*;cases hfo:Ge.fo (n.1,n.2.1) n.2.2 e
   ·rw[hfo] at DY uT;clear hfo
    go_wp2_with (simp only[fA];go_simp)
    refine(DY.out _).mono ?_;rintro r w5 ⟨rfl,ai⟩
    go_wp2_with fail
    go_roundg (gk-1)
    case measure=>omega
    case rel=>
     refine⟨k+1,bb,by omega,by go_num,rfl,?_,?_⟩
     ·have e1:eO a b s e (l.take (k+1))=eO a b s e (l.take k):=by unfold eO;rw[uT.out];simp
      rw[e1];exact(HC.out.1.keep ((Below.refl _ _).alloc (ae _) _)).keep ai
     ·rcases HC.out.2 with⟨h1,h2⟩|⟨j,m,h1,h2,h3,h4⟩
      ·exact Or.inl ⟨h1,by rw[uT.out,h2];rfl⟩
      ·exact Or.inr ⟨j,m,h1,by omega,h3,by rw[uT.out];simpa using h4⟩
   ·rw[hfo] at DY uT;clear hfo;have ID:Hid (uQ w R #[.complex .f64 wa wb,.float .f64 sh,.complex .f64 fa fb,.complex .f64 ta tb] #[.complex .f64 a b,.float .f64 s] u5 (eO a b s e (l.take k)) (wr.alloc (.cells #[.complex .f64 N1 N2,.int .i64 n.2.2] 83))):=HC.out.1.keep ((Below.refl _ _).alloc (ae _) _);have HWN:Hid (∀k,u5.ownBlock=some k->k<wr.heap.size):=fun k hk=>(au HC.out.1.own k hk).2
    have DZ:=heap_alloc_new wr (.cells #[.complex .f64 N1 N2,.int .i64 n.2.2] 83);have MZ:wr.heap.size<(wr.alloc (.cells #[.complex .f64 N1 N2,.int .i64 n.2.2] 83)).heap.size:=by simp
    rcases HC.out.2 with⟨h1,h2⟩|⟨j,m,h1,h2,h3,h4⟩
    ·subst h1;have HH2:Hid (Ge.held e (l.take k)=[]):=h2;clear h2 HC
     go_wp2_with (simp only[fA];go_simp)
     generalize wr.alloc (.cells #[.complex .f64 N1 N2,.int .i64 n.2.2] 83)=W2 at*;refine(DY.out _).mono ?_;rintro r w5 ⟨rfl,ai⟩;have lG:Hid (uQ w R #[.complex .f64 wa wb,.float .f64 sh,.complex .f64 fa fb,.complex .f64 ta tb] #[.complex .f64 a b,.float .f64 s] u5 (eO a b s e (l.take k)) w5):=ID.out.keep ai;clear ID ai g0 g1 g2 g3 r0 r1
     go_wp2_with fail
     go_roundg (gk-1)
     case measure=>omega
     case rel=>
      refine⟨k+1,k,by omega,by go_num,rfl,?_,?_⟩
      ·have e1:eO a b s e (l.take (k+1))=eO a b s e (l.take k):=by unfold eO;rw[uT.out,HH2.out];simp[Ge.nexts]
       rw[e1];exact lG.out
      ·exact Or.inr ⟨k,n,rfl,by omega,V4.out,by rw[uT.out];simp⟩
    ·subst h1;have V5:Hid ((Ge.held e (l.take k)).getLast?=some m):=h4;obtain⟨bM,D3,_,m0,m1⟩:=Iw HR.out h3;injection D3 with D3;injection D3 with D3;subst D3;have hjl:j<l.length:=(bT.1 h3).1;have V6:(j:Int)<(l.length:Int):=by omega
     have HVM:Hid (gV m=[.complex .f64 (floatOfInt .f64 m.1) (floatOfInt .f64 m.2.1),.int .i64 m.2.2]):=rfl;have HLEN:Hid ((eO a b s e (l.take k)).length<=200000):=dS (V3 _ _ _ _ _) (by simp;omega)
     have AJ:Hid (eO a b s e (l.take (k+1))=eO a b s e (l.take k)++[⟨a,b,s,m,n⟩]):=by
      unfold eO;rw[uT.out];simp only[if_true];rw[Ge.VY _ _ _ V5.out,iy];rfl
     have D4:Hid ((⟨a,b,s,m,n⟩:PB).cells=[.complex .f64 a b,.float .f64 s]++gV m++gV n):=rfl;generalize floatOfInt .f64 m.1=M1 at*;generalize floatOfInt .f64 m.2.1=M2 at*;clear h2 h3 h4 HC
     go_wp2_with (simp only[fA];go_simp)
     generalize wr.alloc (.cells #[.complex .f64 N1 N2,.int .i64 n.2.2] 83)=W2 at*;refine(DY.out _).mono ?_;rintro r w5 ⟨rfl,ai⟩;have lG:Hid (uQ w R #[.complex .f64 wa wb,.float .f64 sh,.complex .f64 fa fb,.complex .f64 ta tb] #[.complex .f64 a b,.float .f64 s] u5 (eO a b s e (l.take k)) w5):=ID.out.keep ai;have AK:=(ai.block _ MZ).trans DZ;have q0:w5.cell? ⟨wr.heap.size,0,none⟩=some (.complex .f64 N1 N2):=cell_of AK 0;have q1:w5.cell? ⟨wr.heap.size,1,none⟩=some (.int .i64 n.2.2):=cell_of AK 1;have q2:w5.cell? ⟨R,0,none⟩=some (.complex .f64 a b):=cell_of lG.out.r 0;have q3:w5.cell? ⟨R,1,none⟩=some (.float .f64 s):=cell_of lG.out.r 1;have q4:=(lG.out.below.cell (p:=⟨bN,j*2,none⟩) uS).trans m0;have q5:=(lG.out.below.cell (p:=⟨bN,j*2+1,none⟩) uS).trans m1;clear ID ai g0 g1 g2 g3 r0 r1 m0 m1 DZ AK
     go_wp2_with fail
     have IE:wr.heap.size<w5.heap.size:=lt_of_cell q0;have D5:R<w5.heap.size:=lt_of_cell q2;have AL:bN<w5.heap.size:=lt_of_cell q4;have dB:=lG.out.own;have V7:some wr.heap.size≠u5.ownBlock:=fun h=>by have:=HWN.out _ h.symm;omega
     have M0:some R≠u5.ownBlock:=fun h=>by have:=(au dB _ h.symm).1;omega
     have V8:some bN≠u5.ownBlock:=fun h=>by have:=(au dB _ h.symm).1;omega
     refine wp_region_held_drew (S:=(fun w'=>w'.cell? ⟨wr.heap.size,0,none⟩=some (.complex .f64 N1 N2)/\w'.cell? ⟨wr.heap.size,1,none⟩=some (.int .i64 n.2.2)/\w'.cell? ⟨R,0,none⟩=some (.complex .f64 a b)/\w'.cell? ⟨R,1,none⟩=some (.float .f64 s)/\w'.cell? ⟨bN,j*2,none⟩=some (.complex .f64 M1 M2)/\w'.cell? ⟨bN,j*2+1,none⟩=some (.int .i64 m.2.2))) (by kernel_rfl) ⟨q0,q1,q2,q3,q4,q5⟩ (fun hHeld=>?_)
     refine wpAnyH_take (i:=0) (oi:={dst:=some 26,op:=_,type:=_,pos:=_,after:=_,guard:=_}) (v:=?_) rfl (by kernel_rfl) (by kernel_rfl) (by kernel_rfl) (fun _ _ _ h=>h) (Or.inl ⟨by rfl,?_⟩) hHeld ?_
     rotate_left
     ·intro w' aw;obtain⟨s0,s1,s2,s3,s4,s5⟩:=aw
      go_simp
      try with_reducible rfl
     simp only[Act.put,aC,aD,aA];refine wpAnyH_take (i:=1) (oi:={dst:=some 27,op:=_,type:=_,pos:=_,after:=_,guard:=_}) (v:=?_) rfl (by kernel_rfl) (by kernel_rfl) (by kernel_rfl) (fun _ _ _ h=>h) (Or.inl ⟨by rfl,?_⟩) hHeld ?_
     rotate_left
     ·intro w' aw;obtain⟨s0,s1,s2,s3,s4,s5⟩:=aw
      go_simp
      try with_reducible rfl
     simp only[Act.put,aC,aD,aA];refine wpAnyH_take (i:=2) (oi:={dst:=some 28,op:=_,type:=_,pos:=_,after:=_,guard:=_}) (v:=?_) rfl (by kernel_rfl) (by kernel_rfl) (by kernel_rfl) (fun _ _ _ h=>h) (Or.inl ⟨by rfl,?_⟩) hHeld ?_
     rotate_left
     ·intro w' aw;obtain⟨s0,s1,s2,s3,s4,s5⟩:=aw
      go_simp
      try with_reducible rfl
     simp only[Act.put,aC,aD,aA];refine wpAnyH_take (i:=3) (oi:={dst:=some 29,op:=_,type:=_,pos:=_,after:=_,guard:=_}) (v:=?_) rfl (by kernel_rfl) (by kernel_rfl) (by kernel_rfl) (fun _ _ _ h=>h) (Or.inl ⟨by rfl,?_⟩) hHeld ?_
     rotate_left
     ·intro w' aw;obtain⟨s0,s1,s2,s3,s4,s5⟩:=aw
      go_simp
      try with_reducible rfl
     simp only[Act.put,aC,aD,aA];refine wpAnyH_take (i:=4) (oi:={dst:=some 30,op:=_,type:=_,pos:=_,after:=_,guard:=_}) (v:=?_) rfl (by kernel_rfl) (by kernel_rfl) (by kernel_rfl) (fun _ _ _ h=>h) (Or.inl ⟨by rfl,?_⟩) hHeld ?_
     rotate_left
     ·intro w' aw;obtain⟨s0,s1,s2,s3,s4,s5⟩:=aw
      go_simp
      try with_reducible rfl
     simp only[Act.put,aC,aD,aA];refine wpAnyH_take (i:=5) (oi:={dst:=some 31,op:=_,type:=_,pos:=_,after:=_,guard:=_}) (v:=?_) rfl (by kernel_rfl) (by kernel_rfl) (by kernel_rfl) (fun _ _ _ h=>h) (Or.inl ⟨by rfl,?_⟩) hHeld ?_
     rotate_left
     ·intro w' aw;obtain⟨s0,s1,s2,s3,s4,s5⟩:=aw
      go_simp
      try with_reducible rfl
     simp only[Act.put,aC,aD,aA];refine wpAnyH_take (i:=6) (oi:={dst:=some 32,op:=_,type:=_,pos:=_,after:=_,guard:=_}) (v:=?_) rfl (by kernel_rfl) (by kernel_rfl) (by kernel_rfl) (fun _ _ _ h=>h) (Or.inl ⟨by rfl,?_⟩) hHeld ?_
     rotate_left
     ·intro w' aw;obtain⟨s0,s1,s2,s3,s4,s5⟩:=aw
      go_simp
      try with_reducible rfl
     simp only[Act.put,aC,aD,aA];refine wpAnyH_take (i:=7) (oi:={dst:=some 33,op:=_,type:=_,pos:=_,after:=_,guard:=_}) (v:=?_) rfl (by kernel_rfl) (by kernel_rfl) (by kernel_rfl) (fun _ _ _ h=>h) (Or.inl ⟨by rfl,?_⟩) hHeld ?_
     rotate_left
     ·intro w' aw;obtain⟨s0,s1,s2,s3,s4,s5⟩:=aw
      go_simp
      try with_reducible rfl
     simp only[Act.put,aC,aD,aA];refine wpAnyH_ready (rs:=[8]) (by kernel_rfl) (by simp) ?_
     refine AllReadyH.cons rfl (fun K hK=>?_) AllReadyH.nil
     go_simp
     refine hK.out _ _ ⟨(jk _ _ IE).trans q0,(jk _ _ IE).trans q1,(jk _ _ D5).trans q2,(jk _ _ D5).trans q3,(jk _ _ AL).trans q4,(jk _ _ AL).trans q5⟩ (fun hHeld=>?_)
     clear hK K
     try simp only[Act.put,aC,aD,aA]
     refine wpAnyH_ready (rs:=[9]) (by kernel_rfl) (by simp) ?_
     refine AllReadyH.cons rfl (fun K hK=>?_) AllReadyH.nil
     have hlen:=HLEN.out;refine step_append_lies _ rfl (.tmp 26) (.tmp 34) 168 rfl (R+1) 171 i0 _ 6 72 Tryz.underlying168 hi hz0 hz1 hz2 rfl (by decide) u5 (eO a b s e (l.take k)).length (cI (eO a b s e (l.take k))) rfl (aJ dB.drew (fun k hk=>Below.heap_alloc _ _ _ (au dB k hk).2)) ⟨w5.heap.size,0,none⟩ 1 1 [.complex .f64 a b,.float .f64 s,.complex .f64 M1 M2,.int .i64 m.2.2,.complex .f64 N1 N2,.int .i64 n.2.2] rfl rfl (World.news_of_block (cs:= #[.complex .f64 a b,.float .f64 s,.complex .f64 M1 M2,.int .i64 m.2.2,.complex .f64 N1 N2,.int .i64 n.2.2]) (t:=171) (fr:=(0,0)) (heap_alloc_new w5.drew _)) (by simp[Value.oneCell']) (by decide) (by unfold maxLen;omega) (by omega) (by simp;omega) (w5.heap.size+1) (by simp) ?_
     intro g' cap' w8 cH aZ gA pY;have d0:=(aZ.cell_far ⟨wr.heap.size,0,none⟩ (by simp;omega) V7).trans ((jk _ _ IE).trans q0)
     have d1:=(aZ.cell_far ⟨wr.heap.size,1,none⟩ (by simp;omega) V7).trans ((jk _ _ IE).trans q1)
     have d2:=(aZ.cell_far ⟨R,0,none⟩ (by simp;omega) M0).trans ((jk _ _ D5).trans q2)
     have d3:=(aZ.cell_far ⟨R,1,none⟩ (by simp;omega) M0).trans ((jk _ _ D5).trans q3)
     have d4:=(aZ.cell_far ⟨bN,j*2,none⟩ (by simp;omega) V8).trans ((jk _ _ AL).trans q4)
     have d5:=(aZ.cell_far ⟨bN,j*2+1,none⟩ (by simp;omega) V8).trans ((jk _ _ AL).trans q5)
     go_simp
     refine hK.out _ _ ⟨d0,d1,d2,d3,d4,d5⟩ (fun hHeld=>?_)
     clear hK K
     try simp only[Act.put,aC,aD,aA]
     refine wpAnyH_take (i:=10) (oi:={dst:=some 5,op:=_,type:=_,pos:=_,after:=_,guard:=_}) (v:=?_) rfl (by kernel_rfl) (by kernel_rfl) (by kernel_rfl) (fun _ _ _ h=>h) (Or.inl ⟨by rfl,?_⟩) hHeld ?_
     rotate_left
     ·intro w' aw;obtain⟨s0,s1,s2,s3,s4,s5⟩:=aw
      go_simp
      try with_reducible rfl
     simp only[Act.put,aC,aD,aA];refine wpAnyH_done (by kernel_rfl) ?_ _
     have agG:w.heap.size<w5.heap.size:=lt_of_heap lG.out.e;have agH:some w.heap.size≠u5.ownBlock:=fun h=>by have:=(au dB _ h.symm).1;omega
     have Iy:Hid (uQ w R #[.complex .f64 wa wb,.float .f64 sh,.complex .f64 fa fb,.complex .f64 ta tb] #[.complex .f64 a b,.float .f64 s] (.slice (some ⟨g',0,none⟩) ((eO a b s e (l.take k)).length+1) cap') (eO a b s e (l.take (k+1))) w8):=by
      rw[AJ.out];refine⟨?_,(lG.out.below.drew.alloc lG.out.below.size _).grown aZ (by have:=lG.out.below.size;simp;omega) (fun k hk=>dS (by omega) (au dB k hk).1),?_,?_⟩
      ·rw[agB,aS,D4.out,HVM.out,HV.out];exact cH
      ·exact(aZ.block _ (by simp;omega) agH).trans ((Below.heap_alloc _ _ _ agG).trans lG.out.e)
      ·exact(aZ.block _ (by simp;omega) M0).trans ((Below.heap_alloc _ _ _ D5).trans lG.out.r)
     clear d0 d1 d2 d3 d4 d5 q0 q1 q2 q3 q4 q5 aZ cH dB lG HLEN AJ D4 V5
     go_wp2_with fail
     go_roundg (gk-1)
     case measure=>omega
     case rel=>exact⟨k+1,k,by omega,by go_num,rfl,Iy.out,Or.inr ⟨k,n,rfl,by omega,V4.out,by rw[uT.out];simp⟩⟩
  ·have hk:k=l.length:=by omega
   subst hk;have HP:Hid (PL w u5 (eO a b s e l) wr):=by
    have h1:=HC.out.1;rw[dI] at h1;exact⟨uR h1.own (by omega),h1.below⟩
   clear HC ag HH HR
   go_wp2_with fail
   go_ret
   exact⟨_,rfl,HP.out⟩
end Go.Proofs.YtkjhhooecopolaaGreatDoor

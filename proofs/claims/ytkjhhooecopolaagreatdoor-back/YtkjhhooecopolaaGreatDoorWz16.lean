import Derived.Test.YtkjhhooecopolaaGreatDoorWz15
set_option maxRecDepth 100000
set_option maxHeartbeats 4000000
namespace Go.Proofs.YtkjhhooecopolaaGreatDoor
open Go.RowKit
namespace Ge
def held(e:Pt×Pt)(l:List Nd):List Nd:=l.filter fun n=>fo (n.1,n.2.1) n.2.2 e
def nexts:List Nd->List (Nd×Nd)
 |[]=>[]
 |[_]=>[]
 |a::b::r=>(a,b)::nexts (b::r)
theorem UJ:∀(l:List Nd)(y x:Nd),l.getLast?=some y->nexts (l++[x])=nexts l++[(y,x)]
 |[],_,_,h=>by simp at h
 |[a],y,x,h=>by
  have e:a=y:=by simpa using h
  subst e;simp[nexts]
 |a::b::r,y,x,h=>by
  have ih:=UJ (b::r) y x (by simpa using h)
  show nexts (a::b::(r++[x]))=nexts (a::b::r)++[(y,x)];simp only[nexts,kZ];rw[<-ih];rfl
theorem aeZ{e:Pt×Pt}{l:List Nd}{k:Nat}{n:Nd}(h:l[k]?=some n):held e (l.take (k+1))=held e (l.take k)++(if fo (n.1,n.2.1) n.2.2 e then[n] else[]):=by
 obtain⟨hlt,he⟩:=bZ.1 h;unfold held;rw[uX hlt,he,BB];congr 1;cases hf:fo (n.1,n.2.1) n.2.2 e<;>simp[hf]
end Ge
def cV(l:List PB):List Value:=l.flatMap PB.cells
theorem ae0(l:List PB)(x:PB):cV (l++[x])=cV l++x.cells:=by simp[cV]
theorem UK:(Tryz.prog.info? 171).map (fun i=>(i.zero,i.size,i.bytes))=some (some (.agg #[.complex .f64 0 0,.float .f64 0,.complex .f64 0 0,.int .i64 0,.complex .f64 0 0,.int .i64 0]),6,72):=by kernel_rfl
def PL(w:World)(lv:Value)(L:List PB)(wr:World):Prop:=wr.ownsRow w.heap.size 171 6 lv L.length (cV L)/\Below w.heap.size w wr
def qE(w:World)(v:Value)(l:List PB):Prop:=w.ownsRow 0 171 6 v l.length (cV l)
def eT(a b s:Nat)(e:Ed)(l:List Ge.Nd):List PB:=(Ge.nexts (Ge.held e l)).map fun p=>⟨a,b,s,p.1,p.2⟩
def UL(e:Ed)(l:List Ge.Nd)(k:Nat)(b:Int):Prop:=(b= -1/\Ge.held e (l.take k)=[])\/∃(j:Nat)(n:Ge.Nd),b=(j:Int)/\j<k/\l[j]?=some n/\(Ge.held e (l.take k)).getLast?=some n
structure uq(w:World)(R:Nat)(ec rc:Array Value)(lv:Value)(L:List PB)(wr:World):Prop where
 own:wr.ownsRow (R+1) 171 6 lv L.length (cV L)
 below:Below w.heap.size w wr
 e:wr.heap[w.heap.size]?=some (.cells ec 124 (0,0))
 r:wr.heap[R]?=some (.cells rc 122 (0,0))
theorem uq.keep{w:World}{R:Nat}{ec rc:Array Value}{lv:Value}{L:List PB}{wr w':World}(h:uq w R ec rc lv L wr)(hb:Below wr.heap.size wr w'):uq w R ec rc lv L w':=
 ⟨aU h.own fun k hk=>hb.block k (aB h.own k hk).2,h.below.trans (hb.mono h.below.size),(hb.block _ (lt_of_heap h.e)).trans h.e,(hb.block _ (lt_of_heap h.r)).trans h.r⟩
theorem ur{w:World}{b b':Nat}{e:TypeId}{size:Nat}{v:Value}{n:Nat}{xs:List Value}(h:w.ownsRow b e size v n xs)(hb:b'<=b):w.ownsRow b' e size v n xs:=by
 obtain⟨h1,h2⟩:=h;refine⟨h1,?_⟩;rcases h2 with h|⟨g,cap,cur,hv,hg,hr⟩
 ·exact ag h
 ·exact ah ⟨g,cap,cur,hv,fg hb hg,hr⟩
theorem lt_of_cell{w:World}{b o:Nat}{v:Value}(h:w.cell? ⟨b,o,none⟩=some v):b<w.heap.size:=World.block_lt_of_cell? w _ h
theorem UM(a b s:Nat)(e:Ed)(l:List Ge.Nd):(eT a b s e l).length<=l.length:=by
 have h1:∀m:List Ge.Nd,(Ge.nexts m).length<=m.length:=fun m=>by
  induction m with
  |nil=>simp[Ge.nexts]
  |cons x r ih=>
   cases r with
   |nil=>simp[Ge.nexts]
   |cons y q=>simp only[Ge.nexts,cN] at ih⊢;omega
 unfold eT;rw[iF];refine fg (h1 _) ?_;exact FM _ _
theorem ae1(x:EB)(e:Ed)(l:List Ge.Nd)(v:Value)(w:World)(hx:jK x e)(hs:eO e)(hR:iy w v l)(hn:∀n∈l,dM n.1 n.2.1 n.2.2)(hl:l.length<=200000)
  {a b s:Nat}(hr:∀w,Calls Tryz.prog 198 #[.agg #[.complex .f64 x.wa x.wb,.float .f64 x.sh]] w fun e w'=>e=.returned (.agg #[.complex .f64 a b,.float .f64 s])/\Below w.heap.size w w'):
  Calls Tryz.prog 155 #[.agg x.cells,v] w fun r w'=>∃v',r=.returned v'/\PL w v' (eT a b s e l) w':=by
 obtain⟨so,cap,rfl⟩:=Io hR;obtain⟨i0,hi,hz0,hz1,hz2⟩:=info_parts UK;have HR:Hid (iy w (.slice so l.length cap) l):=hR;have Dr:Hid (∀w,Calls Tryz.prog 198 #[.agg #[.complex .f64 x.wa x.wb,.float .f64 x.sh]] w fun e w'=>e=.returned (.agg #[.complex .f64 a b,.float .f64 s])/\Below w.heap.size w w'):=hr
 have HH:Hid (∀n∈l,∀w1,Calls Tryz.prog 62 #[.agg #[.complex .f64 x.wa x.wb,.float .f64 x.sh,.complex .f64 x.fa x.fb,.complex .f64 x.ta x.tb],.agg #[.complex .f64 (floatOfInt .f64 n.1) (floatOfInt .f64 n.2.1),.int .i64 n.2.2]] w1 fun e' w'=>e'=.returned (.bool (Ge.fo (n.1,n.2.1) n.2.2 e))/\Below w1.heap.size w1 w'):=fun n h w1=>G8 x e hx hs (qD (hn n h)).1 (qD (hn n h)).2 (hn n h) w1
 clear hR hr hx hs hn;obtain⟨wa,wb,sh,fa,fb,ta,tb⟩:=x;simp only[EB.cells] at*;have hb0:Below w.heap.size w (w.alloc (.cells #[.complex .f64 wa wb,.float .f64 sh,.complex .f64 fa fb,.complex .f64 ta tb] 124)):=(Below.refl _ _).alloc (ay _) _;have qF:=heap_alloc_new w (.cells #[.complex .f64 wa wb,.float .f64 sh,.complex .f64 fa fb,.complex .f64 ta tb] 124);have hz:w.heap.size<(w.alloc (.cells #[.complex .f64 wa wb,.float .f64 sh,.complex .f64 fa fb,.complex .f64 ta tb] 124)).heap.size:=by simp
 go_enter Tryz.func155,Tryz.ntmps155
 go_wp2_with fail
 generalize w.alloc (.cells #[.complex .f64 wa wb,.float .f64 sh,.complex .f64 fa fb,.complex .f64 ta tb] 124)=W at*;refine(Dr.out _).mono ?_;rintro r w1 ⟨rfl,hb1⟩;have mS:=(hb1.block _ hz).trans qF;have Dt:w.heap.size<w1.heap.size:=bu hz hb1.size;have iw:=hb0.trans (hb1.mono hb0.size);clear hb0 hb1 qF Dr
 go_wp2_with (simp only[fW,oD];go_simp)
 have bW:Hid (uq w w1.heap.size #[.complex .f64 wa wb,.float .f64 sh,.complex .f64 fa fb,.complex .f64 ta tb] #[.complex .f64 a b,.float .f64 s] (.slice none 0 0) (eT a b s e (l.take 0)) (w1.alloc (.cells #[.complex .f64 a b,.float .f64 s] 122))/\UL e l 0 (-1)):=by
  refine⟨⟨?_,iw.alloc iw.size _,(Below.heap_alloc _ _ _ Dt).trans mS,heap_alloc_new _ _⟩,ag ⟨rfl,by simp[Ge.held]⟩⟩
  have e0:eT a b s e (l.take 0)=[]:=by simp[eT,Ge.held,Ge.nexts]
  rw[e0];exact World.ownsRow_nil _ _ _ _
 have hRz:w.heap.size<w1.heap.size:=Dt;clear mS iw Dt;generalize w1.heap.size=R at*;generalize w1.alloc (.cells #[.complex .f64 a b,.float .f64 s] 122)=WL at*
 go_loopg [5,7,15] l.length (fun m lv bv iv wr=>∃(k:Nat)(bb:Int),k+m=l.length/\iv=.int .i64 k/\bv=.int .i64 bb/\Hid (uq w R #[.complex .f64 wa wb,.float .f64 sh,.complex .f64 fa fb,.complex .f64 ta tb] #[.complex .f64 a b,.float .f64 s] lv (eT a b s e (l.take k)) wr/\UL e l k bb))
 case atStart=>exact⟨0, -1,by omega,rfl,rfl,bW⟩
 case round=>
  obtain⟨k,bb,hkn,rfl,rfl,HC⟩:=hrel;clear bW;have aw:=HC.out.1.below;by_cases hlt:k<l.length
  ·obtain⟨n,Du⟩:∃n,l[k]?=some n:=⟨_,aC hlt⟩;obtain⟨bN,rfl,uu,c0,c1⟩:=Ip HR.out Du;have r0:=(aw.cell (p:=⟨bN,k*2,none⟩) uu).trans c0;have r1:=(aw.cell (p:=⟨bN,k*2+1,none⟩) uu).trans c1;have fN:(k:Int)<(l.length:Int):=by omega
   have hbr:bN<wr.heap.size:=bu uu aw.size;have g0:wr.cell? ⟨w.heap.size,0,none⟩=some (.complex .f64 wa wb):=cell_of HC.out.1.e 0;have g1:wr.cell? ⟨w.heap.size,1,none⟩=some (.float .f64 sh):=cell_of HC.out.1.e 1;have g2:wr.cell? ⟨w.heap.size,2,none⟩=some (.complex .f64 fa fb):=cell_of HC.out.1.e 2;have g3:wr.cell? ⟨w.heap.size,3,none⟩=some (.complex .f64 ta tb):=cell_of HC.out.1.e 3;have hez:w.heap.size<wr.heap.size:=lt_of_heap HC.out.1.e;have xn:R<wr.heap.size:=lt_of_heap HC.out.1.r;have Dv:=HH.out n (aZ Du);have Dw:Hid (∀w1,Calls Tryz.prog 62 #[.agg #[.complex .f64 wa wb,.float .f64 sh,.complex .f64 fa fb,.complex .f64 ta tb],.agg #[.complex .f64 (floatOfInt .f64 n.1) (floatOfInt .f64 n.2.1),.int .i64 n.2.2]] w1 fun e' w'=>e'=.returned (.bool (Ge.fo (n.1,n.2.1) n.2.2 e))/\Below w1.heap.size w1 w'):=Dv
   have HT:=Ge.aeZ (e:=e) Du;have uv:Hid (Ge.held e (l.take (k+1))=Ge.held e (l.take k)++(if Ge.fo (n.1,n.2.1) n.2.2 e then[n] else[])):=HT
   have UN:Hid (l[k]?=some n):=Du;have HV:Hid (ib n=[.complex .f64 (floatOfInt .f64 n.1) (floatOfInt .f64 n.2.1),.int .i64 n.2.2]):=rfl;clear c0 c1 Du Dv HT;generalize floatOfInt .f64 n.1=N1 at*;generalize floatOfInt .f64 n.2.1=N2 at*;cases hfo:Ge.fo (n.1,n.2.1) n.2.2 e
   ·rw[hfo] at Dw uv;clear hfo
    go_wp2_with (simp only[fW];go_simp)
    refine(Dw.out _).mono ?_;rintro r w5 ⟨rfl,az⟩
    go_wp2_with fail
    go_roundg (gk-1)
    case measure=>omega
    case rel=>
     refine⟨k+1,bb,by omega,by go_num,rfl,?_,?_⟩
     ·have e1:eT a b s e (l.take (k+1))=eT a b s e (l.take k):=by unfold eT;rw[uv.out];simp
      rw[e1];exact(HC.out.1.keep ((Below.refl _ _).alloc (ay _) _)).keep az
     ·rcases HC.out.2 with⟨h1,h2⟩|⟨j,m,h1,h2,h3,h4⟩
      ·exact ag ⟨h1,by rw[uv.out,h2];rfl⟩
      ·exact ah ⟨j,m,h1,by omega,h3,by rw[uv.out];simpa using h4⟩
   ·rw[hfo] at Dw uv;clear hfo;have Iz:Hid (uq w R #[.complex .f64 wa wb,.float .f64 sh,.complex .f64 fa fb,.complex .f64 ta tb] #[.complex .f64 a b,.float .f64 s] u5 (eT a b s e (l.take k)) (wr.alloc (.cells #[.complex .f64 N1 N2,.int .i64 n.2.2] 83))):=HC.out.1.keep ((Below.refl _ _).alloc (ay _) _);have HWN:Hid (∀k,u5.ownBlock=some k->k<wr.heap.size):=fun k hk=>(aB HC.out.1.own k hk).2
    have Dx:=heap_alloc_new wr (.cells #[.complex .f64 N1 N2,.int .i64 n.2.2] 83);have Mq:wr.heap.size<(wr.alloc (.cells #[.complex .f64 N1 N2,.int .i64 n.2.2] 83)).heap.size:=by simp
    rcases HC.out.2 with⟨h1,h2⟩|⟨j,m,h1,h2,h3,h4⟩
    ·subst h1;have HH2:Hid (Ge.held e (l.take k)=[]):=h2;clear h2 HC
     go_wp2_with (simp only[fW];go_simp)
     generalize wr.alloc (.cells #[.complex .f64 N1 N2,.int .i64 n.2.2] 83)=W2 at*;refine(Dw.out _).mono ?_;rintro r w5 ⟨rfl,az⟩;have lG:Hid (uq w R #[.complex .f64 wa wb,.float .f64 sh,.complex .f64 fa fb,.complex .f64 ta tb] #[.complex .f64 a b,.float .f64 s] u5 (eT a b s e (l.take k)) w5):=Iz.out.keep az;clear Iz az g0 g1 g2 g3 r0 r1
     go_wp2_with fail
     go_roundg (gk-1)
     case measure=>omega
     case rel=>
      refine⟨k+1,k,by omega,by go_num,rfl,?_,?_⟩
      ·have e1:eT a b s e (l.take (k+1))=eT a b s e (l.take k):=by unfold eT;rw[uv.out,HH2.out];simp[Ge.nexts]
       rw[e1];exact lG.out
      ·exact ah ⟨k,n,rfl,by omega,UN.out,by rw[uv.out];simp⟩
    ·subst h1;have UO:Hid ((Ge.held e (l.take k)).getLast?=some m):=h4;obtain⟨bM,Dy,_,m0,m1⟩:=Ip HR.out h3;injection Dy with Dy;injection Dy with Dy;subst Dy;have hjl:j<l.length:=(bZ.1 h3).1;have UQ:(j:Int)<(l.length:Int):=by omega
     have HVM:Hid (ib m=[.complex .f64 (floatOfInt .f64 m.1) (floatOfInt .f64 m.2.1),.int .i64 m.2.2]):=rfl;have HLEN:Hid ((eT a b s e (l.take k)).length<=200000):=fg (UM _ _ _ _ _) (by simp;omega)
     have Af:Hid (eT a b s e (l.take (k+1))=eT a b s e (l.take k)++[⟨a,b,s,m,n⟩]):=by
      unfold eT;rw[uv.out];simp only[gD];rw[Ge.UJ _ _ _ UO.out,ja];rfl
     have Dz:Hid ((⟨a,b,s,m,n⟩:PB).cells=[.complex .f64 a b,.float .f64 s]++ib m++ib n):=rfl;generalize floatOfInt .f64 m.1=M1 at*;generalize floatOfInt .f64 m.2.1=M2 at*;clear h2 h3 h4 HC
     go_wp2_with (simp only[fW];go_simp)
     generalize wr.alloc (.cells #[.complex .f64 N1 N2,.int .i64 n.2.2] 83)=W2 at*;refine(Dw.out _).mono ?_;rintro r w5 ⟨rfl,az⟩;have lG:Hid (uq w R #[.complex .f64 wa wb,.float .f64 sh,.complex .f64 fa fb,.complex .f64 ta tb] #[.complex .f64 a b,.float .f64 s] u5 (eT a b s e (l.take k)) w5):=Iz.out.keep az;have Ag:=(az.block _ Mq).trans Dx;have q0:w5.cell? ⟨wr.heap.size,0,none⟩=some (.complex .f64 N1 N2):=cell_of Ag 0;have q1:w5.cell? ⟨wr.heap.size,1,none⟩=some (.int .i64 n.2.2):=cell_of Ag 1;have q2:w5.cell? ⟨R,0,none⟩=some (.complex .f64 a b):=cell_of lG.out.r 0;have q3:w5.cell? ⟨R,1,none⟩=some (.float .f64 s):=cell_of lG.out.r 1;have q4:=(lG.out.below.cell (p:=⟨bN,j*2,none⟩) uu).trans m0;have q5:=(lG.out.below.cell (p:=⟨bN,j*2+1,none⟩) uu).trans m1;clear Iz az g0 g1 g2 g3 r0 r1 m0 m1 Dx Ag
     go_wp2_with fail
     have IA:wr.heap.size<w5.heap.size:=lt_of_cell q0;have DA:R<w5.heap.size:=lt_of_cell q2;have Ah:bN<w5.heap.size:=lt_of_cell q4;have dN:=lG.out.own;have UR:some wr.heap.size≠u5.ownBlock:=fun h=>by have:=HWN.out _ h.symm;omega
     have Mr:some R≠u5.ownBlock:=fun h=>by have:=(aB dN _ h.symm).1;omega
     have UT:some bN≠u5.ownBlock:=fun h=>by have:=(aB dN _ h.symm).1;omega
     refine wp_region_held_drew (S:=(fun w'=>w'.cell? ⟨wr.heap.size,0,none⟩=some (.complex .f64 N1 N2)/\w'.cell? ⟨wr.heap.size,1,none⟩=some (.int .i64 n.2.2)/\w'.cell? ⟨R,0,none⟩=some (.complex .f64 a b)/\w'.cell? ⟨R,1,none⟩=some (.float .f64 s)/\w'.cell? ⟨bN,j*2,none⟩=some (.complex .f64 M1 M2)/\w'.cell? ⟨bN,j*2+1,none⟩=some (.int .i64 m.2.2))) (by kernel_rfl) ⟨q0,q1,q2,q3,q4,q5⟩ (fun hHeld=>?_)
     refine wpAnyH_take (i:=0) (oi:={dst:=some 26,op:=_,type:=_,pos:=_,after:=_,guard:=_}) (v:=?_) rfl (by kernel_rfl) (by kernel_rfl) (by kernel_rfl) (fun _ _ _ h=>h) (ag ⟨by rfl,?_⟩) hHeld ?_
     rotate_left
     ·intro w' aA;obtain⟨s0,s1,s2,s3,s4,s5⟩:=aA
      go_simp
      try with_reducible rfl
     simp only[Act.put,aH,aI,aG];refine wpAnyH_take (i:=1) (oi:={dst:=some 27,op:=_,type:=_,pos:=_,after:=_,guard:=_}) (v:=?_) rfl (by kernel_rfl) (by kernel_rfl) (by kernel_rfl) (fun _ _ _ h=>h) (ag ⟨by rfl,?_⟩) hHeld ?_
     rotate_left
     ·intro w' aA;obtain⟨s0,s1,s2,s3,s4,s5⟩:=aA
      go_simp
      try with_reducible rfl
     simp only[Act.put,aH,aI,aG];refine wpAnyH_take (i:=2) (oi:={dst:=some 28,op:=_,type:=_,pos:=_,after:=_,guard:=_}) (v:=?_) rfl (by kernel_rfl) (by kernel_rfl) (by kernel_rfl) (fun _ _ _ h=>h) (ag ⟨by rfl,?_⟩) hHeld ?_
     rotate_left
     ·intro w' aA;obtain⟨s0,s1,s2,s3,s4,s5⟩:=aA
      go_simp
      try with_reducible rfl
     simp only[Act.put,aH,aI,aG];refine wpAnyH_take (i:=3) (oi:={dst:=some 29,op:=_,type:=_,pos:=_,after:=_,guard:=_}) (v:=?_) rfl (by kernel_rfl) (by kernel_rfl) (by kernel_rfl) (fun _ _ _ h=>h) (ag ⟨by rfl,?_⟩) hHeld ?_
     rotate_left
     ·intro w' aA;obtain⟨s0,s1,s2,s3,s4,s5⟩:=aA
      go_simp
      try with_reducible rfl
     simp only[Act.put,aH,aI,aG];refine wpAnyH_take (i:=4) (oi:={dst:=some 30,op:=_,type:=_,pos:=_,after:=_,guard:=_}) (v:=?_) rfl (by kernel_rfl) (by kernel_rfl) (by kernel_rfl) (fun _ _ _ h=>h) (ag ⟨by rfl,?_⟩) hHeld ?_
     rotate_left
     ·intro w' aA;obtain⟨s0,s1,s2,s3,s4,s5⟩:=aA
      go_simp
      try with_reducible rfl
     simp only[Act.put,aH,aI,aG];refine wpAnyH_take (i:=5) (oi:={dst:=some 31,op:=_,type:=_,pos:=_,after:=_,guard:=_}) (v:=?_) rfl (by kernel_rfl) (by kernel_rfl) (by kernel_rfl) (fun _ _ _ h=>h) (ag ⟨by rfl,?_⟩) hHeld ?_
     rotate_left
     ·intro w' aA;obtain⟨s0,s1,s2,s3,s4,s5⟩:=aA
      go_simp
      try with_reducible rfl
     simp only[Act.put,aH,aI,aG];refine wpAnyH_take (i:=6) (oi:={dst:=some 32,op:=_,type:=_,pos:=_,after:=_,guard:=_}) (v:=?_) rfl (by kernel_rfl) (by kernel_rfl) (by kernel_rfl) (fun _ _ _ h=>h) (ag ⟨by rfl,?_⟩) hHeld ?_
     rotate_left
     ·intro w' aA;obtain⟨s0,s1,s2,s3,s4,s5⟩:=aA
      go_simp
      try with_reducible rfl
     simp only[Act.put,aH,aI,aG];refine wpAnyH_take (i:=7) (oi:={dst:=some 33,op:=_,type:=_,pos:=_,after:=_,guard:=_}) (v:=?_) rfl (by kernel_rfl) (by kernel_rfl) (by kernel_rfl) (fun _ _ _ h=>h) (ag ⟨by rfl,?_⟩) hHeld ?_
     rotate_left
     ·intro w' aA;obtain⟨s0,s1,s2,s3,s4,s5⟩:=aA
      go_simp
      try with_reducible rfl
     simp only[Act.put,aH,aI,aG];refine wpAnyH_ready (rs:=[8]) (by kernel_rfl) (by simp) ?_
     refine AllReadyH.cons rfl (fun K hK=>?_) AllReadyH.nil
     go_simp
     refine hK.out _ _ ⟨(jw _ _ IA).trans q0,(jw _ _ IA).trans q1,(jw _ _ DA).trans q2,(jw _ _ DA).trans q3,(jw _ _ Ah).trans q4,(jw _ _ Ah).trans q5⟩ (fun hHeld=>?_)
     clear hK K
     try simp only[Act.put,aH,aI,aG]
     refine wpAnyH_ready (rs:=[9]) (by kernel_rfl) (by simp) ?_
     refine AllReadyH.cons rfl (fun K hK=>?_) AllReadyH.nil
     have hlen:=HLEN.out;refine step_append_lies _ rfl (.tmp 26) (.tmp 34) 168 rfl (R+1) 171 i0 _ 6 72 Tryz.underlying168 hi hz0 hz1 hz2 rfl (by decide) u5 (eT a b s e (l.take k)).length (cV (eT a b s e (l.take k))) rfl (aU dN.drew (fun k hk=>Below.heap_alloc _ _ _ (aB dN k hk).2)) ⟨w5.heap.size,0,none⟩ 1 1 [.complex .f64 a b,.float .f64 s,.complex .f64 M1 M2,.int .i64 m.2.2,.complex .f64 N1 N2,.int .i64 n.2.2] rfl rfl (World.news_of_block (cs:= #[.complex .f64 a b,.float .f64 s,.complex .f64 M1 M2,.int .i64 m.2.2,.complex .f64 N1 N2,.int .i64 n.2.2]) (t:=171) (fr:=(0,0)) (heap_alloc_new w5.drew _)) (by simp[Value.oneCell']) (by decide) (by unfold maxLen;omega) (by omega) (by simp;omega) (w5.heap.size+1) (by simp) ?_
     intro g' cap' w8 cU bo gJ pP;have d0:=(bo.cell_far ⟨wr.heap.size,0,none⟩ (by simp;omega) UR).trans ((jw _ _ IA).trans q0)
     have d1:=(bo.cell_far ⟨wr.heap.size,1,none⟩ (by simp;omega) UR).trans ((jw _ _ IA).trans q1)
     have d2:=(bo.cell_far ⟨R,0,none⟩ (by simp;omega) Mr).trans ((jw _ _ DA).trans q2)
     have d3:=(bo.cell_far ⟨R,1,none⟩ (by simp;omega) Mr).trans ((jw _ _ DA).trans q3)
     have d4:=(bo.cell_far ⟨bN,j*2,none⟩ (by simp;omega) UT).trans ((jw _ _ Ah).trans q4)
     have d5:=(bo.cell_far ⟨bN,j*2+1,none⟩ (by simp;omega) UT).trans ((jw _ _ Ah).trans q5)
     go_simp
     refine hK.out _ _ ⟨d0,d1,d2,d3,d4,d5⟩ (fun hHeld=>?_)
     clear hK K
     try simp only[Act.put,aH,aI,aG]
     refine wpAnyH_take (i:=10) (oi:={dst:=some 5,op:=_,type:=_,pos:=_,after:=_,guard:=_}) (v:=?_) rfl (by kernel_rfl) (by kernel_rfl) (by kernel_rfl) (fun _ _ _ h=>h) (ag ⟨by rfl,?_⟩) hHeld ?_
     rotate_left
     ·intro w' aA;obtain⟨s0,s1,s2,s3,s4,s5⟩:=aA
      go_simp
      try with_reducible rfl
     simp only[Act.put,aH,aI,aG];refine wpAnyH_done (by kernel_rfl) ?_ _
     have ae5:w.heap.size<w5.heap.size:=lt_of_heap lG.out.e;have ae6:some w.heap.size≠u5.ownBlock:=fun h=>by have:=(aB dN _ h.symm).1;omega
     have Ir:Hid (uq w R #[.complex .f64 wa wb,.float .f64 sh,.complex .f64 fa fb,.complex .f64 ta tb] #[.complex .f64 a b,.float .f64 s] (.slice (some ⟨g',0,none⟩) ((eT a b s e (l.take k)).length+1) cap') (eT a b s e (l.take (k+1))) w8):=by
      rw[Af.out];refine⟨?_,(lG.out.below.drew.alloc lG.out.below.size _).grown bo (by have:=lG.out.below.size;simp;omega) (fun k hk=>fg (by omega) (aB dN k hk).1),?_,?_⟩
      ·rw[ae0,aX,Dz.out,HVM.out,HV.out];exact cU
      ·exact(bo.block _ (by simp;omega) ae6).trans ((Below.heap_alloc _ _ _ ae5).trans lG.out.e)
      ·exact(bo.block _ (by simp;omega) Mr).trans ((Below.heap_alloc _ _ _ DA).trans lG.out.r)
     clear d0 d1 d2 d3 d4 d5 q0 q1 q2 q3 q4 q5 bo cU dN lG HLEN Af Dz UO
     go_wp2_with fail
     go_roundg (gk-1)
     case measure=>omega
     case rel=>exact⟨k+1,k,by omega,by go_num,rfl,Ir.out,ah ⟨k,n,rfl,by omega,UN.out,by rw[uv.out];simp⟩⟩
  ·have hk:k=l.length:=by omega
   subst hk;have HP:Hid (PL w u5 (eT a b s e l) wr):=by
    have h1:=HC.out.1;rw[gm] at h1;exact⟨ur h1.own (by omega),h1.below⟩
   clear HC aw HH HR
   go_wp2_with fail
   go_ret
   exact⟨_,rfl,HP.out⟩
namespace Ge
def fa(n:Nd)(l:Ln)(a b:Pt):Int:=if fo (n.1,n.2.1) n.2.2 (a,b) then(l.1*(b.1-a.1)+l.2.1*(b.2-a.2)).sign else 0
theorem UU(n:Nd)(l:Ln)(a b:Pt): -1<=fa n l a b/\fa n l a b<=1:=by
 unfold fa;split
 ·rcases eK (l.1*(b.1-a.1)+l.2.1*(b.2-a.2)) 0 with h|h|h
  ·rw[Fy h];decide
  ·rw[h];decide
  ·rw[pq h];decide
 ·decide
def cH(e:Pt×Pt):Ln:=(e.2.1-e.1.1,e.2.2-e.1.2,(e.2.1-e.1.1)*e.1.2-(e.2.2-e.1.2)*e.1.1)
end Ge
theorem ae7(p:PB)(l:Ge.Ln)(n:Ge.Nd)(es:List Ed)(v:Value)(w:World)(hp:oN p.wa p.wb p.sh l)(h1:sm l.1)(h2:sm l.2.1)(hn:dM n.1 n.2.1 n.2.2)(hR:iW w v es)(hl:es.length<=402)(hs:∀e∈es,eO e)
  (hi:∀w,Calls Tryz.prog 160 #[.agg p.cells.toArray] w fun e w'=>e=.returned (gZ n)/\Below w.heap.size w w'):
  Calls Tryz.prog 105 #[.agg p.cells.toArray,v] w fun r w'=>r=.returned (.tuple #[.int .i64 (Ge.total (Ge.fr (n.1,n.2.1) n.2.2) es+Ge.total (Ge.fa n l) es),.int .i64 (Ge.total (Ge.fr (n.1,n.2.1) n.2.2) es)])/\Below w.heap.size w w':=by
 obtain⟨so,cap,rfl⟩:=Hc hR;obtain⟨g1,g2⟩:=qD hn;have HR:Hid (iW w (.slice so es.length cap) es):=hR;have HI:Hid (∀w,Calls Tryz.prog 160 #[.agg p.cells.toArray] w fun e w'=>e=.returned (gZ n)/\Below w.heap.size w w'):=hi
 have HH:Hid (∀(x:EB)(e:Ed),jK x e->e∈es->∀w1,Calls Tryz.prog 62 #[.agg #[.complex .f64 x.wa x.wb,.float .f64 x.sh,.complex .f64 x.fa x.fb,.complex .f64 x.ta x.tb],.agg #[.complex .f64 (floatOfInt .f64 n.1) (floatOfInt .f64 n.2.1),.int .i64 n.2.2]] w1 fun e' w'=>e'=.returned (.bool (Ge.fo (n.1,n.2.1) n.2.2 e))/\Below w1.heap.size w1 w'):=fun x e hx he w1=>G8 x e hx (hs e he) g1 g2 hn w1
 have HP:Hid (∀(x:EB)(e:Ed),jK x e->e∈es->∀w1,Calls Tryz.prog 63 #[.agg #[.complex .f64 x.wa x.wb,.float .f64 x.sh,.complex .f64 x.fa x.fb,.complex .f64 x.ta x.tb],.agg #[.complex .f64 (floatOfInt .f64 n.1) (floatOfInt .f64 n.2.1),.int .i64 n.2.2]] w1 fun e' w'=>e'=.returned (.int .i64 (Ge.fr (n.1,n.2.1) n.2.2 e.1 e.2))/\Below w1.heap.size w1 w'):=fun x e hx he w1=>ac2 x e hx (hs e he) g1 g2 hn w1
 have HA:Hid (∀(x:EB)(e:Ed),jK x e->e∈es->∀w1,Calls Tryz.prog 161 #[.agg #[.complex .f64 p.wa p.wb,.float .f64 p.sh],.agg #[.complex .f64 x.wa x.wb,.float .f64 x.sh]] w1 fun e' w'=>e'=.returned (.int .i64 (l.1*(e.2.1-e.1.1)+l.2.1*(e.2.2-e.1.2)).sign)/\Below w1.heap.size w1 w'):=fun x e hx he w1=>by
  have h:=hs e he;have b3:sm (Ge.cH e).1:=by have:=h.a;have:=h.c;unfold small at*;unfold sm Ge.cH;simp only;omega
  have b4:sm (Ge.cH e).2.1:=by have:=h.b;have:=h.d;unfold small at*;unfold sm Ge.cH;simp only;omega
  exact aeS hp (m:=Ge.cH e) ⟨hx.wa,hx.wb,hx.sh⟩ h1 h2 b3 b4 w1
 have HT:Hid (∀k:Nat, -(k:Int)<=Ge.total (Ge.fr (n.1,n.2.1) n.2.2) (es.take k)/\Ge.total (Ge.fr (n.1,n.2.1) n.2.2) (es.take k)<=(k:Int)):=fun k=>by
  have h:=LI (Ge.fr (n.1,n.2.1) n.2.2) (Sq _ _) (es.take k);have h2:(es.take k).length<=k:=by simp;omega
  omega
 have Ms:Hid (∀k:Nat, -(k:Int)<=Ge.total (Ge.fa n l) (es.take k)/\Ge.total (Ge.fa n l) (es.take k)<=(k:Int)):=fun k=>by
  have h:=LI (Ge.fa n l) (Ge.UU _ _) (es.take k);have h2:(es.take k).length<=k:=by simp;omega
  omega
 clear hR hs g1 g2 hn hi hp h1 h2;unfold gZ at HI;obtain⟨pa,pb,ps,⟨f1,f2,f3⟩,t1,t2,t3⟩:=p;simp only[PB.cells] at*;generalize floatOfInt .f64 f1=F1 at*;generalize floatOfInt .f64 f2=F2 at*;generalize floatOfInt .f64 t1=T1 at*;generalize floatOfInt .f64 t2=T2 at*;generalize floatOfInt .f64 n.1=N1 at*;generalize floatOfInt .f64 n.2.1=N2 at*;have hb0:Below w.heap.size w (w.alloc (.cells #[.complex .f64 pa pb,.float .f64 ps,.complex .f64 F1 F2,.int .i64 f3,.complex .f64 T1 T2,.int .i64 t3] 171)):=(Below.refl _ _).alloc (ay _) _;have qF:=heap_alloc_new w (.cells #[.complex .f64 pa pb,.float .f64 ps,.complex .f64 F1 F2,.int .i64 f3,.complex .f64 T1 T2,.int .i64 t3] 171);have hz:w.heap.size<(w.alloc (.cells #[.complex .f64 pa pb,.float .f64 ps,.complex .f64 F1 F2,.int .i64 f3,.complex .f64 T1 T2,.int .i64 t3] 171)).heap.size:=by simp
 go_enter Tryz.func105,Tryz.ntmps105
 go_wp2_with fail
 generalize w.alloc (.cells #[.complex .f64 pa pb,.float .f64 ps,.complex .f64 F1 F2,.int .i64 f3,.complex .f64 T1 T2,.int .i64 t3] 171)=W at*;refine(HI.out _).mono ?_;rintro r w1 ⟨rfl,hb1⟩;have mS:=(hb1.block _ hz).trans qF;have Dt:w.heap.size<w1.heap.size:=bu hz hb1.size;have iw:=hb0.trans (hb1.mono hb0.size);clear hb0 hb1 qF HI
 go_wp2_with (simp only[fW];go_simp)
 have bW:Hid (Below w.heap.size w (w1.alloc (.cells #[.complex .f64 N1 N2,.int .i64 n.2.2] 83))/\(w1.alloc (.cells #[.complex .f64 N1 N2,.int .i64 n.2.2] 83)).heap[w.heap.size]?=some (.cells #[.complex .f64 pa pb,.float .f64 ps,.complex .f64 F1 F2,.int .i64 f3,.complex .f64 T1 T2,.int .i64 t3] 171 (0,0))/\(w1.alloc (.cells #[.complex .f64 N1 N2,.int .i64 n.2.2] 83)).heap[w1.heap.size]?=some (.cells #[.complex .f64 N1 N2,.int .i64 n.2.2] 83 (0,0))):=⟨iw.alloc iw.size _,(Below.heap_alloc _ _ _ Dt).trans mS,heap_alloc_new _ _⟩;clear mS iw;generalize w1.heap.size=N at*;generalize w1.alloc (.cells #[.complex .f64 N1 N2,.int .i64 n.2.2] 83)=WL at*
 go_loopg [6,7,15] es.length (fun m rv av iv wr=>∃k:Nat,k+m=es.length/\iv=.int .i64 k/\rv=.int .i64 (Ge.total (Ge.fr (n.1,n.2.1) n.2.2) (es.take k))/\av=.int .i64 (Ge.total (Ge.fa n l) (es.take k))/\Hid (Below w.heap.size w wr/\wr.heap[w.heap.size]?=some (.cells #[.complex .f64 pa pb,.float .f64 ps,.complex .f64 F1 F2,.int .i64 f3,.complex .f64 T1 T2,.int .i64 t3] 171 (0,0))/\wr.heap[N]?=some (.cells #[.complex .f64 N1 N2,.int .i64 n.2.2] 83 (0,0))))
 case atStart=>exact⟨0,by omega,rfl,rfl,rfl,bW⟩
 case round=>
  obtain⟨k,hkn,rfl,rfl,rfl,HB⟩:=hrel;obtain⟨aw,Ai,hNb⟩:=HB.out;clear bW HB;have hTk:=HT.out k;have hAk:=Ms.out k;by_cases hlt:k<es.length
  ·obtain⟨e,sB⟩:∃e,es[k]?=some e:=⟨_,aC hlt⟩;obtain⟨b,x,rfl,hb,hok,c0,c1,c2,c3⟩:=Hd HR.out sB;have r0:=(aw.cell (p:=⟨b,k*4,none⟩) hb).trans c0;have r1:=(aw.cell (p:=⟨b,k*4+1,none⟩) hb).trans c1;have r2:=(aw.cell (p:=⟨b,k*4+2,none⟩) hb).trans c2;have r3:=(aw.cell (p:=⟨b,k*4+3,none⟩) hb).trans c3;have n0:wr.cell? ⟨N,0,none⟩=some (.complex .f64 N1 N2):=cell_of hNb 0;have n1:wr.cell? ⟨N,1,none⟩=some (.int .i64 n.2.2):=cell_of hNb 1;have hbr:b<wr.heap.size:=bu hb aw.size;have Mq:N<wr.heap.size:=lt_of_heap hNb;have hPz:w.heap.size<wr.heap.size:=lt_of_heap Ai;have fN:(k:Int)<(es.length:Int):=by omega
   have hmem:=aZ sB;have mQ:Hid (Ge.total (Ge.fr (n.1,n.2.1) n.2.2) (es.take (k+1))=Ge.total (Ge.fr (n.1,n.2.1) n.2.2) (es.take k)+Ge.fr (n.1,n.2.1) n.2.2 e.1 e.2):=Sp _ sB;have UW:Hid (Ge.total (Ge.fa n l) (es.take (k+1))=Ge.total (Ge.fa n l) (es.take k)+Ge.fa n l e.1 e.2):=Sp _ sB;have Dv:Hid (∀w1,Calls Tryz.prog 62 #[.agg #[.complex .f64 x.wa x.wb,.float .f64 x.sh,.complex .f64 x.fa x.fb,.complex .f64 x.ta x.tb],.agg #[.complex .f64 N1 N2,.int .i64 n.2.2]] w1 fun e' w'=>e'=.returned (.bool (Ge.fo (n.1,n.2.1) n.2.2 e))/\Below w1.heap.size w1 w'):=HH.out x e hok hmem
   have UX:Hid (∀w1,Calls Tryz.prog 63 #[.agg #[.complex .f64 x.wa x.wb,.float .f64 x.sh,.complex .f64 x.fa x.fb,.complex .f64 x.ta x.tb],.agg #[.complex .f64 N1 N2,.int .i64 n.2.2]] w1 fun e' w'=>e'=.returned (.int .i64 (Ge.fr (n.1,n.2.1) n.2.2 e.1 e.2))/\Below w1.heap.size w1 w'):=HP.out x e hok hmem
   have UY:Hid (∀w1,Calls Tryz.prog 161 #[.agg #[.complex .f64 pa pb,.float .f64 ps],.agg #[.complex .f64 x.wa x.wb,.float .f64 x.sh]] w1 fun e' w'=>e'=.returned (.int .i64 (l.1*(e.2.1-e.1.1)+l.2.1*(e.2.2-e.1.2)).sign)/\Below w1.heap.size w1 w'):=HA.out x e hok hmem
   have hfin:=Sq (n.1,n.2.1) n.2.2 e.1 e.2;have anq:=Ge.UU n l e.1 e.2;have DB:Hid (Ge.fa n l e.1 e.2=if Ge.fo (n.1,n.2.1) n.2.2 e then(l.1*(e.2.1-e.1.1)+l.2.1*(e.2.2-e.1.2)).sign else 0):=rfl
   obtain⟨wa,wb,sh,fa,fb,ta,tb⟩:=x;simp only at r0 r1 r2 r3 Dv UX UY;generalize Ge.total (Ge.fr (n.1,n.2.1) n.2.2) (es.take k)=TR at*;generalize Ge.total (Ge.fa n l) (es.take k)=TA at*;generalize Ge.fr (n.1,n.2.1) n.2.2 e.1 e.2=FR at*;generalize Ge.fa n l e.1 e.2=FA at*;generalize(l.1*(e.2.1-e.1.1)+l.2.1*(e.2.2-e.1.2)).sign=SG at*;clear c0 c1 c2 c3 sB HR HH HP HA hok hmem HT Ms;have UZ:Below w.heap.size w (wr.alloc (.cells #[.complex .f64 wa wb,.float .f64 sh,.complex .f64 fa fb,.complex .f64 ta tb] 124)):=aw.alloc aw.size _;have qF:=heap_alloc_new wr (.cells #[.complex .f64 wa wb,.float .f64 sh,.complex .f64 fa fb,.complex .f64 ta tb] 124);have U0:=(Below.heap_alloc wr (.cells #[.complex .f64 wa wb,.float .f64 sh,.complex .f64 fa fb,.complex .f64 ta tb] 124) _ hPz).trans Ai;have Dx:=(Below.heap_alloc wr (.cells #[.complex .f64 wa wb,.float .f64 sh,.complex .f64 fa fb,.complex .f64 ta tb] 124) _ Mq).trans hNb;have hsz:wr.heap.size+1=(wr.alloc (.cells #[.complex .f64 wa wb,.float .f64 sh,.complex .f64 fa fb,.complex .f64 ta tb] 124)).heap.size:=by simp
   have hwr:IntKind.i64.wrap (TR+FR)=TR+FR:=by rw[IntKind.wrap_i64];omega
   have Mt:IntKind.i64.wrap (TA+SG)=TA+SG\/Ge.fo (n.1,n.2.1) n.2.2 e=false:=by
    cases hf:Ge.fo (n.1,n.2.1) n.2.2 e
    ·exact ah rfl
    ·refine ag ?_;have h3:=DB.out;rw[hf,aj rfl] at h3;rw[IntKind.wrap_i64];omega
   go_wp2_with (simp only[fW,oD];go_simp)
   generalize wr.alloc (.cells #[.complex .f64 wa wb,.float .f64 sh,.complex .f64 fa fb,.complex .f64 ta tb] 124)=w0 at*;generalize hEe:wr.heap.size=E at*;clear r0 r1 r2 r3 n0 n1;refine(UX.out _).mono ?_;rintro e' w2 ⟨rfl,hb2⟩;have dC:=(hb2.block _ (show E<w0.heap.size by omega)).trans qF
   have U1:=(hb2.block _ (show w.heap.size<w0.heap.size by omega)).trans U0
   have vR:=(hb2.block _ (show N<w0.heap.size by omega)).trans Dx
   have ans:=hb2.size;have hL2:=UZ.trans (hb2.mono (by omega))
   have e0:w2.cell? ⟨E,0,none⟩=some (.complex .f64 wa wb):=cell_of dC 0;have e1:w2.cell? ⟨E,1,none⟩=some (.float .f64 sh):=cell_of dC 1;have e2:w2.cell? ⟨E,2,none⟩=some (.complex .f64 fa fb):=cell_of dC 2;have e3:w2.cell? ⟨E,3,none⟩=some (.complex .f64 ta tb):=cell_of dC 3;have n0:w2.cell? ⟨N,0,none⟩=some (.complex .f64 N1 N2):=cell_of vR 0;have n1:w2.cell? ⟨N,1,none⟩=some (.int .i64 n.2.2):=cell_of vR 1;clear qF U0 Dx hb2 UZ
   go_wp2_with fail
   refine(Dv.out _).mono ?_;rintro e' w3 ⟨rfl,hb3⟩;have Mu:=(hb3.block _ (show E<w2.heap.size by omega)).trans dC
   have DC:=(hb3.block _ (show w.heap.size<w2.heap.size by omega)).trans U1
   have Aj:=(hb3.block _ (show N<w2.heap.size by omega)).trans vR
   have ant:=hb3.size;have hL3:=hL2.trans (hb3.mono (by omega))
   clear e0 e1 e2 e3 n0 n1 dC U1 vR hb3 hL2;cases hf:Ge.fo (n.1,n.2.1) n.2.2 e
   ·have uw:Hid (FA=0):=by have:=DB.out;rw[hf] at this;exact this
    clear hf Mt DB
    go_wp2_with fail
    go_roundg (gk-1)
    case measure=>omega
    case rel=>exact⟨k+1,by omega,by go_num,by rw[mQ.out],by rw[UW.out,uw.out,Int.add_zero],hL3,DC,Aj⟩
   ·have uw:Hid (FA=SG):=by have:=DB.out;rw[hf,aj rfl] at this;exact this
    have anu:IntKind.i64.wrap (TA+SG)=TA+SG:=by
     rcases Mt with h|h
     ·exact h
     ·rw[hf] at h;cases h
    have e0:w3.cell? ⟨E,0,none⟩=some (.complex .f64 wa wb):=cell_of Mu 0;have e1:w3.cell? ⟨E,1,none⟩=some (.float .f64 sh):=cell_of Mu 1;have p0:w3.cell? ⟨w.heap.size,0,none⟩=some (.complex .f64 pa pb):=cell_of DC 0;have p1:w3.cell? ⟨w.heap.size,1,none⟩=some (.float .f64 ps):=cell_of DC 1;clear hf Mt DB
    go_wp2_with fail
    refine(UY.out _).mono ?_;rintro e' w4 ⟨rfl,hb4⟩;have hP4:=(hb4.block _ (show w.heap.size<w3.heap.size by omega)).trans DC
    have hN4:=(hb4.block _ (show N<w3.heap.size by omega)).trans Aj
    have hL4:=hL3.trans (hb4.mono (by omega))
    clear e0 e1 p0 p1 Mu DC Aj hb4 hL3
    go_wp2_with fail
    go_roundg (gk-1)
    case measure=>omega
    case rel=>exact⟨k+1,by omega,by go_num,by rw[mQ.out],by rw[UW.out,uw.out],hL4,hP4,hN4⟩
  ·have hk:k=es.length:=by omega
   subst hk;rw[gm] at*;have hws:IntKind.i64.wrap (Ge.total (Ge.fr (n.1,n.2.1) n.2.2) es+Ge.total (Ge.fa n l) es)=Ge.total (Ge.fr (n.1,n.2.1) n.2.2) es+Ge.total (Ge.fa n l) es:=by rw[IntKind.wrap_i64];omega
   clear HR HH HP HA HT Ms;generalize DF:Ge.total (Ge.fr (n.1,n.2.1) n.2.2) es=TR at hTk hws;generalize oI:Ge.total (Ge.fa n l) es=TA at hAk hws;have HTR:Hid (Ge.total (Ge.fr (n.1,n.2.1) n.2.2) es=TR):=DF;have afd:Hid (Ge.total (Ge.fa n l) es=TA):=oI;clear DF oI
   go_wp2_with fail
   refine bodyPost_ret (v:=.tuple #[.int .i64 (TR+TA),.int .i64 TR]) (by simp[results,Tryz.results105,go_sem]) rfl ⟨?_,aw⟩
   rw[HTR.out,afd.out]
def U2(x:PB)(n:Ge.Nd):Prop:=Ge.Can n/\Ge.ax n=(Ge.aW (x.f.1+x.t.1) (x.f.2.2+x.t.2.2),Ge.aW (x.f.2.1+x.t.2.1) (x.f.2.2+x.t.2.2))/\dM n.1 n.2.1 n.2.2
theorem afe(p:PB)(l:Ge.Ln)(es:List Ed)(hp:oN p.wa p.wb p.sh l)(h1:sm l.1)(h2:sm l.2.1)(hf:lF p.f)(ht:lF p.t)(hl:es.length<=402)(hs:∀e∈es,eO e):
  ∃n,U2 p n/\∀v w,iW w v es->Calls Tryz.prog 105 #[.agg p.cells.toArray,v] w fun r w'=>r=.returned (.tuple #[.int .i64 (Ge.total (Ge.fr (n.1,n.2.1) n.2.2) es+Ge.total (Ge.fa n l) es),.int .i64 (Ge.total (Ge.fr (n.1,n.2.1) n.2.2) es)])/\Below w.heap.size w w':=by
 obtain⟨n,hc,hq,hn,hi⟩:=aeT p hf ht;exact⟨n,⟨hc,hq,hn⟩,fun v w hR=>ae7 p l n es v w hp h1 h2 hn hR hl hs hi⟩
theorem aff{d dk:Array Ge.Nd}{k:Nat}(h:Lib.CompInv d d.size k dk):dk.toList.take k=Ge.cS d.toList:=by
 rw[<-Ge.UB];apply Bw;intro j;rw[kj];by_cases hj:j<k
 ·have hs:=h.size;have hl:=h.lt;rw[aj hj,h.low j hj,jb,nB (by omega),ik dk j (by omega)]
 ·rw[af hj,wX (by rw[h.len];omega)]
theorem RW.dn{w:World}{g cap n:Nat}{d:Array Ge.Nd}{wr:World}(h:RW w g cap n d wr)(q:Nat):RW w g cap n d (wr.drewN q):=⟨h.size,h.own,⟨h.below.os,h.below.tape,h.below.output,h.below.size,h.below.block⟩⟩
theorem afg(w:World)(g cap n:Nat)(d:Array Ge.Nd)(x8:World)(h:RW w g cap n d x8)(hd:∀i,i<n->dM (d[i]!).1 (d[i]!).2.1 (d[i]!).2.2)(hn:n<=200000)(hc:n<=cap):
  Calls Tryz.prog 126 #[.slice (some ⟨g,0,none⟩) n cap] x8 fun r w'=>∃v',r=.returned v'/\iy w' v' (Ge.cS d.toList)/\Below w.heap.size w w':=by
 have HR:Hid (RW w g cap n d x8):=h;have HD:Hid (∀i,i<n->dM (d[i]!).1 (d[i]!).2.1 (d[i]!).2.2):=hd;have hds:d.size=n:=h.size;clear h hd;by_cases h2:n<2
 ·go_enter Tryz.func126,Tryz.ntmps126
  go_wp2_with fail
  go_ret
  refine⟨_,rfl,?_,HR.out.below⟩;rw[UE (fun j hj=>Lib.keeps_lt_one d j (by omega))]
  exact HR.out.rd
 ·go_enter Tryz.func126,Tryz.ntmps126
  go_wp2_with fail
  go_loopg [3] n (fun gk s3 wr=>∃k:Nat,1<=k/\k<=n/\n-k<=gk/\s3=.int .i64 k/\Hid (RW w g cap n d wr/\∀j,j<k->Lib.keeps d j=true))
  case atStart=>exact⟨1,ay _,by omega,by omega,rfl,HR.out,Lib.keeps_lt_one d⟩
  case round=>
   obtain⟨k,hk1,hk,hg,rfl,HI⟩:=hrel;by_cases hlt:k<n
   ·obtain⟨c1,d1,f1,z1⟩:=HI.out.1.cells k hlt;obtain⟨c0,d0,f0,z0⟩:=HI.out.1.cells (k-1) (by omega)
    have fN:(k:Int)<(n:Int):=by omega
    have hop:=Dq d[k]! d[k-1]! (HD.out k hlt) (HD.out (k-1) (by omega))
    have HX:Hid (d[k]! =d[k-1]! ->Lib.keeps d k=false):=fun e=>Lib.keeps_neg (by omega) e
    have HY:Hid (d[k]! ≠d[k-1]! ->Lib.keeps d k=true):=fun e=>Lib.keeps_pos e
    have qG:Hid (decide (d[k]! =d[k-1]!)=true↔d[k]! =d[k-1]!):=pE;clear f1 z1 f0 z0;generalize hB:decide (d[k]! =d[k-1]!)=bq at hop qG;generalize floatOfInt .f64 (d[k]!).1=A1 at*;generalize floatOfInt .f64 (d[k]!).2.1=A2 at*;generalize(d[k]!).2.2=A3 at*;generalize floatOfInt .f64 (d[k-1]!).1=B1 at*;generalize floatOfInt .f64 (d[k-1]!).2.1=B2 at*;generalize(d[k-1]!).2.2=B3 at*;clear hB
    go_wp2_with fail
    go_quiet (fail)
    cases bq
    ·have HK:=HY.out (fun e=>by have:=qG.out.2 e;cases this)
     have HK':Hid (Lib.keeps d k=true):=HK;clear HK HX HY qG c0 c1 d0 d1
     go_wp2_with fail
     go_roundg (n-(k+1))
     case measure=>omega
     case rel=>
      refine⟨k+1,by omega,by omega,ay _,by go_num,HI.out.1.dn nq,fun j hj=>?_⟩
      by_cases e:j=k
      ·subst e;exact HK'.out
      ·exact HI.out.2 j (by omega)
    ·have HK:Hid (Lib.keeps d k=false):=HX.out (qG.out.1 rfl);clear HX HY qG c0 c1 d0 d1;have hkc:k<=cap:=by omega
     go_wp2_with fail
     go_loopg [3,5] n (fun gk s3 s5 wr2=>∃(kk k2:Nat)(dk:Array Ge.Nd),s3=.int .i64 kk/\s5=.int .i64 k2/\1<=k2/\k+k2<=n/\n-(k+k2)<=gk/\Hid (RW w g cap n dk wr2/\Lib.CompInv d (k+k2) kk dk))
     case atStart=>exact⟨k,1,d,rfl,rfl,ay _,by omega,by omega,HI.out.1.dn nq,Lib.CompInv.start HI.out.2 HK.out⟩
     case round=>
      obtain⟨kk,k2,dk,rfl,rfl,h1,hle,hg2,HJ⟩:=hrel;have hkk:=HJ.out.2.lt;by_cases qw:k+k2<n
      ·obtain⟨c1,d1,_,_⟩:=HJ.out.1.cells (k+k2) qw;obtain⟨c0,d0,_,_⟩:=HJ.out.1.cells (k+k2-1) (by omega)
       obtain⟨ck,dkk,f1,z1⟩:=HJ.out.1.cells kk (by omega)
       rw[HJ.out.2.high (k+k2) (by omega),show(k+k2)*2=k*2+k2*2 by omega] at c1
       rw[HJ.out.2.high (k+k2) (by omega),show(k+k2)*2=k*2+k2*2 by omega] at d1
       rw[HJ.out.2.high (k+k2-1) (by omega),show(k+k2-1)*2=k*2+(k2-1)*2 by omega] at c0
       rw[HJ.out.2.high (k+k2-1) (by omega),show(k+k2-1)*2=k*2+(k2-1)*2 by omega] at d0
       have vH:=aeR d[k+k2]! d[k+k2-1]! (HD.out (k+k2) qw) (HD.out (k+k2-1) (by omega))
       have HX:Hid (d[k+k2]! =d[k+k2-1]! ->Lib.keeps d (k+k2)=false):=fun e=>Lib.keeps_neg (by omega) e
       have HY:Hid (d[k+k2]! ≠d[k+k2-1]! ->Lib.keeps d (k+k2)=true):=fun e=>Lib.keeps_pos e
       have qG:Hid (decide (d[k+k2]! =d[k+k2-1]!)=true↔d[k+k2]! =d[k+k2-1]!):=pE;have HS:Hid (∀q,RW w g cap n (dk.setIfInBounds kk d[k+k2]!) (((wr.drewN q).setCell ⟨g,kk*2,none⟩ (.complex .f64 (floatOfInt .f64 (d[k+k2]!).1) (floatOfInt .f64 (d[k+k2]!).2.1))).setCell ⟨g,kk*2+1,none⟩ (.int .i64 (d[k+k2]!).2.2))):=fun q=>(HJ.out.1.dn q).set kk (by omega) _
       have anw:(k2:Int)<(n:Int)-(k:Int):=by omega
       have Mv:k2<n-k:=by omega
       generalize hB:decide (d[k+k2]! =d[k+k2-1]!)=bq at vH qG;clear hB hop;generalize floatOfInt .f64 (d[k+k2]!).1=A1' at*;generalize floatOfInt .f64 (d[k+k2]!).2.1=A2' at*;generalize(d[k+k2]!).2.2=A3' at*;generalize floatOfInt .f64 (d[k+k2-1]!).1=B1' at*;generalize floatOfInt .f64 (d[k+k2-1]!).2.1=B2' at*;generalize(d[k+k2-1]!).2.2=B3' at*
       go_wp2_with fail
       go_quiet (fail)
       cases bq
       ·have x9:Hid (Lib.keeps d (k+k2)=true):=HY.out (fun e=>by have:=qG.out.2 e;cases this)
        clear HX HY qG;simp only[Bool.not_false]
        go_wp2_with (simp only[fW];go_simp)
        go_roundg (n-(k+(k2+1)))
        case measure=>omega
        case rel=>exact⟨kk+1,k2+1,dk.setIfInBounds kk d[k+k2]!,by go_num,by go_num,by omega,by omega,ay _,HS.out _,HJ.out.2.keep (by omega) x9.out⟩
       ·have x9:Hid (Lib.keeps d (k+k2)=false):=HX.out (qG.out.1 rfl);clear HX HY qG;simp only[Bool.not_true]
        go_wp2_with fail
        go_roundg (n-(k+(k2+1)))
        case measure=>omega
        case rel=>exact⟨kk,k2+1,dk,rfl,by go_num,by omega,by omega,ay _,HJ.out.1.dn _,HJ.out.2.skip x9.out⟩
      ·have hend:k+k2=d.size:=by omega
       obtain⟨w',hcl,aw,lZ⟩:=HJ.out.1.clear kk (by omega) (cap-kk)
       have DG:Hid (iy w' (.slice (some ⟨g,0,none⟩) kk cap) (Ge.cS d.toList)):=by
        have hI:=HJ.out.2;rw[hend] at hI;rw[<-aff hI];exact lZ
       have DI:Hid (Below w.heap.size w w'):=aw;have Mv:¬k2<n-k:=by omega
       have U3:kk<=n:=by omega
       have afi:kk<=cap:=by omega
       clear lZ aw
       go_wp2_with fail
       go_ret
       exact⟨_,rfl,DG.out,DI.out⟩
   ·have:k=n:=by omega
    subst this
    go_wp2_with fail
    go_ret
    refine⟨_,rfl,?_,HI.out.1.below⟩;rw[UE (fun j hj=>HI.out.2 j (by omega))]
    exact HI.out.1.rd
theorem afj(w:World)(lv:Value)(S:List Ge.Nd)(wr:World)(h:NL w lv S wr)(hl:S.length<=200000):
  Calls Tryz.prog 126 #[lv] wr fun r w'=>∃v',r=.returned v'/\iy w' v' (Ge.cS S)/\Below w.heap.size w w':=by
 rcases h.own.2 with⟨rfl,h0⟩|⟨g,cap,cur,rfl,hg,hblk,hnc,hcm,hcs,htk⟩
 ·have hS:S=[]:=gF.1 h0;subst hS;have HB:Hid (Below w.heap.size w wr):=h.below;clear h h0 hl
  go_enter Tryz.func126,Tryz.ntmps126
  go_wp2_with fail
  go_ret
  exact⟨_,rfl,World.ownsRow_nil _ _ _ _,HB.out⟩
 ·have hR:RW w g cap S.length S.toArray wr:=⟨by simp,h.own,h.below⟩
  have hi:∀i,i<S.length->dM (S.toArray[i]!).1 (S.toArray[i]!).2.1 (S.toArray[i]!).2.2:=fun i hi=>by
   have e:S.toArray[i]! =S[i]:=by rw[ik S.toArray i (by simpa using hi)];simp
   rw[e];exact h.inn _ (gw hi)
  exact afg w g cap S.length S.toArray wr hR hi hl hnc
end Go.Proofs.YtkjhhooecopolaaGreatDoor

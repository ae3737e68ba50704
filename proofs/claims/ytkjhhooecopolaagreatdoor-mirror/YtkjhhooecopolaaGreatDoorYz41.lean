import Derived.Test.YtkjhhooecopolaaGreatDoorYz40
set_option maxRecDepth 100000
set_option maxHeartbeats 4000000
namespace Go.Proofs.YtkjhhooecopolaaGreatDoor
open Go.RowKit
def jT(p:List (List (Int×Int))):List (List (Int×Int)):=(p.map List.reverse).reverse
theorem QQ{α:Type}{l:List α}{k:Nat}{x:α}(h:l[k]?=some x):l.drop k=x::l.drop (k+1):=by
 obtain⟨hk,e⟩:=bY.1 h;rw[K0 hk,e]
theorem amT(a:List (Int×Int))(x:Int×Int):kF (a++[x])=kF a++[.int .i64 x.1,.int .i64 x.2]:=UH a x
theorem QR{base:Nat}{w w1 w2:World}{o:Obj}{row:Option Nat}(h:Below base w w1)(hb:base<=w1.heap.size)(hg:(w1.alloc o).grownBy w2 row)(hr:∀k,row=some k->base<=k):Below base w w2:=
 (h.alloc hb _).grown hg (by simp;omega) hr
structure TI(w:World)(sh:Array Value)(wr:World):Prop where
 fY:Below w.heap.size w wr
 sz:w.heap.size+2<=wr.heap.size
 b0:wr.heap[w.heap.size]?=some (.cells sh 29 (0,0))
 b1:wr.heap[w.heap.size+1]?=some (.cells #[.string ⟨#[]⟩,.slice none 0 0,.int .i64 0] 29 (0,0))
theorem TI.next{w:World}{sh:Array Value}{wr w':World}(h:TI w sh wr)(hb:Below wr.heap.size wr w'):TI w sh w':=
 ⟨h.fY.trans (hb.mono h.fY.size),dY h.sz hb.size,(hb.block _ (by have:=h.sz;omega)).trans h.b0,(hb.block _ (by have:=h.sz;omega)).trans h.b1⟩
def mU{α:Type}(T:Nat)(R:World->Value->α->Prop)(base:Nat)(lv:Value)(acc:List α)(wr:World):Prop:=
 ∃vs:List Value,vs.length=acc.length/\wr.ownsRow base T 1 lv acc.length vs/\∀(i:Nat) u x,vs[i]?=some u->acc[i]?=some x->R wr u x
theorem mU.rd{α:Type}{T:Nat}{R:World->Value->α->Prop}{base:Nat}{lv:Value}{acc:List α}{wr:World}(h:mU T R base lv acc wr):yF T R wr lv acc:=by
 obtain⟨vs,h1,h2,h3⟩:=h;exact⟨vs,h1,wX h2,h3⟩
theorem mU.keep{α:Type}{T:Nat}{ts:List Nat}{R:World->Value->α->Prop}(hR:sP ts R){base:Nat}{lv:Value}{acc:List α}{wr w':World}(h:mU T R base lv acc wr)(hb:Below wr.heap.size wr w'):mU T R base lv acc w':=by
 obtain⟨vs,h1,h2,h3⟩:=h;exact⟨vs,h1,aO h2 fun k hk=>hb.block k (aA h2 k hk).2,fun i u x hu hx=>DL hR (h3 i u x hu hx) hb⟩
theorem mU.snoc{α:Type}{T:Nat}{ts:List Nat}{R:World->Value->α->Prop}(hR:sP ts R)(hT:T∉ts){base:Nat}{lv wu:Value}{acc:List α}{x:α}{v:Value}{w4 w5:World}{o:Obj}{vs:List Value}(h1:vs.length=acc.length)(h2:w4.ownsRow base T 1 lv acc.length vs)(h3:∀(i:Nat) u x,vs[i]?=some u->acc[i]?=some x->R w4 u x)(hx:R w4 v x)
  (hg:(w4.alloc o).grownBy w5 lv.ownBlock)(ho:w5.ownsRow base T 1 wu (acc.length+1) (vs++[v])):mU T R base wu (acc++[x]) w5:=by
 have kr:=fun{u:Value}{y:α}(k:R w4 u y)=>DK hR hg (fun k hk=>oa h2 hk) hT k
 exact⟨vs++[v],by simp[h1],by rw[aX];exact ho,MX h1 (fun i u y hu hy=>kr (h3 i u y hu hy)) (kr hx)⟩
theorem amU(ps:List (List (List (Int×Int))))(W:ByteArray)(pv:Value)(w:World)(hR:kT w pv ps)(hok:mG ps):
  Calls Tryz.prog 16 #[.agg #[.string W,pv,.int .i64 0]] w fun e w'=>∃pv',e=.returned (.agg #[.string W,pv',.int .i64 0])/\kT w' pv' (Gb.turn ps)/\Below w.heap.size w w':=by
 obtain⟨so,pc,rfl⟩:=qW hR;obtain⟨i1,hi1,hy0,hy1,hy2⟩:=info_parts UI;obtain⟨i2,hi2,hz0,hz1,hz2⟩:=info_parts UM;obtain⟨i3,hi3,hx0,hx1,hx2⟩:=info_parts UN;have HR:Hid (kT w (.slice so ps.length pc) ps):=hR;have iV:Hid (mG ps):=hok;have hl:ps.length<=402:=hok.1;clear hR hok;have bw:Hid (TI w #[.string W,.slice so ps.length pc,.int .i64 0] ((w.alloc (.cells #[.string W,.slice so ps.length pc,.int .i64 0] 29)).alloc (.cells #[.string ⟨#[]⟩,.slice none 0 0,.int .i64 0] 29))):=by
  refine⟨((Below.refl _ _).alloc (ai _) _).alloc (by simp) _,by simp,?_,?_⟩
  ·rw[Below.heap_alloc _ _ _ (by simp)]
   exact heap_alloc_new _ _
  ·have:=heap_alloc_new (w.alloc (.cells #[.string W,.slice so ps.length pc,.int .i64 0] 29)) (.cells #[.string ⟨#[]⟩,.slice none 0 0,.int .i64 0] 29);simpa using this
 go_enter Tryz.func16,Tryz.ntmps16
 go_wp2_with fail
 go_loopg [3,4] ps.length (fun m lv iv wr=>m<=ps.length/\iv=.int .i64 ((m:Int)-1)/\Hid (TI w #[.string W,.slice so ps.length pc,.int .i64 0] wr/\mU 57 js w.heap.size lv ((ps.drop m).map jT).reverse wr))
 case atStart=>exact⟨ai _,by go_num,bw.out,[],by simp,by simpa using World.ownsRow_nil _ _ _ _,fun i u x hu=>by simp at hu⟩
 case round=>
  obtain⟨him,rfl,HE⟩:=hrel;obtain⟨mV,kj⟩:=HE.out;have c1:wr.cell? ⟨w.heap.size,1,none⟩=some (.slice so ps.length pc):=uM mV.b0 1;have hwz:=mV.sz;clear bw;obtain⟨m0,hm0⟩:∃m0,m0=gk:=⟨_,rfl⟩;cases gk with
  |zero=>
   have c0:wr.cell? ⟨w.heap.size,0,none⟩=some (.string W):=uM mV.b0 0;have q0:wr.cell? ⟨w.heap.size+1,0,none⟩=some (.string ⟨#[]⟩):=uM mV.b1 0;have q1:wr.cell? ⟨w.heap.size+1,1,none⟩=some (.slice none 0 0):=uM mV.b1 1;have q2:wr.cell? ⟨w.heap.size+1,2,none⟩=some (.int .i64 0):=uM mV.b1 2;have z0:wr.frozen? ⟨w.heap.size+1,0,none⟩=false:=Mx mV.b1 0;have z1:wr.frozen? ⟨w.heap.size+1,1,none⟩=false:=Mx mV.b1 1;have z2:wr.frozen? ⟨w.heap.size+1,2,none⟩=false:=Mx mV.b1 2;obtain⟨F7,c',rfl⟩:∃F7 c',u3=.slice F7 (Gb.turn ps).length c':=by
    have:=kj.rd;rw[Si] at this;exact qW this
   have lV:Hid (Below w.heap.size w wr/\kT wr (.slice F7 (Gb.turn ps).length c') (Gb.turn ps)):=by
    refine⟨mV.fY,?_⟩;have:=kj.rd;rw[Si] at this;exact this
   have tB:Hid (∀x y z,kT (((wr.setCell ⟨w.heap.size+1,0,none⟩ x).setCell ⟨w.heap.size+1,1,none⟩ y).setCell ⟨w.heap.size+1,2,none⟩ z) (.slice F7 (Gb.turn ps).length c') (Gb.turn ps)):=fun x y z=>by
    refine DG _ _ _ _ lV.out.2 fun k cur e hc he=>?_
    have hk:k≠w.heap.size+1:=fun e'=>by
     rw[e',mV.b1] at hc;injection hc with hc;injection hc with _ hc _;rw[<-hc] at he;exact absurd he (by decide)
    rw[bu hk,bu hk,bu hk]
   generalize(Gb.turn ps).length=NL at*;clear mV kj HE HR iV
   go_wp2_with fail
   refine bodyPost_ret (v:=.agg #[.string W,.slice F7 NL c',.int .i64 0]) (by simp[results,Tryz.results16,go_sem,q0,q1,q2]) rfl ⟨_,rfl,tB.out _ _ _,?_⟩
   exact((lV.out.1.setCell (l8 _) _).setCell (l8 _) _).setCell (l8 _) _
  |succ i=>
   have hlt:i<ps.length:=by omega
   obtain⟨p,hp⟩:∃p,ps[i]?=some p:=⟨_,aD hlt⟩;obtain⟨b,u,rfl,hb,e0,jt⟩:=AQ HR.out hp;obtain⟨us,uc,rfl⟩:=qW jt;have abu:Hid (pI p):=iV.out.2 p (bn hp);have JD:Hid (js w (.slice us p.length uc) p):=jt;have hpl:p.length<=402:=abu.out.1;have amW:Hid (((ps.drop i).map jT).reverse=((ps.drop (i+1)).map jT).reverse++[jT p]):=by
    rw[QQ hp,gU,zI];exact rfl
   have hli:((ps.drop (i+1)).map jT).reverse.length<=402:=by simp;omega
   have c2:=(mV.fY.cell (p:=⟨b,i,none⟩) hb).trans e0;have hbr:b<wr.heap.size:=aQ hb mV.fY.size;have eK:(i:Int)<(ps.length:Int):=by omega
   have BJ:((i+1:Nat):Int)-1=(i:Int):=by omega
   rw[BJ];generalize((ps.drop (i+1)).map jT).reverse=A1 at*;have HCP:Hid (w.cell? ⟨b,i,none⟩=some (.slice us p.length uc)):=e0;clear hp e0 jt HR iV BJ;have rh:Hid (∃w1,w1=wr):=⟨wr,rfl⟩;obtain⟨w1,hw1⟩:=rh.out;have QS:Hid (TI w #[.string W,.slice (some ⟨b,0,none⟩) ps.length pc,.int .i64 0] w1/\mU 57 js w.heap.size u3 A1 w1):=by rw[hw1];exact⟨mV,kj⟩
   have HST:Hid (Below w1.heap.size w1 wr/\mU 63 iU w1.heap.size (.slice none 0 0) ((p.drop p.length).map List.reverse).reverse wr):=by
    rw[hw1];exact⟨Below.refl _ _,[],by simp,by simpa using World.ownsRow_nil _ _ _ _,fun i u x hu=>by simp at hu⟩
   clear mV kj HE rh hw1
   go_wp2_with fail
   go_loopg [5,6] p.length (fun m lv kv wr=>m<=p.length/\kv=.int .i64 ((m:Int)-1)/\Hid (Below w1.heap.size w1 wr/\mU 63 iU w1.heap.size lv ((p.drop m).map List.reverse).reverse wr))
   case atStart=>exact⟨ai _,by go_num,HST⟩
   case round=>
    obtain⟨NQ,rfl,lV⟩:=hrel;obtain⟨pN,KJ⟩:=lV.out;have iK:=QS.out.1.next pN
    have d1:wr.cell? ⟨w.heap.size,1,none⟩=some (.slice (some ⟨b,0,none⟩) ps.length pc):=uM iK.b0 1;have d2:=(iK.fY.cell (p:=⟨b,i,none⟩) hb).trans HCP.out;have apo:b<wr.heap.size:=aQ hb iK.fY.size;have apq:=iK.sz;clear HST c1 c2;cases gk with
    |zero=>
     have amX:=QS.out.2.keep yG pN;obtain⟨vs,hv1,hv2,hv3⟩:=amX;have fT:js wr u5 (jT p):=by
      have:=KJ.rd;rw[Si] at this;exact this
     obtain⟨QT,c5,rfl⟩:=qW fT;have jw:Hid (js wr (.slice QT (jT p).length c5) (jT p)):=fT;have F8:Hid (∀(i:Nat) u x,vs[i]?=some u->A1[i]?=some x->js wr u x):=hv3;have uh:Hid (TI w #[.string W,.slice (some ⟨b,0,none⟩) ps.length pc,.int .i64 0] wr):=iK;generalize xd:(jT p).length=NL at*;clear fT KJ lV pN iK hv3 QS
     go_wp2_with (at_builtin;refine wpList_append_lies _ rfl (.tmp 60) (.tmp 62) 27 rfl w.heap.size 57 i3 _ 1 24 Tryz.underlying27 hi3 hx0 hx1 hx2 rfl (by decide) u3 A1.length vs rfl (aO hv2 (fun k hk=>Below.heap_alloc _ _ _ (aA hv2 k hk).2)) ⟨wr.heap.size,0,none⟩ 1 1 [.slice QT NL c5] rfl rfl (World.news_of_block (cs:= #[.slice QT NL c5]) (t:=57) (fr:=(0,0)) (heap_alloc_new wr _)) (by simp[Value.oneCell']) (by decide) (by unfold maxLen;omega) (by omega) (by simp;omega) (wr.heap.size+1) (by simp) ?_;intro g cap' w5 ho hgrow hat uK)
     have HN:Hid (TI w #[.string W,.slice (some ⟨b,0,none⟩) ps.length pc,.int .i64 0] w5/\mU 57 js w.heap.size (.slice (some ⟨g,0,none⟩) (A1.length+1) cap') ((ps.drop i).map jT).reverse w5):=by
      have amY:u3.ownBlock≠some w.heap.size:=n9 hv2 uh.out.b0 (by decide)
      have yM:u3.ownBlock≠some (w.heap.size+1):=n9 hv2 uh.out.b1 (by decide)
      refine⟨⟨QR uh.out.fY uh.out.fY.size hgrow (fun k hk=>(aA hv2 k hk).1),?_,?_,?_⟩,?_⟩
      ·have h1:=hgrow.size;have h2:=uh.out.sz;simp at h1;omega
      ·exact(DI hgrow _ (by have:=uh.out.sz;omega) amY).trans uh.out.b0
      ·exact(DI hgrow _ (by have:=uh.out.sz;omega) yM).trans uh.out.b1
      ·rw[amW.out];exact mU.snoc yG (by decide) hv1 hv2 F8.out jw.out hgrow ho
     clear ho hgrow hat uK hv1 hv2 F8 jw uh
     go_wp2_with fail
     go_roundg i
     case measure=>omega
     case rel=>exact⟨by omega,by go_num,HN⟩
    |succ k=>
     have od:k<p.length:=by omega
     obtain⟨g,hg⟩:∃g,p[k]?=some g:=⟨_,aD od⟩;obtain⟨b2,u2,rfl,hb2,e2,QU⟩:=AQ JD.out hg;obtain⟨gs,gc,rfl⟩:=M5 QU;have hgl:g.length<=402:=(abu.out.2 g (bn hg)).2;have vh:Hid (iU w (.slice gs g.length gc) g):=QU;have HCG:Hid (w.cell? ⟨b2,k,none⟩=some (.slice gs g.length gc)):=e2;have d3:=(iK.fY.cell (p:=⟨b2,k,none⟩) hb2).trans e2;have am0:Hid (((p.drop k).map List.reverse).reverse=((p.drop (k+1)).map List.reverse).reverse++[g.reverse]):=by
      rw[QQ hg,gU,zI];exact rfl
     have hl2:((p.drop (k+1)).map List.reverse).reverse.length<=402:=by simp;omega
     have Xg:(k:Int)<(p.length:Int):=by omega
     have af2:b2<wr.heap.size:=aQ hb2 iK.fY.size;have hkk:((k+1:Nat):Int)-1=(k:Int):=by omega
     rw[hkk];generalize((p.drop (k+1)).map List.reverse).reverse=A2 at*;obtain⟨w2,hw2⟩:∃w2,w2=wr:=⟨wr,rfl⟩;have kZ:Hid (TI w #[.string W,.slice (some ⟨b,0,none⟩) ps.length pc,.int .i64 0] w2/\Below w1.heap.size w1 w2/\mU 63 iU w1.heap.size u5 A2 w2):=by rw[hw2];exact⟨iK,pN,KJ⟩
     have abw:Hid (Below w2.heap.size w2 wr/\wr.ownsRow w2.heap.size 65 2 (.slice none 0 0) (g.drop g.length).reverse.length (kF (g.drop g.length).reverse)):=by
      rw[hw2];exact⟨Below.refl _ _,by simpa[kF] using World.ownsRow_nil _ _ _ _⟩
     clear hg e2 QU KJ iK pN lV hkk hw2
     go_wp2_with fail
     go_loopg [7,8] g.length (fun m lv nv wr=>m<=g.length/\nv=.int .i64 ((m:Int)-1)/\Hid (Below w2.heap.size w2 wr/\wr.ownsRow w2.heap.size 65 2 lv (g.drop m).reverse.length (kF (g.drop m).reverse)))
     case atStart=>exact⟨ai _,by go_num,abw⟩
     case round=>
      obtain⟨hnm,rfl,QV⟩:=hrel;obtain⟨pO,gh⟩:=QV.out;have nS:=kZ.out.1.next pO
      have x1:wr.cell? ⟨w.heap.size,1,none⟩=some (.slice (some ⟨b,0,none⟩) ps.length pc):=uM nS.b0 1;have x2:=(nS.fY.cell (p:=⟨b,i,none⟩) hb).trans HCP.out;have x3:=(nS.fY.cell (p:=⟨b2,k,none⟩) hb2).trans HCG.out;have apr:b<wr.heap.size:=aQ hb nS.fY.size;have aps:b2<wr.heap.size:=aQ hb2 nS.fY.size;have apt:=nS.sz;clear abw d1 d2 d3;cases gk with
      |zero=>
       rw[Si] at gh;obtain⟨vs,hv1,hv2,hv3⟩:=kZ.out.2.2.keep DF pO;have fT:iU wr u7 g.reverse:=wX gh;obtain⟨QW,c7,rfl⟩:=M5 fT;have jw:Hid (iU wr (.slice QW g.reverse.length c7) g.reverse):=fT;have F8:Hid (∀(i:Nat) u x,vs[i]?=some u->A2[i]?=some x->iU wr u x):=hv3;have qD:Hid (Below w1.heap.size w1 wr):=kZ.out.2.1.trans (pO.mono kZ.out.2.1.size);have hs1:=qD.out.size;generalize xd:g.reverse.length=NL at*;clear fT gh QV pO nS hv3 kZ
       go_wp2_with (at_builtin;refine wpList_append_lies _ rfl (.tmp 56) (.tmp 58) 57 rfl w1.heap.size 63 i2 _ 1 24 Tryz.underlying57 hi2 hz0 hz1 hz2 rfl (by decide) u5 A2.length vs rfl (aO hv2 (fun k hk=>Below.heap_alloc _ _ _ (aA hv2 k hk).2)) ⟨wr.heap.size,0,none⟩ 1 1 [.slice QW NL c7] rfl rfl (World.news_of_block (cs:= #[.slice QW NL c7]) (t:=63) (fr:=(0,0)) (heap_alloc_new wr _)) (by simp[Value.oneCell']) (by decide) (by unfold maxLen;omega) (by omega) (by simp;omega) (wr.heap.size+1) (by simp) ?_;intro g' cap' w5 ho hgrow hat uK)
       have HN:Hid (Below w1.heap.size w1 w5/\mU 63 iU w1.heap.size (.slice (some ⟨g',0,none⟩) (A2.length+1) cap') ((p.drop k).map List.reverse).reverse w5):=by
        refine⟨QR qD.out qD.out.size hgrow (fun k hk=>(aA hv2 k hk).1),?_⟩
        rw[am0.out];exact mU.snoc DF (by decide) hv1 hv2 F8.out jw.out hgrow ho
       clear ho hgrow hat uK hv1 hv2 F8 jw qD
       go_wp2_with fail
       go_roundg k
       case measure=>omega
       case rel=>exact⟨by omega,by go_num,HN⟩
      |succ n=>
       have ID:n<g.length:=by omega
       obtain⟨P,hP⟩:∃P,g[n]?=some P:=⟨_,aD ID⟩;obtain⟨b3,rfl,hb3,p0,p1⟩:=afH vh.out hP;have r0:=(nS.fY.cell (p:=⟨b3,n*2,none⟩) hb3).trans p0;have r1:=(nS.fY.cell (p:=⟨b3,n*2+1,none⟩) hb3).trans p1;have apu:b3<wr.heap.size:=aQ hb3 nS.fY.size;have AZ:(n:Int)<(g.length:Int):=by omega
       have am1:Hid ((g.drop n).reverse=(g.drop (n+1)).reverse++[P]):=by
        rw[QQ hP,zI];exact rfl
       have nJ:(g.drop (n+1)).reverse.length<=402:=by simp;omega
       have hnn:((n+1:Nat):Int)-1=(n:Int):=by omega
       rw[hnn];generalize(g.drop (n+1)).reverse=A3 at*;obtain⟨P1,P2⟩:=P;simp only at r0 r1;have qD:Hid (Below w2.heap.size w2 wr):=pO;have hs2:=pO.size;clear hP p0 p1 hnn QV nS pO
       go_wp2_with (at_builtin;refine wpList_append_lies _ rfl (.tmp 42) (.tmp 54) 63 rfl w2.heap.size 65 i1 _ 2 16 Tryz.underlying63 hi1 hy0 hy1 hy2 rfl (by decide) u7 A3.length (kF A3) rfl (aO gh (fun k hk=>Below.heap_alloc _ _ _ (aA gh k hk).2)) ⟨wr.heap.size,0,none⟩ 1 1 [.int .i64 P1,.int .i64 P2] rfl rfl (World.news_of_block (cs:= #[.int .i64 P1,.int .i64 P2]) (t:=65) (fr:=(0,0)) (heap_alloc_new wr _)) (by simp[Value.oneCell']) (by decide) (by unfold maxLen;omega) (by omega) (by simp;omega) (wr.heap.size+1) (by simp) ?_;intro g' cap' w5 ho hgrow hat uK)
       have HN:Hid (Below w2.heap.size w2 w5/\w5.ownsRow w2.heap.size 65 2 (.slice (some ⟨g',0,none⟩) (A3.length+1) cap') (g.drop n).reverse.length (kF (g.drop n).reverse)):=by
        refine⟨QR qD.out qD.out.size hgrow (fun k hk=>(aA gh k hk).1),?_⟩
        rw[am1.out,amT,aX];exact ho
       clear ho hgrow hat uK gh qD
       go_wp2_with fail
       go_roundg n
       case measure=>omega
       case rel=>exact⟨by omega,by go_num,HN⟩
def am2(w:World)(b o:Nat)(K x y d r:Int)(s:ByteArray):Prop:=
 w.cell? ⟨b,o,none⟩=some (.int .i64 K)/\w.cell? ⟨b,o+1,none⟩=some (.int .i64 x)/\w.cell? ⟨b,o+2,none⟩=some (.int .i64 y)/\w.cell? ⟨b,o+3,none⟩=some (.int .i64 d)/\
  w.cell? ⟨b,o+4,none⟩=some (.int .u8 r)/\w.cell? ⟨b,o+5,none⟩=some (.string s)
def QX(w:World)(so:Option Addr)(n:Nat):Prop:=
 ∀k,k<n->∃b o K x y d r s,so=some ⟨b,o,none⟩/\b<w.heap.size/\s.size<=maxLen/\am2 w b (o+k*6) K x y d r s
theorem abx{gs:List (List (Int×Int))}(h:pI gs):pI (jT gs):=by
 refine⟨by unfold jT;simp;exact h.1,fun g hg=>?_⟩
 unfold jT at hg;rw[Gq] at hg;obtain⟨g0,h0,rfl⟩:=bh.1 hg;refine⟨fun p hp=>(h.2 g0 h0).1 p (Gq.1 hp),by simp;exact(h.2 g0 h0).2⟩
theorem am3{ps:List (List (List (Int×Int)))}(h:mG ps):mG (Gb.turn ps):=by
 refine⟨by unfold Gb.turn;simp;exact h.1,fun g hg=>?_⟩
 unfold Gb.turn at hg;rw[Gq] at hg;obtain⟨g0,h0,rfl⟩:=bh.1 hg;exact abx (h.2 g0 h0)
theorem am4{ps:List (List (List (Int×Int)))}(h:mG ps):(Pl.kU ps).length<=3000000000:=by
 have:=UY ps h ps.length;rw[dN] at this;have hl:=h.1;unfold Pl.kU;split
 ·simp[Pl.cP,Pl.EMPTY]
 ·simp[Pl.cP];omega
structure Tn(ps:List (List (List (Int×Int))))(W:ByteArray)(S:ByteArray):Prop where
 size:S.size<=3000000000
 wr:∀w pv,Gl w->kT w pv (Gb.turn ps)->Calls Tryz.prog 15 #[.agg #[.string W,pv,.int .i64 0]] w fun e w'=>e=.returned (.string S)/\Below w.heap.size w w'
 rd:S.size<=400->Pl.err S.data.toList=(0,0)/\Pl.rings S.data.toList=(Gb.turn ps).flatten
theorem am5{gs:List (List (Int×Int))}(h:pI gs):∃S,Tn [gs] ⟨Pl.bB.toArray⟩ S:=by
 have hr:=abx h;have e:Gb.turn [gs]=[jT gs]:=rfl;refine⟨⟨(Pl.bB++([32]++Pl.bQ (jT gs))).toArray⟩,?_,fun w pv hG hR=>?_,fun hs=>?_⟩
 ·have:=Ir hr;show(Pl.bB++([32]++Pl.bQ (jT gs))).toArray.size<=_;simp[Pl.bB];omega
 ·rw[e] at hR;exact afF (jT gs) pv w hG hR hr
 ·have hl:(Pl.bB++([32]++Pl.bQ (jT gs))).length<=400:=by
   have:(Pl.bB++([32]++Pl.bQ (jT gs))).toArray.size<=400:=hs;simpa using this
  obtain⟨k1,k2,_⟩:=Pl.amQ (fun g hg=>(hr.2 g hg).1) hl
  refine⟨k1,?_⟩;show(Pl.aM (Pl.all (Pl.bB++([32]++Pl.bQ (jT gs))))).2.2.flatten=_;rw[k2,e]
theorem am6{ps:List (List (List (Int×Int)))}(h:mG ps):∃S,Tn ps ⟨Pl.cP.toArray⟩ S:=by
 have hr:=am3 h;refine⟨⟨(Pl.kU (Gb.turn ps)).toArray⟩,?_,fun w pv hG hR=>afG _ pv w hG hR hr,fun hs=>?_⟩
 ·have:=am4 hr;show(Pl.kU (Gb.turn ps)).toArray.size<=_;simpa using this
 ·have hl:(Pl.kU (Gb.turn ps)).length<=400:=by
   have:(Pl.kU (Gb.turn ps)).toArray.size<=400:=hs;simpa using this
  obtain⟨k1,k2,_⟩:=Pl.amR (fun gs hg g hgg=>((hr.2 gs hg).2 g hgg).1) hl
  refine⟨k1,?_⟩;show(Pl.aM (Pl.all (Pl.kU (Gb.turn ps)))).2.2.flatten=_;rw[k2]
theorem am7{s s':List UInt8}(h0:(Pl.err s).1=0)(h0':(Pl.err s').1=0)(hp:(Ge.ag (Pl.rings s')).Perm ((Ge.ag (Pl.rings s)).map Gb.rv))(x y d:Int):
  (Pl.dQ s x y d).1= -(Pl.dQ s' x y d).1/\(Pl.dQ s x y d).2.1=(Pl.dQ s' x y d).2.1/\(Pl.dQ s x y d).2.2.1=(Pl.dQ s' x y d).2.2.1:=by
 have jS:(Ge.ag (Pl.rings s')).any (Ge.fo (x,y) d)=(Ge.ag (Pl.rings s)).any (Ge.fo (x,y) d):=by
  refine nj.2 ?_;rw[xS,xS];constructor
  ·rintro⟨e,he,k⟩;obtain⟨f,hf,rfl⟩:=bh.1 (hp.mem_iff.1 he);exact⟨f,hf,by rw[Gb.Kz] at k;exact k⟩
  ·rintro⟨e,he,k⟩;exact⟨Gb.rv e,hp.mem_iff.2 (bh.2 ⟨e,he,rfl⟩),by rw[Gb.Kz];exact k⟩
 have htot:Ge.total (Ge.fu (x,y) d) (Ge.ag (Pl.rings s'))= -Ge.total (Ge.fu (x,y) d) (Ge.ag (Pl.rings s)):=by
  rw[Gb.LN hp];refine Gb.Kw (fun u v=>?_) _
  unfold Ge.fu Ge.up;have hc:=Ga.bZ (Ge.rel (x,y) d u) (Ge.rel (x,y) d v);rw[hc];split<;>split<;>(try split)<;>(try split)<;>omega
 unfold Pl.dQ;rw[ah h0,ah h0',jS,htot];split
 ·exact⟨rfl,rfl,rfl⟩
 ·split
  ·exact⟨rfl,rfl,rfl⟩
  ·exact⟨by simp,rfl,rfl⟩
theorem aby{s:List UInt8}(x y d:Int): -1000000000<=(Pl.dQ s x y d).1/\(Pl.dQ s x y d).1<=1000000000/\(Pl.dQ s x y d).2.2.1<=5:=by
 have he:=abr s;have key:∀es:List Ed, -(es.length:Int)<=Ge.total (Ge.fu (x,y) d) es/\Ge.total (Ge.fu (x,y) d) es<=es.length:=by
  intro es;induction es with
  |nil=>simp[Ge.total]
  |cons e es ih=>
   rw[Ge.fE];have: -1<=Ge.fu (x,y) d e.1 e.2/\Ge.fu (x,y) d e.1 e.2<=1:=by
    unfold Ge.fu Ge.up;split
    ·omega
    ·split<;>omega
   simp only[bW];omega
 unfold Pl.dQ;split
 ·rename_i h
  have hl:=(IH h).2.2.2;have:=key (Ge.ag (Pl.rings s));split
  ·simp
  ·split
   ·simp
   ·simp only;omega
 ·simp only;omega
end Go.Proofs.YtkjhhooecopolaaGreatDoor

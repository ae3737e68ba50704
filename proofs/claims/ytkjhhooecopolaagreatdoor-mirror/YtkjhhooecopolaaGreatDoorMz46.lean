import Derived.Test.YtkjhhooecopolaaGreatDoorMz45
set_option maxRecDepth 100000
set_option maxHeartbeats 4000000
namespace Go.Proofs.YtkjhhooecopolaaGreatDoor
open Go.RowKit
def jJ(p:List (List (Int×Int))):List (List (Int×Int)):=(p.map List.reverse).reverse
theorem Qn{α:Type}{l:List α}{k:Nat}{x:α}(h:l[k]?=some x):l.drop k=x::l.drop (k+1):=by
 obtain⟨hk,e⟩:=bT.1 h;rw[Kv hk,e]
theorem amr(a:List (Int×Int))(x:Int×Int):ki (a++[x])=ki a++[.int .i64 x.1,.int .i64 x.2]:=Ud a x
theorem Qo{base:Nat}{w w1 w2:World}{o:Obj}{row:Option Nat}(h:Below base w w1)(hb:base<=w1.heap.size)(hg:(w1.alloc o).grownBy w2 row)(hr:∀k,row=some k->base<=k):Below base w w2:=
 (h.alloc hb _).grown hg (by simp;omega) hr
structure TI(w:World)(sh:Array Value)(wr:World):Prop where
 fS:Below w.heap.size w wr
 sz:w.heap.size+2<=wr.heap.size
 b0:wr.heap[w.heap.size]?=some (.cells sh 29 (0,0))
 b1:wr.heap[w.heap.size+1]?=some (.cells #[.string ⟨#[]⟩,.slice none 0 0,.int .i64 0] 29 (0,0))
theorem TI.next{w:World}{sh:Array Value}{wr w':World}(h:TI w sh wr)(hb:Below wr.heap.size wr w'):TI w sh w':=
 ⟨h.fS.trans (hb.mono h.fS.size),dS h.sz hb.size,(hb.block _ (by have:=h.sz;omega)).trans h.b0,(hb.block _ (by have:=h.sz;omega)).trans h.b1⟩
def mJ{α:Type}(T:Nat)(R:World->Value->α->Prop)(base:Nat)(lv:Value)(acc:List α)(wr:World):Prop:=
 ∃vs:List Value,vs.length=acc.length/\wr.ownsRow base T 1 lv acc.length vs/\∀(i:Nat) u x,vs[i]?=some u->acc[i]?=some x->R wr u x
theorem mJ.rd{α:Type}{T:Nat}{R:World->Value->α->Prop}{base:Nat}{lv:Value}{acc:List α}{wr:World}(h:mJ T R base lv acc wr):xZ T R wr lv acc:=by
 obtain⟨vs,h1,h2,h3⟩:=h;exact⟨vs,h1,wu h2,h3⟩
theorem mJ.keep{α:Type}{T:Nat}{ts:List Nat}{R:World->Value->α->Prop}(hR:sf ts R){base:Nat}{lv:Value}{acc:List α}{wr w':World}(h:mJ T R base lv acc wr)(hb:Below wr.heap.size wr w'):mJ T R base lv acc w':=by
 obtain⟨vs,h1,h2,h3⟩:=h;exact⟨vs,h1,aJ h2 fun k hk=>hb.block k (au h2 k hk).2,fun i u x hu hx=>Df hR (h3 i u x hu hx) hb⟩
theorem mJ.snoc{α:Type}{T:Nat}{ts:List Nat}{R:World->Value->α->Prop}(hR:sf ts R)(hT:T∉ts){base:Nat}{lv vH:Value}{acc:List α}{x:α}{v:Value}{w4 w5:World}{o:Obj}{vs:List Value}(h1:vs.length=acc.length)(h2:w4.ownsRow base T 1 lv acc.length vs)(h3:∀(i:Nat) u x,vs[i]?=some u->acc[i]?=some x->R w4 u x)(hx:R w4 v x)
  (hg:(w4.alloc o).grownBy w5 lv.ownBlock)(ho:w5.ownsRow base T 1 vH (acc.length+1) (vs++[v])):mJ T R base vH (acc++[x]) w5:=by
 have kr:=fun{u:Value}{y:α}(k:R w4 u y)=>De hR hg (fun k hk=>nQ h2 hk) hT k
 exact⟨vs++[v],by simp[h1],by rw[aS];exact ho,Mu h1 (fun i u y hu hy=>kr (h3 i u y hu hy)) (kr hx)⟩
theorem ams(ps:List (List (List (Int×Int))))(W:ByteArray)(pv:Value)(w:World)(hR:kI w pv ps)(hok:mh ps):
  Calls Tryz.prog 16 #[.agg #[.string W,pv,.int .i64 0]] w fun e w'=>∃pv',e=.returned (.agg #[.string W,pv',.int .i64 0])/\kI w' pv' (Gb.turn ps)/\Below w.heap.size w w':=by
 obtain⟨so,pc,rfl⟩:=qJ hR;obtain⟨i1,hi1,hy0,hy1,hy2⟩:=info_parts Ue;obtain⟨i2,hi2,hz0,hz1,hz2⟩:=info_parts Ui;obtain⟨i3,hi3,hx0,hx1,hx2⟩:=info_parts Uj;have HR:Hid (kI w (.slice so ps.length pc) ps):=hR;have iL:Hid (mh ps):=hok;have hl:ps.length<=402:=hok.1;clear hR hok;have bh:Hid (TI w #[.string W,.slice so ps.length pc,.int .i64 0] ((w.alloc (.cells #[.string W,.slice so ps.length pc,.int .i64 0] 29)).alloc (.cells #[.string ⟨#[]⟩,.slice none 0 0,.int .i64 0] 29))):=by
  refine⟨((Below.refl _ _).alloc (ae _) _).alloc (by simp) _,by simp,?_,?_⟩
  ·rw[Below.heap_alloc _ _ _ (by simp)]
   exact heap_alloc_new _ _
  ·have:=heap_alloc_new (w.alloc (.cells #[.string W,.slice so ps.length pc,.int .i64 0] 29)) (.cells #[.string ⟨#[]⟩,.slice none 0 0,.int .i64 0] 29);simpa using this
 go_enter Tryz.func16,Tryz.ntmps16
 go_wp2_with fail
 go_loopg [3,4] ps.length (fun m lv iv wr=>m<=ps.length/\iv=.int .i64 ((m:Int)-1)/\Hid (TI w #[.string W,.slice so ps.length pc,.int .i64 0] wr/\mJ 57 jh w.heap.size lv ((ps.drop m).map jJ).reverse wr))
 case atStart=>exact⟨ae _,by go_num,bh.out,[],by simp,by simpa using World.ownsRow_nil _ _ _ _,fun i u x hu=>by simp at hu⟩
 case round=>
  obtain⟨him,rfl,HE⟩:=hrel;obtain⟨mK,jW⟩:=HE.out;have c1:wr.cell? ⟨w.heap.size,1,none⟩=some (.slice so ps.length pc):=ur mK.b0 1;have hwz:=mK.sz;clear bh;obtain⟨m0,hm0⟩:∃m0,m0=gk:=⟨_,rfl⟩;cases gk with
  |zero=>
   have c0:wr.cell? ⟨w.heap.size,0,none⟩=some (.string W):=ur mK.b0 0;have q0:wr.cell? ⟨w.heap.size+1,0,none⟩=some (.string ⟨#[]⟩):=ur mK.b1 0;have q1:wr.cell? ⟨w.heap.size+1,1,none⟩=some (.slice none 0 0):=ur mK.b1 1;have q2:wr.cell? ⟨w.heap.size+1,2,none⟩=some (.int .i64 0):=ur mK.b1 2;have z0:wr.frozen? ⟨w.heap.size+1,0,none⟩=false:=L3 mK.b1 0;have z1:wr.frozen? ⟨w.heap.size+1,1,none⟩=false:=L3 mK.b1 1;have z2:wr.frozen? ⟨w.heap.size+1,2,none⟩=false:=L3 mK.b1 2;obtain⟨Fx,c',rfl⟩:∃Fx c',u3=.slice Fx (Gb.turn ps).length c':=by
    have:=jW.rd;rw[Rm] at this;exact qJ this
   have lK:Hid (Below w.heap.size w wr/\kI wr (.slice Fx (Gb.turn ps).length c') (Gb.turn ps)):=by
    refine⟨mK.fS,?_⟩;have:=jW.rd;rw[Rm] at this;exact this
   have sK:Hid (∀x y z,kI (((wr.setCell ⟨w.heap.size+1,0,none⟩ x).setCell ⟨w.heap.size+1,1,none⟩ y).setCell ⟨w.heap.size+1,2,none⟩ z) (.slice Fx (Gb.turn ps).length c') (Gb.turn ps)):=fun x y z=>by
    refine Db _ _ _ _ lK.out.2 fun k cur e hc he=>?_
    have hk:k≠w.heap.size+1:=fun e'=>by
     rw[e',mK.b1] at hc;injection hc with hc;injection hc with _ hc _;rw[<-hc] at he;exact absurd he (by decide)
    rw[bg hk,bg hk,bg hk]
   generalize(Gb.turn ps).length=NL at*;clear mK jW HE HR iL
   go_wp2_with fail
   refine bodyPost_ret (v:=.agg #[.string W,.slice Fx NL c',.int .i64 0]) (by simp[results,Tryz.results16,go_sem,q0,q1,q2]) rfl ⟨_,rfl,sK.out _ _ _,?_⟩
   exact((lK.out.1.setCell (lO _) _).setCell (lO _) _).setCell (lO _) _
  |succ i=>
   have hlt:i<ps.length:=by omega
   obtain⟨p,hp⟩:∃p,ps[i]?=some p:=⟨_,ay hlt⟩;obtain⟨b,u,rfl,hb,e0,ji⟩:=Ai HR.out hp;obtain⟨us,uc,rfl⟩:=qJ ji;have aaZ:Hid (pj p):=iL.out.2 p (aY hp);have Jc:Hid (jh w (.slice us p.length uc) p):=ji;have hpl:p.length<=402:=aaZ.out.1;have amu:Hid (((ps.drop i).map jJ).reverse=((ps.drop (i+1)).map jJ).reverse++[jJ p]):=by
    rw[Qn hp,gK,zb];exact rfl
   have hli:((ps.drop (i+1)).map jJ).reverse.length<=402:=by simp;omega
   have c2:=(mK.fS.cell (p:=⟨b,i,none⟩) hb).trans e0;have hbr:b<wr.heap.size:=aL hb mK.fS.size;have eD:(i:Int)<(ps.length:Int):=by omega
   have Bg:((i+1:Nat):Int)-1=(i:Int):=by omega
   rw[Bg];generalize((ps.drop (i+1)).map jJ).reverse=A1 at*;have HCP:Hid (w.cell? ⟨b,i,none⟩=some (.slice us p.length uc)):=e0;clear hp e0 ji HR iL Bg;have qQ:Hid (∃w1,w1=wr):=⟨wr,rfl⟩;obtain⟨w1,hw1⟩:=qQ.out;have Qp:Hid (TI w #[.string W,.slice (some ⟨b,0,none⟩) ps.length pc,.int .i64 0] w1/\mJ 57 jh w.heap.size u3 A1 w1):=by rw[hw1];exact⟨mK,jW⟩
   have HST:Hid (Below w1.heap.size w1 wr/\mJ 63 iK w1.heap.size (.slice none 0 0) ((p.drop p.length).map List.reverse).reverse wr):=by
    rw[hw1];exact⟨Below.refl _ _,[],by simp,by simpa using World.ownsRow_nil _ _ _ _,fun i u x hu=>by simp at hu⟩
   clear mK jW HE qQ hw1
   go_wp2_with fail
   go_loopg [5,6] p.length (fun m lv kv wr=>m<=p.length/\kv=.int .i64 ((m:Int)-1)/\Hid (Below w1.heap.size w1 wr/\mJ 63 iK w1.heap.size lv ((p.drop m).map List.reverse).reverse wr))
   case atStart=>exact⟨ae _,by go_num,HST⟩
   case round=>
    obtain⟨Nf,rfl,lK⟩:=hrel;obtain⟨pC,Kf⟩:=lK.out;have iB:=Qp.out.1.next pC
    have d1:wr.cell? ⟨w.heap.size,1,none⟩=some (.slice (some ⟨b,0,none⟩) ps.length pc):=ur iB.b0 1;have d2:=(iB.fS.cell (p:=⟨b,i,none⟩) hb).trans HCP.out;have aoZ:b<wr.heap.size:=aL hb iB.fS.size;have ao0:=iB.sz;clear HST c1 c2;cases gk with
    |zero=>
     have amv:=Qp.out.2.keep x7 pC;obtain⟨vs,hv1,hv2,hv3⟩:=amv;have fL:jh wr u5 (jJ p):=by
      have:=Kf.rd;rw[Rm] at this;exact this
     obtain⟨Qq,c5,rfl⟩:=qJ fL;have jl:Hid (jh wr (.slice Qq (jJ p).length c5) (jJ p)):=fL;have Fy:Hid (∀(i:Nat) u x,vs[i]?=some u->A1[i]?=some x->jh wr u x):=hv3;have tT:Hid (TI w #[.string W,.slice (some ⟨b,0,none⟩) ps.length pc,.int .i64 0] wr):=iB;generalize wE:(jJ p).length=NL at*;clear fL Kf lK pC iB hv3 Qp
     go_wp2_with (at_builtin;refine wpList_append_lies _ rfl (.tmp 60) (.tmp 62) 27 rfl w.heap.size 57 i3 _ 1 24 Tryz.underlying27 hi3 hx0 hx1 hx2 rfl (by decide) u3 A1.length vs rfl (aJ hv2 (fun k hk=>Below.heap_alloc _ _ _ (au hv2 k hk).2)) ⟨wr.heap.size,0,none⟩ 1 1 [.slice Qq NL c5] rfl rfl (World.news_of_block (cs:= #[.slice Qq NL c5]) (t:=57) (fr:=(0,0)) (heap_alloc_new wr _)) (by simp[Value.oneCell']) (by decide) (by unfold maxLen;omega) (by omega) (by simp;omega) (wr.heap.size+1) (by simp) ?_;intro g cap' w5 ho hgrow hat uo)
     have HN:Hid (TI w #[.string W,.slice (some ⟨b,0,none⟩) ps.length pc,.int .i64 0] w5/\mJ 57 jh w.heap.size (.slice (some ⟨g,0,none⟩) (A1.length+1) cap') ((ps.drop i).map jJ).reverse w5):=by
      have amw:u3.ownBlock≠some w.heap.size:=nP hv2 tT.out.b0 (by decide)
      have yj:u3.ownBlock≠some (w.heap.size+1):=nP hv2 tT.out.b1 (by decide)
      refine⟨⟨Qo tT.out.fS tT.out.fS.size hgrow (fun k hk=>(au hv2 k hk).1),?_,?_,?_⟩,?_⟩
      ·have h1:=hgrow.size;have h2:=tT.out.sz;simp at h1;omega
      ·exact(Dc hgrow _ (by have:=tT.out.sz;omega) amw).trans tT.out.b0
      ·exact(Dc hgrow _ (by have:=tT.out.sz;omega) yj).trans tT.out.b1
      ·rw[amu.out];exact mJ.snoc x7 (by decide) hv1 hv2 Fy.out jl.out hgrow ho
     clear ho hgrow hat uo hv1 hv2 Fy jl tT
     go_wp2_with fail
     go_roundg i
     case measure=>omega
     case rel=>exact⟨by omega,by go_num,HN⟩
    |succ k=>
     have nR:k<p.length:=by omega
     obtain⟨g,hg⟩:∃g,p[k]?=some g:=⟨_,ay nR⟩;obtain⟨b2,u2,rfl,hb2,e2,Qr⟩:=Ai Jc.out hg;obtain⟨gs,gc,rfl⟩:=Mz Qr;have hgl:g.length<=402:=(aaZ.out.2 g (aY hg)).2;have uL:Hid (iK w (.slice gs g.length gc) g):=Qr;have HCG:Hid (w.cell? ⟨b2,k,none⟩=some (.slice gs g.length gc)):=e2;have d3:=(iB.fS.cell (p:=⟨b2,k,none⟩) hb2).trans e2;have amy:Hid (((p.drop k).map List.reverse).reverse=((p.drop (k+1)).map List.reverse).reverse++[g.reverse]):=by
      rw[Qn hg,gK,zb];exact rfl
     have hl2:((p.drop (k+1)).map List.reverse).reverse.length<=402:=by simp;omega
     have WC:(k:Int)<(p.length:Int):=by omega
     have afA:b2<wr.heap.size:=aL hb2 iB.fS.size;have hkk:((k+1:Nat):Int)-1=(k:Int):=by omega
     rw[hkk];generalize((p.drop (k+1)).map List.reverse).reverse=A2 at*;obtain⟨w2,hw2⟩:∃w2,w2=wr:=⟨wr,rfl⟩;have kM:Hid (TI w #[.string W,.slice (some ⟨b,0,none⟩) ps.length pc,.int .i64 0] w2/\Below w1.heap.size w1 w2/\mJ 63 iK w1.heap.size u5 A2 w2):=by rw[hw2];exact⟨iB,pC,Kf⟩
     have aa1:Hid (Below w2.heap.size w2 wr/\wr.ownsRow w2.heap.size 65 2 (.slice none 0 0) (g.drop g.length).reverse.length (ki (g.drop g.length).reverse)):=by
      rw[hw2];exact⟨Below.refl _ _,by simpa[ki] using World.ownsRow_nil _ _ _ _⟩
     clear hg e2 Qr Kf iB pC lK hkk hw2
     go_wp2_with fail
     go_loopg [7,8] g.length (fun m lv nv wr=>m<=g.length/\nv=.int .i64 ((m:Int)-1)/\Hid (Below w2.heap.size w2 wr/\wr.ownsRow w2.heap.size 65 2 lv (g.drop m).reverse.length (ki (g.drop m).reverse)))
     case atStart=>exact⟨ae _,by go_num,aa1⟩
     case round=>
      obtain⟨hnm,rfl,Qs⟩:=hrel;obtain⟨pD,fV⟩:=Qs.out;have nH:=kM.out.1.next pD
      have x1:wr.cell? ⟨w.heap.size,1,none⟩=some (.slice (some ⟨b,0,none⟩) ps.length pc):=ur nH.b0 1;have x2:=(nH.fS.cell (p:=⟨b,i,none⟩) hb).trans HCP.out;have x3:=(nH.fS.cell (p:=⟨b2,k,none⟩) hb2).trans HCG.out;have ao1:b<wr.heap.size:=aL hb nH.fS.size;have ao2:b2<wr.heap.size:=aL hb2 nH.fS.size;have ao3:=nH.sz;clear aa1 d1 d2 d3;cases gk with
      |zero=>
       rw[Rm] at fV;obtain⟨vs,hv1,hv2,hv3⟩:=kM.out.2.2.keep Da pD;have fL:iK wr u7 g.reverse:=wu fV;obtain⟨Qu,c7,rfl⟩:=Mz fL;have jl:Hid (iK wr (.slice Qu g.reverse.length c7) g.reverse):=fL;have Fy:Hid (∀(i:Nat) u x,vs[i]?=some u->A2[i]?=some x->iK wr u x):=hv3;have qp:Hid (Below w1.heap.size w1 wr):=kM.out.2.1.trans (pD.mono kM.out.2.1.size);have hs1:=qp.out.size;generalize wE:g.reverse.length=NL at*;clear fL fV Qs pD nH hv3 kM
       go_wp2_with (at_builtin;refine wpList_append_lies _ rfl (.tmp 56) (.tmp 58) 57 rfl w1.heap.size 63 i2 _ 1 24 Tryz.underlying57 hi2 hz0 hz1 hz2 rfl (by decide) u5 A2.length vs rfl (aJ hv2 (fun k hk=>Below.heap_alloc _ _ _ (au hv2 k hk).2)) ⟨wr.heap.size,0,none⟩ 1 1 [.slice Qu NL c7] rfl rfl (World.news_of_block (cs:= #[.slice Qu NL c7]) (t:=63) (fr:=(0,0)) (heap_alloc_new wr _)) (by simp[Value.oneCell']) (by decide) (by unfold maxLen;omega) (by omega) (by simp;omega) (wr.heap.size+1) (by simp) ?_;intro g' cap' w5 ho hgrow hat uo)
       have HN:Hid (Below w1.heap.size w1 w5/\mJ 63 iK w1.heap.size (.slice (some ⟨g',0,none⟩) (A2.length+1) cap') ((p.drop k).map List.reverse).reverse w5):=by
        refine⟨Qo qp.out qp.out.size hgrow (fun k hk=>(au hv2 k hk).1),?_⟩
        rw[amy.out];exact mJ.snoc Da (by decide) hv1 hv2 Fy.out jl.out hgrow ho
       clear ho hgrow hat uo hv1 hv2 Fy jl qp
       go_wp2_with fail
       go_roundg k
       case measure=>omega
       case rel=>exact⟨by omega,by go_num,HN⟩
      |succ n=>
       have H6:n<g.length:=by omega
       obtain⟨P,hP⟩:∃P,g[n]?=some P:=⟨_,ay H6⟩;obtain⟨b3,rfl,hb3,p0,p1⟩:=afe uL.out hP;have r0:=(nH.fS.cell (p:=⟨b3,n*2,none⟩) hb3).trans p0;have r1:=(nH.fS.cell (p:=⟨b3,n*2+1,none⟩) hb3).trans p1;have ao4:b3<wr.heap.size:=aL hb3 nH.fS.size;have Ao:(n:Int)<(g.length:Int):=by omega
       have amz:Hid ((g.drop n).reverse=(g.drop (n+1)).reverse++[P]):=by
        rw[Qn hP,zb];exact rfl
       have ni:(g.drop (n+1)).reverse.length<=402:=by simp;omega
       have hnn:((n+1:Nat):Int)-1=(n:Int):=by omega
       rw[hnn];generalize(g.drop (n+1)).reverse=A3 at*;obtain⟨P1,P2⟩:=P;simp only at r0 r1;have qp:Hid (Below w2.heap.size w2 wr):=pD;have hs2:=pD.size;clear hP p0 p1 hnn Qs nH pD
       go_wp2_with (at_builtin;refine wpList_append_lies _ rfl (.tmp 42) (.tmp 54) 63 rfl w2.heap.size 65 i1 _ 2 16 Tryz.underlying63 hi1 hy0 hy1 hy2 rfl (by decide) u7 A3.length (ki A3) rfl (aJ fV (fun k hk=>Below.heap_alloc _ _ _ (au fV k hk).2)) ⟨wr.heap.size,0,none⟩ 1 1 [.int .i64 P1,.int .i64 P2] rfl rfl (World.news_of_block (cs:= #[.int .i64 P1,.int .i64 P2]) (t:=65) (fr:=(0,0)) (heap_alloc_new wr _)) (by simp[Value.oneCell']) (by decide) (by unfold maxLen;omega) (by omega) (by simp;omega) (wr.heap.size+1) (by simp) ?_;intro g' cap' w5 ho hgrow hat uo)
       have HN:Hid (Below w2.heap.size w2 w5/\w5.ownsRow w2.heap.size 65 2 (.slice (some ⟨g',0,none⟩) (A3.length+1) cap') (g.drop n).reverse.length (ki (g.drop n).reverse)):=by
        refine⟨Qo qp.out qp.out.size hgrow (fun k hk=>(au fV k hk).1),?_⟩
        rw[amz.out,amr,aS];exact ho
       clear ho hgrow hat uo fV qp
       go_wp2_with fail
       go_roundg n
       case measure=>omega
       case rel=>exact⟨by omega,by go_num,HN⟩
def amA(w:World)(b o:Nat)(K x y d r:Int)(s:ByteArray):Prop:=
 w.cell? ⟨b,o,none⟩=some (.int .i64 K)/\w.cell? ⟨b,o+1,none⟩=some (.int .i64 x)/\w.cell? ⟨b,o+2,none⟩=some (.int .i64 y)/\w.cell? ⟨b,o+3,none⟩=some (.int .i64 d)/\
  w.cell? ⟨b,o+4,none⟩=some (.int .u8 r)/\w.cell? ⟨b,o+5,none⟩=some (.string s)
def Qv(w:World)(so:Option Addr)(n:Nat):Prop:=
 ∀k,k<n->∃b o K x y d r s,so=some ⟨b,o,none⟩/\b<w.heap.size/\s.size<=maxLen/\amA w b (o+k*6) K x y d r s
theorem aa2{gs:List (List (Int×Int))}(h:pj gs):pj (jJ gs):=by
 refine⟨by unfold jJ;simp;exact h.1,fun g hg=>?_⟩
 unfold jJ at hg;rw[FN] at hg;obtain⟨g0,h0,rfl⟩:=aX.1 hg;refine⟨fun p hp=>(h.2 g0 h0).1 p (FN.1 hp),by simp;exact(h.2 g0 h0).2⟩
theorem amB{ps:List (List (List (Int×Int)))}(h:mh ps):mh (Gb.turn ps):=by
 refine⟨by unfold Gb.turn;simp;exact h.1,fun g hg=>?_⟩
 unfold Gb.turn at hg;rw[FN] at hg;obtain⟨g0,h0,rfl⟩:=aX.1 hg;exact aa2 (h.2 g0 h0)
theorem amC{ps:List (List (List (Int×Int)))}(h:mh ps):(Pl.kJ ps).length<=3000000000:=by
 have:=Us ps h ps.length;rw[dI] at this;have hl:=h.1;unfold Pl.kJ;split
 ·simp[Pl.cJ,Pl.EMPTY]
 ·simp[Pl.cJ];omega
structure Tn(ps:List (List (List (Int×Int))))(W:ByteArray)(S:ByteArray):Prop where
 size:S.size<=3000000000
 wr:∀w pv,Gl w->kI w pv (Gb.turn ps)->Calls Tryz.prog 15 #[.agg #[.string W,pv,.int .i64 0]] w fun e w'=>e=.returned (.string S)/\Below w.heap.size w w'
 rd:S.size<=400->Pl.err S.data.toList=(0,0)/\Pl.rings S.data.toList=(Gb.turn ps).flatten
theorem amD{gs:List (List (Int×Int))}(h:pj gs):∃S,Tn [gs] ⟨Pl.bp.toArray⟩ S:=by
 have hr:=aa2 h;have e:Gb.turn [gs]=[jJ gs]:=rfl;refine⟨⟨(Pl.bp++([32]++Pl.bH (jJ gs))).toArray⟩,?_,fun w pv hG hR=>?_,fun hs=>?_⟩
 ·have:=Hs hr;show(Pl.bp++([32]++Pl.bH (jJ gs))).toArray.size<=_;simp[Pl.bp];omega
 ·rw[e] at hR;exact afc (jJ gs) pv w hG hR hr
 ·have hl:(Pl.bp++([32]++Pl.bH (jJ gs))).length<=400:=by
   have:(Pl.bp++([32]++Pl.bH (jJ gs))).toArray.size<=400:=hs;simpa using this
  obtain⟨k1,k2,_⟩:=Pl.amn (fun g hg=>(hr.2 g hg).1) hl
  refine⟨k1,?_⟩;show(Pl.aH (Pl.all (Pl.bp++([32]++Pl.bH (jJ gs))))).2.2.flatten=_;rw[k2,e]
theorem amE{ps:List (List (List (Int×Int)))}(h:mh ps):∃S,Tn ps ⟨Pl.cJ.toArray⟩ S:=by
 have hr:=amB h;refine⟨⟨(Pl.kJ (Gb.turn ps)).toArray⟩,?_,fun w pv hG hR=>afd _ pv w hG hR hr,fun hs=>?_⟩
 ·have:=amC hr;show(Pl.kJ (Gb.turn ps)).toArray.size<=_;simpa using this
 ·have hl:(Pl.kJ (Gb.turn ps)).length<=400:=by
   have:(Pl.kJ (Gb.turn ps)).toArray.size<=400:=hs;simpa using this
  obtain⟨k1,k2,_⟩:=Pl.amo (fun gs hg g hgg=>((hr.2 gs hg).2 g hgg).1) hl
  refine⟨k1,?_⟩;show(Pl.aH (Pl.all (Pl.kJ (Gb.turn ps)))).2.2.flatten=_;rw[k2]
theorem amF{s s':List UInt8}(h0:(Pl.err s).1=0)(h0':(Pl.err s').1=0)(hp:(Ge.aa (Pl.rings s')).Perm ((Ge.aa (Pl.rings s)).map Gb.rv))(x y d:Int):
  (Pl.dL s x y d).1= -(Pl.dL s' x y d).1/\(Pl.dL s x y d).2.1=(Pl.dL s' x y d).2.1/\(Pl.dL s x y d).2.2.1=(Pl.dL s' x y d).2.2.1:=by
 have jI:(Ge.aa (Pl.rings s')).any (Ge.fo (x,y) d)=(Ge.aa (Pl.rings s)).any (Ge.fo (x,y) d):=by
  refine mO.2 ?_;rw[xn,xn];constructor
  ·rintro⟨e,he,k⟩;obtain⟨f,hf,rfl⟩:=aX.1 (hp.mem_iff.1 he);exact⟨f,hf,by rw[Gb.J5] at k;exact k⟩
  ·rintro⟨e,he,k⟩;exact⟨Gb.rv e,hp.mem_iff.2 (aX.2 ⟨e,he,rfl⟩),by rw[Gb.J5];exact k⟩
 have htot:Ge.total (Ge.fu (x,y) d) (Ge.aa (Pl.rings s'))= -Ge.total (Ge.fu (x,y) d) (Ge.aa (Pl.rings s)):=by
  rw[Gb.Lc hp];refine Gb.J3 (fun u v=>?_) _
  unfold Ge.fu Ge.up;have hc:=Ga.bU (Ge.rel (x,y) d u) (Ge.rel (x,y) d v);rw[hc];split<;>split<;>(try split)<;>(try split)<;>omega
 unfold Pl.dL;rw[if_pos h0,if_pos h0',jI,htot];split
 ·exact⟨rfl,rfl,rfl⟩
 ·split
  ·exact⟨rfl,rfl,rfl⟩
  ·exact⟨by simp,rfl,rfl⟩
theorem aa3{s:List UInt8}(x y d:Int): -1000000000<=(Pl.dL s x y d).1/\(Pl.dL s x y d).1<=1000000000/\(Pl.dL s x y d).2.2.1<=5:=by
 have he:=aaX s;have key:∀es:List Ed, -(es.length:Int)<=Ge.total (Ge.fu (x,y) d) es/\Ge.total (Ge.fu (x,y) d) es<=es.length:=by
  intro es;induction es with
  |nil=>simp[Ge.total]
  |cons e es ih=>
   rw[Ge.fq];have: -1<=Ge.fu (x,y) d e.1 e.2/\Ge.fu (x,y) d e.1 e.2<=1:=by
    unfold Ge.fu Ge.up;split
    ·omega
    ·split<;>omega
   simp only[bO];omega
 unfold Pl.dL;split
 ·rename_i h
  have hl:=(H9 h).2.2.2;have:=key (Ge.aa (Pl.rings s));split
  ·simp
  ·split
   ·simp
   ·simp only;omega
 ·simp only;omega
end Go.Proofs.YtkjhhooecopolaaGreatDoor

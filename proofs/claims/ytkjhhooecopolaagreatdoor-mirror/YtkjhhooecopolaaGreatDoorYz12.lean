import Derived.Test.YtkjhhooecopolaaGreatDoorYz11
set_option maxRecDepth 100000
set_option maxHeartbeats 4000000
namespace Go.Proofs.YtkjhhooecopolaaGreatDoor
open Go.RowKit
def kF(g:List (Int×Int)):List Value:=g.flatMap fun p=>[.int .i64 p.1,.int .i64 p.2]
theorem UH(g:List (Int×Int))(p:Int×Int):kF (g++[p])=kF g++[.int .i64 p.1,.int .i64 p.2]:=by simp[kF]
def yE{α:Type}(T:Bool×List Pl.Tk×List α)(l:List Pl.Tk)(bad:Bool)(acc:List α):Prop:=
 (bad=false/\T=((Pl.mk 41 l).1,(Pl.mk 41 l).2,acc))\/(bad=true/\T.1=false/\T.2.1=l)
theorem PS.next{pb tb cap:Nat}{A r:List Pl.Tk}{t:Pl.Tk}{w:World}(h:PS pb tb cap A (t::r) false w)(hk:t.k≠110)(c:List Pl.Tk)(hc:c++t::r=A)(hb:w.heap[pb]?=some (.cells #[.slice (some ⟨tb,0,none⟩) A.length cap,.int .i64 c.length,.bool false,.int .i64 (bO c)] 55 (0,0))):
  PS pb tb cap A r false (w.setCell ⟨pb,1,none⟩ (.int .i64 ((c.length:Int)+1))):=by
 refine h.put (c++[t]) (by rw[<-hc];simp) (fun k hk hne=>bu hne _) ?_
 have q:=heap_set (w:=w) (o:=1) hb (.int .i64 ((c.length:Int)+1));rw[MM c t hk];simpa using q
theorem MT{α:Type}{T:Bool×List Pl.Tk×List α}{pb tb cap:Nat}{s:List UInt8}{A l:List Pl.Tk}{bad:Bool}{acc:List α}{w:World}(hF:yE T l bad acc)(hch:Pl.eJ s l)(hP:PS pb tb cap A l bad w)(hl:A.length<=402):
  Calls Tryz.prog 42 #[.pointer (some ⟨pb,0,none⟩),.int .u8 41] w fun e w'=>e=.returned (.tuple #[])/\PS pb tb cap A T.2.1 (!T.1) w'/\Fp pb w w'/\(T.1=true->T.2.2=acc):=by
 cases l with
 |nil=>exact hch.elim
 |cons t r=>
  rcases hF with⟨rfl,rfl⟩|⟨rfl,h1,h2⟩
  ·by_cases hk:t.k=41
   ·have e:Pl.mk 41 (t::r)=(true,r):=by simp[Pl.mk,hk]
    simp only[e];refine(Ii pb tb cap A r t w 41 hP hl hk (by omega)).mono ?_
    rintro e w' ⟨rfl,h1,h2⟩;exact⟨rfl,h1,h2,fun _=>trivial⟩
   ·have e:Pl.mk 41 (t::r)=(false,t::r):=by simp[Pl.mk,hk]
    simp only[e];refine(Ij pb tb cap A r t w 41 hP hl hk).mono ?_;rintro e w' ⟨rfl,h1,h2⟩;exact⟨rfl,h1,h2,fun _=>trivial⟩
  ·rw[h1,h2];refine(afc pb tb cap A r t w 41 hP hl).mono ?_;rintro e w' ⟨rfl,h3,h4⟩;exact⟨rfl,h3,h4,fun h=>by cases h⟩
theorem Ip{pb tb cap:Nat}{s:List UInt8}{A l:List Pl.Tk}{bad:Bool}{w:World}(k:Nat)(hch:Pl.eJ s l)(hP:PS pb tb cap A l bad w)(hl:A.length<=402):
  Calls Tryz.prog 44 #[.pointer (some ⟨pb,0,none⟩),.int .u8 k] w fun e w'=>e=.returned (.bool (!bad&&(Pl.mk k l).1))/\∃n,w'=w.drewN n:=by
 cases l with
 |nil=>exact hch.elim
 |cons t r=>
  cases bad
  ·refine(afd pb tb cap A r t w k hP hl).mono ?_;rintro e w' ⟨rfl,n,rfl⟩;refine⟨r9 ?_,n,rfl⟩;by_cases hk:t.k=k<;>simp[Pl.mk,hk]
  ·refine(afe pb tb cap A r t w k hP hl).mono ?_;rintro e w' ⟨rfl,n,rfl⟩;exact⟨rfl,n,rfl⟩
theorem AL{pb tb cap:Nat}{A l:List Pl.Tk}{bad:Bool}{w w':World}{base:Nat}{e:TypeId}{size:Nat}{v:Value}{n:Nat}{xs:List Value}(h:w.ownsRow base e size v n xs)(hf:Fp pb w w')(hP:PS pb tb cap A l bad w)(he:55≠e:=by decide):w'.ownsRow base e size v n xs:=by
 obtain⟨c,_,hb⟩:=hP.box;exact aO h fun k hk=>hf.block k (aA h k hk).2 (fun e'=>n9 h hb he (by rw[hk,e']))
theorem PS.MU{pb tb cap:Nat}{A l:List Pl.Tk}{bad:Bool}{w4 w5:World}{o1 o2:Obj}{row:Option Nat}{e:TypeId}(h:PS pb tb cap A l bad w4)(hg:((w4.alloc o1).alloc o2).grownBy w5 row)
  (hrow:∀k,row=some k->∃cur,w4.heap[k]?=some (.cells cur e (0,0)))(he:e≠61/\e≠55):PS pb tb cap A l bad w5:=by
 obtain⟨hne,⟨cur,gf,hr⟩,c,hc,hb⟩:=h;have key:∀(k:Nat)(cur':Array Value)(e':TypeId),w4.heap[k]?=some (Obj.cells cur' e' (0,0))->e≠e'->w5.heap[k]?=some (Obj.cells cur' e' (0,0)):=fun k cur' e' hk DA=>by
  have hk':=lt_of_heap hk;rw[hg.block k (by simp;omega) (fun er=>by
   obtain⟨c2,h2⟩:=hrow k er.symm;rw[hk] at h2;injection h2 with h2;injection h2 with _ h2 _;exact DA h2.symm),Below.heap_alloc _ _ _ (by simp;omega),Below.heap_alloc _ _ _ hk']
  exact hk
 exact⟨hne,⟨cur,key _ _ _ gf he.1,hr⟩,c,hc,key _ _ _ hb he.2⟩
theorem Fp.MU{pb:Nat}{w w4 w5:World}{o1 o2:Obj}{row:Option Nat}(h:Fp pb w w4)(hg:((w4.alloc o1).alloc o2).grownBy w5 row)(hrow:∀k,row=some k->w.heap.size<=k):Fp pb w w5:=by
 refine⟨hg.os.trans h.os,hg.tape.trans h.tape,hg.output.trans h.output,?_,fun k hk hne=>?_⟩
 ·have h1:=hg.size;have h2:=h.size;simp at h1;omega
 ·have h2:=h.size;rw[hg.block k (by simp;omega) (fun er=>by have:=hrow k er.symm;omega),Below.heap_alloc _ _ _ (by simp;omega),Below.heap_alloc _ _ _ (by omega)]
  exact h.block k hk hne
theorem MV{c:Nat}{l:List Pl.Tk}(h:(Pl.mk c l).1=true):∃t r,l=t::r/\t.k=c:=by
 cases l with
 |nil=>cases h
 |cons t r=>
  by_cases hk:t.k=c
  ·exact⟨t,r,rfl,hk⟩
  ·simp[Pl.mk,hk] at h
def afw(pb tb cap:Nat)(A:List Pl.Tk)(T:Bool×List Pl.Tk×List (Int×Int))(w:World)(e:Ending)(w':World):Prop:=
 ∃v,e=.returned v/\PS pb tb cap A T.2.1 (!T.1) w'/\Fp pb w w'/\(∃ps,w'.ownsRow w.heap.size 65 2 v ps.length (kF ps)/\(T.1=true->ps=T.2.2))
theorem UI:(Tryz.prog.info? 65).map (fun i=>(i.zero,i.size,i.bytes))=some (some (.agg #[.int .i64 0,.int .i64 0]),2,16):=by kernel_rfl
def DB(pb tb cap:Nat)(s:List UInt8)(A:List Pl.Tk)(T:Bool×List Pl.Tk×List (Int×Int))(w:World)(g:Nat)(lv:Value)(more:Bool)(wr:World):Prop:=
 ∃l acc bad,PS pb tb cap A l bad wr/\Fp pb w wr/\Pl.eJ s l/\wr.ownsRow w.heap.size 65 2 lv acc.length (kF acc)/\acc.length<=1000-g/\g<=402/\
  (more=true->bad=false/\Pl.bV Pl.cK g l acc=T/\l.length<=g)/\(more=false->yE T l bad acc)
theorem afx(pb tb cap:Nat)(s:List UInt8)(A l:List Pl.Tk)(w:World)(hch:Pl.eJ s l)(hP:PS pb tb cap A l false w)(hl:A.length<=402)(hll:l.length<=402):
  Calls Tryz.prog 58 #[.pointer (some ⟨pb,0,none⟩)] w (afw pb tb cap A (Pl.dB l) w):=by
 obtain⟨i0,hi,hz0,hz1,hz2⟩:=info_parts UI;generalize hT:Pl.dB l=T;have hpb:=hP.lt;have HM:Hid (Calls Tryz.prog 42 #[.pointer (some ⟨pb,0,none⟩),.int .u8 40] w fun e w'=>e=.returned (.tuple #[])/\Fp pb w w'/\∃l1 bad,PS pb tb cap A l1 bad w'/\Pl.eJ s l1/\l1.length<=l.length/\
   ((bad=true/\yE T l1 true ([]:List (Int×Int)))\/(bad=false/\(Pl.mk 41 l1).1=true/\yE T l1 false ([]:List (Int×Int)))\/(bad=false/\(Pl.mk 41 l1).1=false/\Pl.bV Pl.cK l.length l1 []=T))):=by
  have hg:=Pl.uV (c:=40) hch (by omega)
  cases l with
  |nil=>exact hch.elim
  |cons t r=>
   by_cases hk:t.k=40
   ·have e:Pl.mk 40 (t::r)=(true,r):=by simp[Pl.mk,hk]
    refine(Ii pb tb cap A r t w 40 hP hl hk (by omega)).mono ?_
    rintro e' w' ⟨rfl,h1,h2⟩;rw[e] at hg;refine⟨rfl,h2,r,false,h1,hg.2,by simp,?_⟩
    unfold Pl.dB at hT;rw[e] at hT;simp only[fZ] at hT;by_cases hm:(Pl.mk 41 r).1=true
    ·rw[ah hm] at hT;exact af (ae ⟨rfl,hm,ae ⟨rfl,by rw[<-hT,hm]⟩⟩)
    ·rw[aa hm] at hT;exact af (af ⟨rfl,by simpa using hm,hT⟩)
   ·have e:Pl.mk 40 (t::r)=(false,t::r):=by simp[Pl.mk,hk]
    refine(Ij pb tb cap A r t w 40 hP hl hk).mono ?_;rintro e' w' ⟨rfl,h1,h2⟩;refine⟨rfl,h2,t::r,true,h1,hch,ai _,ae ⟨rfl,af ⟨rfl,?_⟩⟩⟩;unfold Pl.dB at hT;rw[e] at hT;simp only[iZ,jG] at hT;rw[<-hT];exact⟨rfl,rfl⟩
 clear hT
 go_enter Tryz.func58,Tryz.ntmps58
 go_wp2_with fail
 refine HM.out.mono ?_;rintro e w1 ⟨rfl,gI,l1,bad,eN,uW,kQ,jM⟩
 go_wp2_with fail
 refine(Ip 41 uW eN hl).mono ?_;rintro e w2 ⟨rfl,n,rfl⟩;have bw:Hid (DB pb tb cap s A T w l.length (.slice none 0 0) (!bad&& !(!bad&&(Pl.mk 41 l1).1)) (w1.drewN n)):=by
  refine⟨l1,[],bad,eN.drewN n,gI.drewN n,uW,World.ownsRow_nil _ _ _ _,by simp,hll,fun hm=>?_,fun hm=>?_⟩
  ·rcases jM with⟨rfl,_⟩|⟨rfl,h,_⟩|⟨rfl,h,h2⟩
   ·cases hm
   ·rw[h] at hm;cases hm
   ·exact⟨rfl,h2,kQ⟩
  ·rcases jM with⟨rfl,h⟩|⟨rfl,h,h2⟩|⟨rfl,h,h2⟩
   ·exact h
   ·exact h2
   ·rw[h] at hm;cases hm
 have hb2:(w1.drewN n).cell? ⟨pb,2,none⟩=some (.bool bad):=by
  obtain⟨c,_,hb⟩:=eN.box;exact cell_of (w:=w1.drewN n) hb 2
 clear jM;generalize(Pl.mk 41 l1).1=m at*;generalize w1.drewN n=w3 at*;clear HM kQ uW eN gI hch hP;cases bad<;>cases m
 all_goals
  go_wp2_with fail
  go_loopg [3,5] l.length (fun g lv mv wr=>∃more:Bool,mv=.bool more/\Hid (DB pb tb cap s A T w g lv more wr))
  case atStart=>exact⟨_,rfl,bw⟩
  case round=>
   obtain⟨more,rfl,HR⟩:=hrel;obtain⟨l2,acc,bad,dW,hf2,iB,hown,hacc,qN,pH,hfin⟩:=HR.out;have hs2:=hf2.size;clear HR bw hb2;cases more
   ·have hF:=hfin rfl;clear hfin pH
    go_wp2_with fail
    refine(MT hF iB dW hl).mono ?_;rintro e w4 ⟨rfl,kG,ic,DC⟩
    go_wp2_with fail
    go_ret
    refine⟨_,rfl,kG,hf2.trans ic,acc,AL hown ic dW,fun h=>(DC h).symm⟩
   ·obtain⟨rfl,hrow,hlen⟩:=pH rfl;clear hfin pH;have hne:l2≠[]:=fun e=>by rw[e] at iB;exact iB
    obtain⟨g1,rfl⟩:∃g1,gk=g1+1:=⟨gk-1,by have:=gV.2 hne;omega⟩
    have iL:Hid (Pl.bV Pl.cK (g1+1) l2 acc=T):=hrow;have HLEN:Hid (l2.length<=g1+1):=hlen;clear hrow hne hlen
    go_wp2_with fail
    refine(afv pb tb cap s A l2 _ iB dW hl).mono ?_;rintro e w4 ⟨X,Y,rfl,kG,ic,UJ⟩;have hs4:=ic.size;have gh:=AL hown ic dW;have UK:=kG.lt;have mB:Hid ((Pl.cK l2).1=true->(X,Y)=(Pl.cK l2).2.2):=UJ;clear UJ
    go_wp2_with (at_builtin;refine wpList_append_lies _ rfl (.tmp 23) (.tmp 25) 63 rfl w.heap.size 65 i0 _ 2 16 Tryz.underlying63 hi hz0 hz1 hz2 rfl (by decide) u3 acc.length (kF acc) rfl (aO gh (fun k hk=>(Below.heap_alloc _ _ _ (by have:=(aA gh k hk).2;simp;omega)).trans (Below.heap_alloc _ _ _ (aA gh k hk).2))) ⟨w4.heap.size+1,0,none⟩ 1 1 [.int .i64 X,.int .i64 Y] rfl rfl (World.news_of_block (cs:= #[.int .i64 X,.int .i64 Y]) (t:=65) (fr:=(0,0)) (by have:=heap_alloc_new (w4.alloc (.cells #[.int .i64 X,.int .i64 Y] 65)) (.cells #[.int .i64 X,.int .i64 Y] 65);simpa using this)) (by simp[Value.oneCell']) (by decide) (by unfold maxLen;omega) (by omega) (by simp;omega) (w4.heap.size+2) (by simp) ?_;intro g cap' w5 ho hgrow hat uK)
    have dX:=kG.MU hgrow (fun k hk=>oa gh hk) (by decide)
    have jY:=(hf2.trans ic).MU hgrow (fun k hk=>(aA gh k hk).1)
    have hg3:=Pl.UD l2 iB;have ho':w5.ownsRow w.heap.size 65 2 (.slice (some ⟨g,0,none⟩) (acc.length+1) cap') (acc++[(X,Y)]).length (kF (acc++[(X,Y)])):=by
     rw[UH];simpa using ho
    have aoi:=dX.lt;clear hgrow ho hat gh hown kG ic dW hf2;refine(Ip 44 hg3.2 dX hl).mono ?_;rintro e w6 ⟨rfl,n6,rfl⟩;cases hb:(Pl.cK l2).1
    ·rw[hb] at dX;have HN:Hid (DB pb tb cap s A T w g1 (.slice (some ⟨g,0,none⟩) (acc.length+1) cap') false (w5.drewN n6)):=by
      refine⟨_,acc++[(X,Y)],true,dX.drewN n6,jY.drewN n6,hg3.2,ho',by simp;omega,by omega,fun h=>(by cases h),fun _=>af ⟨rfl,?_⟩⟩
      rw[<-iL.out,wR hb];exact⟨rfl,rfl⟩
     clear iL mB dX jY hg3 ho' iB
     go_wp2_with fail
     go_roundg g1
     case measure=>omega
     case rel=>exact⟨_,rfl,HN⟩
    ·rw[hb] at dX;have hxy:=mB.out hb;cases hm:(Pl.mk 44 (Pl.cK l2).2.1).1
     ·have HN:Hid (DB pb tb cap s A T w g1 (.slice (some ⟨g,0,none⟩) (acc.length+1) cap') false (w5.drewN n6)):=by
       refine⟨_,acc++[(X,Y)],false,dX.drewN n6,jY.drewN n6,hg3.2,ho',by simp;omega,by omega,fun h=>(by cases h),fun _=>ae ⟨rfl,?_⟩⟩
       rw[<-iL.out,wT hb hm,hxy]
      clear iL mB dX jY hg3 ho' iB hxy
      go_wp2_with fail
      go_roundg g1
      case measure=>omega
      case rel=>exact⟨_,rfl,HN⟩
     ·obtain⟨t3,r3,nJ,hk3⟩:∃t3 r3,(Pl.cK l2).2.1=t3::r3/\t3.k=44:=MV hm;rw[nJ] at dX;obtain⟨c3,hc3,lJ⟩:=dX.box;have wV:=(dX.drewN n6).next (by omega) c3 hc3 lJ
      have HN:Hid (DB pb tb cap s A T w g1 (.slice (some ⟨g,0,none⟩) (acc.length+1) cap') true ((w5.drewN n6).setCell ⟨pb,1,none⟩ (.int .i64 ((c3.length:Int)+1)))):=by
       have wW:=hg3.2;have hlt:=Pl.H9 l2 hb;have hle:=HLEN.out;rw[nJ] at wW hlt;simp only[bW] at hlt;refine⟨r3,acc++[(X,Y)],false,wV,(jY.drewN n6).set 1 _,(Pl.Goes.tail wW (by omega)).2,aO ho' (fun k hk=>bu (fun e=>n9 (w:=w5) ho' lJ (by decide) (by rw[hk,e])) _),by simp;omega,by omega,fun _=>⟨rfl,?_,by omega⟩,fun h=>(by cases h)⟩
       rw[<-iL.out,wS hb hm,hxy,nJ];simp[Pl.mk,hk3]
      have b1:(w5.drewN n6).cell? ⟨pb,1,none⟩=some (.int .i64 c3.length):=cell_of (w:=w5.drewN n6) lJ 1;have g1':(w5.drewN n6).frozen? ⟨pb,1,none⟩=false:=aH (w:=w5.drewN n6) lJ 1;have hcl:c3.length<=402:=by have h:=aw List.length hc3;simp at h;omega
      clear iL mB dX jY hg3 ho' iB hxy wV hc3 lJ nJ;generalize w5.drewN n6=w7 at*
      go_wp2_with fail
      go_roundg g1
      case measure=>omega
      case rel=>exact⟨_,rfl,HN⟩
def sP{α:Type}(ts:List Nat)(R:World->Value->α->Prop):Prop:=
 ∀(w w':World) v x,R w v x->(∀(k:Nat)(cur:Array Value)(e:TypeId),w.heap[k]?=some (Obj.cells cur e (0,0))->e∈ts->w'.heap[k]?=w.heap[k]?)->R w' v x
def iU(w:World)(v:Value)(g:List (Int×Int)):Prop:=w.ownsRow 0 65 2 v g.length (kF g)
def yF{α:Type}(T:Nat)(R:World->Value->α->Prop)(w:World)(v:Value)(xs:List α):Prop:=
 ∃vs:List Value,vs.length=xs.length/\w.ownsRow 0 T 1 v xs.length vs/\∀(i:Nat) u x,vs[i]?=some u->xs[i]?=some x->R w u x
def js(w:World)(v:Value)(gs:List (List (Int×Int))):Prop:=yF 63 iU w v gs
def kT(w:World)(v:Value)(ps:List (List (List (Int×Int)))):Prop:=yF 57 js w v ps
theorem wX{w:World}{b:Nat}{e:TypeId}{size:Nat}{v:Value}{n:Nat}{xs:List Value}(h:w.ownsRow b e size v n xs):w.ownsRow 0 e size v n xs:=by
 obtain⟨h1,h2⟩:=h;rcases h2 with h2|⟨g,cap,cur,hv,_,r⟩
 ·exact⟨h1,ae h2⟩
 ·exact⟨h1,af ⟨g,cap,cur,hv,iI _,r⟩⟩
theorem Iq{w w':World}{b:Nat}{e:TypeId}{size:Nat}{v:Value}{n:Nat}{xs:List Value}(h:w.ownsRow b e size v n xs)
  (hk:∀(k:Nat)(cur:Array Value),w.heap[k]?=some (Obj.cells cur e (0,0))->w'.heap[k]?=w.heap[k]?):w'.ownsRow b e size v n xs:=
 aO h fun k hk'=>by
  obtain⟨c,hc⟩:=oa h hk';exact hk k c hc
theorem DF:sP [65] iU:=fun w w' v x h hk=>Iq h fun k cur hc=>hk k cur _ hc (by simp)
theorem UL{α:Type}{T:Nat}{ts:List Nat}{R:World->Value->α->Prop}(hR:sP ts R):sP (T::ts) (yF T R):=by
 intro w w' v xs h hk;obtain⟨vs,h1,h2,h3⟩:=h;exact⟨vs,h1,Iq h2 fun k cur hc=>hk k cur _ hc (by simp),fun i u x hi hx=>hR w w' u x (h3 i u x hi hx) fun k cur e hc he=>hk k cur e hc (by simp[he])⟩
theorem yG:sP [63,65] js:=UL DF
theorem DG:sP [57,63,65] kT:=UL yG
theorem AO{α:Type}{ts:List Nat}{R:World->Value->α->Prop}(hR:sP ts R)(hts:55∉ts){pb tb cap:Nat}{A l:List Pl.Tk}{bad:Bool}{w w':World}{v:Value}{x:α}(h:R w v x)(hf:Fp pb w w')(hP:PS pb tb cap A l bad w):R w' v x:=by
 obtain⟨c,_,hb⟩:=hP.box;refine hR w w' v x h fun k cur e hc he=>hf.block k (lt_of_heap hc) fun ek=>?_
 rw[ek,hb] at hc;injection hc with hc;injection hc with _ hc _;exact hts (by rw[hc];exact he)
def MW{α:Type}(R:World->Value->α->Prop)(pb tb cap:Nat)(A:List Pl.Tk)(T:Bool×List Pl.Tk×α)(w:World)(e:Ending)(w':World):Prop:=
 ∃v,e=.returned v/\PS pb tb cap A T.2.1 (!T.1) w'/\Fp pb w w'/\(∃so n c,v=.slice so n c)/\∃x,R w' v x/\(T.1=true->x=T.2.2)
theorem afy(pb tb cap:Nat)(s:List UInt8)(A l:List Pl.Tk)(w:World)(hch:Pl.eJ s l)(hP:PS pb tb cap A l false w)(hl:A.length<=402)(hll:l.length<=402):
  Calls Tryz.prog 58 #[.pointer (some ⟨pb,0,none⟩)] w (MW iU pb tb cap A (Pl.dB l) w):=by
 refine(afx pb tb cap s A l w hch hP hl hll).mono ?_;rintro e w' ⟨v,rfl,h1,h2,ps,h3,h4⟩;refine⟨v,rfl,h1,h2,?_,ps,wX h3,h4⟩;rcases h3.2 with⟨hv,_⟩|⟨g,cap,cur,hv,_⟩
 ·exact⟨_,_,_,hv⟩
 ·exact⟨_,_,_,hv⟩
theorem UM:(Tryz.prog.info? 63).map (fun i=>(i.zero,i.size,i.bytes))=some (some (.slice none 0 0),1,24):=by kernel_rfl
theorem UN:(Tryz.prog.info? 57).map (fun i=>(i.zero,i.size,i.bytes))=some (some (.slice none 0 0),1,24):=by kernel_rfl
def sQ{α:Type}(ET:Nat)(R:World->Value->α->Prop)(item:List Pl.Tk->Bool×List Pl.Tk×α)(pb tb cap:Nat)(s:List UInt8)(A:List Pl.Tk)(T:Bool×List Pl.Tk×List α)(w:World)(g:Nat)(lv:Value)(more:Bool)(wr:World):Prop:=
 ∃l acc bad vs,PS pb tb cap A l bad wr/\Fp pb w wr/\Pl.eJ s l/\vs.length=acc.length/\wr.ownsRow w.heap.size ET 1 lv acc.length vs/\(∀(i:Nat) u x,vs[i]?=some u->acc[i]?=some x->R wr u x)/\acc.length<=1000-g/\g<=402/\
  (more=true->bad=false/\Pl.bV item g l acc=T/\l.length<=g)/\(more=false->yE T l bad acc)
theorem DI{w1 w2:World}{o1:Obj}{row:Option Nat}(hg:(w1.alloc o1).grownBy w2 row):∀k,k<w1.heap.size->row≠some k->w2.heap[k]?=w1.heap[k]?:=fun k hk hr=>Dc hg k hk hr
theorem PS.DJ{pb tb cap:Nat}{A l:List Pl.Tk}{bad:Bool}{w4 w5:World}{o1:Obj}{row:Option Nat}{e:TypeId}(h:PS pb tb cap A l bad w4)(hg:(w4.alloc o1).grownBy w5 row)
  (hrow:∀k,row=some k->∃cur,w4.heap[k]?=some (.cells cur e (0,0)))(he:e≠61/\e≠55):PS pb tb cap A l bad w5:=by
 obtain⟨hne,⟨cur,gf,hr⟩,c,hc,hb⟩:=h;have key:∀(k:Nat)(cur':Array Value)(e':TypeId),w4.heap[k]?=some (Obj.cells cur' e' (0,0))->e≠e'->w5.heap[k]?=some (Obj.cells cur' e' (0,0)):=fun k cur' e' hk DA=>by
  rw[DI hg k (lt_of_heap hk) (fun er=>by
   obtain⟨c2,h2⟩:=hrow k er;rw[hk] at h2;injection h2 with h2;injection h2 with _ h2 _;exact DA h2.symm)]
  exact hk
 exact⟨hne,⟨cur,key _ _ _ gf he.1,hr⟩,c,hc,key _ _ _ hb he.2⟩
theorem Fp.DJ{pb:Nat}{w w4 w5:World}{o1:Obj}{row:Option Nat}(h:Fp pb w w4)(hg:(w4.alloc o1).grownBy w5 row)(hrow:∀k,row=some k->w.heap.size<=k):Fp pb w w5:=by
 refine⟨hg.os.trans h.os,hg.tape.trans h.tape,hg.output.trans h.output,?_,fun k hk hne=>?_⟩
 ·have h1:=hg.size;have h2:=h.size;simp at h1;omega
 ·have h2:=h.size;rw[DI hg k (by omega) (fun er=>by have:=hrow k er;omega)]
  exact h.block k hk hne
theorem DK{α:Type}{ts:List Nat}{R:World->Value->α->Prop}(hR:sP ts R){w4 w5:World}{o1:Obj}{row:Option Nat}{e:TypeId}(hg:(w4.alloc o1).grownBy w5 row)
  (hrow:∀k,row=some k->∃cur,w4.heap[k]?=some (.cells cur e (0,0)))(he:e∉ts){v:Value}{x:α}(h:R w4 v x):R w5 v x:=
 hR w4 w5 v x h fun k cur e' hc he'=>DI hg k (lt_of_heap hc) fun er=>by
  obtain⟨c2,h2⟩:=hrow k er;rw[hc] at h2;injection h2 with h2;injection h2 with _ h2 _;exact he (by rw[<-h2];exact he')
theorem MX{α:Type}{R:World->Value->α->Prop}{w:World}{vs:List Value}{acc:List α}{v:Value}{x:α}(hlen:vs.length=acc.length)(h:∀(i:Nat) u x,vs[i]?=some u->acc[i]?=some x->R w u x)(hv:R w v x):
  ∀(i:Nat) u y,(vs++[v])[i]?=some u->(acc++[x])[i]?=some y->R w u y:=by
 intro i u y hu hy;by_cases hi:i<vs.length
 ·rw[eD hi] at hu;rw[eD (by omega)] at hy
  exact h i u y hu hy
 ·have hi2:i=vs.length:=by
   have:=(bY.1 hu).1;simp at this;omega
  subst hi2;have e1:u=v:=by simpa using hu.symm
  have e2:y=x:=by rw[hlen] at hy;simpa using hy.symm
  subst e1 e2;exact hv
namespace Pl
def aN{α:Type}(f:α->List UInt8):List α->List UInt8
 |[]=>[]
 |[x]=>f x
 |x::y::r=>f x++([44,32]++aN f (y::r))
theorem MZ{α:Type}(f:α->List UInt8):∀(l:List α)(x:α),aN f (l++[x])=aN f l++((if l.length=0 then[] else[44,32])++f x)
 |[],x=>by simp[aN]
 |[a],x=>by simp[aN]
 |a::b::r,x=>by
  have ih:=MZ f (b::r) x;show f a++([44,32]++aN f (b::r++[x]))=_;rw[ih];simp[aN,List.append_assoc]
def fh(p:Int×Int):List UInt8:=Lib.itoa p.1++([32]++Lib.itoa p.2)
def cD(g:List (Int×Int)):List UInt8:=[40]++(aN fh g++[41])
def bQ(gs:List (List (Int×Int))):List UInt8:=if gs.length=0 then EMPTY else[40]++(aN cD gs++[41])
def kU(ps:List (List (List (Int×Int)))):List UInt8:=if ps.length=0 then cP++([32]++EMPTY) else cP++([32,40]++(aN bQ ps++[41]))
theorem yH{α:Type}(f:α->List UInt8)(B:Nat):∀(l:List α),(∀x∈l,(f x).length<=B)->(aN f l).length<=l.length*(B+2)
 |[],_=>by simp[aN]
 |[a],h=>by have:=h a (by simp);simp[aN];omega
 |a::b::r,h=>by
  have ih:=yH f B (b::r) (fun x hx=>h x (by simp[hx]))
  have ha:=h a (by simp)
  simp only[aN,aX,bW,fJ] at ih⊢;rw[GG];rw[GG] at ih⊢;omega
end Pl
theorem UO(n:Int)(w:World)(hG:Gl w)(h1: -9223372036854775808<=n)(h2:n<=9223372036854775807):
  Calls Tryz.prog 88 #[.int .i64 n] w fun e w'=>e=.returned (.string ⟨(Lib.itoa n).toArray⟩)/\Below w.heap.size w w':=by
 have HI:Hid (∀w1,Gl w1->Calls Tryz.prog 146 #[.int .i64 n] w1 fun e w'=>e=.returned (.string ⟨(Lib.itoa n).toArray⟩)/\Below w1.heap.size w1 w'):=fun w1 g1=>by
  refine(Tryz.strconv_Itoa n h1 h2 w1 g1.tab).mono ?_;rintro e w' ⟨rfl,k,os,rfl⟩;exact⟨rfl,Lib.below_grow _ _ (ai _) _ _⟩
 clear h1 h2
 go_enter Tryz.func88,Tryz.ntmps88
 go_wp2_with fail
 refine(HI.out _ hG).mono ?_;rintro e w1 ⟨rfl,hb⟩
 go_wp2_with fail
 go_ret
 exact⟨rfl,hb⟩
def gJ(n:Int):Prop:= -50<=n/\n<=50
def mD(g:List (Int×Int)):Prop:=∀p∈g,gJ p.1/\gJ p.2
theorem M0:∀(g:List (Int×Int))(k:Nat)(p:Int×Int),g[k]?=some p->(kF g)[k*2]?=some (.int .i64 p.1)/\(kF g)[k*2+1]?=some (.int .i64 p.2)
 |[],_,_,h=>by simp at h
 |q::r,0,p,h=>by
  simp at h;subst h;exact⟨rfl,rfl⟩
 |q::r,k+1,p,h=>by
  have ih:=M0 r k p (by simpa using h)
  have e:kF (q::r)=.int .i64 q.1:: .int .i64 q.2::kF r:=rfl;rw[e];exact⟨by rw[show(k+1)*2=k*2+1+1 by omega,K9,K9];exact ih.1,by rw[show(k+1)*2+1=k*2+1+1+1 by omega,K9,K9];exact ih.2⟩
theorem M3{w:World}{e:TypeId}{size:Nat}{v:Value}{n:Nat}{xs:List Value}(h:w.ownsRow 0 e size v n xs){o:Nat}{u:Value}(hu:xs[o]?=some u):
  ∃b cap,v=.slice (some ⟨b,0,none⟩) n cap/\b<w.heap.size/\w.cell? ⟨b,o,none⟩=some u:=by
 obtain⟨h1,h2⟩:=h;rcases h2 with⟨_,h0⟩|⟨b,cap,cur,hv,_,hb,_,_,_,ht⟩
 ·rw[h0,zO] at h1;rw[gF.1 h1] at hu;simp at hu
 ·refine⟨b,cap,hv,lt_of_heap hb,?_⟩;rw[cell_of hb o,<-ja];rw[<-ht,kC] at hu;split at hu
  ·exact hu
  ·cases hu
theorem afz{p:Int×Int}(h1:gJ p.1)(h2:gJ p.2):(Pl.fh p).length<=43:=by
 have hx1:=Lib.itoa_length_le p.1 (by have:=h1.1;omega) (by have:=h1.2;omega)
 have hx2:=Lib.itoa_length_le p.2 (by have:=h2.1;omega) (by have:=h2.2;omega)
 simp[Pl.fh];omega
theorem UQ(g:List (Int×Int))(hok:mD g)(k:Nat):(Pl.aN Pl.fh (g.take k)).length<=k*45:=by
 refine dY (Pl.yH Pl.fh 43 (g.take k) fun p hp=>afz (hok p (nW hp)).1 (hok p (nW hp)).2) ?_
 exact zN _ (by simp;omega)
theorem afA(g:List (Int×Int))(v:Value)(w:World)(hG:Gl w)(hR:iU w v g)(hok:mD g)(hl:g.length<=402):
  Calls Tryz.prog 59 #[v] w fun e w'=>e=.returned (.string ⟨(Pl.cD g).toArray⟩)/\Below w.heap.size w w':=by
 obtain⟨so,cap,rfl⟩:∃so cap,v=.slice so g.length cap:=by
  rcases hR.2 with⟨hv,h0⟩|⟨b,cap,cur,hv,_⟩
  ·exact⟨none,0,by rw[hv,h0]⟩
  ·exact⟨_,cap,hv⟩
 have M4:Hid (∀(k:Nat) p,g[k]?=some p->∃b,so=some ⟨b,0,none⟩/\b<w.heap.size/\w.cell? ⟨b,k*2,none⟩=some (.int .i64 p.1)/\w.cell? ⟨b,k*2+1,none⟩=some (.int .i64 p.2)):=fun k p hp=>by
  obtain⟨a0,a1⟩:=M0 g k p hp;obtain⟨b,c,hv,hb,c0⟩:=M3 hR a0;obtain⟨b',c',hv',hb',c1⟩:=M3 hR a1;injection hv with hv;injection hv' with hv';rw[hv] at hv';injection hv' with hv';injection hv' with hv';subst hv';exact⟨b,hv,hb,c0,c1⟩
 have iV:Hid (mD g):=hok;have HL:Hid (∀k,(Pl.aN Pl.fh (g.take k)).length<=k*45):=UQ g hok;clear hR hok
 go_enter Tryz.func59,Tryz.ntmps59
 go_wp2_with fail
 go_loopg [3,4] g.length (fun n sv iv wr=>∃k:Nat,k+n=g.length/\iv=.int .i64 k/\sv=.string ⟨([40]++Pl.aN Pl.fh (g.take k)).toArray⟩/\Hid (Below w.heap.size w wr/\Gl wr))
 case atStart=>exact⟨0,by omega,rfl,rfl,Below.refl _ _,hG⟩
 case round=>
  obtain⟨k,hkn,rfl,rfl,HB⟩:=hrel;obtain⟨ak,iC⟩:=HB.out;by_cases hlt:k<g.length
  ·obtain⟨p,hp⟩:∃p,g[k]?=some p:=⟨_,aD hlt⟩;obtain⟨b,rfl,hb,e0,e1⟩:=M4.out k p hp;obtain⟨⟨o1',o2'⟩,o3',o4'⟩:=iV.out p (bn hp);have o1: -9223372036854775808<=p.1:=by omega
   have o2:p.1<=9223372036854775807:=by omega
   have o3: -9223372036854775808<=p.2:=by omega
   have o4:p.2<=9223372036854775807:=by omega
   clear o1' o2' o3' o4';have r0:wr.cell? ⟨b,k*2,none⟩=some (.int .i64 p.1):=(ak.cell (p:=⟨b,k*2,none⟩) hb).trans e0;have r1:wr.cell? ⟨b,k*2+1,none⟩=some (.int .i64 p.2):=(ak.cell (p:=⟨b,k*2+1,none⟩) hb).trans e1;have hbl:=HL.out k;have hbr:b<wr.heap.size:=by have:=ak.size;omega
   have eK:(k:Int)<(g.length:Int):=by omega
   have hT:Pl.aN Pl.fh (g.take (k+1))=Pl.aN Pl.fh (g.take k)++((if(g.take k).length=0 then[] else[44,32])++Pl.fh p):=by
    have e:g.take (k+1)=g.take k++[p]:=by rw[oY hlt,(bY.1 hp).2]
    rw[e,Pl.MZ]
   have HT:Hid (Pl.aN Pl.fh (g.take (k+1))=Pl.aN Pl.fh (g.take k)++((if k=0 then[] else[44,32])++Pl.fh p)):=by
    rw[iy,K6 (by omega)] at hT;exact hT
   have hx1:=Lib.itoa_length_le p.1 o1 o2;have hx2:=Lib.itoa_length_le p.2 o3 o4;have Au:Hid (∀w1,Gl w1->Calls Tryz.prog 88 #[.int .i64 p.1] w1 fun e w'=>e=.returned (.string ⟨(Lib.itoa p.1).toArray⟩)/\Below w1.heap.size w1 w'):=fun w1 g1=>UO p.1 w1 g1 o1 o2
   have Av:Hid (∀w1,Gl w1->Calls Tryz.prog 88 #[.int .i64 p.2] w1 fun e w'=>e=.returned (.string ⟨(Lib.itoa p.2).toArray⟩)/\Below w1.heap.size w1 w'):=fun w1 g1=>UO p.2 w1 g1 o3 o4
   have UR:Hid (Pl.fh p=Lib.itoa p.1++([32]++Lib.itoa p.2)):=rfl;generalize Pl.aN Pl.fh (g.take k)=J at*;generalize Pl.fh p=PT at*;generalize Lib.itoa p.1=X1 at*;generalize Lib.itoa p.2=X2 at*;generalize p.1=P1 at*;generalize p.2=P2 at*;clear hT hp e0 e1 o1 o2 o3 o4 iV M4 HL HB;have mE:Hid (Below w.heap.size w wr):=ak;clear ak;by_cases nB:k=0
   ·have hq0:decide (0<(k:Int))=false:=by simp;omega
    have qV:Hid (k=0):=nB;have hq1:decide (0<k)=false:=by simp;omega
    clear nB;have hs1:¬9223372036854775807<J.length+1+X1.length:=by omega
    have hs2:¬9223372036854775807<J.length+1+X1.length+1:=by omega
    have hs3:¬9223372036854775807<J.length+1+X1.length+1+X2.length:=by omega
    go_wp2_with fail
    go_region_held3 (fun w'=>w'.cell? ⟨b,k*2,none⟩=some (.int .i64 P1)/\w'.cell? ⟨b,k*2+1,none⟩=some (.int .i64 P2)) (go_keep) (first
     |(go_at_call_of 88 (Value.int IntKind.i64 P1);refine(Au.out _ iC.drew).mono ?_;rintro e w5 ⟨rfl,ax⟩;have mF:=iC.drew.below ax iC.sz;have q0:=(ax.cell (p:=⟨b,k*2,none⟩) hbr).trans r0;have q1:=(ax.cell (p:=⟨b,k*2+1,none⟩) hbr).trans r1)
     |(go_at_call_of 88 (Value.int IntKind.i64 P2);refine(Av.out _ mF).mono ?_;rintro e w6 ⟨rfl,aC⟩;have s0:=(aC.cell (p:=⟨b,k*2,none⟩) (aQ hbr ax.size)).trans q0;have s1:=(aC.cell (p:=⟨b,k*2+1,none⟩) (aQ hbr ax.size)).trans q1))
    go_wp2_with fail
    go_roundg (gk-1)
    case measure=>omega
    case rel=>
     refine⟨k+1,by omega,by go_num,?_,?_⟩
     ·rw[HT.out,UR.out,ah qV.out];simp[ByteArray.mk_append_mk]
     ·exact⟨(mE.out.drew.trans (ax.mono mE.out.size)).trans (aC.mono (dY mE.out.size ax.size)),mF.below aC mF.sz⟩
   ·have hq0:decide (0<(k:Int))=true:=by simp;omega
    have qV:Hid (¬k=0):=nB;have hq1:decide (0<k)=true:=by simp;omega
    clear nB;have hs0:¬9223372036854775807<J.length+1+2:=by omega
    have hs1:¬9223372036854775807<J.length+1+2+X1.length:=by omega
    have hs2:¬9223372036854775807<J.length+1+2+X1.length+1:=by omega
    have hs3:¬9223372036854775807<J.length+1+2+X1.length+1+X2.length:=by omega
    go_wp2_with fail
    go_region_held3 (fun w'=>w'.cell? ⟨b,k*2,none⟩=some (.int .i64 P1)/\w'.cell? ⟨b,k*2+1,none⟩=some (.int .i64 P2)) (go_keep) (first
     |(go_at_call_of 88 (Value.int IntKind.i64 P1);refine(Au.out _ iC.drew).mono ?_;rintro e w5 ⟨rfl,ax⟩;have mF:=iC.drew.below ax iC.sz;have q0:=(ax.cell (p:=⟨b,k*2,none⟩) hbr).trans r0;have q1:=(ax.cell (p:=⟨b,k*2+1,none⟩) hbr).trans r1)
     |(go_at_call_of 88 (Value.int IntKind.i64 P2);refine(Av.out _ mF).mono ?_;rintro e w6 ⟨rfl,aC⟩;have s0:=(aC.cell (p:=⟨b,k*2,none⟩) (aQ hbr ax.size)).trans q0;have s1:=(aC.cell (p:=⟨b,k*2+1,none⟩) (aQ hbr ax.size)).trans q1))
    go_wp2_with fail
    go_roundg (gk-1)
    case measure=>omega
    case rel=>
     refine⟨k+1,by omega,by go_num,?_,?_⟩
     ·rw[HT.out,UR.out,aa qV.out];simp[ByteArray.mk_append_mk]
     ·exact⟨(mE.out.drew.trans (ax.mono mE.out.size)).trans (aC.mono (dY mE.out.size ax.size)),mF.below aC mF.sz⟩
  ·have hk:k=g.length:=by omega
   subst hk;have hbl:=HL.out g.length;rw[dN] at hbl;rw[dN];have lK:Hid (Pl.cD g=[40]++(Pl.aN Pl.fh g++[41])):=rfl;generalize Pl.aN Pl.fh g=J at*;have hs1:¬9223372036854775807<J.length+1+1:=by omega
   clear HL iV M4
   go_wp2_with fail
   go_ret
   exact⟨by rw[lK.out];simp[ByteArray.mk_append_mk],ak⟩
theorem DL{α:Type}{ts:List Nat}{R:World->Value->α->Prop}(hR:sP ts R){w w':World}{v:Value}{x:α}(h:R w v x)(hb:Below w.heap.size w w'):R w' v x:=
 hR w w' v x h fun k _ _ hc _=>hb.block k (lt_of_heap hc)
def pI(gs:List (List (Int×Int))):Prop:=gs.length<=402/\∀g∈gs,mD g/\g.length<=402
theorem UT{g:List (Int×Int)}(h:mD g)(hl:g.length<=402):(Pl.cD g).length<=18100:=by
 have:=UQ g h g.length;rw[dN] at this;simp[Pl.cD];omega
theorem UU(gs:List (List (Int×Int)))(hok:pI gs)(k:Nat):(Pl.aN Pl.cD (gs.take k)).length<=k*18102:=by
 refine dY (Pl.yH Pl.cD 18100 (gs.take k) fun p hp=>UT (hok.2 p (nW hp)).1 (hok.2 p (nW hp)).2) ?_
 exact zN _ (by simp;omega)
theorem Ir{gs:List (List (Int×Int))}(h:pI gs):(Pl.bQ gs).length<=7300000:=by
 have:=UU gs h gs.length;rw[dN] at this;have:=h.1;unfold Pl.bQ;split
 ·decide
 ·simp;omega
theorem M5{w:World}{v:Value}{g:List (Int×Int)}(h:iU w v g):∃so cap,v=.slice so g.length cap:=by
 rcases h.2 with⟨hv,h0⟩|⟨b,cap,cur,hv,_⟩
 ·exact⟨none,0,by rw[hv,h0]⟩
 ·exact⟨_,cap,hv⟩
theorem qW{α:Type}{T:Nat}{R:World->Value->α->Prop}{w:World}{v:Value}{xs:List α}(h:yF T R w v xs):∃so cap,v=.slice so xs.length cap:=by
 obtain⟨vs,_,h,_⟩:=h;rcases h.2 with⟨hv,h0⟩|⟨b,cap,cur,hv,_⟩
 ·exact⟨none,0,by rw[hv,h0]⟩
 ·exact⟨_,cap,hv⟩
theorem AQ{α:Type}{T:Nat}{R:World->Value->α->Prop}{w:World}{so:Option Addr}{n cap:Nat}{xs:List α}(h:yF T R w (.slice so n cap) xs){k:Nat}{x:α}(hx:xs[k]?=some x):
  ∃b u,so=some ⟨b,0,none⟩/\b<w.heap.size/\w.cell? ⟨b,k,none⟩=some u/\R w u x:=by
 obtain⟨vs,hl,ho,hr⟩:=h;have hk:k<vs.length:=by rw[hl];exact(bY.1 hx).1
 obtain⟨u,hu⟩:∃u,vs[k]?=some u:=⟨_,aD hk⟩;obtain⟨b,c,hv,hb,hc⟩:=M3 ho hu;injection hv with hv;exact⟨b,u,hv,hb,hc,hr k u x hu hx⟩
theorem UW{α:Type}(f:α->List UInt8){g:List α}{k:Nat}{p:α}(hp:g[k]?=some p):
  Pl.aN f (g.take (k+1))=Pl.aN f (g.take k)++((if k=0 then[] else[44,32])++f p):=by
 obtain⟨hlt,hp'⟩:=bY.1 hp;have e:g.take (k+1)=g.take k++[p]:=by rw[oY hlt,hp']
 rw[e,Pl.MZ,iy,K6 (by omega)]
theorem UX(gs:List (List (Int×Int)))(v:Value)(w:World)(hG:Gl w)(hR:js w v gs)(hok:pI gs):
  Calls Tryz.prog 32 #[v] w fun e w'=>e=.returned (.string ⟨(Pl.bQ gs).toArray⟩)/\Below w.heap.size w w':=by
 obtain⟨so,cap,rfl⟩:=qW hR;have HR:Hid (js w (.slice so gs.length cap) gs):=hR;have iV:Hid (pI gs):=hok;have HL:Hid (∀k,(Pl.aN Pl.cD (gs.take k)).length<=k*18102):=UU gs hok;have hl:gs.length<=402:=hok.1;clear hR hok
 go_enter Tryz.func32,Tryz.ntmps32
 by_cases hz:gs.length=0
 ·have HZ:Hid (gs.length=0):=hz;have hq:(gs.length:Int)=0:=by omega
  clear hz
  go_wp2_with fail
  go_ret
  exact⟨by unfold Pl.bQ;rw[ah HZ.out];rfl,Below.refl _ _⟩
 ·have HZ:Hid (¬gs.length=0):=hz;have hq:((gs.length:Int) == 0)=false:=uv.2 (by omega)
  clear hz
  go_wp2_with fail
  go_loopg [3,4] gs.length (fun n sv iv wr=>∃k:Nat,k+n=gs.length/\iv=.int .i64 k/\sv=.string ⟨([40]++Pl.aN Pl.cD (gs.take k)).toArray⟩/\Hid (Below w.heap.size w wr/\Gl wr))
  case atStart=>exact⟨0,by omega,rfl,rfl,Below.refl _ _,hG⟩
  case round=>
   obtain⟨k,hkn,rfl,rfl,HB⟩:=hrel;obtain⟨ak,iC⟩:=HB.out;by_cases hlt:k<gs.length
   ·obtain⟨p,hp⟩:∃p,gs[k]?=some p:=⟨_,aD hlt⟩;obtain⟨b,u,rfl,hb,e0,jt⟩:=AQ HR.out hp;obtain⟨us,uc,rfl⟩:=M5 jt;obtain⟨o1,o2⟩:=iV.out.2 p (bn hp);have r0:wr.cell? ⟨b,k,none⟩=some (.slice us p.length uc):=(ak.cell (p:=⟨b,k,none⟩) hb).trans e0;have lK:Hid (Calls Tryz.prog 59 #[.slice us p.length uc] wr fun e w'=>e=.returned (.string ⟨(Pl.cD p).toArray⟩)/\Below wr.heap.size wr w'):=afA p _ wr iC (DL DF jt ak) o1 o2
    have hxl:=UT o1 o2;have hbl:=HL.out k;have hbr:b<wr.heap.size:=by have:=ak.size;omega
    have eK:(k:Int)<(gs.length:Int):=by omega
    have HT:Hid (Pl.aN Pl.cD (gs.take (k+1))=Pl.aN Pl.cD (gs.take k)++((if k=0 then[] else[44,32])++Pl.cD p)):=UW Pl.cD hp
    generalize Pl.aN Pl.cD (gs.take k)=J at*;generalize Pl.cD p=X1 at*;generalize p.length=PN at*;clear hp e0 jt o1 o2 iV HL HB HR;have mE:Hid (Below w.heap.size w wr):=ak;clear ak;by_cases nB:k=0
    ·have hq0:decide (0<(k:Int))=false:=by simp;omega
     have qV:Hid (k=0):=nB;have hq1:decide (0<k)=false:=by simp;omega
     clear nB;have hs1:¬9223372036854775807<J.length+1+X1.length:=by omega
     go_wp2_with fail
     refine lK.out.mono ?_;rintro e w5 ⟨rfl,ax⟩
     go_wp2_with fail
     go_roundg (gk-1)
     case measure=>omega
     case rel=>
      refine⟨k+1,by omega,by go_num,?_,?_⟩
      ·rw[HT.out,ah qV.out];simp[ByteArray.mk_append_mk]
      ·exact⟨mE.out.trans (ax.mono mE.out.size),iC.below ax iC.sz⟩
    ·have hq0:decide (0<(k:Int))=true:=by simp;omega
     have qV:Hid (¬k=0):=nB;have hq1:decide (0<k)=true:=by simp;omega
     clear nB;have hs0:¬9223372036854775807<J.length+1+2:=by omega
     have hs1:¬9223372036854775807<J.length+1+2+X1.length:=by omega
     go_wp2_with fail
     refine lK.out.mono ?_;rintro e w5 ⟨rfl,ax⟩
     go_wp2_with fail
     go_roundg (gk-1)
     case measure=>omega
     case rel=>
      refine⟨k+1,by omega,by go_num,?_,?_⟩
      ·rw[HT.out,aa qV.out];simp[ByteArray.mk_append_mk]
      ·exact⟨mE.out.trans (ax.mono mE.out.size),iC.below ax iC.sz⟩
   ·have hk:k=gs.length:=by omega
    subst hk;have hbl:=HL.out gs.length;rw[dN] at hbl;rw[dN];have lK:Hid (Pl.bQ gs=[40]++(Pl.aN Pl.cD gs++[41])):=aa HZ.out;generalize Pl.aN Pl.cD gs=J at*;have hs1:¬9223372036854775807<J.length+1+1:=by omega
    clear HL iV HR
    go_wp2_with fail
    go_ret
    exact⟨by rw[lK.out];simp[ByteArray.mk_append_mk],ak⟩
def mG(ps:List (List (List (Int×Int)))):Prop:=ps.length<=402/\∀gs∈ps,pI gs
theorem UY(ps:List (List (List (Int×Int))))(hok:mG ps)(k:Nat):(Pl.aN Pl.bQ (ps.take k)).length<=k*7300002:=by
 refine dY (Pl.yH Pl.bQ 7300000 (ps.take k) fun p hp=>Ir (hok.2 p (nW hp))) ?_
 exact zN _ (by simp;omega)
theorem afF(gs:List (List (Int×Int)))(pv:Value)(w:World)(hG:Gl w)(hR:kT w pv [gs])(hok:pI gs):
  Calls Tryz.prog 15 #[.agg #[.string ⟨Pl.bB.toArray⟩,pv,.int .i64 0]] w fun e w'=>e=.returned (.string ⟨(Pl.bB++([32]++Pl.bQ gs)).toArray⟩)/\Below w.heap.size w w':=by
 obtain⟨so,cap,rfl⟩:=qW hR;obtain⟨b,u,rfl,hb,e0,jt⟩:=AQ (k:=0) hR rfl;obtain⟨us,uc,rfl⟩:=qW jt;have HP:Hid (∀w1,Below w.heap.size w w1->Gl w1->Calls Tryz.prog 32 #[.slice us gs.length uc] w1 fun e w'=>e=.returned (.string ⟨(Pl.bQ gs).toArray⟩)/\Below w1.heap.size w1 w'):=fun w1 hb1 g1=>UX gs _ w1 g1 (DL yG jt hb1) hok
 have hxl:=Ir hok;have AR:Hid (Pl.bB=[80,79,76,89,71,79,78]):=rfl;clear hR jt hok;generalize Pl.bQ gs=X at*;generalize gs.length=GN at*;simp only[bW,fJ,jn,show Pl.bB=[80,79,76,89,71,79,78] from rfl]
 go_enter Tryz.func15,Tryz.ntmps15
 have hs1:¬9223372036854775807<8+X.length:=by omega
 have hb0:Below w.heap.size w (w.alloc (.cells #[.string ⟨#[80,79,76,89,71,79,78]⟩,.slice (some ⟨b,0,none⟩) 1 cap,.int .i64 0] 29)):=(Below.refl _ _).alloc (ai _) _
 go_wp2_with fail
 refine(HP.out _ hb0 (hG.alloc _)).mono ?_;rintro e w1 ⟨rfl,hb1⟩
 go_wp2_with fail
 go_ret
 exact⟨by simp[ByteArray.mk_append_mk],hb0.trans (hb1.mono hb0.size)⟩
theorem afG(ps:List (List (List (Int×Int))))(pv:Value)(w:World)(hG:Gl w)(hR:kT w pv ps)(hok:mG ps):
  Calls Tryz.prog 15 #[.agg #[.string ⟨Pl.cP.toArray⟩,pv,.int .i64 0]] w fun e w'=>e=.returned (.string ⟨(Pl.kU ps).toArray⟩)/\Below w.heap.size w w':=by
 obtain⟨so,cap,rfl⟩:=qW hR;have HR:Hid (kT w (.slice so ps.length cap) ps):=hR;have iV:Hid (mG ps):=hok;have HL:Hid (∀k,(Pl.aN Pl.bQ (ps.take k)).length<=k*7300002):=UY ps hok;have hl:ps.length<=402:=hok.1;clear hR hok;simp only[show Pl.cP=[77,85,76,84,73,80,79,76,89,71,79,78] from rfl]
 have hb0:Below w.heap.size w (w.alloc (.cells #[.string ⟨#[77,85,76,84,73,80,79,76,89,71,79,78]⟩,.slice so ps.length cap,.int .i64 0] 29)):=(Below.refl _ _).alloc (ai _) _;have oh:Hid (Below w.heap.size w (w.alloc (.cells #[.string ⟨#[77,85,76,84,73,80,79,76,89,71,79,78]⟩,.slice so ps.length cap,.int .i64 0] 29))):=hb0;clear hb0
 go_enter Tryz.func15,Tryz.ntmps15
 by_cases hz:ps.length=0
 ·have HZ:Hid (ps.length=0):=hz;have hq:((ps.length:Int) == 0)=true:=Rz.2 (by omega)
  clear hz
  go_wp2_with fail
  go_ret
  exact⟨by unfold Pl.kU;rw[ah HZ.out];rfl,oh.out⟩
 ·have HZ:Hid (¬ps.length=0):=hz;have hq:((ps.length:Int) == 0)=false:=uv.2 (by omega)
  clear hz
  go_wp2_with fail
  go_loopg [4,5] ps.length (fun n sv iv wr=>∃k:Nat,k+n=ps.length/\iv=.int .i64 k/\sv=.string ⟨([77,85,76,84,73,80,79,76,89,71,79,78,32,40]++Pl.aN Pl.bQ (ps.take k)).toArray⟩/\Hid (Below w.heap.size w wr/\Gl wr/\w.heap.size<wr.heap.size/\wr.heap[w.heap.size]?=some (.cells #[.string ⟨#[77,85,76,84,73,80,79,76,89,71,79,78]⟩,.slice so ps.length cap,.int .i64 0] 29)))
  case atStart=>exact⟨0,by omega,rfl,rfl,oh.out,hG.alloc _,by simp,heap_alloc_new _ _⟩
  case round=>
   obtain⟨k,hkn,rfl,rfl,HB⟩:=hrel;obtain⟨ak,iC,hwz,dP⟩:=HB.out;have c1:wr.cell? ⟨w.heap.size,1,none⟩=some (.slice so ps.length cap):=cell_of dP 1;by_cases hlt:k<ps.length
   ·obtain⟨p,hp⟩:∃p,ps[k]?=some p:=⟨_,aD hlt⟩;obtain⟨b,u,rfl,hb,e0,jt⟩:=AQ HR.out hp;obtain⟨us,uc,rfl⟩:=qW jt;have o1:=iV.out.2 p (bn hp);have r0:wr.cell? ⟨b,k,none⟩=some (.slice us p.length uc):=(ak.cell (p:=⟨b,k,none⟩) hb).trans e0;have lK:Hid (Calls Tryz.prog 32 #[.slice us p.length uc] wr fun e w'=>e=.returned (.string ⟨(Pl.bQ p).toArray⟩)/\Below wr.heap.size wr w'):=UX p _ wr iC (DL yG jt ak) o1
    have hxl:=Ir o1;have hbl:=HL.out k;have hbr:b<wr.heap.size:=by have:=ak.size;omega
    have eK:(k:Int)<(ps.length:Int):=by omega
    have HT:Hid (Pl.aN Pl.bQ (ps.take (k+1))=Pl.aN Pl.bQ (ps.take k)++((if k=0 then[] else[44,32])++Pl.bQ p)):=UW Pl.bQ hp
    generalize Pl.aN Pl.bQ (ps.take k)=J at*;generalize Pl.bQ p=X1 at*;generalize p.length=PN at*;clear hp e0 jt o1 iV HL HR dP;have mE:Hid (Below w.heap.size w wr):=ak;clear ak;by_cases nB:k=0
    ·have hq0:decide (0<(k:Int))=false:=by simp;omega
     have qV:Hid (k=0):=nB;have hq1:decide (0<k)=false:=by simp;omega
     clear nB;have hs1:¬9223372036854775807<J.length+14+X1.length:=by omega
     go_wp2_with fail
     refine lK.out.mono ?_;rintro e w5 ⟨rfl,ax⟩
     go_wp2_with fail
     go_roundg (gk-1)
     case measure=>omega
     case rel=>
      refine⟨k+1,by omega,by go_num,?_,?_⟩
      ·rw[HT.out,ah qV.out];simp[ByteArray.mk_append_mk]
      ·exact⟨mE.out.trans (ax.mono mE.out.size),iC.below ax iC.sz,aQ hwz ax.size,(ax.block _ hwz).trans HB.out.2.2.2⟩
    ·have hq0:decide (0<(k:Int))=true:=by simp;omega
     have qV:Hid (¬k=0):=nB;have hq1:decide (0<k)=true:=by simp;omega
     clear nB;have hs0:¬9223372036854775807<J.length+14+2:=by omega
     have hs1:¬9223372036854775807<J.length+14+2+X1.length:=by omega
     go_wp2_with fail
     refine lK.out.mono ?_;rintro e w5 ⟨rfl,ax⟩
     go_wp2_with fail
     go_roundg (gk-1)
     case measure=>omega
     case rel=>
      refine⟨k+1,by omega,by go_num,?_,?_⟩
      ·rw[HT.out,aa qV.out];simp[ByteArray.mk_append_mk]
      ·exact⟨mE.out.trans (ax.mono mE.out.size),iC.below ax iC.sz,aQ hwz ax.size,(ax.block _ hwz).trans HB.out.2.2.2⟩
   ·have hk:k=ps.length:=by omega
    subst hk;have hbl:=HL.out ps.length;rw[dN] at hbl;rw[dN];have lK:Hid (Pl.kU ps=Pl.cP++([32,40]++(Pl.aN Pl.bQ ps++[41]))):=aa HZ.out;generalize Pl.aN Pl.bQ ps=J at*;have hs1:¬9223372036854775807<J.length+14+1:=by omega
    clear HL iV HR
    go_wp2_with fail
    go_ret
    exact⟨by rw[lK.out];simp[ByteArray.mk_append_mk,Pl.cP],ak⟩
end Go.Proofs.YtkjhhooecopolaaGreatDoor

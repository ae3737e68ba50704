import Derived.Test.YtkjhhooecopolaaGreatDoorMz12
import Derived.Deep.RegionHeld3
import Derived.Deep.RegionLaw
import Derived.Deep.RegionWith
import Derived.Deep.AppendLies
import Derived.Deep.LoopGhost
set_option maxRecDepth 100000
set_option maxHeartbeats 4000000
namespace Go.Proofs.YtkjhhooecopolaaGreatDoor
open Go.RowKit
def sf{α:Type}(ts:List Nat)(R:World->Value->α->Prop):Prop:=
 ∀(w w':World) v x,R w v x->(∀(k:Nat)(cur:Array Value)(e:TypeId),w.heap[k]?=some (Obj.cells cur e (0,0))->e∈ts->w'.heap[k]?=w.heap[k]?)->R w' v x
def iK(w:World)(v:Value)(g:List (Int×Int)):Prop:=w.ownsRow 0 65 2 v g.length (ki g)
def xZ{α:Type}(T:Nat)(R:World->Value->α->Prop)(w:World)(v:Value)(xs:List α):Prop:=
 ∃vs:List Value,vs.length=xs.length/\w.ownsRow 0 T 1 v xs.length vs/\∀(i:Nat) u x,vs[i]?=some u->xs[i]?=some x->R w u x
def jh(w:World)(v:Value)(gs:List (List (Int×Int))):Prop:=xZ 63 iK w v gs
def kI(w:World)(v:Value)(ps:List (List (List (Int×Int)))):Prop:=xZ 57 jh w v ps
theorem wu{w:World}{b:Nat}{e:TypeId}{size:Nat}{v:Value}{n:Nat}{xs:List Value}(h:w.ownsRow b e size v n xs):w.ownsRow 0 e size v n xs:=by
 obtain⟨h1,h2⟩:=h;rcases h2 with h2|⟨g,cap,cur,hv,_,r⟩
 ·exact⟨h1,Or.inl h2⟩
 ·exact⟨h1,Or.inr ⟨g,cap,cur,hv,iz _,r⟩⟩
theorem Hr{w w':World}{b:Nat}{e:TypeId}{size:Nat}{v:Value}{n:Nat}{xs:List Value}(h:w.ownsRow b e size v n xs)
  (hk:∀(k:Nat)(cur:Array Value),w.heap[k]?=some (Obj.cells cur e (0,0))->w'.heap[k]?=w.heap[k]?):w'.ownsRow b e size v n xs:=
 aJ h fun k hk'=>by
  obtain⟨c,hc⟩:=nQ h hk';exact hk k c hc
theorem Da:sf [65] iK:=fun w w' v x h hk=>Hr h fun k cur hc=>hk k cur _ hc (by simp)
theorem Uh{α:Type}{T:Nat}{ts:List Nat}{R:World->Value->α->Prop}(hR:sf ts R):sf (T::ts) (xZ T R):=by
 intro w w' v xs h hk;obtain⟨vs,h1,h2,h3⟩:=h;exact⟨vs,h1,Hr h2 fun k cur hc=>hk k cur _ hc (by simp),fun i u x hi hx=>hR w w' u x (h3 i u x hi hx) fun k cur e hc he=>hk k cur e hc (by simp[he])⟩
theorem x7:sf [63,65] jh:=Uh Da
theorem Db:sf [57,63,65] kI:=Uh x7
theorem Ah{α:Type}{ts:List Nat}{R:World->Value->α->Prop}(hR:sf ts R)(hts:55∉ts){pb tb cap:Nat}{A l:List Pl.Tk}{bad:Bool}{w w':World}{v:Value}{x:α}(h:R w v x)(hf:Fp pb w w')(hP:PS pb tb cap A l bad w):R w' v x:=by
 obtain⟨c,_,hb⟩:=hP.box;refine hR w w' v x h fun k cur e hc he=>hf.block k (lt_of_heap hc) fun ek=>?_
 rw[ek,hb] at hc;injection hc with hc;injection hc with _ hc _;exact hts (by rw[hc];exact he)
def Mt{α:Type}(R:World->Value->α->Prop)(pb tb cap:Nat)(A:List Pl.Tk)(T:Bool×List Pl.Tk×α)(w:World)(e:Ending)(w':World):Prop:=
 ∃v,e=.returned v/\PS pb tb cap A T.2.1 (!T.1) w'/\Fp pb w w'/\(∃so n c,v=.slice so n c)/\∃x,R w' v x/\(T.1=true->x=T.2.2)
theorem ae5(pb tb cap:Nat)(s:List UInt8)(A l:List Pl.Tk)(w:World)(hch:Pl.eB s l)(hP:PS pb tb cap A l false w)(hl:A.length<=402)(hll:l.length<=402):
  Calls Tryz.prog 58 #[.pointer (some ⟨pb,0,none⟩)] w (Mt iK pb tb cap A (Pl.di l) w):=by
 refine(ae4 pb tb cap s A l w hch hP hl hll).mono ?_;rintro e w' ⟨v,rfl,h1,h2,ps,h3,h4⟩;refine⟨v,rfl,h1,h2,?_,ps,wu h3,h4⟩;rcases h3.2 with⟨hv,_⟩|⟨g,cap,cur,hv,_⟩
 ·exact⟨_,_,_,hv⟩
 ·exact⟨_,_,_,hv⟩
theorem Ui:(Tryz.prog.info? 63).map (fun i=>(i.zero,i.size,i.bytes))=some (some (.slice none 0 0),1,24):=by kernel_rfl
theorem Uj:(Tryz.prog.info? 57).map (fun i=>(i.zero,i.size,i.bytes))=some (some (.slice none 0 0),1,24):=by kernel_rfl
def sx{α:Type}(ET:Nat)(R:World->Value->α->Prop)(item:List Pl.Tk->Bool×List Pl.Tk×α)(pb tb cap:Nat)(s:List UInt8)(A:List Pl.Tk)(T:Bool×List Pl.Tk×List α)(w:World)(g:Nat)(lv:Value)(more:Bool)(wr:World):Prop:=
 ∃l acc bad vs,PS pb tb cap A l bad wr/\Fp pb w wr/\Pl.eB s l/\vs.length=acc.length/\wr.ownsRow w.heap.size ET 1 lv acc.length vs/\(∀(i:Nat) u x,vs[i]?=some u->acc[i]?=some x->R wr u x)/\acc.length<=1000-g/\g<=402/\
  (more=true->bad=false/\Pl.bK item g l acc=T/\l.length<=g)/\(more=false->xY T l bad acc)
theorem Dc{w1 w2:World}{o1:Obj}{row:Option Nat}(hg:(w1.alloc o1).grownBy w2 row):∀k,k<w1.heap.size->row≠some k->w2.heap[k]?=w1.heap[k]?:=fun k hk hr=>CH hg k hk hr
theorem PS.Dd{pb tb cap:Nat}{A l:List Pl.Tk}{bad:Bool}{w4 w5:World}{o1:Obj}{row:Option Nat}{e:TypeId}(h:PS pb tb cap A l bad w4)(hg:(w4.alloc o1).grownBy w5 row)
  (hrow:∀k,row=some k->∃cur,w4.heap[k]?=some (.cells cur e (0,0)))(he:e≠61/\e≠55):PS pb tb cap A l bad w5:=by
 obtain⟨hne,⟨cur,fU,hr⟩,c,hc,hb⟩:=h;have key:∀(k:Nat)(cur':Array Value)(e':TypeId),w4.heap[k]?=some (Obj.cells cur' e' (0,0))->e≠e'->w5.heap[k]?=some (Obj.cells cur' e' (0,0)):=fun k cur' e' hk C7=>by
  rw[Dc hg k (lt_of_heap hk) (fun er=>by
   obtain⟨c2,h2⟩:=hrow k er;rw[hk] at h2;injection h2 with h2;injection h2 with _ h2 _;exact C7 h2.symm)]
  exact hk
 exact⟨hne,⟨cur,key _ _ _ fU he.1,hr⟩,c,hc,key _ _ _ hb he.2⟩
theorem Fp.Dd{pb:Nat}{w w4 w5:World}{o1:Obj}{row:Option Nat}(h:Fp pb w w4)(hg:(w4.alloc o1).grownBy w5 row)(hrow:∀k,row=some k->w.heap.size<=k):Fp pb w w5:=by
 refine⟨hg.os.trans h.os,hg.tape.trans h.tape,hg.output.trans h.output,?_,fun k hk hne=>?_⟩
 ·have h1:=hg.size;have h2:=h.size;simp at h1;omega
 ·have h2:=h.size;rw[Dc hg k (by omega) (fun er=>by have:=hrow k er;omega)]
  exact h.block k hk hne
theorem De{α:Type}{ts:List Nat}{R:World->Value->α->Prop}(hR:sf ts R){w4 w5:World}{o1:Obj}{row:Option Nat}{e:TypeId}(hg:(w4.alloc o1).grownBy w5 row)
  (hrow:∀k,row=some k->∃cur,w4.heap[k]?=some (.cells cur e (0,0)))(he:e∉ts){v:Value}{x:α}(h:R w4 v x):R w5 v x:=
 hR w4 w5 v x h fun k cur e' hc he'=>Dc hg k (lt_of_heap hc) fun er=>by
  obtain⟨c2,h2⟩:=hrow k er;rw[hc] at h2;injection h2 with h2;injection h2 with _ h2 _;exact he (by rw[<-h2];exact he')
theorem Mu{α:Type}{R:World->Value->α->Prop}{w:World}{vs:List Value}{acc:List α}{v:Value}{x:α}(hlen:vs.length=acc.length)(h:∀(i:Nat) u x,vs[i]?=some u->acc[i]?=some x->R w u x)(hv:R w v x):
  ∀(i:Nat) u y,(vs++[v])[i]?=some u->(acc++[x])[i]?=some y->R w u y:=by
 intro i u y hu hy;by_cases hi:i<vs.length
 ·rw[dZ hi] at hu;rw[dZ (by omega)] at hy
  exact h i u y hu hy
 ·have hi2:i=vs.length:=by
   have:=(bT.1 hu).1;simp at this;omega
  subst hi2;have e1:u=v:=by simpa using hu.symm
  have e2:y=x:=by rw[hlen] at hy;simpa using hy.symm
  subst e1 e2;exact hv
namespace Pl
def aI{α:Type}(f:α->List UInt8):List α->List UInt8
 |[]=>[]
 |[x]=>f x
 |x::y::r=>f x++([44,32]++aI f (y::r))
theorem Mv{α:Type}(f:α->List UInt8):∀(l:List α)(x:α),aI f (l++[x])=aI f l++((if l.length=0 then[] else[44,32])++f x)
 |[],x=>by simp[aI]
 |[a],x=>by simp[aI]
 |a::b::r,x=>by
  have ih:=Mv f (b::r) x;show f a++([44,32]++aI f (b::r++[x]))=_;rw[ih];simp[aI,List.append_assoc]
def eN(p:Int×Int):List UInt8:=Lib.itoa p.1++([32]++Lib.itoa p.2)
def bZ(g:List (Int×Int)):List UInt8:=[40]++(aI eN g++[41])
def bH(gs:List (List (Int×Int))):List UInt8:=if gs.length=0 then EMPTY else[40]++(aI bZ gs++[41])
def kJ(ps:List (List (List (Int×Int)))):List UInt8:=if ps.length=0 then cJ++([32]++EMPTY) else cJ++([32,40]++(aI bH ps++[41]))
theorem x8{α:Type}(f:α->List UInt8)(B:Nat):∀(l:List α),(∀x∈l,(f x).length<=B)->(aI f l).length<=l.length*(B+2)
 |[],_=>by simp[aI]
 |[a],h=>by have:=h a (by simp);simp[aI];omega
 |a::b::r,h=>by
  have ih:=x8 f B (b::r) (fun x hx=>h x (by simp[hx]))
  have ha:=h a (by simp)
  simp only[aI,aS,bO,fE] at ih⊢;rw[F6];rw[F6] at ih⊢;omega
end Pl
theorem Uk(n:Int)(w:World)(hG:Gl w)(h1: -9223372036854775808<=n)(h2:n<=9223372036854775807):
  Calls Tryz.prog 88 #[.int .i64 n] w fun e w'=>e=.returned (.string ⟨(Lib.itoa n).toArray⟩)/\Below w.heap.size w w':=by
 have HI:Hid (∀w1,Gl w1->Calls Tryz.prog 146 #[.int .i64 n] w1 fun e w'=>e=.returned (.string ⟨(Lib.itoa n).toArray⟩)/\Below w1.heap.size w1 w'):=fun w1 g1=>by
  refine(Tryz.strconv_Itoa n h1 h2 w1 g1.tab).mono ?_;rintro e w' ⟨rfl,k,os,rfl⟩;exact⟨rfl,Lib.below_grow _ _ (ae _) _ _⟩
 clear h1 h2
 go_enter Tryz.func88,Tryz.ntmps88
 go_wp2_with fail
 refine(HI.out _ hG).mono ?_;rintro e w1 ⟨rfl,hb⟩
 go_wp2_with fail
 go_ret
 exact⟨rfl,hb⟩
def gz(n:Int):Prop:= -50<=n/\n<=50
def mb(g:List (Int×Int)):Prop:=∀p∈g,gz p.1/\gz p.2
theorem Mw:∀(g:List (Int×Int))(k:Nat)(p:Int×Int),g[k]?=some p->(ki g)[k*2]?=some (.int .i64 p.1)/\(ki g)[k*2+1]?=some (.int .i64 p.2)
 |[],_,_,h=>by simp at h
 |q::r,0,p,h=>by
  simp at h;subst h;exact⟨rfl,rfl⟩
 |q::r,k+1,p,h=>by
  have ih:=Mw r k p (by simpa using h)
  have e:ki (q::r)=.int .i64 q.1:: .int .i64 q.2::ki r:=rfl;rw[e];exact⟨by rw[show(k+1)*2=k*2+1+1 by omega,KF,KF];exact ih.1,by rw[show(k+1)*2+1=k*2+1+1+1 by omega,KF,KF];exact ih.2⟩
theorem Mx{w:World}{e:TypeId}{size:Nat}{v:Value}{n:Nat}{xs:List Value}(h:w.ownsRow 0 e size v n xs){o:Nat}{u:Value}(hu:xs[o]?=some u):
  ∃b cap,v=.slice (some ⟨b,0,none⟩) n cap/\b<w.heap.size/\w.cell? ⟨b,o,none⟩=some u:=by
 obtain⟨h1,h2⟩:=h;rcases h2 with⟨_,h0⟩|⟨b,cap,cur,hv,_,hb,_,_,_,ht⟩
 ·rw[h0,zk] at h1;rw[gq.1 h1] at hu;simp at hu
 ·refine⟨b,cap,hv,lt_of_heap hb,?_⟩;rw[cell_of hb o,<-iQ];rw[<-ht,j6] at hu;split at hu
  ·exact hu
  ·cases hu
theorem ae6{p:Int×Int}(h1:gz p.1)(h2:gz p.2):(Pl.eN p).length<=43:=by
 have hx1:=Lib.itoa_length_le p.1 (by have:=h1.1;omega) (by have:=h1.2;omega)
 have hx2:=Lib.itoa_length_le p.2 (by have:=h2.1;omega) (by have:=h2.2;omega)
 simp[Pl.eN];omega
theorem Ul(g:List (Int×Int))(hok:mb g)(k:Nat):(Pl.aI Pl.eN (g.take k)).length<=k*45:=by
 refine dS (Pl.x8 Pl.eN 43 (g.take k) fun p hp=>ae6 (hok p (nL hp)).1 (hok p (nL hp)).2) ?_
 exact zj _ (by simp;omega)
theorem ae7(g:List (Int×Int))(v:Value)(w:World)(hG:Gl w)(hR:iK w v g)(hok:mb g)(hl:g.length<=402):
  Calls Tryz.prog 59 #[v] w fun e w'=>e=.returned (.string ⟨(Pl.bZ g).toArray⟩)/\Below w.heap.size w w':=by
 obtain⟨so,cap,rfl⟩:∃so cap,v=.slice so g.length cap:=by
  rcases hR.2 with⟨hv,h0⟩|⟨b,cap,cur,hv,_⟩
  ·exact⟨none,0,by rw[hv,h0]⟩
  ·exact⟨_,cap,hv⟩
 have My:Hid (∀(k:Nat) p,g[k]?=some p->∃b,so=some ⟨b,0,none⟩/\b<w.heap.size/\w.cell? ⟨b,k*2,none⟩=some (.int .i64 p.1)/\w.cell? ⟨b,k*2+1,none⟩=some (.int .i64 p.2)):=fun k p hp=>by
  obtain⟨a0,a1⟩:=Mw g k p hp;obtain⟨b,c,hv,hb,c0⟩:=Mx hR a0;obtain⟨b',c',hv',hb',c1⟩:=Mx hR a1;injection hv with hv;injection hv' with hv';rw[hv] at hv';injection hv' with hv';injection hv' with hv';subst hv';exact⟨b,hv,hb,c0,c1⟩
 have iL:Hid (mb g):=hok;have HL:Hid (∀k,(Pl.aI Pl.eN (g.take k)).length<=k*45):=Ul g hok;clear hR hok
 go_enter Tryz.func59,Tryz.ntmps59
 go_wp2_with fail
 go_loopg [3,4] g.length (fun n sv iv wr=>∃k:Nat,k+n=g.length/\iv=.int .i64 k/\sv=.string ⟨([40]++Pl.aI Pl.eN (g.take k)).toArray⟩/\Hid (Below w.heap.size w wr/\Gl wr))
 case atStart=>exact⟨0,by omega,rfl,rfl,Below.refl _ _,hG⟩
 case round=>
  obtain⟨k,hkn,rfl,rfl,HB⟩:=hrel;obtain⟨ag,il⟩:=HB.out;by_cases hlt:k<g.length
  ·obtain⟨p,hp⟩:∃p,g[k]?=some p:=⟨_,ay hlt⟩;obtain⟨b,rfl,hb,e0,e1⟩:=My.out k p hp;obtain⟨⟨o1',o2'⟩,o3',o4'⟩:=iL.out p (aY hp);have o1: -9223372036854775808<=p.1:=by omega
   have o2:p.1<=9223372036854775807:=by omega
   have o3: -9223372036854775808<=p.2:=by omega
   have o4:p.2<=9223372036854775807:=by omega
   clear o1' o2' o3' o4';have r0:wr.cell? ⟨b,k*2,none⟩=some (.int .i64 p.1):=(ag.cell (p:=⟨b,k*2,none⟩) hb).trans e0;have r1:wr.cell? ⟨b,k*2+1,none⟩=some (.int .i64 p.2):=(ag.cell (p:=⟨b,k*2+1,none⟩) hb).trans e1;have hbl:=HL.out k;have hbr:b<wr.heap.size:=by have:=ag.size;omega
   have eD:(k:Int)<(g.length:Int):=by omega
   have hT:Pl.aI Pl.eN (g.take (k+1))=Pl.aI Pl.eN (g.take k)++((if(g.take k).length=0 then[] else[44,32])++Pl.eN p):=by
    have e:g.take (k+1)=g.take k++[p]:=by rw[oK hlt,(bT.1 hp).2]
    rw[e,Pl.Mv]
   have HT:Hid (Pl.aI Pl.eN (g.take (k+1))=Pl.aI Pl.eN (g.take k)++((if k=0 then[] else[44,32])++Pl.eN p)):=by
    rw[ig,KC (by omega)] at hT;exact hT
   have hx1:=Lib.itoa_length_le p.1 o1 o2;have hx2:=Lib.itoa_length_le p.2 o3 o4;have zU:Hid (∀w1,Gl w1->Calls Tryz.prog 88 #[.int .i64 p.1] w1 fun e w'=>e=.returned (.string ⟨(Lib.itoa p.1).toArray⟩)/\Below w1.heap.size w1 w'):=fun w1 g1=>Uk p.1 w1 g1 o1 o2
   have zV:Hid (∀w1,Gl w1->Calls Tryz.prog 88 #[.int .i64 p.2] w1 fun e w'=>e=.returned (.string ⟨(Lib.itoa p.2).toArray⟩)/\Below w1.heap.size w1 w'):=fun w1 g1=>Uk p.2 w1 g1 o3 o4
   have Um:Hid (Pl.eN p=Lib.itoa p.1++([32]++Lib.itoa p.2)):=rfl;generalize Pl.aI Pl.eN (g.take k)=J at*;generalize Pl.eN p=PT at*;generalize Lib.itoa p.1=X1 at*;generalize Lib.itoa p.2=X2 at*;generalize p.1=P1 at*;generalize p.2=P2 at*;clear hT hp e0 e1 o1 o2 o3 o4 iL My HL HB;have mf:Hid (Below w.heap.size w wr):=ag;clear ag;by_cases mS:k=0
   ·have hq0:decide (0<(k:Int))=false:=by simp;omega
    have qI:Hid (k=0):=mS;have hq1:decide (0<k)=false:=by simp;omega
    clear mS;have hs1:¬9223372036854775807<J.length+1+X1.length:=by omega
    have hs2:¬9223372036854775807<J.length+1+X1.length+1:=by omega
    have hs3:¬9223372036854775807<J.length+1+X1.length+1+X2.length:=by omega
    go_wp2_with fail
    go_region_held3 (fun w'=>w'.cell? ⟨b,k*2,none⟩=some (.int .i64 P1)/\w'.cell? ⟨b,k*2+1,none⟩=some (.int .i64 P2)) (go_keep) (first
     |(go_at_call_of 88 (Value.int IntKind.i64 P1);refine(zU.out _ il.drew).mono ?_;rintro e w5 ⟨rfl,ai⟩;have mg:=il.drew.below ai il.sz;have q0:=(ai.cell (p:=⟨b,k*2,none⟩) hbr).trans r0;have q1:=(ai.cell (p:=⟨b,k*2+1,none⟩) hbr).trans r1)
     |(go_at_call_of 88 (Value.int IntKind.i64 P2);refine(zV.out _ mg).mono ?_;rintro e w6 ⟨rfl,ax⟩;have s0:=(ax.cell (p:=⟨b,k*2,none⟩) (aL hbr ai.size)).trans q0;have s1:=(ax.cell (p:=⟨b,k*2+1,none⟩) (aL hbr ai.size)).trans q1))
    go_wp2_with fail
    go_roundg (gk-1)
    case measure=>omega
    case rel=>
     refine⟨k+1,by omega,by go_num,?_,?_⟩
     ·rw[HT.out,Um.out,if_pos qI.out];simp[ByteArray.mk_append_mk]
     ·exact⟨(mf.out.drew.trans (ai.mono mf.out.size)).trans (ax.mono (dS mf.out.size ai.size)),mg.below ax mg.sz⟩
   ·have hq0:decide (0<(k:Int))=true:=by simp;omega
    have qI:Hid (¬k=0):=mS;have hq1:decide (0<k)=true:=by simp;omega
    clear mS;have hs0:¬9223372036854775807<J.length+1+2:=by omega
    have hs1:¬9223372036854775807<J.length+1+2+X1.length:=by omega
    have hs2:¬9223372036854775807<J.length+1+2+X1.length+1:=by omega
    have hs3:¬9223372036854775807<J.length+1+2+X1.length+1+X2.length:=by omega
    go_wp2_with fail
    go_region_held3 (fun w'=>w'.cell? ⟨b,k*2,none⟩=some (.int .i64 P1)/\w'.cell? ⟨b,k*2+1,none⟩=some (.int .i64 P2)) (go_keep) (first
     |(go_at_call_of 88 (Value.int IntKind.i64 P1);refine(zU.out _ il.drew).mono ?_;rintro e w5 ⟨rfl,ai⟩;have mg:=il.drew.below ai il.sz;have q0:=(ai.cell (p:=⟨b,k*2,none⟩) hbr).trans r0;have q1:=(ai.cell (p:=⟨b,k*2+1,none⟩) hbr).trans r1)
     |(go_at_call_of 88 (Value.int IntKind.i64 P2);refine(zV.out _ mg).mono ?_;rintro e w6 ⟨rfl,ax⟩;have s0:=(ax.cell (p:=⟨b,k*2,none⟩) (aL hbr ai.size)).trans q0;have s1:=(ax.cell (p:=⟨b,k*2+1,none⟩) (aL hbr ai.size)).trans q1))
    go_wp2_with fail
    go_roundg (gk-1)
    case measure=>omega
    case rel=>
     refine⟨k+1,by omega,by go_num,?_,?_⟩
     ·rw[HT.out,Um.out,if_neg qI.out];simp[ByteArray.mk_append_mk]
     ·exact⟨(mf.out.drew.trans (ai.mono mf.out.size)).trans (ax.mono (dS mf.out.size ai.size)),mg.below ax mg.sz⟩
  ·have hk:k=g.length:=by omega
   subst hk;have hbl:=HL.out g.length;rw[dI] at hbl;rw[dI];have lh:Hid (Pl.bZ g=[40]++(Pl.aI Pl.eN g++[41])):=rfl;generalize Pl.aI Pl.eN g=J at*;have hs1:¬9223372036854775807<J.length+1+1:=by omega
   clear HL iL My
   go_wp2_with fail
   go_ret
   exact⟨by rw[lh.out];simp[ByteArray.mk_append_mk],ag⟩
theorem Df{α:Type}{ts:List Nat}{R:World->Value->α->Prop}(hR:sf ts R){w w':World}{v:Value}{x:α}(h:R w v x)(hb:Below w.heap.size w w'):R w' v x:=
 hR w w' v x h fun k _ _ hc _=>hb.block k (lt_of_heap hc)
def pj(gs:List (List (Int×Int))):Prop:=gs.length<=402/\∀g∈gs,mb g/\g.length<=402
theorem Un{g:List (Int×Int)}(h:mb g)(hl:g.length<=402):(Pl.bZ g).length<=18100:=by
 have:=Ul g h g.length;rw[dI] at this;simp[Pl.bZ];omega
theorem Uo(gs:List (List (Int×Int)))(hok:pj gs)(k:Nat):(Pl.aI Pl.bZ (gs.take k)).length<=k*18102:=by
 refine dS (Pl.x8 Pl.bZ 18100 (gs.take k) fun p hp=>Un (hok.2 p (nL hp)).1 (hok.2 p (nL hp)).2) ?_
 exact zj _ (by simp;omega)
theorem Hs{gs:List (List (Int×Int))}(h:pj gs):(Pl.bH gs).length<=7300000:=by
 have:=Uo gs h gs.length;rw[dI] at this;have:=h.1;unfold Pl.bH;split
 ·decide
 ·simp;omega
theorem Mz{w:World}{v:Value}{g:List (Int×Int)}(h:iK w v g):∃so cap,v=.slice so g.length cap:=by
 rcases h.2 with⟨hv,h0⟩|⟨b,cap,cur,hv,_⟩
 ·exact⟨none,0,by rw[hv,h0]⟩
 ·exact⟨_,cap,hv⟩
theorem qJ{α:Type}{T:Nat}{R:World->Value->α->Prop}{w:World}{v:Value}{xs:List α}(h:xZ T R w v xs):∃so cap,v=.slice so xs.length cap:=by
 obtain⟨vs,_,h,_⟩:=h;rcases h.2 with⟨hv,h0⟩|⟨b,cap,cur,hv,_⟩
 ·exact⟨none,0,by rw[hv,h0]⟩
 ·exact⟨_,cap,hv⟩
theorem Ai{α:Type}{T:Nat}{R:World->Value->α->Prop}{w:World}{so:Option Addr}{n cap:Nat}{xs:List α}(h:xZ T R w (.slice so n cap) xs){k:Nat}{x:α}(hx:xs[k]?=some x):
  ∃b u,so=some ⟨b,0,none⟩/\b<w.heap.size/\w.cell? ⟨b,k,none⟩=some u/\R w u x:=by
 obtain⟨vs,hl,ho,hr⟩:=h;have hk:k<vs.length:=by rw[hl];exact(bT.1 hx).1
 obtain⟨u,hu⟩:∃u,vs[k]?=some u:=⟨_,ay hk⟩;obtain⟨b,c,hv,hb,hc⟩:=Mx ho hu;injection hv with hv;exact⟨b,u,hv,hb,hc,hr k u x hu hx⟩
theorem Uq{α:Type}(f:α->List UInt8){g:List α}{k:Nat}{p:α}(hp:g[k]?=some p):
  Pl.aI f (g.take (k+1))=Pl.aI f (g.take k)++((if k=0 then[] else[44,32])++f p):=by
 obtain⟨hlt,hp'⟩:=bT.1 hp;have e:g.take (k+1)=g.take k++[p]:=by rw[oK hlt,hp']
 rw[e,Pl.Mv,ig,KC (by omega)]
theorem Ur(gs:List (List (Int×Int)))(v:Value)(w:World)(hG:Gl w)(hR:jh w v gs)(hok:pj gs):
  Calls Tryz.prog 32 #[v] w fun e w'=>e=.returned (.string ⟨(Pl.bH gs).toArray⟩)/\Below w.heap.size w w':=by
 obtain⟨so,cap,rfl⟩:=qJ hR;have HR:Hid (jh w (.slice so gs.length cap) gs):=hR;have iL:Hid (pj gs):=hok;have HL:Hid (∀k,(Pl.aI Pl.bZ (gs.take k)).length<=k*18102):=Uo gs hok;have hl:gs.length<=402:=hok.1;clear hR hok
 go_enter Tryz.func32,Tryz.ntmps32
 by_cases hz:gs.length=0
 ·have HZ:Hid (gs.length=0):=hz;have hq:(gs.length:Int)=0:=by omega
  clear hz
  go_wp2_with fail
  go_ret
  exact⟨by unfold Pl.bH;rw[if_pos HZ.out];rfl,Below.refl _ _⟩
 ·have HZ:Hid (¬gs.length=0):=hz;have hq:((gs.length:Int) == 0)=false:=beq_eq_false_iff_ne.2 (by omega)
  clear hz
  go_wp2_with fail
  go_loopg [3,4] gs.length (fun n sv iv wr=>∃k:Nat,k+n=gs.length/\iv=.int .i64 k/\sv=.string ⟨([40]++Pl.aI Pl.bZ (gs.take k)).toArray⟩/\Hid (Below w.heap.size w wr/\Gl wr))
  case atStart=>exact⟨0,by omega,rfl,rfl,Below.refl _ _,hG⟩
  case round=>
   obtain⟨k,hkn,rfl,rfl,HB⟩:=hrel;obtain⟨ag,il⟩:=HB.out;by_cases hlt:k<gs.length
   ·obtain⟨p,hp⟩:∃p,gs[k]?=some p:=⟨_,ay hlt⟩;obtain⟨b,u,rfl,hb,e0,ji⟩:=Ai HR.out hp;obtain⟨us,uc,rfl⟩:=Mz ji;obtain⟨o1,o2⟩:=iL.out.2 p (aY hp);have r0:wr.cell? ⟨b,k,none⟩=some (.slice us p.length uc):=(ag.cell (p:=⟨b,k,none⟩) hb).trans e0;have lh:Hid (Calls Tryz.prog 59 #[.slice us p.length uc] wr fun e w'=>e=.returned (.string ⟨(Pl.bZ p).toArray⟩)/\Below wr.heap.size wr w'):=ae7 p _ wr il (Df Da ji ag) o1 o2
    have hxl:=Un o1 o2;have hbl:=HL.out k;have hbr:b<wr.heap.size:=by have:=ag.size;omega
    have eD:(k:Int)<(gs.length:Int):=by omega
    have HT:Hid (Pl.aI Pl.bZ (gs.take (k+1))=Pl.aI Pl.bZ (gs.take k)++((if k=0 then[] else[44,32])++Pl.bZ p)):=Uq Pl.bZ hp
    generalize Pl.aI Pl.bZ (gs.take k)=J at*;generalize Pl.bZ p=X1 at*;generalize p.length=PN at*;clear hp e0 ji o1 o2 iL HL HB HR;have mf:Hid (Below w.heap.size w wr):=ag;clear ag;by_cases mS:k=0
    ·have hq0:decide (0<(k:Int))=false:=by simp;omega
     have qI:Hid (k=0):=mS;have hq1:decide (0<k)=false:=by simp;omega
     clear mS;have hs1:¬9223372036854775807<J.length+1+X1.length:=by omega
     go_wp2_with fail
     refine lh.out.mono ?_;rintro e w5 ⟨rfl,ai⟩
     go_wp2_with fail
     go_roundg (gk-1)
     case measure=>omega
     case rel=>
      refine⟨k+1,by omega,by go_num,?_,?_⟩
      ·rw[HT.out,if_pos qI.out];simp[ByteArray.mk_append_mk]
      ·exact⟨mf.out.trans (ai.mono mf.out.size),il.below ai il.sz⟩
    ·have hq0:decide (0<(k:Int))=true:=by simp;omega
     have qI:Hid (¬k=0):=mS;have hq1:decide (0<k)=true:=by simp;omega
     clear mS;have hs0:¬9223372036854775807<J.length+1+2:=by omega
     have hs1:¬9223372036854775807<J.length+1+2+X1.length:=by omega
     go_wp2_with fail
     refine lh.out.mono ?_;rintro e w5 ⟨rfl,ai⟩
     go_wp2_with fail
     go_roundg (gk-1)
     case measure=>omega
     case rel=>
      refine⟨k+1,by omega,by go_num,?_,?_⟩
      ·rw[HT.out,if_neg qI.out];simp[ByteArray.mk_append_mk]
      ·exact⟨mf.out.trans (ai.mono mf.out.size),il.below ai il.sz⟩
   ·have hk:k=gs.length:=by omega
    subst hk;have hbl:=HL.out gs.length;rw[dI] at hbl;rw[dI];have lh:Hid (Pl.bH gs=[40]++(Pl.aI Pl.bZ gs++[41])):=if_neg HZ.out;generalize Pl.aI Pl.bZ gs=J at*;have hs1:¬9223372036854775807<J.length+1+1:=by omega
    clear HL iL HR
    go_wp2_with fail
    go_ret
    exact⟨by rw[lh.out];simp[ByteArray.mk_append_mk],ag⟩
def mh(ps:List (List (List (Int×Int)))):Prop:=ps.length<=402/\∀gs∈ps,pj gs
theorem Us(ps:List (List (List (Int×Int))))(hok:mh ps)(k:Nat):(Pl.aI Pl.bH (ps.take k)).length<=k*7300002:=by
 refine dS (Pl.x8 Pl.bH 7300000 (ps.take k) fun p hp=>Hs (hok.2 p (nL hp))) ?_
 exact zj _ (by simp;omega)
theorem afc(gs:List (List (Int×Int)))(pv:Value)(w:World)(hG:Gl w)(hR:kI w pv [gs])(hok:pj gs):
  Calls Tryz.prog 15 #[.agg #[.string ⟨Pl.bp.toArray⟩,pv,.int .i64 0]] w fun e w'=>e=.returned (.string ⟨(Pl.bp++([32]++Pl.bH gs)).toArray⟩)/\Below w.heap.size w w':=by
 obtain⟨so,cap,rfl⟩:=qJ hR;obtain⟨b,u,rfl,hb,e0,ji⟩:=Ai (k:=0) hR rfl;obtain⟨us,uc,rfl⟩:=qJ ji;have HP:Hid (∀w1,Below w.heap.size w w1->Gl w1->Calls Tryz.prog 32 #[.slice us gs.length uc] w1 fun e w'=>e=.returned (.string ⟨(Pl.bH gs).toArray⟩)/\Below w1.heap.size w1 w'):=fun w1 hb1 g1=>Ur gs _ w1 g1 (Df x7 ji hb1) hok
 have hxl:=Hs hok;have Aj:Hid (Pl.bp=[80,79,76,89,71,79,78]):=rfl;clear hR ji hok;generalize Pl.bH gs=X at*;generalize gs.length=GN at*;simp only[bO,fE,jd,show Pl.bp=[80,79,76,89,71,79,78] from rfl]
 go_enter Tryz.func15,Tryz.ntmps15
 have hs1:¬9223372036854775807<8+X.length:=by omega
 have hb0:Below w.heap.size w (w.alloc (.cells #[.string ⟨#[80,79,76,89,71,79,78]⟩,.slice (some ⟨b,0,none⟩) 1 cap,.int .i64 0] 29)):=(Below.refl _ _).alloc (ae _) _
 go_wp2_with fail
 refine(HP.out _ hb0 (hG.alloc _)).mono ?_;rintro e w1 ⟨rfl,hb1⟩
 go_wp2_with fail
 go_ret
 exact⟨by simp[ByteArray.mk_append_mk],hb0.trans (hb1.mono hb0.size)⟩
theorem afd(ps:List (List (List (Int×Int))))(pv:Value)(w:World)(hG:Gl w)(hR:kI w pv ps)(hok:mh ps):
  Calls Tryz.prog 15 #[.agg #[.string ⟨Pl.cJ.toArray⟩,pv,.int .i64 0]] w fun e w'=>e=.returned (.string ⟨(Pl.kJ ps).toArray⟩)/\Below w.heap.size w w':=by
 obtain⟨so,cap,rfl⟩:=qJ hR;have HR:Hid (kI w (.slice so ps.length cap) ps):=hR;have iL:Hid (mh ps):=hok;have HL:Hid (∀k,(Pl.aI Pl.bH (ps.take k)).length<=k*7300002):=Us ps hok;have hl:ps.length<=402:=hok.1;clear hR hok;simp only[show Pl.cJ=[77,85,76,84,73,80,79,76,89,71,79,78] from rfl]
 have hb0:Below w.heap.size w (w.alloc (.cells #[.string ⟨#[77,85,76,84,73,80,79,76,89,71,79,78]⟩,.slice so ps.length cap,.int .i64 0] 29)):=(Below.refl _ _).alloc (ae _) _;have nT:Hid (Below w.heap.size w (w.alloc (.cells #[.string ⟨#[77,85,76,84,73,80,79,76,89,71,79,78]⟩,.slice so ps.length cap,.int .i64 0] 29))):=hb0;clear hb0
 go_enter Tryz.func15,Tryz.ntmps15
 by_cases hz:ps.length=0
 ·have HZ:Hid (ps.length=0):=hz;have hq:((ps.length:Int) == 0)=true:=beq_iff_eq.2 (by omega)
  clear hz
  go_wp2_with fail
  go_ret
  exact⟨by unfold Pl.kJ;rw[if_pos HZ.out];rfl,nT.out⟩
 ·have HZ:Hid (¬ps.length=0):=hz;have hq:((ps.length:Int) == 0)=false:=beq_eq_false_iff_ne.2 (by omega)
  clear hz
  go_wp2_with fail
  go_loopg [4,5] ps.length (fun n sv iv wr=>∃k:Nat,k+n=ps.length/\iv=.int .i64 k/\sv=.string ⟨([77,85,76,84,73,80,79,76,89,71,79,78,32,40]++Pl.aI Pl.bH (ps.take k)).toArray⟩/\Hid (Below w.heap.size w wr/\Gl wr/\w.heap.size<wr.heap.size/\wr.heap[w.heap.size]?=some (.cells #[.string ⟨#[77,85,76,84,73,80,79,76,89,71,79,78]⟩,.slice so ps.length cap,.int .i64 0] 29)))
  case atStart=>exact⟨0,by omega,rfl,rfl,nT.out,hG.alloc _,by simp,heap_alloc_new _ _⟩
  case round=>
   obtain⟨k,hkn,rfl,rfl,HB⟩:=hrel;obtain⟨ag,il,hwz,dK⟩:=HB.out;have c1:wr.cell? ⟨w.heap.size,1,none⟩=some (.slice so ps.length cap):=cell_of dK 1;by_cases hlt:k<ps.length
   ·obtain⟨p,hp⟩:∃p,ps[k]?=some p:=⟨_,ay hlt⟩;obtain⟨b,u,rfl,hb,e0,ji⟩:=Ai HR.out hp;obtain⟨us,uc,rfl⟩:=qJ ji;have o1:=iL.out.2 p (aY hp);have r0:wr.cell? ⟨b,k,none⟩=some (.slice us p.length uc):=(ag.cell (p:=⟨b,k,none⟩) hb).trans e0;have lh:Hid (Calls Tryz.prog 32 #[.slice us p.length uc] wr fun e w'=>e=.returned (.string ⟨(Pl.bH p).toArray⟩)/\Below wr.heap.size wr w'):=Ur p _ wr il (Df x7 ji ag) o1
    have hxl:=Hs o1;have hbl:=HL.out k;have hbr:b<wr.heap.size:=by have:=ag.size;omega
    have eD:(k:Int)<(ps.length:Int):=by omega
    have HT:Hid (Pl.aI Pl.bH (ps.take (k+1))=Pl.aI Pl.bH (ps.take k)++((if k=0 then[] else[44,32])++Pl.bH p)):=Uq Pl.bH hp
    generalize Pl.aI Pl.bH (ps.take k)=J at*;generalize Pl.bH p=X1 at*;generalize p.length=PN at*;clear hp e0 ji o1 iL HL HR dK;have mf:Hid (Below w.heap.size w wr):=ag;clear ag;by_cases mS:k=0
    ·have hq0:decide (0<(k:Int))=false:=by simp;omega
     have qI:Hid (k=0):=mS;have hq1:decide (0<k)=false:=by simp;omega
     clear mS;have hs1:¬9223372036854775807<J.length+14+X1.length:=by omega
     go_wp2_with fail
     refine lh.out.mono ?_;rintro e w5 ⟨rfl,ai⟩
     go_wp2_with fail
     go_roundg (gk-1)
     case measure=>omega
     case rel=>
      refine⟨k+1,by omega,by go_num,?_,?_⟩
      ·rw[HT.out,if_pos qI.out];simp[ByteArray.mk_append_mk]
      ·exact⟨mf.out.trans (ai.mono mf.out.size),il.below ai il.sz,aL hwz ai.size,(ai.block _ hwz).trans HB.out.2.2.2⟩
    ·have hq0:decide (0<(k:Int))=true:=by simp;omega
     have qI:Hid (¬k=0):=mS;have hq1:decide (0<k)=true:=by simp;omega
     clear mS;have hs0:¬9223372036854775807<J.length+14+2:=by omega
     have hs1:¬9223372036854775807<J.length+14+2+X1.length:=by omega
     go_wp2_with fail
     refine lh.out.mono ?_;rintro e w5 ⟨rfl,ai⟩
     go_wp2_with fail
     go_roundg (gk-1)
     case measure=>omega
     case rel=>
      refine⟨k+1,by omega,by go_num,?_,?_⟩
      ·rw[HT.out,if_neg qI.out];simp[ByteArray.mk_append_mk]
      ·exact⟨mf.out.trans (ai.mono mf.out.size),il.below ai il.sz,aL hwz ai.size,(ai.block _ hwz).trans HB.out.2.2.2⟩
   ·have hk:k=ps.length:=by omega
    subst hk;have hbl:=HL.out ps.length;rw[dI] at hbl;rw[dI];have lh:Hid (Pl.kJ ps=Pl.cJ++([32,40]++(Pl.aI Pl.bH ps++[41]))):=if_neg HZ.out;generalize Pl.aI Pl.bH ps=J at*;have hs1:¬9223372036854775807<J.length+14+1:=by omega
    clear HL iL HR
    go_wp2_with fail
    go_ret
    exact⟨by rw[lh.out];simp[ByteArray.mk_append_mk,Pl.cJ],ag⟩
theorem jk(w:World)(o:Obj){b k:Nat}(h:b<w.heap.size):(w.alloc o).cell? ⟨b,k,none⟩=w.cell? ⟨b,k,none⟩:=by
 simp only[World.cell?];rw[Below.heap_alloc _ _ _ h]
theorem afe{w:World}{so:Option Addr}{n cap:Nat}{g:List (Int×Int)}(hR:iK w (.slice so n cap) g){k:Nat}{p:Int×Int}(hp:g[k]?=some p):
  ∃b,so=some ⟨b,0,none⟩/\b<w.heap.size/\w.cell? ⟨b,k*2,none⟩=some (.int .i64 p.1)/\w.cell? ⟨b,k*2+1,none⟩=some (.int .i64 p.2):=by
 obtain⟨a0,a1⟩:=Mw g k p hp;obtain⟨b,c,hv,hb,hc⟩:=CS hR a0;injection hv with hv;exact⟨b,hv,hb,hc _ _ a0,hc _ _ a1⟩
namespace Ge
end Ge
namespace Ge
def bw(e f:Pt×Pt):Int:=(e.2.1-e.1.1)*(f.2.2-f.1.2)-(e.2.2-e.1.2)*(f.2.1-f.1.1)
def mT(e f:Pt×Pt):Int:=(f.1.1-e.1.1)*(f.2.2-f.1.2)-(f.1.2-e.1.2)*(f.2.1-f.1.1)
def mX(e f:Pt×Pt):Int:=e.1.1*bw e f+(e.2.1-e.1.1)*mT e f
def mY(e f:Pt×Pt):Int:=e.1.2*bw e f+(e.2.2-e.1.2)*mT e f
def dE(e f:Pt×Pt):Qt:=(aR (mX e f) (bw e f),aR (mY e f) (bw e f))
end Ge
namespace Ge
def hq(p:Qt)(e:Pt×Pt):Bool:=fo (p.1.1*p.2.2,p.2.1*p.1.2) (p.1.2*p.2.2) e
def pt(a:Pt):Qt:=((a.1,1),(a.2,1))
def x9(e:Pt×Pt)(out:List Qt)(f:Pt×Pt):List Qt:=
  if bw e f=0 then
    (let o1:=if hq (pt f.1) e then ins (pt f.1) out else out
     if hq (pt f.2) e then ins (pt f.2) o1 else o1)
  else if hq (dE e f) e&&hq (dE e f) f then ins (dE e f) out else out
def po(l:List (Pt×Pt))(e:Pt×Pt):List Qt:=l.foldl (x9 e) (ins (pt e.2) (ins (pt e.1) []))
theorem sy(a:Pt):fJ (pt a):=⟨⟨by show(0:Int)<1;decide,by show Int.gcd a.1 1=1;exact Q7 ..⟩,⟨by show(0:Int)<1;decide,by show Int.gcd a.2 1=1;exact Q7 ..⟩⟩
theorem Ut{e f:Pt×Pt}(h:bw e f≠0):fJ (dE e f):=⟨zX h,zX h⟩
end Ge
theorem Uu{e f:Ed}(he:fg e)(hf:fg f):(-20000<=Ge.bw e f/\Ge.bw e f<=20000)/\(-3000000<=Ge.mX e f/\Ge.mX e f<=3000000)/\(-3000000<=Ge.mY e f/\Ge.mY e f<=3000000):=by
 obtain⟨a1,a2,a3,a4⟩:=he;obtain⟨b1,b2,b3,b4⟩:=hf;have nZ:∀{x y:Int},small x->small y-> -100<=y-x/\y-x<=100:=fun hx hy=>by unfold small at*;omega
 have x1:=nZ a1 a3;have x2:=nZ a2 a4;have x3:=nZ b1 b3;have x4:=nZ b2 b4;have x5:=nZ a1 b1;have x6:=nZ a2 b2;have m1: -10000<=(e.2.1-e.1.1)*(f.2.2-f.1.2)/\(e.2.1-e.1.1)*(f.2.2-f.1.2)<=10000:=oW (a:=100) (b:=100) x1 x4;have m2: -10000<=(e.2.2-e.1.2)*(f.2.1-f.1.1)/\(e.2.2-e.1.2)*(f.2.1-f.1.1)<=10000:=oW (a:=100) (b:=100) x2 x3;have m3: -10000<=(f.1.1-e.1.1)*(f.2.2-f.1.2)/\(f.1.1-e.1.1)*(f.2.2-f.1.2)<=10000:=oW (a:=100) (b:=100) x5 x4;have m4: -10000<=(f.1.2-e.1.2)*(f.2.1-f.1.1)/\(f.1.2-e.1.2)*(f.2.1-f.1.1)<=10000:=oW (a:=100) (b:=100) x6 x3;have hC:Ge.bw e f=(e.2.1-e.1.1)*(f.2.2-f.1.2)-(e.2.2-e.1.2)*(f.2.1-f.1.1):=rfl;have hT:Ge.mT e f=(f.1.1-e.1.1)*(f.2.2-f.1.2)-(f.1.2-e.1.2)*(f.2.1-f.1.1):=rfl;have cb: -20000<=Ge.bw e f/\Ge.bw e f<=20000:=by omega
 have tb: -20000<=Ge.mT e f/\Ge.mT e f<=20000:=by omega
 have m5: -1000000<=e.1.1*Ge.bw e f/\e.1.1*Ge.bw e f<=1000000:=oW (a:=50) (b:=20000) a1 cb;have m6: -2000000<=(e.2.1-e.1.1)*Ge.mT e f/\(e.2.1-e.1.1)*Ge.mT e f<=2000000:=oW (a:=100) (b:=20000) x1 tb;have m7: -1000000<=e.1.2*Ge.bw e f/\e.1.2*Ge.bw e f<=1000000:=oW (a:=50) (b:=20000) a2 cb;have m8: -2000000<=(e.2.2-e.1.2)*Ge.mT e f/\(e.2.2-e.1.2)*Ge.mT e f<=2000000:=oW (a:=100) (b:=20000) x2 tb;refine⟨cb,?_,?_⟩
 ·unfold Ge.mX;omega
 ·unfold Ge.mY;omega
end Go.Proofs.YtkjhhooecopolaaGreatDoor

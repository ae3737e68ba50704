import Derived.Test.YtkjhhooecopolaaGreatDoorWz13
set_option maxRecDepth 100000
set_option maxHeartbeats 4000000
namespace Go.Proofs.YtkjhhooecopolaaGreatDoor
open Go.RowKit
theorem Ub(n:Int)(h1: -9223372036854775808<=n)(h2:n<=9223372036854775807)(w1:World)(g1:Gl w1):
  Calls Tryz.prog 146 #[.int .i64 n] w1 fun e w'=>e=.returned (.string ⟨(Lib.itoa n).toArray⟩)/\Below w1.heap.size w1 w':=by
 refine(Tryz.strconv_Itoa n h1 h2 w1 g1.tab).mono ?_;rintro e w' ⟨rfl,k,os,rfl⟩;exact⟨rfl,Lib.below_grow _ _ (ay _) _ _⟩
theorem Uc(x d:Int)(w:World)(hG:Gl w)(hx: -16000000<=x/\x<=16000000)(hd:0<d/\d<=300000):
  Calls Tryz.prog 178 #[.int .i64 x,.int .i64 d] w fun e w'=>e=.returned (.string ⟨(Pl.nM (Ge.aW x d)).toArray⟩)/\Below w.heap.size w w':=by
 obtain⟨G,hg⟩:∃G,Int.gcd x d=G:=⟨_,rfl⟩;have iu:Ge.aW x d=(x.tdiv G,d.tdiv G):=by
  unfold Ge.aW;rw[af (by omega)];unfold CE xy;rw[hg]
 have CH:0<G:=by rw[<-hg];exact aa0 _ (by omega)
 have Ik:(G:Int)∣d:=by rw[<-hg];exact yY ..
 have Ud:=aba hd.1 Ik;have ed:=Ge.Ic Ik;have bx:=se x G;have bd:=se d G;rw[iu];have HD:Hid (∀w1,Calls Tryz.prog 65 #[.int .i64 x,.int .i64 d] w1 fun e w'=>e=.returned (.int .i64 (G:Int))/\Below w1.heap.size w1 w'):=fun w1=>by rw[<-hg];exact CG x d w1 (by omega) (by omega)
 have hw1:IntKind.i64.wrap (x.tdiv (G:Int))=x.tdiv G:=by rw[IntKind.wrap_i64];omega
 have hw2:IntKind.i64.wrap (d.tdiv (G:Int))=d.tdiv G:=by rw[IntKind.wrap_i64];omega
 have hw3:IntKind.i64.wrap (d/(G:Int))=d.tdiv G:=by rw[<-hw2,aa1 (by omega)]
 have HX:Hid (∀w1,Gl w1->Calls Tryz.prog 146 #[.int .i64 (x.tdiv G)] w1 fun e w'=>e=.returned (.string ⟨(Lib.itoa (x.tdiv G)).toArray⟩)/\Below w1.heap.size w1 w'):=fun w1 g1=>Ub _ (by omega) (by omega) w1 g1
 have HY:Hid (∀w1,Gl w1->Calls Tryz.prog 146 #[.int .i64 (d.tdiv G)] w1 fun e w'=>e=.returned (.string ⟨(Lib.itoa (d.tdiv G)).toArray⟩)/\Below w1.heap.size w1 w'):=fun w1 g1=>Ub _ (by omega) (by omega) w1 g1
 have h1:=Lib.itoa_length_le (x.tdiv G) (by omega) (by omega)
 have h2:=Lib.itoa_length_le (d.tdiv G) (by omega) (by omega)
 have Sz:¬G=0:=by omega
 have SA:(0:Int)<G:=by omega
 by_cases Mf:d=G
 ·have hq:d.tdiv G=1:=by
   rw[<-Mf];exact Int.tdiv_self (by omega)
  have HV:Hid (Pl.nM (x.tdiv G,d.tdiv G)=Lib.itoa (x.tdiv G)):=aj hq;rw[HV.out];generalize Lib.itoa (x.tdiv G)=X1 at*;clear HV h1 h2 hw2 hw3 HY hq ed bx bd Ud Ik iu hg;subst Mf
  go_enter Tryz.func178,Tryz.ntmps178
  go_wp2_with fail
  refine(HD.out _).mono ?_;rintro e w1 ⟨rfl,hb1⟩
  go_wp2_with fail
  refine(HX.out _ (hG.below hb1 hG.sz)).mono ?_;rintro e w2 ⟨rfl,hb2⟩
  go_wp2_with fail
  go_ret
  exact⟨rfl,hb1.trans (hb2.mono hb1.size)⟩
 ·have hq:¬d.tdiv G=1:=by
   intro h;rw[h,Int.mul_one] at ed;exact Mf ed
  have HV:Hid (Pl.nM (x.tdiv G,d.tdiv G)=Lib.itoa (x.tdiv G)++([47]++Lib.itoa (d.tdiv G))):=af hq;rw[HV.out];have hwd:(d/(G:Int))=d.tdiv G:=(aa1 (by omega)).symm
  have HYt:Hid (∀w1,Gl w1->Calls Tryz.prog 146 #[.int .i64 (d/(G:Int))] w1 fun e w'=>e=.returned (.string ⟨(Lib.itoa (d.tdiv G)).toArray⟩)/\Below w1.heap.size w1 w'):=by rw[hwd];exact HY
  generalize Lib.itoa (x.tdiv G)=X1 at*;generalize Lib.itoa (d.tdiv G)=X2 at*;have hs1:¬9223372036854775807<X1.length+1:=by omega
  have hs2:¬9223372036854775807<X1.length+1+X2.length:=by omega
  clear HV hq ed bx bd Ud Ik iu hg hwd h1 h2
  go_enter Tryz.func178,Tryz.ntmps178
  go_wp2_with fail
  refine(HD.out _).mono ?_;rintro e w1 ⟨rfl,hb1⟩;have bO:Gl w1:=hG.below hb1 hG.sz
  go_wp2_with fail
  go_region_held3 (fun _=>True) (trivial) (first
   |(go_at_call_of 146 (Value.int IntKind.i64 (x.tdiv G));refine(HX.out _ bO.drew).mono ?_;rintro e w5 ⟨rfl,az⟩;have Il:=bO.drew.below az bO.sz)
   |(go_at_call_of 146 (Value.int IntKind.i64 (d.tdiv G));refine(HY.out _ Il).mono ?_;rintro e w6 ⟨rfl,aF⟩)
   |(go_at_call_of 146 (Value.int IntKind.i64 (d/(G:Int)));refine(HYt.out _ Il).mono ?_;rintro e w6 ⟨rfl,aF⟩))
  go_wp2_with fail
  go_ret
  refine⟨by simp[ByteArray.mk_append_mk],?_⟩
  exact(hb1.drew.trans (az.mono hb1.size)).trans (aF.mono (fg hb1.size az.size))
theorem Im{x d:Int}(hx: -16000000<=x/\x<=16000000)(hd:0<d/\d<=300000):(Pl.nM (Ge.aW x d)).length<=50:=by
 have iu:Ge.aW x d=(x.tdiv (Int.gcd x d),d.tdiv (Int.gcd x d)):=by
  unfold Ge.aW;rw[af (by omega)];rfl
 have bx:=se x (Int.gcd x d);have bd:=se d (Int.gcd x d);rw[iu];have h1:=Lib.itoa_length_le (x.tdiv (Int.gcd x d)) (by omega) (by omega)
 have h2:=Lib.itoa_length_le (d.tdiv (Int.gcd x d)) (by omega) (by omega)
 unfold Pl.nM;split
 ·show(Lib.itoa (x.tdiv (Int.gcd x d))).length<=50;omega
 ·show(Lib.itoa (x.tdiv (Int.gcd x d))++([47]++Lib.itoa (d.tdiv (Int.gcd x d)))).length<=50;simp;omega
theorem aeE(N1 N2:Nat)(X Y P:Int)(X1 X2:List UInt8)(w:World)(hG:Gl w)(h1:X1.length<=50)(h2:X2.length<=50)
  (hc1:∀w,(convert 120 3 (.float .f64 N1)).run Tryz.prog w=.ok (.int .i64 X) w)
  (hc2:∀w,(convert 120 3 (.float .f64 N2)).run Tryz.prog w=.ok (.int .i64 Y) w)
  (HN:Hid (∀w1,Gl w1->Calls Tryz.prog 178 #[.int .i64 X,.int .i64 P] w1 fun e w'=>e=.returned (.string ⟨X1.toArray⟩)/\Below w1.heap.size w1 w'))
  (HD:Hid (∀w1,Gl w1->Calls Tryz.prog 178 #[.int .i64 Y,.int .i64 P] w1 fun e w'=>e=.returned (.string ⟨X2.toArray⟩)/\Below w1.heap.size w1 w')):
  Calls Tryz.prog 122 #[.agg #[.complex .f64 N1 N2,.int .i64 P]] w fun e w'=>e=.returned (.string ⟨(X1++([32]++X2)).toArray⟩)/\Below w.heap.size w w':=by
 have hs1:¬9223372036854775807<X1.length+1:=by omega
 have hs2:¬9223372036854775807<X1.length+1+X2.length:=by omega
 have hb0:Below w.heap.size w (w.alloc (.cells #[.complex .f64 N1 N2,.int .i64 P] 83)):=(Below.refl _ _).alloc (ay _) _;have hE:=heap_alloc_new w (.cells #[.complex .f64 N1 N2,.int .i64 P] 83);have hz:w.heap.size<(w.alloc (.cells #[.complex .f64 N1 N2,.int .i64 P] 83)).heap.size:=by simp
 have vQ:Gl (w.alloc (.cells #[.complex .f64 N1 N2,.int .i64 P] 83)):=hG.alloc _
 go_enter Tryz.func122,Tryz.ntmps122
 go_wp2_with fail
 generalize w.alloc (.cells #[.complex .f64 N1 N2,.int .i64 P] 83)=W at*;generalize hB:w.heap.size=B at*;have r0:W.cell? ⟨B,0,none⟩=some (.complex .f64 N1 N2):=cell_of hE 0;have r1:W.cell? ⟨B,1,none⟩=some (.int .i64 P):=cell_of hE 1
 go_region_held3 (fun w'=>w'.cell? ⟨B,0,none⟩=some (.complex .f64 N1 N2)/\w'.cell? ⟨B,1,none⟩=some (.int .i64 P)) (go_keep) (first
   |(go_at_call_of 178 (Value.int IntKind.i64 X);refine(HN.out _ vQ.drew).mono ?_;rintro e w5 ⟨rfl,az⟩;have Il:=vQ.drew.below az vQ.sz;have q0:=(az.cell (p:=⟨B,0,none⟩) hz).trans r0;have q1:=(az.cell (p:=⟨B,1,none⟩) hz).trans r1)
   |(go_at_call_of 178 (Value.int IntKind.i64 Y);refine(HD.out _ Il).mono ?_;rintro e w6 ⟨rfl,aF⟩;have s0:=(aF.cell (p:=⟨B,0,none⟩) (bu hz az.size)).trans q0;have s1:=(aF.cell (p:=⟨B,1,none⟩) (bu hz az.size)).trans q1)
   |(simp only)
   |(simp only[hc2]))
 all_goals
  go_wp2_with fail
  go_ret
  refine⟨by simp[ByteArray.mk_append_mk],?_⟩
  rw[hB];exact(hb0.drew.trans (az.mono (eJ hz))).trans (aF.mono (fg (eJ hz) az.size))
theorem aeF(n:Ge.Nd)(hn:dM n.1 n.2.1 n.2.2)(w:World)(hG:Gl w):
  Calls Tryz.prog 122 #[gZ n] w fun e w'=>e=.returned (.string ⟨(Pl.gI (Ge.ax n)).toArray⟩)/\Below w.heap.size w w':=by
 obtain⟨a1,a2⟩:=qD hn;have hx:=hn.x;have hy:=hn.y;have c1:=a1.int (by omega) (by omega)
 have c2:=a2.int (by omega) (by omega)
 exact aeE _ _ n.1 n.2.1 n.2.2 (Pl.nM (Ge.aW n.1 n.2.2)) (Pl.nM (Ge.aW n.2.1 n.2.2)) w hG (Im (by omega) hn.d) (Im (by omega) hn.d)
  (fun w=>run_convert_float_int w 120 3 .f64 .i64 _ _ (by rw[Tryz.underlying120];rfl) Tryz.underlying3 c1)
  (fun w=>run_convert_float_int w 120 3 .f64 .i64 _ _ (by rw[Tryz.underlying120];rfl) Tryz.underlying3 c2)
  (fun w1 g1=>Uc _ _ w1 g1 (by omega) hn.d) (fun w1 g1=>Uc _ _ w1 g1 (by omega) hn.d)
end Go.Proofs.YtkjhhooecopolaaGreatDoor

namespace Go.Proofs.YtkjhhooecopolaaGreatDoor
open Go.RowKit
def ib(n:Ge.Nd):List Value:=[.complex .f64 (floatOfInt .f64 n.1) (floatOfInt .f64 n.2.1),.int .i64 n.2.2]
def dF(l:List Ge.Nd):List Value:=l.flatMap ib
def iy(w:World)(v:Value)(l:List Ge.Nd):Prop:=w.ownsRow 0 83 2 v l.length (dF l)
theorem De:∀(l:List Ge.Nd)(k:Nat)(e:Ge.Nd),l[k]?=some e->∀j,j<2->(dF l)[k*2+j]?=(ib e)[j]?
 |[],_,_,h,_,_=>by simp at h
 |q::r,0,e,h,j,hj=>by
  simp at h;subst h;have e1:dF (q::r)=ib q++dF r:=by simp[dF]
  rw[e1,fC (by simp[ib];omega)]
  simp
 |q::r,k+1,e,h,j,hj=>by
  have ih:=De r k e (by simpa using h) j hj
  have e1:dF (q::r)=ib q++dF r:=by simp[dF]
  rw[e1,n9 (by simp[ib];omega)]
  have e2:(k+1)*2+j-(ib q).length=k*2+j:=by simp[ib];omega
  rw[e2,ih]
theorem Mg(l:List Ge.Nd)(e:Ge.Nd):dF (l++[e])=dF l++ib e:=by simp[dF]
theorem Io{w:World}{v:Value}{l:List Ge.Nd}(h:iy w v l):∃so cap,v=.slice so l.length cap:=by
 rcases h.2 with⟨hv,h0⟩|⟨b,cap,cur,hv,_⟩
 ·exact⟨none,0,by rw[hv,h0]⟩
 ·exact⟨_,cap,hv⟩
theorem Ip{w:World}{so:Option Addr}{n cap:Nat}{l:List Ge.Nd}(h:iy w (.slice so n cap) l){k:Nat}{e:Ge.Nd}(he:l[k]?=some e):
  ∃b,so=some ⟨b,0,none⟩/\b<w.heap.size/\w.cell? ⟨b,k*2,none⟩=some (.complex .f64 (floatOfInt .f64 e.1) (floatOfInt .f64 e.2.1))/\w.cell? ⟨b,k*2+1,none⟩=some (.int .i64 e.2.2):=by
 have g:=De l k e he;obtain⟨b,c,hv,hb,hc⟩:=GZ h (g 0 (by omega))
 injection hv with hv;exact⟨b,hv,hb,hc _ _ (g 0 (by omega)),hc _ _ (g 1 (by omega))⟩
theorem Ue(f:Ge.Qt->List UInt8):∀l:List Ge.Qt,Lib.join (l.map f) [44,32]=Pl.bh f l
 |[]=>rfl
 |[x]=>by simp[Lib.join_one,Pl.bh]
 |x::y::r=>by
  have ih:=Ue f (y::r);simp only[Pl.bh,<-ih];simp[Lib.join,List.intercalate]
theorem Mh:(Tryz.prog.info? 9).map (fun i=>(i.zero,i.size,i.bytes))=some (some (.string ⟨#[]⟩),1,16):=by kernel_rfl
def nN(l:List Ge.Nd):List ByteArray:=l.map fun n=>⟨(Pl.gI (Ge.ax n)).toArray⟩
theorem aeG(l:List Ge.Nd):(nN l).map (·.data.toList)=(l.map Ge.ax).map Pl.gI:=by simp[nN]
def SI(w:World)(lv:Value)(xs:List ByteArray)(wr:World):Prop:=wr.ownsRow w.heap.size 9 1 lv xs.length (xs.map Value.string)/\Below w.heap.size w wr
theorem Mi{n:Ge.Nd}(h:dM n.1 n.2.1 n.2.2):(Pl.gI (Ge.ax n)).length<=101:=by
 have hx:=h.x;have hy:=h.y;have h1:=Im (x:=n.1) (d:=n.2.2) (by omega) h.d
 have h2:=Im (x:=n.2.1) (d:=n.2.2) (by omega) h.d
 show(Pl.nM (Ge.aW n.1 n.2.2)++([32]++Pl.nM (Ge.aW n.2.1 n.2.2))).length<=101;simp;omega
end Go.Proofs.YtkjhhooecopolaaGreatDoor
namespace Go.Proofs.YtkjhhooecopolaaGreatDoor.Ge
def met(e f:Pt×Pt)(q:Qt):Prop:=cK e f≠0/\q=fw e f/\hq (fw e f) e=true/\hq (fw e f) f=true
theorem aeH{e f:Pt×Pt}{q:Qt}(h:met e f q):met f e q:=by
 obtain⟨a,b,c,d⟩:=h;have a':cK f e≠0:=by rw[TM];omega
 have m:=aek a;exact⟨a',by rw[m];exact b,by rw[m];exact d,by rw[m];exact c⟩
theorem aeI(e:Pt×Pt):cK e e=0:=by unfold cK;grind
theorem aeJ(l:List (Pt×Pt))(e:Pt×Pt)(q:Qt):isNode (l++[e]) q↔isNode l q\/q=pt e.1\/q=pt e.2\/∃f∈l,met e f q:=by
 unfold isNode;constructor
 ·rintro(⟨g,hg,h⟩|⟨g,hg,f,hf,h⟩)
  ·rcases bQ.1 hg with hg|hg
   ·exact ag (ag ⟨g,hg,h⟩)
   ·rw[bY] at hg;subst hg;rcases h with h|h
    ·exact ah (ag h)
    ·exact ah (ah (ag h))
  ·rcases bQ.1 hg with hg|hg
   ·rcases bQ.1 hf with hf|hf
    ·exact ag (ah ⟨g,hg,f,hf,h⟩)
    ·rw[bY] at hf;rw[hf] at h;exact ah (ah (ah ⟨g,hg,aeH h⟩))
   ·rw[bY] at hg;rw[hg] at h;rcases bQ.1 hf with hf|hf
    ·exact ah (ah (ah ⟨f,hf,h⟩))
    ·rw[bY] at hf;rw[hf] at h;exact absurd (aeI e) h.1
 ·have m1:∀{x},x∈l->x∈l++[e]:=fun h=>nr _ h
  have m2:e∈l++[e]:=by simp
  rintro((⟨g,hg,h⟩|⟨g,hg,f,hf,h⟩)|h|h|⟨f,hf,h⟩)
  ·exact ag ⟨g,m1 hg,h⟩
  ·exact ah ⟨g,m1 hg,f,m1 hf,h⟩
  ·exact ag ⟨e,m2,ag h⟩
  ·exact ag ⟨e,m2,ah h⟩
  ·exact ah ⟨e,m2,f,m1 hf,h⟩
def cS:List Nd->List Nd
 |[]=>[]
 |[a]=>[a]
 |a::b::r=>if a=b then cS (b::r) else a::cS (b::r)
theorem xX:∀(l:List Nd)(x:Nd),x∈cS l↔x∈l
 |[],x=>by simp[cS]
 |[a],x=>by simp[cS]
 |a::b::r,x=>by
  have ih:=xX (b::r) x;unfold cS;split
  ·rename_i h
   subst h;rw[ih];simp
  ·rw[aP,ih];simp
def le(a b:Nd):Prop:=¬lt (ax b) (ax a)
theorem zY{a b:Nd}(ha:Can a)(hb:Can b)(h:le a b)(hne:a≠b):lt (ax a) (ax b):=by
 unfold le lt at h;unfold lt;rw[He] at h;rcases eK (pc (ax a) (ax b)) 0 with h1|h1|h1
 ·exact h1
 ·exact absurd (um ha hb h1) hne
 ·omega
theorem lt_le_trans{a b c:Nd}(ha:Can a)(hb:Can b)(hc:Can c)(h1:lt (ax a) (ax b))(h2:le b c):lt (ax a) (ax c):=by
 by_cases h:b=c
 ·subst h;exact h1
 ·exact lt_trans (df ha) (df hb) (df hc) h1 (zY hb hc h2 h)
theorem Uf:∀(l:List Nd),(∀n∈l,Can n)->l.Pairwise le->(cS l).Pairwise (fun a b=>lt (ax a) (ax b))
 |[],_,_=>List.Pairwise.nil
 |[a],_,_=>by simp[cS]
 |a::b::r,hc,hp=>by
  have hp2:=(fK.1 hp).2;have hp1:=(fK.1 hp).1;have ih:=Uf (b::r) (fun n h=>hc n (by simp[List.mem_cons] at h⊢;exact ah h)) hp2
  unfold cS;split
  ·exact ih
  ·rename_i hne
   refine fK.2 ⟨fun x hx=>?_,ih⟩
   have hx':=(xX (b::r) x).1 hx;have ca:=hc a (by simp)
   have cb:=hc b (by simp)
   have hab:=zY ca cb (hp1 b (by simp)) hne
   rcases aP.1 hx' with h|h
   ·subst h;exact hab
   ·exact lt_le_trans ca cb (hc x (by simp[h])) hab ((fK.1 hp2).1 x h)
theorem aeK(es:List (Pt×Pt))(S:List Nd)(hc:∀n∈S,Can n)(hp:S.Pairwise le)(hm:∀q,(∃n∈S,ax n=q)↔isNode es q):(cS S).map ax=gV es:=by
 obtain⟨h1,h2,h3⟩:=xP es;refine SH (fun q hq=>?_) h1 ?_ h2 (fun q=>?_)
 ·obtain⟨n,hn,rfl⟩:=aN.1 hq;exact df (hc n ((xX S n).1 hn))
 ·exact lR.2 (Uf S hc hp)
 ·rw[h3,<-hm,aN];constructor
  ·rintro⟨n,hn,h⟩;exact⟨n,(xX S n).1 hn,h⟩
  ·rintro⟨n,hn,h⟩;exact⟨n,(xX S n).2 hn,h⟩
end Go.Proofs.YtkjhhooecopolaaGreatDoor.Ge
namespace Go.Proofs.YtkjhhooecopolaaGreatDoor
open Go.RowKit
theorem Ug:(Tryz.prog.info? 83).map (fun i=>(i.zero,i.size,i.bytes))=some (some (.agg #[.complex .f64 0 0,.int .i64 0]),2,24):=by kernel_rfl
theorem Uh:∀l:List Ge.Nd,(Ge.cS l).length<=l.length
 |[]=>by simp[Ge.cS]
 |[a]=>by simp[Ge.cS]
 |a::b::r=>by
  have ih:=Uh (b::r);unfold Ge.cS;split
  ·simp only[cN] at ih⊢;omega
  ·simp only[cN] at ih⊢;omega
structure NL(w:World)(lv:Value)(L:List Ge.Nd)(wr:World):Prop where
 own:wr.ownsRow w.heap.size 83 2 lv L.length (dF L)
 below:Below w.heap.size w wr
 can:∀n∈L,Ge.Can n
 inn:∀n∈L,dM n.1 n.2.1 n.2.2
def NS(w:World)(lv:Value)(l:List Ed)(k:Nat)(wr:World):Prop:=
 ∃L,NL w lv L wr/\(∀q,(∃n∈L,Ge.ax n=q)↔Ge.isNode l q)/\L.length<=k
structure sy(w:World)(B:Nat)(x:EB)(e:Ed)(es:List Ed)(i j:Nat)(lv:Value)(L:List Ge.Nd)(wr:World):Prop where
 nl:NL w lv L wr
 lt:B<wr.heap.size
 ne:lv.ownBlock≠some B
 c0:wr.cell? ⟨B,0,none⟩=some (.complex .f64 x.wa x.wb)
 c1:wr.cell? ⟨B,1,none⟩=some (.float .f64 x.sh)
 c2:wr.cell? ⟨B,2,none⟩=some (.complex .f64 x.fa x.fb)
 c3:wr.cell? ⟨B,3,none⟩=some (.complex .f64 x.ta x.tb)
 iff:∀q,(∃n∈L,Ge.ax n=q)↔Ge.isNode (es.take i) q\/q=Ge.pt e.1\/q=Ge.pt e.2\/∃f∈es.take j,Ge.met e f q
 len:L.length<=i*404+2+j
theorem sy.keep{w:World}{B:Nat}{x:EB}{e:Ed}{es:List Ed}{i j:Nat}{lv:Value}{L:List Ge.Nd}{wr w':World}(h:sy w B x e es i j lv L wr)(hb:Below wr.heap.size wr w'):sy w B x e es i j lv L w':=
 ⟨⟨aU h.nl.own fun k hk=>hb.block k (aB h.nl.own k hk).2,h.nl.below.trans (hb.mono h.nl.below.size),h.nl.can,h.nl.inn⟩,bu h.lt hb.size,h.ne,(hb.cell (p:=⟨B,0,none⟩) h.lt).trans h.c0,(hb.cell (p:=⟨B,1,none⟩) h.lt).trans h.c1,(hb.cell (p:=⟨B,2,none⟩) h.lt).trans h.c2,(hb.cell (p:=⟨B,3,none⟩) h.lt).trans h.c3,h.iff,h.len⟩
theorem Ui{es:List Ed}{j:Nat}{f e:Ed}(hf:es[j]?=some f)(q:Ge.Qt):(∃f'∈es.take (j+1),Ge.met e f' q)↔(∃f'∈es.take j,Ge.met e f' q)\/Ge.met e f q:=by
 have h:es.take (j+1)=es.take j++[f]:=by rw[jF,hf];rfl
 rw[h];constructor
 ·rintro⟨g,hg,h⟩;rcases bQ.1 hg with hg|hg
  ·exact ag ⟨g,hg,h⟩
  ·rw[bY] at hg;rw[hg] at h;exact ah h
 ·rintro(⟨g,hg,h⟩|h)
  ·exact⟨g,by simp[hg],h⟩
  ·exact⟨f,by simp,h⟩
theorem sy.skip{w:World}{B:Nat}{x:EB}{e:Ed}{es:List Ed}{i j:Nat}{lv:Value}{L:List Ge.Nd}{wr:World}{f:Ed}(h:sy w B x e es i j lv L wr)(hf:es[j]?=some f)(hn:¬(Ge.cK e f≠0/\Ge.hq (Ge.fw e f) e=true/\Ge.hq (Ge.fw e f) f=true)):sy w B x e es i (j+1) lv L wr:=
 ⟨h.nl,h.lt,h.ne,h.c0,h.c1,h.c2,h.c3,fun q=>by
  have hm:¬Ge.met e f q:=fun m=>hn ⟨m.1,m.2.2⟩
  rw[h.iff q,Ui hf q];simp[hm],by have:=h.len;omega⟩
theorem aeL(es:List Ed)(v:Value)(w:World)(hR:iW w v es)(hl:es.length<=402)(hs:∀e∈es,eO e)
  (HS:Hid (∀lv L wr,NL w lv L wr->L.length<=200000->Calls Tryz.prog 124 #[lv,.func (.func 125) #[] #[]] wr fun r w'=>r=.returned (.tuple #[])/\∃S,NL w lv S w'/\(∀n,n∈S↔n∈L)/\S.length=L.length/\S.Pairwise Ge.le))
  (HK:Hid (∀lv S wr,NL w lv S wr->S.length<=200000->Calls Tryz.prog 126 #[lv] wr fun r w'=>∃v',r=.returned v'/\iy w' v' (Ge.cS S)/\Below w.heap.size w w')):
  Calls Tryz.prog 72 #[v] w fun e w'=>∃v' l,e=.returned v'/\iy w' v' l/\Below w.heap.size w w'/\l.map Ge.ax=Ge.gV es/\(∀n∈l,dM n.1 n.2.1 n.2.2)/\l.length<=200000/\(∀n∈l,Ge.Can n):=by
 obtain⟨so,cap,rfl⟩:=Hc hR;obtain⟨i0,hi,hz0,hz1,hz2⟩:=info_parts Ug;have HR:Hid (iW w (.slice so es.length cap) es):=hR;clear hR
 go_enter Tryz.func72,Tryz.ntmps72
 go_wp2_with fail
 have bW:Hid (NS w (.slice none 0 0) [] 0 w):=⟨[],⟨World.ownsRow_nil _ _ _ _,Below.refl _ _,fun n h=>by simp at h,fun n h=>by simp at h⟩,fun q=>by simp[Ge.isNode],by simp⟩
 go_loopg [3,12] es.length (fun m lv iv wr=>∃i:Nat,i+m=es.length/\iv=.int .i64 i/\Hid (NS w lv (es.take i) (i*404) wr))
 case atStart=>exact⟨0,by omega,rfl,bW⟩
 case round=>
  obtain⟨i,him,rfl,HE⟩:=hrel;clear bW;by_cases hlt:i<es.length
  ·obtain⟨e,he⟩:∃e,es[i]?=some e:=⟨_,aC hlt⟩;obtain⟨b,x,rfl,hb,hx,c0,c1,c2,c3⟩:=Hd HR.out he;obtain⟨L,zZ,Df,jN⟩:=HE.out;have aw:=zZ.below;have r0:=(aw.cell (p:=⟨b,i*4,none⟩) hb).trans c0;have r1:=(aw.cell (p:=⟨b,i*4+1,none⟩) hb).trans c1;have r2:=(aw.cell (p:=⟨b,i*4+2,none⟩) hb).trans c2;have r3:=(aw.cell (p:=⟨b,i*4+3,none⟩) hb).trans c3;have kq:=hs e (aZ he);obtain⟨n1,n1c,Mj,Uj,Mk⟩:=Ie 1 hx.fa hx.fb (by have:=kq.a;unfold small at this;omega) (by have:=kq.b;unfold small at this;omega) (by omega)
   obtain⟨n2,Uk,Ml,Ul,vR⟩:=Ie 1 hx.ta hx.tb (by have:=kq.c;unfold small at this;omega) (by have:=kq.d;unfold small at this;omega) (by omega)
   rw[Ge.Hf,Ge.Hf] at Mj Ml;have HX:Hid (jK x e):=hx;have HEM:Hid (e∈es):=aZ he;have HEI:Hid (es[i]?=some e):=he;have z8:Hid (NL w u3 L wr):=zZ;have sA:Hid (∀q,(∃n∈L,Ge.ax n=q)↔Ge.isNode (es.take i) q):=Df;have Dg:Hid (Ge.ax n1=Ge.pt e.1/\Ge.Can n1/\dM n1.1 n1.2.1 n1.2.2):=⟨Mj,n1c,Uj⟩;have Dh:Hid (Ge.ax n2=Ge.pt e.2/\Ge.Can n2/\dM n2.1 n2.2.1 n2.2.2):=⟨Ml,Uk,Ul⟩;have fN:(i:Int)<(es.length:Int):=by omega
   have hbr:b<wr.heap.size:=bu hb aw.size;obtain⟨wa,wb,sh,fa,fb,ta,tb⟩:=x;simp only at r0 r1 r2 r3 Mk vR;have xV:Hid (∀w1,Calls Tryz.prog 37 #[.complex .f64 fa fb,.int .i64 1] w1 fun e w'=>e=.returned (gZ n1)/\Below w1.heap.size w1 w'):=Mk
   have xW:Hid (∀w1,Calls Tryz.prog 37 #[.complex .f64 ta tb,.int .i64 1] w1 fun e w'=>e=.returned (gZ n2)/\Below w1.heap.size w1 w'):=vR
   clear c0 c1 c2 c3 zZ Df hx Mk vR n1c Mj Uj Uk Ml Ul he HE kq
   go_wp2_with (first |(simp only[fW];go_simp)|(simp only[oD];go_simp)|(simp only[fW,oD];go_simp))
   have hE:=heap_alloc_new wr (.cells #[.complex .f64 wa wb,.float .f64 sh,.complex .f64 fa fb,.complex .f64 ta tb] 124);have hbW:=aw.alloc aw.size (.cells #[.complex .f64 wa wb,.float .f64 sh,.complex .f64 fa fb,.complex .f64 ta tb] 124);have Um:(wr.alloc (.cells #[.complex .f64 wa wb,.float .f64 sh,.complex .f64 fa fb,.complex .f64 ta tb] 124)).ownsRow w.heap.size 83 2 u3 L.length (dF L):=aU z8.out.own fun k hk=>Below.heap_alloc _ _ _ (aB z8.out.own k hk).2
   have rT:wr.heap.size<(wr.alloc (.cells #[.complex .f64 wa wb,.float .f64 sh,.complex .f64 fa fb,.complex .f64 ta tb] 124)).heap.size:=by simp
   have Di:∀k,u3.ownBlock=some k->k<wr.heap.size:=fun k hk=>(aB z8.out.own k hk).2
   have Un:w.heap.size<=wr.heap.size:=aw.size;generalize wr.alloc (.cells #[.complex .f64 wa wb,.float .f64 sh,.complex .f64 fa fb,.complex .f64 ta tb] 124)=W at*;generalize CO:wr.heap.size=B at*;have a0:W.cell? ⟨B,0,none⟩=some (.complex .f64 wa wb):=cell_of hE 0;have a1:W.cell? ⟨B,1,none⟩=some (.float .f64 sh):=cell_of hE 1;have a2:W.cell? ⟨B,2,none⟩=some (.complex .f64 fa fb):=cell_of hE 2;have a3:W.cell? ⟨B,3,none⟩=some (.complex .f64 ta tb):=cell_of hE 3;have vS:Hid (ib n1=[.complex .f64 (floatOfInt .f64 n1.1) (floatOfInt .f64 n1.2.1),.int .i64 n1.2.2]):=rfl;have vT:Hid (ib n2=[.complex .f64 (floatOfInt .f64 n2.1) (floatOfInt .f64 n2.2.1),.int .i64 n2.2.2]):=rfl;unfold gZ at xV xW;generalize floatOfInt .f64 n1.1=A1 at*;generalize floatOfInt .f64 n1.2.1=A2 at*;generalize floatOfInt .f64 n2.1=A4 at*;generalize floatOfInt .f64 n2.2.1=A5 at*;have Dj:some B≠u3.ownBlock:=fun h=>abc _ (Di B h.symm)
   clear r0 r1 r2 r3 hE;refine wp_region_held_drew (S:=(fun w'=>w'.cell? ⟨B,0,none⟩=some (.complex .f64 wa wb)/\w'.cell? ⟨B,1,none⟩=some (.float .f64 sh)/\w'.cell? ⟨B,2,none⟩=some (.complex .f64 fa fb)/\w'.cell? ⟨B,3,none⟩=some (.complex .f64 ta tb))) (by kernel_rfl) ⟨a0,a1,a2,a3⟩ (fun hHeld=>?_)
   refine wpAnyH_take (i:=0) (oi:={dst:=some 17,op:=_,type:=_,pos:=_,after:=_,guard:=_}) (v:=?_) rfl (by kernel_rfl) (by kernel_rfl) (by kernel_rfl) (fun _ _ _ h=>h) (ag ⟨by rfl,?_⟩) hHeld ?_
   rotate_left
   ·intro w' aA;obtain⟨s0,s1,s2,s3⟩:=aA
    go_simp
    try with_reducible rfl
   simp only[Act.put,aH,aI,aG];refine wpAnyH_take (i:=1) (oi:={dst:=some 18,op:=_,type:=_,pos:=_,after:=_,guard:=_}) (v:=?_) rfl (by kernel_rfl) (by kernel_rfl) (by kernel_rfl) (fun _ _ _ h=>h) (ag ⟨by rfl,?_⟩) hHeld ?_
   rotate_left
   ·intro w' aA;obtain⟨s0,s1,s2,s3⟩:=aA
    go_simp
    try with_reducible rfl
   simp only[Act.put,aH,aI,aG];refine wpAnyH_take (i:=2) (oi:={dst:=some 19,op:=_,type:=_,pos:=_,after:=_,guard:=_}) (v:=?_) rfl (by kernel_rfl) (by kernel_rfl) (by kernel_rfl) (fun _ _ _ h=>h) (ag ⟨by rfl,?_⟩) hHeld ?_
   rotate_left
   ·intro w' aA;obtain⟨s0,s1,s2,s3⟩:=aA
    go_simp
    try with_reducible rfl
   simp only[Act.put,aH,aI,aG];refine wpAnyH_take (i:=4) (oi:={dst:=some 21,op:=_,type:=_,pos:=_,after:=_,guard:=_}) (v:=?_) rfl (by kernel_rfl) (by kernel_rfl) (by kernel_rfl) (fun _ _ _ h=>h) (ag ⟨by rfl,?_⟩) hHeld ?_
   rotate_left
   ·intro w' aA;obtain⟨s0,s1,s2,s3⟩:=aA
    go_simp
    try with_reducible rfl
   simp only[Act.put,aH,aI,aG];refine wpAnyH_take (i:=5) (oi:={dst:=some 22,op:=_,type:=_,pos:=_,after:=_,guard:=_}) (v:=?_) rfl (by kernel_rfl) (by kernel_rfl) (by kernel_rfl) (fun _ _ _ h=>h) (ag ⟨by rfl,?_⟩) hHeld ?_
   rotate_left
   ·intro w' aA;obtain⟨s0,s1,s2,s3⟩:=aA
    go_simp
    try with_reducible rfl
   simp only[Act.put,aH,aI,aG];refine wpAnyH_ready (rs:=[3]) (by kernel_rfl) (by simp) ?_
   refine AllReadyH.cons rfl (fun K hK=>?_) AllReadyH.nil
   go_simp
   refine(xV.out _).mono ?_;rintro e w6 ⟨rfl,aF⟩;have b0:=(aF.cell (p:=⟨B,0,none⟩) rT).trans a0;have b1:=(aF.cell (p:=⟨B,1,none⟩) rT).trans a1;have b2:=(aF.cell (p:=⟨B,2,none⟩) rT).trans a2;have b3:=(aF.cell (p:=⟨B,3,none⟩) rT).trans a3;have vU:=bu rT aF.size;have fY:=aU Um.drew fun k hk=>aF.block k (abb (Di k hk) rT)
   go_wp2_with fail
   refine hK.out _ _ ⟨b0,b1,b2,b3⟩ (fun hHeld=>?_)
   clear hK K
   try simp only[Act.put,aH,aI,aG]
   refine wpAnyH_ready (rs:=[6]) (by kernel_rfl) (by simp) ?_
   refine AllReadyH.cons rfl (fun K hK=>?_) AllReadyH.nil
   go_simp
   refine(xW.out _).mono ?_;rintro e w7 ⟨rfl,aV⟩;have c0:=(aV.cell (p:=⟨B,0,none⟩) vU).trans b0;have c1:=(aV.cell (p:=⟨B,1,none⟩) vU).trans b1;have c2:=(aV.cell (p:=⟨B,2,none⟩) vU).trans b2;have c3:=(aV.cell (p:=⟨B,3,none⟩) vU).trans b3;have uo:=bu vU aV.size;have Iq:=aU fY fun k hk=>aV.block k (abb (Di k hk) vU)
   go_wp2_with fail
   refine hK.out _ _ ⟨c0,c1,c2,c3⟩ (fun hHeld=>?_)
   clear hK K
   try simp only[Act.put,aH,aI,aG]
   refine wpAnyH_ready (rs:=[7]) (by kernel_rfl) (by simp) ?_
   refine AllReadyH.cons rfl (fun K hK=>?_) AllReadyH.nil
   go_simp
   refine hK.out _ _ ⟨(jw _ _ uo).trans c0,(jw _ _ uo).trans c1,(jw _ _ uo).trans c2,(jw _ _ uo).trans c3⟩ (fun hHeld=>?_)
   clear hK K
   try simp only[Act.put,aH,aI,aG]
   refine wpAnyH_ready (rs:=[8]) (by kernel_rfl) (by simp) ?_
   refine AllReadyH.cons rfl (fun K hK=>?_) AllReadyH.nil
   refine step_append_lies _ rfl (.tmp 17) (.tmp 24) 138 rfl w.heap.size 83 i0 _ 2 24 Tryz.underlying138 hi hz0 hz1 hz2 rfl (by decide) u3 L.length (dF L) rfl (aU Iq (fun k hk=>Below.heap_alloc _ _ _ (aB Iq k hk).2)) ⟨w7.heap.size,0,none⟩ 2 2 [.complex .f64 A1 A2,.int .i64 n1.2.2,.complex .f64 A4 A5,.int .i64 n2.2.2] rfl rfl (World.news_of_block (cs:= #[.complex .f64 A1 A2,.int .i64 n1.2.2,.complex .f64 A4 A5,.int .i64 n2.2.2]) (t:=83) (fr:=(0,0)) (heap_alloc_new w7 _)) (by simp[Value.oneCell']) (by decide) (by unfold maxLen;omega) (by omega) (by simp;omega) (w7.heap.size+1) (by simp) ?_
   intro g' cap' w8 cU bo gJ pP;have d0:=(bo.cell_far ⟨B,0,none⟩ (by simp;omega) Dj).trans ((jw _ _ uo).trans c0)
   have d1:=(bo.cell_far ⟨B,1,none⟩ (by simp;omega) Dj).trans ((jw _ _ uo).trans c1)
   have d2:=(bo.cell_far ⟨B,2,none⟩ (by simp;omega) Dj).trans ((jw _ _ uo).trans c2)
   have d3:=(bo.cell_far ⟨B,3,none⟩ (by simp;omega) Dj).trans ((jw _ _ uo).trans c3)
   go_simp
   refine hK.out _ _ ⟨d0,d1,d2,d3⟩ (fun hHeld=>?_)
   clear hK K
   try simp only[Act.put,aH,aI,aG]
   refine wpAnyH_take (i:=9) (oi:={dst:=some 3,op:=_,type:=_,pos:=_,after:=_,guard:=_}) (v:=?_) rfl (by kernel_rfl) (by kernel_rfl) (by kernel_rfl) (fun _ _ _ h=>h) (ag ⟨by rfl,?_⟩) hHeld ?_
   rotate_left
   ·intro w' aA;obtain⟨s0,s1,s2,s3⟩:=aA
    go_simp
    try with_reducible rfl
   simp only[Act.put,aH,aI,aG];refine wpAnyH_done (by kernel_rfl) ?_ _
   have Uo:Below w.heap.size w w8:=by
    have q6:=hbW.drew.trans (aF.mono (fg Un (eJ rT)));have q7:=q6.trans (aV.mono (fg Un (eJ vU)));exact(q7.alloc q7.size _).grown bo (by simp;omega) (fun k hk=>(aB Iq k hk).1)
   have Ir:Hid (NL w (.slice (some ⟨g',0,none⟩) (L.length+2) cap') (L++[n1,n2]) w8):=by
    have hrow:dF (L++[n1,n2])=dF L++[.complex .f64 A1 A2,.int .i64 n1.2.2,.complex .f64 A4 A5,.int .i64 n2.2.2]:=by
     have e1:dF (L++[n1,n2])=dF L++(ib n1++ib n2):=by simp[dF]
     rw[e1,vS.out,vT.out];rfl
    refine⟨?_,Uo,fun n hn=>?_,fun n hn=>?_⟩
    ·rw[hrow,aX];exact cU
    ·rcases bQ.1 hn with h|h
     ·exact z8.out.can n h
     ·rcases aP.1 h with h|h
      ·rw[h];exact Dg.out.2.1
      ·rw[bY.1 h];exact Dh.out.2.1
    ·rcases bQ.1 hn with h|h
     ·exact z8.out.inn n h
     ·rcases aP.1 h with h|h
      ·rw[h];exact Dg.out.2.2
      ·rw[bY.1 h];exact Dh.out.2.2
   have Dk:Hid (sy w B ⟨wa,wb,sh,fa,fb,ta,tb⟩ e es i 0 (.slice (some ⟨g',0,none⟩) (L.length+2) cap') (L++[n1,n2]) w8):=by
    refine⟨Ir.out,?_,?_,d0,d1,d2,d3,fun q=>?_,by simp;omega⟩
    ·have h1:=bo.size;simp at h1;omega
    ·show some g'≠some B;intro h;injection h with h;rcases gJ with h8|h8
     ·have:=Di g' h8;omega
     ·omega
    ·have h1:=sA.out q;simp only[List.take_zero,abd,tJ,exists_false,tK];rw[<-h1];constructor
     ·rintro⟨n,hn,h⟩;rcases bQ.1 hn with hn|hn
      ·exact ag ⟨n,hn,h⟩
      ·rcases aP.1 hn with hn|hn
       ·exact ah (ag (by rw[<-h,hn,Dg.out.1]))
       ·exact ah (ah (by rw[<-h,bY.1 hn,Dh.out.1]))
     ·rintro(⟨n,hn,h⟩|h|h)
      ·exact⟨n,by simp[hn],h⟩
      ·exact⟨n1,by simp,by rw[h,Dg.out.1]⟩
      ·exact⟨n2,by simp,by rw[h,Dh.out.1]⟩
   have hcap:¬cap<i:=by
    obtain⟨_,_,ho,_⟩:=HR.out;rcases ho.2 with⟨hv,_⟩|⟨_,_,_,hv,_,_,hc,_⟩
    ·cases hv
    ·injection hv with _ _ hv;omega
   have anj:i<=cap:=by omega
   clear xV xW vS vT a0 a1 a2 a3 b0 b1 b2 b3 c0 c1 c2 c3 fY Iq cU aF aV Um Di Dj vU uo bo gJ pP hHeld
   go_wp2_with fail
   obtain⟨m1,xO⟩:∃m1,m1=gk:=⟨_,rfl⟩
   go_loopg [3,30] i (fun m lv nv wr=>∃j:Nat,j+m=i/\nv=.int .i64 j/\Hid (∃L',sy w B ⟨wa,wb,sh,fa,fb,ta,tb⟩ e es i j lv L' wr))
   case atStart=>exact⟨0,by omega,rfl,⟨_,Dk.out⟩⟩
   case round=>
    obtain⟨j,hjm,rfl,pO⟩:=hrel;clear Dk Ir d0 d1 d2 d3 sA z8 Dg Dh Uo;obtain⟨L',hI⟩:=pO.out;by_cases Tv:j<i
    ·obtain⟨f,hf⟩:∃f,es[j]?=some f:=⟨_,aC (by omega)⟩
     obtain⟨b4,y,hb4,_,hy,f0,f1,f2,f3⟩:=Hd HR.out hf;injection hb4 with hb4;injection hb4 with hb4;subst hb4;have iI:=hI.nl.below;have s0:=(iI.cell (p:=⟨b,j*4,none⟩) hb).trans f0;have s1:=(iI.cell (p:=⟨b,j*4+1,none⟩) hb).trans f1;have s2:=(iI.cell (p:=⟨b,j*4+2,none⟩) hb).trans f2;have s3:=(iI.cell (p:=⟨b,j*4+3,none⟩) hb).trans f3;have a0:=hI.c0;have a1:=hI.c1;have a2:=hI.c2;have a3:=hI.c3;obtain⟨vn,bt,nv,hM,⟨M1,M2,MP,xY⟩,Iu,Iw⟩:=aex ⟨wa,wb,sh,fa,fb,ta,tb⟩ y e f HX.out hy (hs e (HEM.out)) (hs f (aZ hf));subst xY;have HM:Hid (∀w,Calls Tryz.prog 123 #[.agg (EB.cells ⟨wa,wb,sh,fa,fb,ta,tb⟩),.agg y.cells] w fun r w'=>r=.returned (.tuple #[.agg #[.complex .f64 M1 M2,.int .i64 MP],.bool bt])/\Below w.heap.size w w'):=hM
     have Ix:Hid (bt=true↔Ge.cK e f≠0/\Ge.hq (Ge.fw e f) e=true/\Ge.hq (Ge.fw e f) f=true):=Iu;have Mm:Hid (bt=true->.agg #[.complex .f64 M1 M2,.int .i64 MP]=gZ vn/\Ge.Can vn/\Ge.ax vn=Ge.fw e f/\dM vn.1 vn.2.1 vn.2.2):=Iw;have HF:Hid (es[j]?=some f):=hf;obtain⟨ya,yb,ys,yc,yd,ye,yf⟩:=y;simp only[EB.cells] at HM s0 s1 s2 s3 a0 a1 a2 a3;have CV:(j:Int)<(i:Int):=by omega
     have Uq:=hI.lt;clear hM Iu Iw f0 f1 f2 f3 hy hf pO
     go_wp2_with (first |(simp only[fW];go_simp)|(simp only[oD];go_simp))
     have Aa:Below wr.heap.size wr (wr.alloc (.cells #[.complex .f64 ya yb,.float .f64 ys,.complex .f64 yc yd,.complex .f64 ye yf] 124)):=(Below.refl _ _).alloc (ay _) _;refine(HM.out _).mono ?_;rintro e5 w5 ⟨rfl,az⟩;have Iy:=hI.keep (Aa.trans (az.mono Aa.size));clear a0 a1 a2 a3 s0 s1 s2 s3 Aa az HM hI iI Uq;cases bt
     ·have Ur:=Iy.skip HF.out (fun h=>by have:=Ix.out.2 h;cases this)
      have l8:=Iy.nl.below;have Ab:Hid (∀o,sy w B ⟨wa,wb,sh,fa,fb,ta,tb⟩ e es i (j+1) u3 L' (w5.alloc o)):=fun o=>Ur.keep ((Below.refl w5.heap.size w5).alloc (ay _) o)
      clear Mm Ix Ur
      go_wp2_with (simp only[fW];go_simp)
      go_roundg (gk-1)
      case measure=>omega
      case rel=>exact⟨j+1,by omega,by go_num,⟨_,Ab.out _⟩⟩
     ·obtain⟨xY,Us,Ut,Ac⟩:=Mm.out rfl;have Uu:=Ix.out.1 rfl;have hnc:ib vn=[.complex .f64 M1 M2,.int .i64 MP]:=by
       unfold gZ at xY;injection xY with xY;have:=au Array.toList xY;exact this.symm
      have Dl:Hid (ib vn=[.complex .f64 M1 M2,.int .i64 MP]/\Ge.Can vn/\Ge.ax vn=Ge.fw e f/\dM vn.1 vn.2.1 vn.2.2):=⟨hnc,Us,Ut,Ac⟩;have Uv:Hid (Ge.cK e f≠0/\Ge.hq (Ge.fw e f) e=true/\Ge.hq (Ge.fw e f) f=true):=Uu;have Ad:=Iy.keep ((Below.refl w5.heap.size w5).alloc (ay _) (.cells #[.complex .f64 M1 M2,.int .i64 MP] 83));have fY:=Ad.nl.own;have ank:=Ad.len;have H9:=Ad.nl.below.size;have vE:=heap_alloc_new w5 (.cells #[.complex .f64 M1 M2,.int .i64 MP] 83);clear Mm Ix xY Us Ut Ac Uu hnc Iy
      go_wp2_with (first
       |(at_builtin;refine wpList_append_lies _ rfl (.tmp 41) (.tmp 43) 138 rfl w.heap.size 83 i0 _ 2 24 Tryz.underlying138 hi hz0 hz1 hz2 rfl (by decide) u3 L'.length (dF L') rfl (aU fY (fun k hk=>Below.heap_alloc _ _ _ (aB fY k hk).2)) ⟨w5.heap.size+1,0,none⟩ 1 1 [.complex .f64 M1 M2,.int .i64 MP] rfl rfl (World.news_of_block (cs:= #[.complex .f64 M1 M2,.int .i64 MP]) (t:=83) (fr:=(0,0)) (by have:=heap_alloc_new (w5.alloc (.cells #[.complex .f64 M1 M2,.int .i64 MP] 83)) (.cells #[.complex .f64 M1 M2,.int .i64 MP] 83);simpa using this)) (by simp[Value.oneCell']) (by decide) (by unfold maxLen;omega) (by omega) (by simp at H9⊢;omega) (w5.heap.size+2) (by simp) ?_;intro g2 cap2 w9 xZ x7 Uw aeO)
       |(simp only[fW];go_simp))
      have HN9:Hid (sy w B ⟨wa,wb,sh,fa,fb,ta,tb⟩ e es i (j+1) (.slice (some ⟨g2,0,none⟩) (L'.length+1) cap2) (L'++[vn]) w9):=by
       have oO:=Ad.keep ((Below.refl (w5.alloc (.cells #[.complex .f64 M1 M2,.int .i64 MP] 83)).heap.size _).alloc (ay _) (.cells #[.complex .f64 M1 M2,.int .i64 MP] 83));have hne:some B≠u3.ownBlock:=fun h=>oO.ne h.symm
       have Dm:=oO.lt;refine⟨⟨?_,oO.nl.below.grown x7 oO.nl.below.size (fun k hk=>(aB oO.nl.own k hk).1),fun n hn=>?_,fun n hn=>?_⟩,?_,?_,(x7.cell_far ⟨B,0,none⟩ Dm hne).trans oO.c0,(x7.cell_far ⟨B,1,none⟩ Dm hne).trans oO.c1,(x7.cell_far ⟨B,2,none⟩ Dm hne).trans oO.c2,(x7.cell_far ⟨B,3,none⟩ Dm hne).trans oO.c3,fun q=>?_,by rw[aX];show L'.length+1<=_;omega⟩
       ·rw[Mg,Dl.out.1,aX];exact xZ
       ·rcases bQ.1 hn with h|h
        ·exact oO.nl.can n h
        ·rw[bY.1 h];exact Dl.out.2.1
       ·rcases bQ.1 hn with h|h
        ·exact oO.nl.inn n h
        ·rw[bY.1 h];exact Dl.out.2.2.2
       ·exact bu Dm x7.size
       ·show some g2≠some B;intro h;injection h with h;rcases Uw with h9|h9
        ·exact oO.ne (by rw[h9,h])
        ·have:=Ad.lt;simp at this;omega
       ·have h1:=oO.iff q;rw[Ui HF.out q];constructor
        ·rintro⟨n,hn,h⟩;rcases bQ.1 hn with hn|hn
         ·rcases h1.1 ⟨n,hn,h⟩ with h|h|h|h
          ·exact ag h
          ·exact ah (ag h)
          ·exact ah (ah (ag h))
          ·exact ah (ah (ah (ag h)))
         ·rw[bY.1 hn,Dl.out.2.2.1] at h;exact ah (ah (ah (ah ⟨Uv.out.1,h.symm,Uv.out.2⟩)))
        ·rintro(h|h|h|h|h)
         ·obtain⟨n,hn,h⟩:=h1.2 (ag h);exact⟨n,by simp[hn],h⟩
         ·obtain⟨n,hn,h⟩:=h1.2 (ah (ag h));exact⟨n,by simp[hn],h⟩
         ·obtain⟨n,hn,h⟩:=h1.2 (ah (ah (ag h)));exact⟨n,by simp[hn],h⟩
         ·obtain⟨n,hn,h⟩:=h1.2 (ah (ah (ah h)));exact⟨n,by simp[hn],h⟩
         ·exact⟨vn,by simp,by rw[Dl.out.2.2.1,h.2.1]⟩
      clear xZ x7 fY Ad Uw aeO vE
      go_roundg (gk-1)
      case measure=>omega
      case rel=>exact⟨j+1,by omega,by go_num,⟨_,HN9.out⟩⟩
    ·have hj:j=i:=by omega
     subst hj;have cI:Hid (NS w u3 (es.take (j+1)) ((j+1)*404) wr):=by
      have htk:es.take (j+1)=es.take j++[e]:=by rw[jF,HEI.out];rfl
      refine⟨L',hI.nl,fun q=>?_,by have:=hI.len;omega⟩
      rw[htk,Ge.aeJ,hI.iff q]
     clear pO hI
     go_wp2_with fail
     go_roundg (m1-1)
     case measure=>omega
     case rel=>exact⟨j+1,by omega,by go_num,cI⟩
  ·have hk:i=es.length:=by omega
   subst hk;have HF:Hid (NS w u3 es (es.length*404) wr):=by
    have:=HE.out;rw[gm] at this;exact this
   clear HE HR;obtain⟨L,zZ,Df,jN⟩:=HF.out;have hL2:L.length<=200000:=by omega
   go_wp2_with fail
   refine(HS.out _ L _ zZ hL2).mono ?_;rintro e w5 ⟨rfl,S,hS,hmem,hlen,hpw⟩
   go_wp2_with fail
   refine(HK.out _ S _ hS (by omega)).mono ?_
   rintro e w6 ⟨v',rfl,Ux,aF⟩;have Mn:Hid (iy w6 v' (Ge.cS S)):=Ux;have Uy:Hid (S.length<=200000/\∀q,(∃n∈S,Ge.ax n=q)↔Ge.isNode es q):=⟨by omega,fun q=>by
    rw[<-Df q];constructor
    ·rintro⟨n,hn,h⟩;exact⟨n,(hmem n).1 hn,h⟩
    ·rintro⟨n,hn,h⟩;exact⟨n,(hmem n).2 hn,h⟩⟩
   have HPW:Hid (S.Pairwise Ge.le):=hpw;have Mp:Hid (NL w u3 S w5):=hS;clear Ux Df hmem hpw hS zZ HF HS HK
   go_wp2_with fail
   go_ret
   exact⟨v',Ge.cS S,rfl,Mn.out,aF,Ge.aeK es S Mp.out.can HPW.out Uy.out.2,fun n hn=>Mp.out.inn n ((Ge.xX S n).1 hn),fg (Uh S) Uy.out.1,fun n hn=>Mp.out.can n ((Ge.xX S n).1 hn)⟩
end Go.Proofs.YtkjhhooecopolaaGreatDoor

import Derived.Test.YtkjhhooecopolaaGreatDoorMz19
set_option maxRecDepth 100000
set_option maxHeartbeats 4000000
namespace Go.Proofs.YtkjhhooecopolaaGreatDoor
open Go.RowKit
theorem Vm(n:Int)(h1: -9223372036854775808<=n)(h2:n<=9223372036854775807)(w1:World)(g1:Gl w1):
  Calls Tryz.prog 146 #[.int .i64 n] w1 fun e w'=>e=.returned (.string ⟨(Lib.itoa n).toArray⟩)/\Below w1.heap.size w1 w':=by
 refine(Tryz.strconv_Itoa n h1 h2 w1 g1.tab).mono ?_;rintro e w' ⟨rfl,k,os,rfl⟩;exact⟨rfl,Lib.below_grow _ _ (ae _) _ _⟩
theorem Vn(x d:Int)(w:World)(hG:Gl w)(hx: -16000000<=x/\x<=16000000)(hd:0<d/\d<=300000):
  Calls Tryz.prog 178 #[.int .i64 x,.int .i64 d] w fun e w'=>e=.returned (.string ⟨(Pl.qM (Ge.aR x d)).toArray⟩)/\Below w.heap.size w w':=by
 obtain⟨G,hg⟩:∃G,Int.gcd x d=G:=⟨_,rfl⟩;have eK:Ge.aR x d=(x.tdiv G,d.tdiv G):=by
  unfold Ge.aR;rw[if_neg (by omega)];unfold CQ xN;rw[hg]
 have uv:0<G:=by rw[<-hg];exact abX _ (by omega)
 have wC:(G:Int)∣d:=by rw[<-hg];exact vD ..
 have Vo:=ab6 hd.1 wC;have ed:=Ge.Ij wC;have bx:=sL x G;have bd:=sL d G;rw[eK];have HD:Hid (∀w1,Calls Tryz.prog 65 #[.int .i64 x,.int .i64 d] w1 fun e w'=>e=.returned (.int .i64 (G:Int))/\Below w1.heap.size w1 w'):=fun w1=>by rw[<-hg];exact CZ x d w1 (by omega) (by omega)
 have hw1:IntKind.i64.wrap (x.tdiv (G:Int))=x.tdiv G:=by rw[IntKind.wrap_i64];omega
 have hw2:IntKind.i64.wrap (d.tdiv (G:Int))=d.tdiv G:=by rw[IntKind.wrap_i64];omega
 have hw3:IntKind.i64.wrap (d/(G:Int))=d.tdiv G:=by rw[<-hw2,abY (by omega)]
 have HX:Hid (∀w1,Gl w1->Calls Tryz.prog 146 #[.int .i64 (x.tdiv G)] w1 fun e w'=>e=.returned (.string ⟨(Lib.itoa (x.tdiv G)).toArray⟩)/\Below w1.heap.size w1 w'):=fun w1 g1=>Vm _ (by omega) (by omega) w1 g1
 have HY:Hid (∀w1,Gl w1->Calls Tryz.prog 146 #[.int .i64 (d.tdiv G)] w1 fun e w'=>e=.returned (.string ⟨(Lib.itoa (d.tdiv G)).toArray⟩)/\Below w1.heap.size w1 w'):=fun w1 g1=>Vm _ (by omega) (by omega) w1 g1
 have h1:=Lib.itoa_length_le (x.tdiv G) (by omega) (by omega)
 have h2:=Lib.itoa_length_le (d.tdiv G) (by omega) (by omega)
 have Tv:¬G=0:=by omega
 have Tw:(0:Int)<G:=by omega
 by_cases ML:d=G
 ·have hq:d.tdiv G=1:=by
   rw[<-ML];exact Int.tdiv_self (by omega)
  have HV:Hid (Pl.qM (x.tdiv G,d.tdiv G)=Lib.itoa (x.tdiv G)):=if_pos hq;rw[HV.out];generalize Lib.itoa (x.tdiv G)=X1 at*;clear HV h1 h2 hw2 hw3 HY hq ed bx bd Vo wC eK hg;subst ML
  go_enter Tryz.func178,Tryz.ntmps178
  go_wp2_with fail
  refine(HD.out _).mono ?_;rintro e w1 ⟨rfl,hb1⟩
  go_wp2_with fail
  refine(HX.out _ (hG.below hb1 hG.sz)).mono ?_;rintro e w2 ⟨rfl,hb2⟩
  go_wp2_with fail
  go_ret
  exact⟨rfl,hb1.trans (hb2.mono hb1.size)⟩
 ·have hq:¬d.tdiv G=1:=by
   intro h;rw[h,Int.mul_one] at ed;exact ML ed
  have HV:Hid (Pl.qM (x.tdiv G,d.tdiv G)=Lib.itoa (x.tdiv G)++([47]++Lib.itoa (d.tdiv G))):=if_neg hq;rw[HV.out];have hwd:(d/(G:Int))=d.tdiv G:=(abY (by omega)).symm
  have HYt:Hid (∀w1,Gl w1->Calls Tryz.prog 146 #[.int .i64 (d/(G:Int))] w1 fun e w'=>e=.returned (.string ⟨(Lib.itoa (d.tdiv G)).toArray⟩)/\Below w1.heap.size w1 w'):=by rw[hwd];exact HY
  generalize Lib.itoa (x.tdiv G)=X1 at*;generalize Lib.itoa (d.tdiv G)=X2 at*;have hs1:¬9223372036854775807<X1.length+1:=by omega
  have hs2:¬9223372036854775807<X1.length+1+X2.length:=by omega
  clear HV hq ed bx bd Vo wC eK hg hwd h1 h2
  go_enter Tryz.func178,Tryz.ntmps178
  go_wp2_with fail
  refine(HD.out _).mono ?_;rintro e w1 ⟨rfl,hb1⟩;have cz:Gl w1:=hG.below hb1 hG.sz
  go_wp2_with fail
  go_region_held3 (fun _=>True) (trivial) (first
   |(go_at_call_of 146 (Value.int IntKind.i64 (x.tdiv G));refine(HX.out _ cz.drew).mono ?_;rintro e w5 ⟨rfl,ai⟩;have mg:=cz.drew.below ai cz.sz)
   |(go_at_call_of 146 (Value.int IntKind.i64 (d.tdiv G));refine(HY.out _ mg).mono ?_;rintro e w6 ⟨rfl,ax⟩)
   |(go_at_call_of 146 (Value.int IntKind.i64 (d/(G:Int)));refine(HYt.out _ mg).mono ?_;rintro e w6 ⟨rfl,ax⟩))
  go_wp2_with fail
  go_ret
  refine⟨by simp[ByteArray.mk_append_mk],?_⟩
  exact(hb1.drew.trans (ai.mono hb1.size)).trans (ax.mono (dS hb1.size ai.size))
theorem Ir{x d:Int}(hx: -16000000<=x/\x<=16000000)(hd:0<d/\d<=300000):(Pl.qM (Ge.aR x d)).length<=50:=by
 have eK:Ge.aR x d=(x.tdiv (Int.gcd x d),d.tdiv (Int.gcd x d)):=by
  unfold Ge.aR;rw[if_neg (by omega)];rfl
 have bx:=sL x (Int.gcd x d);have bd:=sL d (Int.gcd x d);rw[eK];have h1:=Lib.itoa_length_le (x.tdiv (Int.gcd x d)) (by omega) (by omega)
 have h2:=Lib.itoa_length_le (d.tdiv (Int.gcd x d)) (by omega) (by omega)
 unfold Pl.qM;split
 ·show(Lib.itoa (x.tdiv (Int.gcd x d))).length<=50;omega
 ·show(Lib.itoa (x.tdiv (Int.gcd x d))++([47]++Lib.itoa (d.tdiv (Int.gcd x d)))).length<=50;simp;omega
theorem aga(N1 N2:Nat)(X Y P:Int)(X1 X2:List UInt8)(w:World)(hG:Gl w)(h1:X1.length<=50)(h2:X2.length<=50)
  (hc1:∀w,(convert 120 3 (.float .f64 N1)).run Tryz.prog w=.ok (.int .i64 X) w)
  (hc2:∀w,(convert 120 3 (.float .f64 N2)).run Tryz.prog w=.ok (.int .i64 Y) w)
  (HN:Hid (∀w1,Gl w1->Calls Tryz.prog 178 #[.int .i64 X,.int .i64 P] w1 fun e w'=>e=.returned (.string ⟨X1.toArray⟩)/\Below w1.heap.size w1 w'))
  (HD:Hid (∀w1,Gl w1->Calls Tryz.prog 178 #[.int .i64 Y,.int .i64 P] w1 fun e w'=>e=.returned (.string ⟨X2.toArray⟩)/\Below w1.heap.size w1 w')):
  Calls Tryz.prog 122 #[.agg #[.complex .f64 N1 N2,.int .i64 P]] w fun e w'=>e=.returned (.string ⟨(X1++([32]++X2)).toArray⟩)/\Below w.heap.size w w':=by
 have hs1:¬9223372036854775807<X1.length+1:=by omega
 have hs2:¬9223372036854775807<X1.length+1+X2.length:=by omega
 have hb0:Below w.heap.size w (w.alloc (.cells #[.complex .f64 N1 N2,.int .i64 P] 83)):=(Below.refl _ _).alloc (ae _) _;have hE:=heap_alloc_new w (.cells #[.complex .f64 N1 N2,.int .i64 P] 83);have hz:w.heap.size<(w.alloc (.cells #[.complex .f64 N1 N2,.int .i64 P] 83)).heap.size:=by simp
 have wD:Gl (w.alloc (.cells #[.complex .f64 N1 N2,.int .i64 P] 83)):=hG.alloc _
 go_enter Tryz.func122,Tryz.ntmps122
 go_wp2_with fail
 generalize w.alloc (.cells #[.complex .f64 N1 N2,.int .i64 P] 83)=W at*;generalize hB:w.heap.size=B at*;have r0:W.cell? ⟨B,0,none⟩=some (.complex .f64 N1 N2):=cell_of hE 0;have r1:W.cell? ⟨B,1,none⟩=some (.int .i64 P):=cell_of hE 1
 go_region_held3 (fun w'=>w'.cell? ⟨B,0,none⟩=some (.complex .f64 N1 N2)/\w'.cell? ⟨B,1,none⟩=some (.int .i64 P)) (go_keep) (first
   |(go_at_call_of 178 (Value.int IntKind.i64 X);refine(HN.out _ wD.drew).mono ?_;rintro e w5 ⟨rfl,ai⟩;have mg:=wD.drew.below ai wD.sz;have q0:=(ai.cell (p:=⟨B,0,none⟩) hz).trans r0;have q1:=(ai.cell (p:=⟨B,1,none⟩) hz).trans r1)
   |(go_at_call_of 178 (Value.int IntKind.i64 Y);refine(HD.out _ mg).mono ?_;rintro e w6 ⟨rfl,ax⟩;have s0:=(ax.cell (p:=⟨B,0,none⟩) (aL hz ai.size)).trans q0;have s1:=(ax.cell (p:=⟨B,1,none⟩) (aL hz ai.size)).trans q1)
   |(simp only)
   |(simp only[hc2]))
 all_goals
  go_wp2_with fail
  go_ret
  refine⟨by simp[ByteArray.mk_append_mk],?_⟩
  rw[hB];exact(hb0.drew.trans (ai.mono (eo hz))).trans (ax.mono (dS (eo hz) ai.size))
theorem agb(n:Ge.Nd)(hn:dm n.1 n.2.1 n.2.2)(w:World)(hG:Gl w):
  Calls Tryz.prog 122 #[gS n] w fun e w'=>e=.returned (.string ⟨(Pl.iU (Ge.aj n)).toArray⟩)/\Below w.heap.size w w':=by
 obtain⟨a1,a2⟩:=qP hn;have hx:=hn.x;have hy:=hn.y;have c1:=a1.int (by omega) (by omega)
 have c2:=a2.int (by omega) (by omega)
 exact aga _ _ n.1 n.2.1 n.2.2 (Pl.qM (Ge.aR n.1 n.2.2)) (Pl.qM (Ge.aR n.2.1 n.2.2)) w hG (Ir (by omega) hn.d) (Ir (by omega) hn.d)
  (fun w=>run_convert_float_int w 120 3 .f64 .i64 _ _ (by rw[Tryz.underlying120];rfl) Tryz.underlying3 c1)
  (fun w=>run_convert_float_int w 120 3 .f64 .i64 _ _ (by rw[Tryz.underlying120];rfl) Tryz.underlying3 c2)
  (fun w1 g1=>Vn _ _ w1 g1 (by omega) hn.d) (fun w1 g1=>Vn _ _ w1 g1 (by omega) hn.d)
end Go.Proofs.YtkjhhooecopolaaGreatDoor

namespace Go.Proofs.YtkjhhooecopolaaGreatDoor
open Go.RowKit
def gV(n:Ge.Nd):List Value:=[.complex .f64 (floatOfInt .f64 n.1) (floatOfInt .f64 n.2.1),.int .i64 n.2.2]
def cZ(l:List Ge.Nd):List Value:=l.flatMap gV
def iq(w:World)(v:Value)(l:List Ge.Nd):Prop:=w.ownsRow 0 83 2 v l.length (cZ l)
theorem DB:∀(l:List Ge.Nd)(k:Nat)(e:Ge.Nd),l[k]?=some e->∀j,j<2->(cZ l)[k*2+j]?=(gV e)[j]?
 |[],_,_,h,_,_=>by simp at h
 |q::r,0,e,h,j,hj=>by
  simp at h;subst h;have e1:cZ (q::r)=gV q++cZ r:=by simp[cZ]
  rw[e1,dZ (by simp[gV];omega)]
  simp
 |q::r,k+1,e,h,j,hj=>by
  have ih:=DB r k e (by simpa using h) j hj
  have e1:cZ (q::r)=gV q++cZ r:=by simp[cZ]
  rw[e1,nI (by simp[gV];omega)]
  have e2:(k+1)*2+j-(gV q).length=k*2+j:=by simp[gV];omega
  rw[e2,ih]
theorem MM(l:List Ge.Nd)(e:Ge.Nd):cZ (l++[e])=cZ l++gV e:=by simp[cZ]
theorem Iu{w:World}{v:Value}{l:List Ge.Nd}(h:iq w v l):∃so cap,v=.slice so l.length cap:=by
 rcases h.2 with⟨hv,h0⟩|⟨b,cap,cur,hv,_⟩
 ·exact⟨none,0,by rw[hv,h0]⟩
 ·exact⟨_,cap,hv⟩
theorem Iw{w:World}{so:Option Addr}{n cap:Nat}{l:List Ge.Nd}(h:iq w (.slice so n cap) l){k:Nat}{e:Ge.Nd}(he:l[k]?=some e):
  ∃b,so=some ⟨b,0,none⟩/\b<w.heap.size/\w.cell? ⟨b,k*2,none⟩=some (.complex .f64 (floatOfInt .f64 e.1) (floatOfInt .f64 e.2.1))/\w.cell? ⟨b,k*2+1,none⟩=some (.int .i64 e.2.2):=by
 have g:=DB l k e he;obtain⟨b,c,hv,hb,hc⟩:=CS h (g 0 (by omega))
 injection hv with hv;exact⟨b,hv,hb,hc _ _ (g 0 (by omega)),hc _ _ (g 1 (by omega))⟩
theorem Vp(f:Ge.Qt->List UInt8):∀l:List Ge.Qt,Lib.join (l.map f) [44,32]=Pl.aI f l
 |[]=>rfl
 |[x]=>by simp[Lib.join_one,Pl.aI]
 |x::y::r=>by
  have ih:=Vp f (y::r);simp only[Pl.aI,<-ih];simp[Lib.join,List.intercalate]
theorem MN:(Tryz.prog.info? 9).map (fun i=>(i.zero,i.size,i.bytes))=some (some (.string ⟨#[]⟩),1,16):=by kernel_rfl
def oa(l:List Ge.Nd):List ByteArray:=l.map fun n=>⟨(Pl.iU (Ge.aj n)).toArray⟩
theorem agc(l:List Ge.Nd):(oa l).map (·.data.toList)=(l.map Ge.aj).map Pl.iU:=by simp[oa]
def SI(w:World)(lv:Value)(xs:List ByteArray)(wr:World):Prop:=wr.ownsRow w.heap.size 9 1 lv xs.length (xs.map Value.string)/\Below w.heap.size w wr
theorem MO{n:Ge.Nd}(h:dm n.1 n.2.1 n.2.2):(Pl.iU (Ge.aj n)).length<=101:=by
 have hx:=h.x;have hy:=h.y;have h1:=Ir (x:=n.1) (d:=n.2.2) (by omega) h.d
 have h2:=Ir (x:=n.2.1) (d:=n.2.2) (by omega) h.d
 show(Pl.qM (Ge.aR n.1 n.2.2)++([32]++Pl.qM (Ge.aR n.2.1 n.2.2))).length<=101;simp;omega
end Go.Proofs.YtkjhhooecopolaaGreatDoor
namespace Go.Proofs.YtkjhhooecopolaaGreatDoor.Ge
def met(e f:Pt×Pt)(q:Qt):Prop:=bw e f≠0/\q=dE e f/\hq (dE e f) e=true/\hq (dE e f) f=true
theorem agd{e f:Pt×Pt}{q:Qt}(h:met e f q):met f e q:=by
 obtain⟨a,b,c,d⟩:=h;have a':bw f e≠0:=by rw[U6];omega
 have m:=afP a;exact⟨a',by rw[m];exact b,by rw[m];exact d,by rw[m];exact c⟩
theorem age(e:Pt×Pt):bw e e=0:=by unfold bw;grind
theorem agf(l:List (Pt×Pt))(e:Pt×Pt)(q:Qt):isNode (l++[e]) q↔isNode l q\/q=pt e.1\/q=pt e.2\/∃f∈l,met e f q:=by
 unfold isNode;constructor
 ·rintro(⟨g,hg,h⟩|⟨g,hg,f,hf,h⟩)
  ·rcases bW.1 hg with hg|hg
   ·exact Or.inl (Or.inl ⟨g,hg,h⟩)
   ·rw[bJ] at hg;subst hg;rcases h with h|h
    ·exact Or.inr (Or.inl h)
    ·exact Or.inr (Or.inr (Or.inl h))
  ·rcases bW.1 hg with hg|hg
   ·rcases bW.1 hf with hf|hf
    ·exact Or.inl (Or.inr ⟨g,hg,f,hf,h⟩)
    ·rw[bJ] at hf;rw[hf] at h;exact Or.inr (Or.inr (Or.inr ⟨g,hg,agd h⟩))
   ·rw[bJ] at hg;rw[hg] at h;rcases bW.1 hf with hf|hf
    ·exact Or.inr (Or.inr (Or.inr ⟨f,hf,h⟩))
    ·rw[bJ] at hf;rw[hf] at h;exact absurd (age e) h.1
 ·have m1:∀{x},x∈l->x∈l++[e]:=fun h=>vB _ h
  have m2:e∈l++[e]:=by simp
  rintro((⟨g,hg,h⟩|⟨g,hg,f,hf,h⟩)|h|h|⟨f,hf,h⟩)
  ·exact Or.inl ⟨g,m1 hg,h⟩
  ·exact Or.inr ⟨g,m1 hg,f,m1 hf,h⟩
  ·exact Or.inl ⟨e,m2,Or.inl h⟩
  ·exact Or.inl ⟨e,m2,Or.inr h⟩
  ·exact Or.inr ⟨e,m2,f,m1 hf,h⟩
def cG:List Nd->List Nd
 |[]=>[]
 |[a]=>[a]
 |a::b::r=>if a=b then cG (b::r) else a::cG (b::r)
theorem yw:∀(l:List Nd)(x:Nd),x∈cG l↔x∈l
 |[],x=>by simp[cG]
 |[a],x=>by simp[cG]
 |a::b::r,x=>by
  have ih:=yw (b::r) x;unfold cG;split
  ·rename_i h
   subst h;rw[ih];simp
  ·rw[aQ,ih];simp
def le(a b:Nd):Prop:=¬lt (aj b) (aj a)
theorem Ay{a b:Nd}(ha:Can a)(hb:Can b)(h:le a b)(hne:a≠b):lt (aj a) (aj b):=by
 unfold le lt at h;unfold lt;rw[G7] at h;rcases fk (pc (aj a) (aj b)) 0 with h1|h1|h1
 ·exact h1
 ·exact absurd (uM ha hb h1) hne
 ·omega
theorem lt_le_trans{a b c:Nd}(ha:Can a)(hb:Can b)(hc:Can c)(h1:lt (aj a) (aj b))(h2:le b c):lt (aj a) (aj c):=by
 by_cases h:b=c
 ·subst h;exact h1
 ·exact lt_trans (cL ha) (cL hb) (cL hc) h1 (Ay hb hc h2 h)
theorem Vq:∀(l:List Nd),(∀n∈l,Can n)->l.Pairwise le->(cG l).Pairwise (fun a b=>lt (aj a) (aj b))
 |[],_,_=>List.Pairwise.nil
 |[a],_,_=>by simp[cG]
 |a::b::r,hc,hp=>by
  have hp2:=(fZ.1 hp).2;have hp1:=(fZ.1 hp).1;have ih:=Vq (b::r) (fun n h=>hc n (by simp[List.mem_cons] at h⊢;exact Or.inr h)) hp2
  unfold cG;split
  ·exact ih
  ·rename_i hne
   refine fZ.2 ⟨fun x hx=>?_,ih⟩
   have hx':=(yw (b::r) x).1 hx;have ca:=hc a (by simp)
   have cb:=hc b (by simp)
   have hab:=Ay ca cb (hp1 b (by simp)) hne
   rcases aQ.1 hx' with h|h
   ·subst h;exact hab
   ·exact lt_le_trans ca cb (hc x (by simp[h])) hab ((fZ.1 hp2).1 x h)
theorem agh(es:List (Pt×Pt))(S:List Nd)(hc:∀n∈S,Can n)(hp:S.Pairwise le)(hm:∀q,(∃n∈S,aj n=q)↔isNode es q):(cG S).map aj=fX es:=by
 obtain⟨h1,h2,h3⟩:=yn es;refine TE (fun q hq=>?_) h1 ?_ h2 (fun q=>?_)
 ·obtain⟨n,hn,rfl⟩:=aX.1 hq;exact cL (hc n ((yw S n).1 hn))
 ·exact nJ.2 (Vq S hc hp)
 ·rw[h3,<-hm,aX];constructor
  ·rintro⟨n,hn,h⟩;exact⟨n,(yw S n).1 hn,h⟩
  ·rintro⟨n,hn,h⟩;exact⟨n,(yw S n).2 hn,h⟩
end Go.Proofs.YtkjhhooecopolaaGreatDoor.Ge
namespace Go.Proofs.YtkjhhooecopolaaGreatDoor
open Go.RowKit
theorem Vr:(Tryz.prog.info? 83).map (fun i=>(i.zero,i.size,i.bytes))=some (some (.agg #[.complex .f64 0 0,.int .i64 0]),2,24):=by kernel_rfl
theorem Vs:∀l:List Ge.Nd,(Ge.cG l).length<=l.length
 |[]=>by simp[Ge.cG]
 |[a]=>by simp[Ge.cG]
 |a::b::r=>by
  have ih:=Vs (b::r);unfold Ge.cG;split
  ·simp only[bO] at ih⊢;omega
  ·simp only[bO] at ih⊢;omega
structure NL(w:World)(lv:Value)(L:List Ge.Nd)(wr:World):Prop where
 own:wr.ownsRow w.heap.size 83 2 lv L.length (cZ L)
 below:Below w.heap.size w wr
 can:∀n∈L,Ge.Can n
 az:∀n∈L,dm n.1 n.2.1 n.2.2
def NS(w:World)(lv:Value)(l:List Ed)(k:Nat)(wr:World):Prop:=
 ∃L,NL w lv L wr/\(∀q,(∃n∈L,Ge.aj n=q)↔Ge.isNode l q)/\L.length<=k
structure sP(w:World)(B:Nat)(x:EB)(e:Ed)(es:List Ed)(i j:Nat)(lv:Value)(L:List Ge.Nd)(wr:World):Prop where
 nl:NL w lv L wr
 lt:B<wr.heap.size
 ne:lv.ownBlock≠some B
 c0:wr.cell? ⟨B,0,none⟩=some (.complex .f64 x.wa x.wb)
 c1:wr.cell? ⟨B,1,none⟩=some (.float .f64 x.sh)
 c2:wr.cell? ⟨B,2,none⟩=some (.complex .f64 x.fa x.fb)
 c3:wr.cell? ⟨B,3,none⟩=some (.complex .f64 x.ta x.tb)
 iff:∀q,(∃n∈L,Ge.aj n=q)↔Ge.isNode (es.take i) q\/q=Ge.pt e.1\/q=Ge.pt e.2\/∃f∈es.take j,Ge.met e f q
 len:L.length<=i*404+2+j
theorem sP.keep{w:World}{B:Nat}{x:EB}{e:Ed}{es:List Ed}{i j:Nat}{lv:Value}{L:List Ge.Nd}{wr w':World}(h:sP w B x e es i j lv L wr)(hb:Below wr.heap.size wr w'):sP w B x e es i j lv L w':=
 ⟨⟨aJ h.nl.own fun k hk=>hb.block k (au h.nl.own k hk).2,h.nl.below.trans (hb.mono h.nl.below.size),h.nl.can,h.nl.az⟩,aL h.lt hb.size,h.ne,(hb.cell (p:=⟨B,0,none⟩) h.lt).trans h.c0,(hb.cell (p:=⟨B,1,none⟩) h.lt).trans h.c1,(hb.cell (p:=⟨B,2,none⟩) h.lt).trans h.c2,(hb.cell (p:=⟨B,3,none⟩) h.lt).trans h.c3,h.iff,h.len⟩
theorem Vt{es:List Ed}{j:Nat}{f e:Ed}(hf:es[j]?=some f)(q:Ge.Qt):(∃f'∈es.take (j+1),Ge.met e f' q)↔(∃f'∈es.take j,Ge.met e f' q)\/Ge.met e f q:=by
 have h:es.take (j+1)=es.take j++[f]:=by rw[jx,hf];rfl
 rw[h];constructor
 ·rintro⟨g,hg,h⟩;rcases bW.1 hg with hg|hg
  ·exact Or.inl ⟨g,hg,h⟩
  ·rw[bJ] at hg;rw[hg] at h;exact Or.inr h
 ·rintro(⟨g,hg,h⟩|h)
  ·exact⟨g,by simp[hg],h⟩
  ·exact⟨f,by simp,h⟩
theorem sP.skip{w:World}{B:Nat}{x:EB}{e:Ed}{es:List Ed}{i j:Nat}{lv:Value}{L:List Ge.Nd}{wr:World}{f:Ed}(h:sP w B x e es i j lv L wr)(hf:es[j]?=some f)(hn:¬(Ge.bw e f≠0/\Ge.hq (Ge.dE e f) e=true/\Ge.hq (Ge.dE e f) f=true)):sP w B x e es i (j+1) lv L wr:=
 ⟨h.nl,h.lt,h.ne,h.c0,h.c1,h.c2,h.c3,fun q=>by
  have hm:¬Ge.met e f q:=fun m=>hn ⟨m.1,m.2.2⟩
  rw[h.iff q,Vt hf q];simp[hm],by have:=h.len;omega⟩
theorem agi(es:List Ed)(v:Value)(w:World)(hR:gu w v es)(hl:es.length<=402)(hs:∀e∈es,fg e)
  (HS:Hid (∀lv L wr,NL w lv L wr->L.length<=200000->Calls Tryz.prog 124 #[lv,.func (.func 125) #[] #[]] wr fun r w'=>r=.returned (.tuple #[])/\∃S,NL w lv S w'/\(∀n,n∈S↔n∈L)/\S.length=L.length/\S.Pairwise Ge.le))
  (HK:Hid (∀lv S wr,NL w lv S wr->S.length<=200000->Calls Tryz.prog 126 #[lv] wr fun r w'=>∃v',r=.returned v'/\iq w' v' (Ge.cG S)/\Below w.heap.size w w')):
  Calls Tryz.prog 72 #[v] w fun e w'=>∃v' l,e=.returned v'/\iq w' v' l/\Below w.heap.size w w'/\l.map Ge.aj=Ge.fX es/\(∀n∈l,dm n.1 n.2.1 n.2.2)/\l.length<=200000/\(∀n∈l,Ge.Can n):=by
 obtain⟨so,cap,rfl⟩:=CU hR;obtain⟨i0,hi,hz0,hz1,hz2⟩:=info_parts Vr;have HR:Hid (gu w (.slice so es.length cap) es):=hR;clear hR
 go_enter Tryz.func72,Tryz.ntmps72
 go_wp2_with fail
 have bh:Hid (NS w (.slice none 0 0) [] 0 w):=⟨[],⟨World.ownsRow_nil _ _ _ _,Below.refl _ _,fun n h=>by simp at h,fun n h=>by simp at h⟩,fun q=>by simp[Ge.isNode],by simp⟩
 go_loopg [3,12] es.length (fun m lv iv wr=>∃i:Nat,i+m=es.length/\iv=.int .i64 i/\Hid (NS w lv (es.take i) (i*404) wr))
 case atStart=>exact⟨0,by omega,rfl,bh⟩
 case round=>
  obtain⟨i,him,rfl,HE⟩:=hrel;clear bh;by_cases hlt:i<es.length
  ·obtain⟨e,he⟩:∃e,es[i]?=some e:=⟨_,ay hlt⟩;obtain⟨b,x,rfl,hb,hx,c0,c1,c2,c3⟩:=CV HR.out he;obtain⟨L,wE,DC,jE⟩:=HE.out;have ag:=wE.below;have r0:=(ag.cell (p:=⟨b,i*4,none⟩) hb).trans c0;have r1:=(ag.cell (p:=⟨b,i*4+1,none⟩) hb).trans c1;have r2:=(ag.cell (p:=⟨b,i*4+2,none⟩) hb).trans c2;have r3:=(ag.cell (p:=⟨b,i*4+3,none⟩) hb).trans c3;have jm:=hs e (aY he);obtain⟨n1,n1c,MQ,Vu,MR⟩:=Ik 1 hx.fa hx.fb (by have:=jm.a;unfold small at this;omega) (by have:=jm.b;unfold small at this;omega) (by omega)
   obtain⟨n2,Vv,MS,Vw,wF⟩:=Ik 1 hx.ta hx.tb (by have:=jm.c;unfold small at this;omega) (by have:=jm.d;unfold small at this;omega) (by omega)
   rw[Ge.G8,Ge.G8] at MQ MS;have HX:Hid (iT x e):=hx;have HEM:Hid (e∈es):=aY he;have HEI:Hid (es[i]?=some e):=he;have Az:Hid (NL w u3 L wr):=wE;have sQ:Hid (∀q,(∃n∈L,Ge.aj n=q)↔Ge.isNode (es.take i) q):=DC;have DF:Hid (Ge.aj n1=Ge.pt e.1/\Ge.Can n1/\dm n1.1 n1.2.1 n1.2.2):=⟨MQ,n1c,Vu⟩;have DG:Hid (Ge.aj n2=Ge.pt e.2/\Ge.Can n2/\dm n2.1 n2.2.1 n2.2.2):=⟨MS,Vv,Vw⟩;have eD:(i:Int)<(es.length:Int):=by omega
   have hbr:b<wr.heap.size:=aL hb ag.size;obtain⟨wa,wb,sh,fa,fb,ta,tb⟩:=x;simp only at r0 r1 r2 r3 MR wF;have yt:Hid (∀w1,Calls Tryz.prog 37 #[.complex .f64 fa fb,.int .i64 1] w1 fun e w'=>e=.returned (gS n1)/\Below w1.heap.size w1 w'):=MR
   have yu:Hid (∀w1,Calls Tryz.prog 37 #[.complex .f64 ta tb,.int .i64 1] w1 fun e w'=>e=.returned (gS n2)/\Below w1.heap.size w1 w'):=wF
   clear c0 c1 c2 c3 wE DC hx MR wF n1c MQ Vu Vv MS Vw he HE jm
   go_wp2_with (first |(simp only[fA];go_simp)|(simp only[lX];go_simp)|(simp only[fA,lX];go_simp))
   have hE:=heap_alloc_new wr (.cells #[.complex .f64 wa wb,.float .f64 sh,.complex .f64 fa fb,.complex .f64 ta tb] 124);have hbW:=ag.alloc ag.size (.cells #[.complex .f64 wa wb,.float .f64 sh,.complex .f64 fa fb,.complex .f64 ta tb] 124);have Vx:(wr.alloc (.cells #[.complex .f64 wa wb,.float .f64 sh,.complex .f64 fa fb,.complex .f64 ta tb] 124)).ownsRow w.heap.size 83 2 u3 L.length (cZ L):=aJ Az.out.own fun k hk=>Below.heap_alloc _ _ _ (au Az.out.own k hk).2
   have yx:wr.heap.size<(wr.alloc (.cells #[.complex .f64 wa wb,.float .f64 sh,.complex .f64 fa fb,.complex .f64 ta tb] 124)).heap.size:=by simp
   have DI:∀k,u3.ownBlock=some k->k<wr.heap.size:=fun k hk=>(au Az.out.own k hk).2
   have Vy:w.heap.size<=wr.heap.size:=ag.size;generalize wr.alloc (.cells #[.complex .f64 wa wb,.float .f64 sh,.complex .f64 fa fb,.complex .f64 ta tb] 124)=W at*;generalize hBq:wr.heap.size=B at*;have a0:W.cell? ⟨B,0,none⟩=some (.complex .f64 wa wb):=cell_of hE 0;have a1:W.cell? ⟨B,1,none⟩=some (.float .f64 sh):=cell_of hE 1;have a2:W.cell? ⟨B,2,none⟩=some (.complex .f64 fa fb):=cell_of hE 2;have a3:W.cell? ⟨B,3,none⟩=some (.complex .f64 ta tb):=cell_of hE 3;have wG:Hid (gV n1=[.complex .f64 (floatOfInt .f64 n1.1) (floatOfInt .f64 n1.2.1),.int .i64 n1.2.2]):=rfl;have wH:Hid (gV n2=[.complex .f64 (floatOfInt .f64 n2.1) (floatOfInt .f64 n2.2.1),.int .i64 n2.2.2]):=rfl;unfold gS at yt yu;generalize floatOfInt .f64 n1.1=A1 at*;generalize floatOfInt .f64 n1.2.1=A2 at*;generalize floatOfInt .f64 n2.1=A4 at*;generalize floatOfInt .f64 n2.2.1=A5 at*;have DJ:some B≠u3.ownBlock:=fun h=>ab8 _ (DI B h.symm)
   clear r0 r1 r2 r3 hE;refine wp_region_held_drew (S:=(fun w'=>w'.cell? ⟨B,0,none⟩=some (.complex .f64 wa wb)/\w'.cell? ⟨B,1,none⟩=some (.float .f64 sh)/\w'.cell? ⟨B,2,none⟩=some (.complex .f64 fa fb)/\w'.cell? ⟨B,3,none⟩=some (.complex .f64 ta tb))) (by kernel_rfl) ⟨a0,a1,a2,a3⟩ (fun hHeld=>?_)
   refine wpAnyH_take (i:=0) (oi:={dst:=some 17,op:=_,type:=_,pos:=_,after:=_,guard:=_}) (v:=?_) rfl (by kernel_rfl) (by kernel_rfl) (by kernel_rfl) (fun _ _ _ h=>h) (Or.inl ⟨by rfl,?_⟩) hHeld ?_
   rotate_left
   ·intro w' aw;obtain⟨s0,s1,s2,s3⟩:=aw
    go_simp
    try with_reducible rfl
   simp only[Act.put,aC,aD,aA];refine wpAnyH_take (i:=1) (oi:={dst:=some 18,op:=_,type:=_,pos:=_,after:=_,guard:=_}) (v:=?_) rfl (by kernel_rfl) (by kernel_rfl) (by kernel_rfl) (fun _ _ _ h=>h) (Or.inl ⟨by rfl,?_⟩) hHeld ?_
   rotate_left
   ·intro w' aw;obtain⟨s0,s1,s2,s3⟩:=aw
    go_simp
    try with_reducible rfl
   simp only[Act.put,aC,aD,aA];refine wpAnyH_take (i:=2) (oi:={dst:=some 19,op:=_,type:=_,pos:=_,after:=_,guard:=_}) (v:=?_) rfl (by kernel_rfl) (by kernel_rfl) (by kernel_rfl) (fun _ _ _ h=>h) (Or.inl ⟨by rfl,?_⟩) hHeld ?_
   rotate_left
   ·intro w' aw;obtain⟨s0,s1,s2,s3⟩:=aw
    go_simp
    try with_reducible rfl
   simp only[Act.put,aC,aD,aA];refine wpAnyH_take (i:=4) (oi:={dst:=some 21,op:=_,type:=_,pos:=_,after:=_,guard:=_}) (v:=?_) rfl (by kernel_rfl) (by kernel_rfl) (by kernel_rfl) (fun _ _ _ h=>h) (Or.inl ⟨by rfl,?_⟩) hHeld ?_
   rotate_left
   ·intro w' aw;obtain⟨s0,s1,s2,s3⟩:=aw
    go_simp
    try with_reducible rfl
   simp only[Act.put,aC,aD,aA];refine wpAnyH_take (i:=5) (oi:={dst:=some 22,op:=_,type:=_,pos:=_,after:=_,guard:=_}) (v:=?_) rfl (by kernel_rfl) (by kernel_rfl) (by kernel_rfl) (fun _ _ _ h=>h) (Or.inl ⟨by rfl,?_⟩) hHeld ?_
   rotate_left
   ·intro w' aw;obtain⟨s0,s1,s2,s3⟩:=aw
    go_simp
    try with_reducible rfl
   simp only[Act.put,aC,aD,aA];refine wpAnyH_ready (rs:=[3]) (by kernel_rfl) (by simp) ?_
   refine AllReadyH.cons rfl (fun K hK=>?_) AllReadyH.nil
   go_simp
   refine(yt.out _).mono ?_;rintro e w6 ⟨rfl,ax⟩;have b0:=(ax.cell (p:=⟨B,0,none⟩) yx).trans a0;have b1:=(ax.cell (p:=⟨B,1,none⟩) yx).trans a1;have b2:=(ax.cell (p:=⟨B,2,none⟩) yx).trans a2;have b3:=(ax.cell (p:=⟨B,3,none⟩) yx).trans a3;have sU:=aL yx ax.size;have fW:=aJ Vx.drew fun k hk=>ax.block k (ab7 (DI k hk) yx)
   go_wp2_with fail
   refine hK.out _ _ ⟨b0,b1,b2,b3⟩ (fun hHeld=>?_)
   clear hK K
   try simp only[Act.put,aC,aD,aA]
   refine wpAnyH_ready (rs:=[6]) (by kernel_rfl) (by simp) ?_
   refine AllReadyH.cons rfl (fun K hK=>?_) AllReadyH.nil
   go_simp
   refine(yu.out _).mono ?_;rintro e w7 ⟨rfl,aT⟩;have c0:=(aT.cell (p:=⟨B,0,none⟩) sU).trans b0;have c1:=(aT.cell (p:=⟨B,1,none⟩) sU).trans b1;have c2:=(aT.cell (p:=⟨B,2,none⟩) sU).trans b2;have c3:=(aT.cell (p:=⟨B,3,none⟩) sU).trans b3;have uN:=aL sU aT.size;have Ix:=aJ fW fun k hk=>aT.block k (ab7 (DI k hk) sU)
   go_wp2_with fail
   refine hK.out _ _ ⟨c0,c1,c2,c3⟩ (fun hHeld=>?_)
   clear hK K
   try simp only[Act.put,aC,aD,aA]
   refine wpAnyH_ready (rs:=[7]) (by kernel_rfl) (by simp) ?_
   refine AllReadyH.cons rfl (fun K hK=>?_) AllReadyH.nil
   go_simp
   refine hK.out _ _ ⟨(jk _ _ uN).trans c0,(jk _ _ uN).trans c1,(jk _ _ uN).trans c2,(jk _ _ uN).trans c3⟩ (fun hHeld=>?_)
   clear hK K
   try simp only[Act.put,aC,aD,aA]
   refine wpAnyH_ready (rs:=[8]) (by kernel_rfl) (by simp) ?_
   refine AllReadyH.cons rfl (fun K hK=>?_) AllReadyH.nil
   refine step_append_lies _ rfl (.tmp 17) (.tmp 24) 138 rfl w.heap.size 83 i0 _ 2 24 Tryz.underlying138 hi hz0 hz1 hz2 rfl (by decide) u3 L.length (cZ L) rfl (aJ Ix (fun k hk=>Below.heap_alloc _ _ _ (au Ix k hk).2)) ⟨w7.heap.size,0,none⟩ 2 2 [.complex .f64 A1 A2,.int .i64 n1.2.2,.complex .f64 A4 A5,.int .i64 n2.2.2] rfl rfl (World.news_of_block (cs:= #[.complex .f64 A1 A2,.int .i64 n1.2.2,.complex .f64 A4 A5,.int .i64 n2.2.2]) (t:=83) (fr:=(0,0)) (heap_alloc_new w7 _)) (by simp[Value.oneCell']) (by decide) (by unfold maxLen;omega) (by omega) (by simp;omega) (w7.heap.size+1) (by simp) ?_
   intro g' cap' w8 cH aZ gA pY;have d0:=(aZ.cell_far ⟨B,0,none⟩ (by simp;omega) DJ).trans ((jk _ _ uN).trans c0)
   have d1:=(aZ.cell_far ⟨B,1,none⟩ (by simp;omega) DJ).trans ((jk _ _ uN).trans c1)
   have d2:=(aZ.cell_far ⟨B,2,none⟩ (by simp;omega) DJ).trans ((jk _ _ uN).trans c2)
   have d3:=(aZ.cell_far ⟨B,3,none⟩ (by simp;omega) DJ).trans ((jk _ _ uN).trans c3)
   go_simp
   refine hK.out _ _ ⟨d0,d1,d2,d3⟩ (fun hHeld=>?_)
   clear hK K
   try simp only[Act.put,aC,aD,aA]
   refine wpAnyH_take (i:=9) (oi:={dst:=some 3,op:=_,type:=_,pos:=_,after:=_,guard:=_}) (v:=?_) rfl (by kernel_rfl) (by kernel_rfl) (by kernel_rfl) (fun _ _ _ h=>h) (Or.inl ⟨by rfl,?_⟩) hHeld ?_
   rotate_left
   ·intro w' aw;obtain⟨s0,s1,s2,s3⟩:=aw
    go_simp
    try with_reducible rfl
   simp only[Act.put,aC,aD,aA];refine wpAnyH_done (by kernel_rfl) ?_ _
   have Vz:Below w.heap.size w w8:=by
    have q6:=hbW.drew.trans (ax.mono (dS Vy (eo yx)));have q7:=q6.trans (aT.mono (dS Vy (eo sU)));exact(q7.alloc q7.size _).grown aZ (by simp;omega) (fun k hk=>(au Ix k hk).1)
   have Iy:Hid (NL w (.slice (some ⟨g',0,none⟩) (L.length+2) cap') (L++[n1,n2]) w8):=by
    have hrow:cZ (L++[n1,n2])=cZ L++[.complex .f64 A1 A2,.int .i64 n1.2.2,.complex .f64 A4 A5,.int .i64 n2.2.2]:=by
     have e1:cZ (L++[n1,n2])=cZ L++(gV n1++gV n2):=by simp[cZ]
     rw[e1,wG.out,wH.out];rfl
    refine⟨?_,Vz,fun n hn=>?_,fun n hn=>?_⟩
    ·rw[hrow,aS];exact cH
    ·rcases bW.1 hn with h|h
     ·exact Az.out.can n h
     ·rcases aQ.1 h with h|h
      ·rw[h];exact DF.out.2.1
      ·rw[bJ.1 h];exact DG.out.2.1
    ·rcases bW.1 hn with h|h
     ·exact Az.out.az n h
     ·rcases aQ.1 h with h|h
      ·rw[h];exact DF.out.2.2
      ·rw[bJ.1 h];exact DG.out.2.2
   have DK:Hid (sP w B ⟨wa,wb,sh,fa,fb,ta,tb⟩ e es i 0 (.slice (some ⟨g',0,none⟩) (L.length+2) cap') (L++[n1,n2]) w8):=by
    refine⟨Iy.out,?_,?_,d0,d1,d2,d3,fun q=>?_,by simp;omega⟩
    ·have h1:=aZ.size;simp at h1;omega
    ·show some g'≠some B;intro h;injection h with h;rcases gA with h8|h8
     ·have:=DI g' h8;omega
     ·omega
    ·have h1:=sQ.out q;simp only[List.take_zero,ab9,false_and,exists_false,or_false];rw[<-h1];constructor
     ·rintro⟨n,hn,h⟩;rcases bW.1 hn with hn|hn
      ·exact Or.inl ⟨n,hn,h⟩
      ·rcases aQ.1 hn with hn|hn
       ·exact Or.inr (Or.inl (by rw[<-h,hn,DF.out.1]))
       ·exact Or.inr (Or.inr (by rw[<-h,bJ.1 hn,DG.out.1]))
     ·rintro(⟨n,hn,h⟩|h|h)
      ·exact⟨n,by simp[hn],h⟩
      ·exact⟨n1,by simp,by rw[h,DF.out.1]⟩
      ·exact⟨n2,by simp,by rw[h,DG.out.1]⟩
   have hcap:¬cap<i:=by
    obtain⟨_,_,ho,_⟩:=HR.out;rcases ho.2 with⟨hv,_⟩|⟨_,_,_,hv,_,_,hc,_⟩
    ·cases hv
    ·injection hv with _ _ hv;omega
   have an8:i<=cap:=by omega
   clear yt yu wG wH a0 a1 a2 a3 b0 b1 b2 b3 c0 c1 c2 c3 fW Ix cH ax aT Vx DI DJ sU uN aZ gA pY hHeld
   go_wp2_with fail
   obtain⟨m1,ym⟩:∃m1,m1=gk:=⟨_,rfl⟩
   go_loopg [3,30] i (fun m lv nv wr=>∃j:Nat,j+m=i/\nv=.int .i64 j/\Hid (∃L',sP w B ⟨wa,wb,sh,fa,fb,ta,tb⟩ e es i j lv L' wr))
   case atStart=>exact⟨0,by omega,rfl,⟨_,DK.out⟩⟩
   case round=>
    obtain⟨j,hjm,rfl,kM⟩:=hrel;clear DK Iy d0 d1 d2 d3 sQ Az DF DG Vz;obtain⟨L',hI⟩:=kM.out;by_cases H6:j<i
    ·obtain⟨f,hf⟩:∃f,es[j]?=some f:=⟨_,ay (by omega)⟩
     obtain⟨b4,y,hb4,_,hy,f0,f1,f2,f3⟩:=CV HR.out hf;injection hb4 with hb4;injection hb4 with hb4;subst hb4;have jP:=hI.nl.below;have s0:=(jP.cell (p:=⟨b,j*4,none⟩) hb).trans f0;have s1:=(jP.cell (p:=⟨b,j*4+1,none⟩) hb).trans f1;have s2:=(jP.cell (p:=⟨b,j*4+2,none⟩) hb).trans f2;have s3:=(jP.cell (p:=⟨b,j*4+3,none⟩) hb).trans f3;have a0:=hI.c0;have a1:=hI.c1;have a2:=hI.c2;have a3:=hI.c3;obtain⟨vn,bt,nv,hM,⟨M1,M2,MP,yz⟩,Iz,IA⟩:=af3 ⟨wa,wb,sh,fa,fb,ta,tb⟩ y e f HX.out hy (hs e (HEM.out)) (hs f (aY hf));subst yz;have HM:Hid (∀w,Calls Tryz.prog 123 #[.agg (EB.cells ⟨wa,wb,sh,fa,fb,ta,tb⟩),.agg y.cells] w fun r w'=>r=.returned (.tuple #[.agg #[.complex .f64 M1 M2,.int .i64 MP],.bool bt])/\Below w.heap.size w w'):=hM
     have IB:Hid (bt=true↔Ge.bw e f≠0/\Ge.hq (Ge.dE e f) e=true/\Ge.hq (Ge.dE e f) f=true):=Iz;have MT:Hid (bt=true->.agg #[.complex .f64 M1 M2,.int .i64 MP]=gS vn/\Ge.Can vn/\Ge.aj vn=Ge.dE e f/\dm vn.1 vn.2.1 vn.2.2):=IA;have HF:Hid (es[j]?=some f):=hf;obtain⟨ya,yb,ys,yc,yd,ye,yf⟩:=y;simp only[EB.cells] at HM s0 s1 s2 s3 a0 a1 a2 a3;have Ao:(j:Int)<(i:Int):=by omega
     have VA:=hI.lt;clear hM Iz IA f0 f1 f2 f3 hy hf kM
     go_wp2_with (first |(simp only[fA];go_simp)|(simp only[lX];go_simp))
     have AA:Below wr.heap.size wr (wr.alloc (.cells #[.complex .f64 ya yb,.float .f64 ys,.complex .f64 yc yd,.complex .f64 ye yf] 124)):=(Below.refl _ _).alloc (ae _) _;refine(HM.out _).mono ?_;rintro e5 w5 ⟨rfl,ai⟩;have IC:=hI.keep (AA.trans (ai.mono AA.size));clear a0 a1 a2 a3 s0 s1 s2 s3 AA ai HM hI jP VA;cases bt
     ·have VB:=IC.skip HF.out (fun h=>by have:=IB.out.2 h;cases this)
      have kA:=IC.nl.below;have AB:Hid (∀o,sP w B ⟨wa,wb,sh,fa,fb,ta,tb⟩ e es i (j+1) u3 L' (w5.alloc o)):=fun o=>VB.keep ((Below.refl w5.heap.size w5).alloc (ae _) o)
      clear MT IB VB
      go_wp2_with (simp only[fA];go_simp)
      go_roundg (gk-1)
      case measure=>omega
      case rel=>exact⟨j+1,by omega,by go_num,⟨_,AB.out _⟩⟩
     ·obtain⟨yz,VC,VD,AE⟩:=MT.out rfl;have VE:=IB.out.1 rfl;have hnc:gV vn=[.complex .f64 M1 M2,.int .i64 MP]:=by
       unfold gS at yz;injection yz with yz;have:=congrArg Array.toList yz;exact this.symm
      have DL:Hid (gV vn=[.complex .f64 M1 M2,.int .i64 MP]/\Ge.Can vn/\Ge.aj vn=Ge.dE e f/\dm vn.1 vn.2.1 vn.2.2):=⟨hnc,VC,VD,AE⟩;have VF:Hid (Ge.bw e f≠0/\Ge.hq (Ge.dE e f) e=true/\Ge.hq (Ge.dE e f) f=true):=VE;have AG:=IC.keep ((Below.refl w5.heap.size w5).alloc (ae _) (.cells #[.complex .f64 M1 M2,.int .i64 MP] 83));have fW:=AG.nl.own;have an9:=AG.len;have Ie:=AG.nl.below.size;have CL:=heap_alloc_new w5 (.cells #[.complex .f64 M1 M2,.int .i64 MP] 83);clear MT IB yz VC VD AE VE hnc IC
      go_wp2_with (first
       |(at_builtin;refine wpList_append_lies _ rfl (.tmp 41) (.tmp 43) 138 rfl w.heap.size 83 i0 _ 2 24 Tryz.underlying138 hi hz0 hz1 hz2 rfl (by decide) u3 L'.length (cZ L') rfl (aJ fW (fun k hk=>Below.heap_alloc _ _ _ (au fW k hk).2)) ⟨w5.heap.size+1,0,none⟩ 1 1 [.complex .f64 M1 M2,.int .i64 MP] rfl rfl (World.news_of_block (cs:= #[.complex .f64 M1 M2,.int .i64 MP]) (t:=83) (fr:=(0,0)) (by have:=heap_alloc_new (w5.alloc (.cells #[.complex .f64 M1 M2,.int .i64 MP] 83)) (.cells #[.complex .f64 M1 M2,.int .i64 MP] 83);simpa using this)) (by simp[Value.oneCell']) (by decide) (by unfold maxLen;omega) (by omega) (by simp at Ie⊢;omega) (w5.heap.size+2) (by simp) ?_;intro g2 cap2 w9 yA yB VG agl)
       |(simp only[fA];go_simp))
      have HN9:Hid (sP w B ⟨wa,wb,sh,fa,fb,ta,tb⟩ e es i (j+1) (.slice (some ⟨g2,0,none⟩) (L'.length+1) cap2) (L'++[vn]) w9):=by
       have pF:=AG.keep ((Below.refl (w5.alloc (.cells #[.complex .f64 M1 M2,.int .i64 MP] 83)).heap.size _).alloc (ae _) (.cells #[.complex .f64 M1 M2,.int .i64 MP] 83));have hne:some B≠u3.ownBlock:=fun h=>pF.ne h.symm
       have DM:=pF.lt;refine⟨⟨?_,pF.nl.below.grown yB pF.nl.below.size (fun k hk=>(au pF.nl.own k hk).1),fun n hn=>?_,fun n hn=>?_⟩,?_,?_,(yB.cell_far ⟨B,0,none⟩ DM hne).trans pF.c0,(yB.cell_far ⟨B,1,none⟩ DM hne).trans pF.c1,(yB.cell_far ⟨B,2,none⟩ DM hne).trans pF.c2,(yB.cell_far ⟨B,3,none⟩ DM hne).trans pF.c3,fun q=>?_,by rw[aS];show L'.length+1<=_;omega⟩
       ·rw[MM,DL.out.1,aS];exact yA
       ·rcases bW.1 hn with h|h
        ·exact pF.nl.can n h
        ·rw[bJ.1 h];exact DL.out.2.1
       ·rcases bW.1 hn with h|h
        ·exact pF.nl.az n h
        ·rw[bJ.1 h];exact DL.out.2.2.2
       ·exact aL DM yB.size
       ·show some g2≠some B;intro h;injection h with h;rcases VG with h9|h9
        ·exact pF.ne (by rw[h9,h])
        ·have:=AG.lt;simp at this;omega
       ·have h1:=pF.iff q;rw[Vt HF.out q];constructor
        ·rintro⟨n,hn,h⟩;rcases bW.1 hn with hn|hn
         ·rcases h1.1 ⟨n,hn,h⟩ with h|h|h|h
          ·exact Or.inl h
          ·exact Or.inr (Or.inl h)
          ·exact Or.inr (Or.inr (Or.inl h))
          ·exact Or.inr (Or.inr (Or.inr (Or.inl h)))
         ·rw[bJ.1 hn,DL.out.2.2.1] at h;exact Or.inr (Or.inr (Or.inr (Or.inr ⟨VF.out.1,h.symm,VF.out.2⟩)))
        ·rintro(h|h|h|h|h)
         ·obtain⟨n,hn,h⟩:=h1.2 (Or.inl h);exact⟨n,by simp[hn],h⟩
         ·obtain⟨n,hn,h⟩:=h1.2 (Or.inr (Or.inl h));exact⟨n,by simp[hn],h⟩
         ·obtain⟨n,hn,h⟩:=h1.2 (Or.inr (Or.inr (Or.inl h)));exact⟨n,by simp[hn],h⟩
         ·obtain⟨n,hn,h⟩:=h1.2 (Or.inr (Or.inr (Or.inr h)));exact⟨n,by simp[hn],h⟩
         ·exact⟨vn,by simp,by rw[DL.out.2.2.1,h.2.1]⟩
      clear yA yB fW AG VG agl CL
      go_roundg (gk-1)
      case measure=>omega
      case rel=>exact⟨j+1,by omega,by go_num,⟨_,HN9.out⟩⟩
    ·have hj:j=i:=by omega
     subst hj;have cC:Hid (NS w u3 (es.take (j+1)) ((j+1)*404) wr):=by
      have htk:es.take (j+1)=es.take j++[e]:=by rw[jx,HEI.out];rfl
      refine⟨L',hI.nl,fun q=>?_,by have:=hI.len;omega⟩
      rw[htk,Ge.agf,hI.iff q]
     clear kM hI
     go_wp2_with fail
     go_roundg (m1-1)
     case measure=>omega
     case rel=>exact⟨j+1,by omega,by go_num,cC⟩
  ·have hk:i=es.length:=by omega
   subst hk;have HF:Hid (NS w u3 es (es.length*404) wr):=by
    have:=HE.out;rw[dI] at this;exact this
   clear HE HR;obtain⟨L,wE,DC,jE⟩:=HF.out;have hL2:L.length<=200000:=by omega
   go_wp2_with fail
   refine(HS.out _ L _ wE hL2).mono ?_;rintro e w5 ⟨rfl,S,hS,hmem,hlen,hpw⟩
   go_wp2_with fail
   refine(HK.out _ S _ hS (by omega)).mono ?_
   rintro e w6 ⟨v',rfl,VH,ax⟩;have MU:Hid (iq w6 v' (Ge.cG S)):=VH;have VI:Hid (S.length<=200000/\∀q,(∃n∈S,Ge.aj n=q)↔Ge.isNode es q):=⟨by omega,fun q=>by
    rw[<-DC q];constructor
    ·rintro⟨n,hn,h⟩;exact⟨n,(hmem n).1 hn,h⟩
    ·rintro⟨n,hn,h⟩;exact⟨n,(hmem n).2 hn,h⟩⟩
   have sB:Hid (S.Pairwise Ge.le):=hpw;have MV:Hid (NL w u3 S w5):=hS;clear VH DC hmem hpw hS wE HF HS HK
   go_wp2_with fail
   go_ret
   exact⟨v',Ge.cG S,rfl,MU.out,ax,Ge.agh es S MV.out.can sB.out VI.out.2,fun n hn=>MV.out.az n ((Ge.yw S n).1 hn),dS (Vs S) VI.out.1,fun n hn=>MV.out.can n ((Ge.yw S n).1 hn)⟩
end Go.Proofs.YtkjhhooecopolaaGreatDoor

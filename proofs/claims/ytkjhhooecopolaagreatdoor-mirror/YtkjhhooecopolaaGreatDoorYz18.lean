import Derived.Test.YtkjhhooecopolaaGreatDoorYz17
set_option maxRecDepth 100000
set_option maxHeartbeats 4000000
namespace Go.Proofs.YtkjhhooecopolaaGreatDoor
open Go.RowKit
theorem VS(n:Int)(h1: -9223372036854775808<=n)(h2:n<=9223372036854775807)(w1:World)(g1:Gl w1):
  Calls Tryz.prog 146 #[.int .i64 n] w1 fun e w'=>e=.returned (.string ⟨(Lib.itoa n).toArray⟩)/\Below w1.heap.size w1 w':=by
 refine(Tryz.strconv_Itoa n h1 h2 w1 g1.tab).mono ?_;rintro e w' ⟨rfl,k,os,rfl⟩;exact⟨rfl,Lib.below_grow _ _ (ai _) _ _⟩
theorem VT(x d:Int)(w:World)(hG:Gl w)(hx: -16000000<=x/\x<=16000000)(hd:0<d/\d<=300000):
  Calls Tryz.prog 178 #[.int .i64 x,.int .i64 d] w fun e w'=>e=.returned (.string ⟨(Pl.qZ (Ge.aW x d)).toArray⟩)/\Below w.heap.size w w':=by
 obtain⟨G,hg⟩:∃G,Int.gcd x d=G:=⟨_,rfl⟩;have fg:Ge.aW x d=(x.tdiv G,d.tdiv G):=by
  unfold Ge.aW;rw[aa (by omega)];unfold Dk yt;rw[hg]
 have uO:0<G:=by rw[<-hg];exact acs _ (by omega)
 have wZ:(G:Int)∣d:=by rw[<-hg];exact vY ..
 have VU:=acC hd.1 wZ;have ed:=Ge.IU wZ;have bx:=tD x G;have bd:=tD d G;rw[fg];have HD:Hid (∀w1,Calls Tryz.prog 65 #[.int .i64 x,.int .i64 d] w1 fun e w'=>e=.returned (.int .i64 (G:Int))/\Below w1.heap.size w1 w'):=fun w1=>by rw[<-hg];exact Du x d w1 (by omega) (by omega)
 have hw1:IntKind.i64.wrap (x.tdiv (G:Int))=x.tdiv G:=by rw[IntKind.wrap_i64];omega
 have hw2:IntKind.i64.wrap (d.tdiv (G:Int))=d.tdiv G:=by rw[IntKind.wrap_i64];omega
 have hw3:IntKind.i64.wrap (d/(G:Int))=d.tdiv G:=by rw[<-hw2,acu (by omega)]
 have HX:Hid (∀w1,Gl w1->Calls Tryz.prog 146 #[.int .i64 (x.tdiv G)] w1 fun e w'=>e=.returned (.string ⟨(Lib.itoa (x.tdiv G)).toArray⟩)/\Below w1.heap.size w1 w'):=fun w1 g1=>VS _ (by omega) (by omega) w1 g1
 have HY:Hid (∀w1,Gl w1->Calls Tryz.prog 146 #[.int .i64 (d.tdiv G)] w1 fun e w'=>e=.returned (.string ⟨(Lib.itoa (d.tdiv G)).toArray⟩)/\Below w1.heap.size w1 w'):=fun w1 g1=>VS _ (by omega) (by omega) w1 g1
 have h1:=Lib.itoa_length_le (x.tdiv G) (by omega) (by omega)
 have h2:=Lib.itoa_length_le (d.tdiv G) (by omega) (by omega)
 have Uf:¬G=0:=by omega
 have Ug:(0:Int)<G:=by omega
 by_cases Nj:d=G
 ·have hq:d.tdiv G=1:=by
   rw[<-Nj];exact Int.tdiv_self (by omega)
  have HV:Hid (Pl.qZ (x.tdiv G,d.tdiv G)=Lib.itoa (x.tdiv G)):=ah hq;rw[HV.out];generalize Lib.itoa (x.tdiv G)=X1 at*;clear HV h1 h2 hw2 hw3 HY hq ed bx bd VU wZ fg hg;subst Nj
  go_enter Tryz.func178,Tryz.ntmps178
  go_wp2_with fail
  refine(HD.out _).mono ?_;rintro e w1 ⟨rfl,hb1⟩
  go_wp2_with fail
  refine(HX.out _ (hG.below hb1 hG.sz)).mono ?_;rintro e w2 ⟨rfl,hb2⟩
  go_wp2_with fail
  go_ret
  exact⟨rfl,hb1.trans (hb2.mono hb1.size)⟩
 ·have hq:¬d.tdiv G=1:=by
   intro h;rw[h,Int.mul_one] at ed;exact Nj ed
  have HV:Hid (Pl.qZ (x.tdiv G,d.tdiv G)=Lib.itoa (x.tdiv G)++([47]++Lib.itoa (d.tdiv G))):=aa hq;rw[HV.out];have hwd:(d/(G:Int))=d.tdiv G:=(acu (by omega)).symm
  have HYt:Hid (∀w1,Gl w1->Calls Tryz.prog 146 #[.int .i64 (d/(G:Int))] w1 fun e w'=>e=.returned (.string ⟨(Lib.itoa (d.tdiv G)).toArray⟩)/\Below w1.heap.size w1 w'):=by rw[hwd];exact HY
  generalize Lib.itoa (x.tdiv G)=X1 at*;generalize Lib.itoa (d.tdiv G)=X2 at*;have hs1:¬9223372036854775807<X1.length+1:=by omega
  have hs2:¬9223372036854775807<X1.length+1+X2.length:=by omega
  clear HV hq ed bx bd VU wZ fg hg hwd h1 h2
  go_enter Tryz.func178,Tryz.ntmps178
  go_wp2_with fail
  refine(HD.out _).mono ?_;rintro e w1 ⟨rfl,hb1⟩;have cH:Gl w1:=hG.below hb1 hG.sz
  go_wp2_with fail
  go_region_held3 (fun _=>True) (trivial) (first
   |(go_at_call_of 146 (Value.int IntKind.i64 (x.tdiv G));refine(HX.out _ cH.drew).mono ?_;rintro e w5 ⟨rfl,ax⟩;have mF:=cH.drew.below ax cH.sz)
   |(go_at_call_of 146 (Value.int IntKind.i64 (d.tdiv G));refine(HY.out _ mF).mono ?_;rintro e w6 ⟨rfl,aC⟩)
   |(go_at_call_of 146 (Value.int IntKind.i64 (d/(G:Int)));refine(HYt.out _ mF).mono ?_;rintro e w6 ⟨rfl,aC⟩))
  go_wp2_with fail
  go_ret
  refine⟨by simp[ByteArray.mk_append_mk],?_⟩
  exact(hb1.drew.trans (ax.mono hb1.size)).trans (aC.mono (dY hb1.size ax.size))
theorem I2{x d:Int}(hx: -16000000<=x/\x<=16000000)(hd:0<d/\d<=300000):(Pl.qZ (Ge.aW x d)).length<=50:=by
 have fg:Ge.aW x d=(x.tdiv (Int.gcd x d),d.tdiv (Int.gcd x d)):=by
  unfold Ge.aW;rw[aa (by omega)];rfl
 have bx:=tD x (Int.gcd x d);have bd:=tD d (Int.gcd x d);rw[fg];have h1:=Lib.itoa_length_le (x.tdiv (Int.gcd x d)) (by omega) (by omega)
 have h2:=Lib.itoa_length_le (d.tdiv (Int.gcd x d)) (by omega) (by omega)
 unfold Pl.qZ;split
 ·show(Lib.itoa (x.tdiv (Int.gcd x d))).length<=50;omega
 ·show(Lib.itoa (x.tdiv (Int.gcd x d))++([47]++Lib.itoa (d.tdiv (Int.gcd x d)))).length<=50;simp;omega
theorem agD(N1 N2:Nat)(X Y P:Int)(X1 X2:List UInt8)(w:World)(hG:Gl w)(h1:X1.length<=50)(h2:X2.length<=50)
  (hc1:∀w,(convert 120 3 (.float .f64 N1)).run Tryz.prog w=.ok (.int .i64 X) w)
  (hc2:∀w,(convert 120 3 (.float .f64 N2)).run Tryz.prog w=.ok (.int .i64 Y) w)
  (HN:Hid (∀w1,Gl w1->Calls Tryz.prog 178 #[.int .i64 X,.int .i64 P] w1 fun e w'=>e=.returned (.string ⟨X1.toArray⟩)/\Below w1.heap.size w1 w'))
  (HD:Hid (∀w1,Gl w1->Calls Tryz.prog 178 #[.int .i64 Y,.int .i64 P] w1 fun e w'=>e=.returned (.string ⟨X2.toArray⟩)/\Below w1.heap.size w1 w')):
  Calls Tryz.prog 122 #[.agg #[.complex .f64 N1 N2,.int .i64 P]] w fun e w'=>e=.returned (.string ⟨(X1++([32]++X2)).toArray⟩)/\Below w.heap.size w w':=by
 have hs1:¬9223372036854775807<X1.length+1:=by omega
 have hs2:¬9223372036854775807<X1.length+1+X2.length:=by omega
 have hb0:Below w.heap.size w (w.alloc (.cells #[.complex .f64 N1 N2,.int .i64 P] 83)):=(Below.refl _ _).alloc (ai _) _;have hE:=heap_alloc_new w (.cells #[.complex .f64 N1 N2,.int .i64 P] 83);have hz:w.heap.size<(w.alloc (.cells #[.complex .f64 N1 N2,.int .i64 P] 83)).heap.size:=by simp
 have xa:Gl (w.alloc (.cells #[.complex .f64 N1 N2,.int .i64 P] 83)):=hG.alloc _
 go_enter Tryz.func122,Tryz.ntmps122
 go_wp2_with fail
 generalize w.alloc (.cells #[.complex .f64 N1 N2,.int .i64 P] 83)=W at*;generalize hB:w.heap.size=B at*;have r0:W.cell? ⟨B,0,none⟩=some (.complex .f64 N1 N2):=cell_of hE 0;have r1:W.cell? ⟨B,1,none⟩=some (.int .i64 P):=cell_of hE 1
 go_region_held3 (fun w'=>w'.cell? ⟨B,0,none⟩=some (.complex .f64 N1 N2)/\w'.cell? ⟨B,1,none⟩=some (.int .i64 P)) (go_keep) (first
   |(go_at_call_of 178 (Value.int IntKind.i64 X);refine(HN.out _ xa.drew).mono ?_;rintro e w5 ⟨rfl,ax⟩;have mF:=xa.drew.below ax xa.sz;have q0:=(ax.cell (p:=⟨B,0,none⟩) hz).trans r0;have q1:=(ax.cell (p:=⟨B,1,none⟩) hz).trans r1)
   |(go_at_call_of 178 (Value.int IntKind.i64 Y);refine(HD.out _ mF).mono ?_;rintro e w6 ⟨rfl,aC⟩;have s0:=(aC.cell (p:=⟨B,0,none⟩) (aQ hz ax.size)).trans q0;have s1:=(aC.cell (p:=⟨B,1,none⟩) (aQ hz ax.size)).trans q1)
   |(simp only)
   |(simp only[hc2]))
 all_goals
  go_wp2_with fail
  go_ret
  refine⟨by simp[ByteArray.mk_append_mk],?_⟩
  rw[hB];exact(hb0.drew.trans (ax.mono (eF hz))).trans (aC.mono (dY (eF hz) ax.size))
theorem agE(n:Ge.Nd)(hn:dC n.1 n.2.1 n.2.2)(w:World)(hG:Gl w):
  Calls Tryz.prog 122 #[ie n] w fun e w'=>e=.returned (.string ⟨(Pl.jd (Ge.ay n)).toArray⟩)/\Below w.heap.size w w':=by
 obtain⟨a1,a2⟩:=rf hn;have hx:=hn.x;have hy:=hn.y;have c1:=a1.int (by omega) (by omega)
 have c2:=a2.int (by omega) (by omega)
 exact agD _ _ n.1 n.2.1 n.2.2 (Pl.qZ (Ge.aW n.1 n.2.2)) (Pl.qZ (Ge.aW n.2.1 n.2.2)) w hG (I2 (by omega) hn.d) (I2 (by omega) hn.d)
  (fun w=>run_convert_float_int w 120 3 .f64 .i64 _ _ (by rw[Tryz.underlying120];rfl) Tryz.underlying3 c1)
  (fun w=>run_convert_float_int w 120 3 .f64 .i64 _ _ (by rw[Tryz.underlying120];rfl) Tryz.underlying3 c2)
  (fun w1 g1=>VT _ _ w1 g1 (by omega) hn.d) (fun w1 g1=>VT _ _ w1 g1 (by omega) hn.d)
end Go.Proofs.YtkjhhooecopolaaGreatDoor

namespace Go.Proofs.YtkjhhooecopolaaGreatDoor
open Go.RowKit
def ij(n:Ge.Nd):List Value:=[.complex .f64 (floatOfInt .f64 n.1) (floatOfInt .f64 n.2.1),.int .i64 n.2.2]
def dv(l:List Ge.Nd):List Value:=l.flatMap ij
def iD(w:World)(v:Value)(l:List Ge.Nd):Prop:=w.ownsRow 0 83 2 v l.length (dv l)
theorem Eb:∀(l:List Ge.Nd)(k:Nat)(e:Ge.Nd),l[k]?=some e->∀j,j<2->(dv l)[k*2+j]?=(ij e)[j]?
 |[],_,_,h,_,_=>by simp at h
 |q::r,0,e,h,j,hj=>by
  simp at h;subst h;have e1:dv (q::r)=ij q++dv r:=by simp[dv]
  rw[e1,eD (by simp[ij];omega)]
  simp
 |q::r,k+1,e,h,j,hj=>by
  have ih:=Eb r k e (by simpa using h) j hj
  have e1:dv (q::r)=ij q++dv r:=by simp[dv]
  rw[e1,nT (by simp[ij];omega)]
  have e2:(k+1)*2+j-(ij q).length=k*2+j:=by simp[ij];omega
  rw[e2,ih]
theorem Nk(l:List Ge.Nd)(e:Ge.Nd):dv (l++[e])=dv l++ij e:=by simp[dv]
theorem I3{w:World}{v:Value}{l:List Ge.Nd}(h:iD w v l):∃so cap,v=.slice so l.length cap:=by
 rcases h.2 with⟨hv,h0⟩|⟨b,cap,cur,hv,_⟩
 ·exact⟨none,0,by rw[hv,h0]⟩
 ·exact⟨_,cap,hv⟩
theorem I4{w:World}{so:Option Addr}{n cap:Nat}{l:List Ge.Nd}(h:iD w (.slice so n cap) l){k:Nat}{e:Ge.Nd}(he:l[k]?=some e):
  ∃b,so=some ⟨b,0,none⟩/\b<w.heap.size/\w.cell? ⟨b,k*2,none⟩=some (.complex .f64 (floatOfInt .f64 e.1) (floatOfInt .f64 e.2.1))/\w.cell? ⟨b,k*2+1,none⟩=some (.int .i64 e.2.2):=by
 have g:=Eb l k e he;obtain⟨b,c,hv,hb,hc⟩:=Dm h (g 0 (by omega))
 injection hv with hv;exact⟨b,hv,hb,hc _ _ (g 0 (by omega)),hc _ _ (g 1 (by omega))⟩
theorem VV(f:Ge.Qt->List UInt8):∀l:List Ge.Qt,Lib.join (l.map f) [44,32]=Pl.aN f l
 |[]=>rfl
 |[x]=>by simp[Lib.join_one,Pl.aN]
 |x::y::r=>by
  have ih:=VV f (y::r);simp only[Pl.aN,<-ih];simp[Lib.join,List.intercalate]
theorem Nl:(Tryz.prog.info? 9).map (fun i=>(i.zero,i.size,i.bytes))=some (some (.string ⟨#[]⟩),1,16):=by kernel_rfl
def oG(l:List Ge.Nd):List ByteArray:=l.map fun n=>⟨(Pl.jd (Ge.ay n)).toArray⟩
theorem agF(l:List Ge.Nd):(oG l).map (·.data.toList)=(l.map Ge.ay).map Pl.jd:=by simp[oG]
def SI(w:World)(lv:Value)(xs:List ByteArray)(wr:World):Prop:=wr.ownsRow w.heap.size 9 1 lv xs.length (xs.map Value.string)/\Below w.heap.size w wr
theorem Nn{n:Ge.Nd}(h:dC n.1 n.2.1 n.2.2):(Pl.jd (Ge.ay n)).length<=101:=by
 have hx:=h.x;have hy:=h.y;have h1:=I2 (x:=n.1) (d:=n.2.2) (by omega) h.d
 have h2:=I2 (x:=n.2.1) (d:=n.2.2) (by omega) h.d
 show(Pl.qZ (Ge.aW n.1 n.2.2)++([32]++Pl.qZ (Ge.aW n.2.1 n.2.2))).length<=101;simp;omega
end Go.Proofs.YtkjhhooecopolaaGreatDoor
namespace Go.Proofs.YtkjhhooecopolaaGreatDoor.Ge
def met(e f:Pt×Pt)(q:Qt):Prop:=bG e f≠0/\q=dJ e f/\hq (dJ e f) e=true/\hq (dJ e f) f=true
theorem agG{e f:Pt×Pt}{q:Qt}(h:met e f q):met f e q:=by
 obtain⟨a,b,c,d⟩:=h;have a':bG f e≠0:=by rw[Vz];omega
 have m:=agi a;exact⟨a',by rw[m];exact b,by rw[m];exact d,by rw[m];exact c⟩
theorem agH(e:Pt×Pt):bG e e=0:=by unfold bG;grind
theorem agI(l:List (Pt×Pt))(e:Pt×Pt)(q:Qt):isNode (l++[e]) q↔isNode l q\/q=pt e.1\/q=pt e.2\/∃f∈l,met e f q:=by
 unfold isNode;constructor
 ·rintro(⟨g,hg,h⟩|⟨g,hg,f,hf,h⟩)
  ·rcases cu.1 hg with hg|hg
   ·exact ae (ae ⟨g,hg,h⟩)
   ·rw[bU] at hg;subst hg;rcases h with h|h
    ·exact af (ae h)
    ·exact af (af (ae h))
  ·rcases cu.1 hg with hg|hg
   ·rcases cu.1 hf with hf|hf
    ·exact ae (af ⟨g,hg,f,hf,h⟩)
    ·rw[bU] at hf;rw[hf] at h;exact af (af (af ⟨g,hg,agG h⟩))
   ·rw[bU] at hg;rw[hg] at h;rcases cu.1 hf with hf|hf
    ·exact af (af (af ⟨f,hf,h⟩))
    ·rw[bU] at hf;rw[hf] at h;exact absurd (agH e) h.1
 ·have m1:∀{x},x∈l->x∈l++[e]:=fun h=>vU _ h
  have m2:e∈l++[e]:=by simp
  rintro((⟨g,hg,h⟩|⟨g,hg,f,hf,h⟩)|h|h|⟨f,hf,h⟩)
  ·exact ae ⟨g,m1 hg,h⟩
  ·exact af ⟨g,m1 hg,f,m1 hf,h⟩
  ·exact ae ⟨e,m2,ae h⟩
  ·exact ae ⟨e,m2,af h⟩
  ·exact af ⟨e,m2,f,m1 hf,h⟩
def cL:List Nd->List Nd
 |[]=>[]
 |[a]=>[a]
 |a::b::r=>if a=b then cL (b::r) else a::cL (b::r)
theorem yV:∀(l:List Nd)(x:Nd),x∈cL l↔x∈l
 |[],x=>by simp[cL]
 |[a],x=>by simp[cL]
 |a::b::r,x=>by
  have ih:=yV (b::r) x;unfold cL;split
  ·rename_i h
   subst h;rw[ih];simp
  ·rw[aV,ih];simp
def le(a b:Nd):Prop:=¬lt (ay b) (ay a)
theorem Bh{a b:Nd}(ha:Can a)(hb:Can b)(h:le a b)(hne:a≠b):lt (ay a) (ay b):=by
 unfold le lt at h;unfold lt;rw[H0] at h;rcases fD (pc (ay a) (ay b)) 0 with h1|h1|h1
 ·exact h1
 ·exact absurd (vk ha hb h1) hne
 ·omega
theorem lt_le_trans{a b c:Nd}(ha:Can a)(hb:Can b)(hc:Can c)(h1:lt (ay a) (ay b))(h2:le b c):lt (ay a) (ay c):=by
 by_cases h:b=c
 ·subst h;exact h1
 ·exact lt_trans (cS ha) (cS hb) (cS hc) h1 (Bh hb hc h2 h)
theorem VW:∀(l:List Nd),(∀n∈l,Can n)->l.Pairwise le->(cL l).Pairwise (fun a b=>lt (ay a) (ay b))
 |[],_,_=>List.Pairwise.nil
 |[a],_,_=>by simp[cL]
 |a::b::r,hc,hp=>by
  have hp2:=(gv.1 hp).2;have hp1:=(gv.1 hp).1;have ih:=VW (b::r) (fun n h=>hc n (by simp[List.mem_cons] at h⊢;exact af h)) hp2
  unfold cL;split
  ·exact ih
  ·rename_i hne
   refine gv.2 ⟨fun x hx=>?_,ih⟩
   have hx':=(yV (b::r) x).1 hx;have ca:=hc a (by simp)
   have cb:=hc b (by simp)
   have hab:=Bh ca cb (hp1 b (by simp)) hne
   rcases aV.1 hx' with h|h
   ·subst h;exact hab
   ·exact lt_le_trans ca cb (hc x (by simp[h])) hab ((gv.1 hp2).1 x h)
theorem agJ(es:List (Pt×Pt))(S:List Nd)(hc:∀n∈S,Can n)(hp:S.Pairwise le)(hm:∀q,(∃n∈S,ay n=q)↔isNode es q):(cL S).map ay=gq es:=by
 obtain⟨h1,h2,h3⟩:=yP es;refine Um (fun q hq=>?_) h1 ?_ h2 (fun q=>?_)
 ·obtain⟨n,hn,rfl⟩:=bh.1 hq;exact cS (hc n ((yV S n).1 hn))
 ·exact nU.2 (VW S hc hp)
 ·rw[h3,<-hm,bh];constructor
  ·rintro⟨n,hn,h⟩;exact⟨n,(yV S n).1 hn,h⟩
  ·rintro⟨n,hn,h⟩;exact⟨n,(yV S n).2 hn,h⟩
end Go.Proofs.YtkjhhooecopolaaGreatDoor.Ge
namespace Go.Proofs.YtkjhhooecopolaaGreatDoor
open Go.RowKit
theorem VX:(Tryz.prog.info? 83).map (fun i=>(i.zero,i.size,i.bytes))=some (some (.agg #[.complex .f64 0 0,.int .i64 0]),2,24):=by kernel_rfl
theorem VY:∀l:List Ge.Nd,(Ge.cL l).length<=l.length
 |[]=>by simp[Ge.cL]
 |[a]=>by simp[Ge.cL]
 |a::b::r=>by
  have ih:=VY (b::r);unfold Ge.cL;split
  ·simp only[bW] at ih⊢;omega
  ·simp only[bW] at ih⊢;omega
structure NL(w:World)(lv:Value)(L:List Ge.Nd)(wr:World):Prop where
 own:wr.ownsRow w.heap.size 83 2 lv L.length (dv L)
 below:Below w.heap.size w wr
 can:∀n∈L,Ge.Can n
 aF:∀n∈L,dC n.1 n.2.1 n.2.2
def NS(w:World)(lv:Value)(l:List Ed)(k:Nat)(wr:World):Prop:=
 ∃L,NL w lv L wr/\(∀q,(∃n∈L,Ge.ay n=q)↔Ge.isNode l q)/\L.length<=k
structure tH(w:World)(B:Nat)(x:EB)(e:Ed)(es:List Ed)(i j:Nat)(lv:Value)(L:List Ge.Nd)(wr:World):Prop where
 nl:NL w lv L wr
 lt:B<wr.heap.size
 ne:lv.ownBlock≠some B
 c0:wr.cell? ⟨B,0,none⟩=some (.complex .f64 x.wa x.wb)
 c1:wr.cell? ⟨B,1,none⟩=some (.float .f64 x.sh)
 c2:wr.cell? ⟨B,2,none⟩=some (.complex .f64 x.fa x.fb)
 c3:wr.cell? ⟨B,3,none⟩=some (.complex .f64 x.ta x.tb)
 iff:∀q,(∃n∈L,Ge.ay n=q)↔Ge.isNode (es.take i) q\/q=Ge.pt e.1\/q=Ge.pt e.2\/∃f∈es.take j,Ge.met e f q
 len:L.length<=i*404+2+j
theorem tH.keep{w:World}{B:Nat}{x:EB}{e:Ed}{es:List Ed}{i j:Nat}{lv:Value}{L:List Ge.Nd}{wr w':World}(h:tH w B x e es i j lv L wr)(hb:Below wr.heap.size wr w'):tH w B x e es i j lv L w':=
 ⟨⟨aO h.nl.own fun k hk=>hb.block k (aA h.nl.own k hk).2,h.nl.below.trans (hb.mono h.nl.below.size),h.nl.can,h.nl.aF⟩,aQ h.lt hb.size,h.ne,(hb.cell (p:=⟨B,0,none⟩) h.lt).trans h.c0,(hb.cell (p:=⟨B,1,none⟩) h.lt).trans h.c1,(hb.cell (p:=⟨B,2,none⟩) h.lt).trans h.c2,(hb.cell (p:=⟨B,3,none⟩) h.lt).trans h.c3,h.iff,h.len⟩
theorem VZ{es:List Ed}{j:Nat}{f e:Ed}(hf:es[j]?=some f)(q:Ge.Qt):(∃f'∈es.take (j+1),Ge.met e f' q)↔(∃f'∈es.take j,Ge.met e f' q)\/Ge.met e f q:=by
 have h:es.take (j+1)=es.take j++[f]:=by rw[jH,hf];rfl
 rw[h];constructor
 ·rintro⟨g,hg,h⟩;rcases cu.1 hg with hg|hg
  ·exact ae ⟨g,hg,h⟩
  ·rw[bU] at hg;rw[hg] at h;exact af h
 ·rintro(⟨g,hg,h⟩|h)
  ·exact⟨g,by simp[hg],h⟩
  ·exact⟨f,by simp,h⟩
theorem tH.skip{w:World}{B:Nat}{x:EB}{e:Ed}{es:List Ed}{i j:Nat}{lv:Value}{L:List Ge.Nd}{wr:World}{f:Ed}(h:tH w B x e es i j lv L wr)(hf:es[j]?=some f)(hn:¬(Ge.bG e f≠0/\Ge.hq (Ge.dJ e f) e=true/\Ge.hq (Ge.dJ e f) f=true)):tH w B x e es i (j+1) lv L wr:=
 ⟨h.nl,h.lt,h.ne,h.c0,h.c1,h.c2,h.c3,fun q=>by
  have hm:¬Ge.met e f q:=fun m=>hn ⟨m.1,m.2.2⟩
  rw[h.iff q,VZ hf q];simp[hm],by have:=h.len;omega⟩
theorem agK(es:List Ed)(v:Value)(w:World)(hR:gG w v es)(hl:es.length<=402)(hs:∀e∈es,fB e)
  (HS:Hid (∀lv L wr,NL w lv L wr->L.length<=200000->Calls Tryz.prog 124 #[lv,.func (.func 125) #[] #[]] wr fun r w'=>r=.returned (.tuple #[])/\∃S,NL w lv S w'/\(∀n,n∈S↔n∈L)/\S.length=L.length/\S.Pairwise Ge.le))
  (HK:Hid (∀lv S wr,NL w lv S wr->S.length<=200000->Calls Tryz.prog 126 #[lv] wr fun r w'=>∃v',r=.returned v'/\iD w' v' (Ge.cL S)/\Below w.heap.size w w')):
  Calls Tryz.prog 72 #[v] w fun e w'=>∃v' l,e=.returned v'/\iD w' v' l/\Below w.heap.size w w'/\l.map Ge.ay=Ge.gq es/\(∀n∈l,dC n.1 n.2.1 n.2.2)/\l.length<=200000/\(∀n∈l,Ge.Can n):=by
 obtain⟨so,cap,rfl⟩:=Dq hR;obtain⟨i0,hi,hz0,hz1,hz2⟩:=info_parts VX;have HR:Hid (gG w (.slice so es.length cap) es):=hR;clear hR
 go_enter Tryz.func72,Tryz.ntmps72
 go_wp2_with fail
 have bw:Hid (NS w (.slice none 0 0) [] 0 w):=⟨[],⟨World.ownsRow_nil _ _ _ _,Below.refl _ _,fun n h=>by simp at h,fun n h=>by simp at h⟩,fun q=>by simp[Ge.isNode],by simp⟩
 go_loopg [3,12] es.length (fun m lv iv wr=>∃i:Nat,i+m=es.length/\iv=.int .i64 i/\Hid (NS w lv (es.take i) (i*404) wr))
 case atStart=>exact⟨0,by omega,rfl,bw⟩
 case round=>
  obtain⟨i,him,rfl,HE⟩:=hrel;clear bw;by_cases hlt:i<es.length
  ·obtain⟨e,he⟩:∃e,es[i]?=some e:=⟨_,aD hlt⟩;obtain⟨b,x,rfl,hb,hx,c0,c1,c2,c3⟩:=Dr HR.out he;obtain⟨L,xd,Ec,jO⟩:=HE.out;have ak:=xd.below;have r0:=(ak.cell (p:=⟨b,i*4,none⟩) hb).trans c0;have r1:=(ak.cell (p:=⟨b,i*4+1,none⟩) hb).trans c1;have r2:=(ak.cell (p:=⟨b,i*4+2,none⟩) hb).trans c2;have r3:=(ak.cell (p:=⟨b,i*4+3,none⟩) hb).trans c3;have jx:=hs e (bn he);obtain⟨n1,n1c,Np,V2,Nq⟩:=IW 1 hx.fa hx.fb (by have:=jx.a;unfold small at this;omega) (by have:=jx.b;unfold small at this;omega) (by omega)
   obtain⟨n2,V3,Nr,V4,xe⟩:=IW 1 hx.ta hx.tb (by have:=jx.c;unfold small at this;omega) (by have:=jx.d;unfold small at this;omega) (by omega)
   rw[Ge.H6,Ge.H6] at Np Nr;have HX:Hid (jc x e):=hx;have HEM:Hid (e∈es):=bn he;have HEI:Hid (es[i]?=some e):=he;have Bi:Hid (NL w u3 L wr):=xd;have tJ:Hid (∀q,(∃n∈L,Ge.ay n=q)↔Ge.isNode (es.take i) q):=Ec;have Ee:Hid (Ge.ay n1=Ge.pt e.1/\Ge.Can n1/\dC n1.1 n1.2.1 n1.2.2):=⟨Np,n1c,V2⟩;have Ef:Hid (Ge.ay n2=Ge.pt e.2/\Ge.Can n2/\dC n2.1 n2.2.1 n2.2.2):=⟨Nr,V3,V4⟩;have eK:(i:Int)<(es.length:Int):=by omega
   have hbr:b<wr.heap.size:=aQ hb ak.size;obtain⟨wa,wb,sh,fa,fb,ta,tb⟩:=x;simp only at r0 r1 r2 r3 Nq xe;have yT:Hid (∀w1,Calls Tryz.prog 37 #[.complex .f64 fa fb,.int .i64 1] w1 fun e w'=>e=.returned (ie n1)/\Below w1.heap.size w1 w'):=Nq
   have yU:Hid (∀w1,Calls Tryz.prog 37 #[.complex .f64 ta tb,.int .i64 1] w1 fun e w'=>e=.returned (ie n2)/\Below w1.heap.size w1 w'):=xe
   clear c0 c1 c2 c3 xd Ec hx Nq xe n1c Np V2 V3 Nr V4 he HE jx
   go_wp2_with (first |(simp only[fL];go_simp)|(simp only[nH];go_simp)|(simp only[fL,nH];go_simp))
   have hE:=heap_alloc_new wr (.cells #[.complex .f64 wa wb,.float .f64 sh,.complex .f64 fa fb,.complex .f64 ta tb] 124);have hbW:=ak.alloc ak.size (.cells #[.complex .f64 wa wb,.float .f64 sh,.complex .f64 fa fb,.complex .f64 ta tb] 124);have V5:(wr.alloc (.cells #[.complex .f64 wa wb,.float .f64 sh,.complex .f64 fa fb,.complex .f64 ta tb] 124)).ownsRow w.heap.size 83 2 u3 L.length (dv L):=aO Bi.out.own fun k hk=>Below.heap_alloc _ _ _ (aA Bi.out.own k hk).2
   have yX:wr.heap.size<(wr.alloc (.cells #[.complex .f64 wa wb,.float .f64 sh,.complex .f64 fa fb,.complex .f64 ta tb] 124)).heap.size:=by simp
   have Eg:∀k,u3.ownBlock=some k->k<wr.heap.size:=fun k hk=>(aA Bi.out.own k hk).2
   have V6:w.heap.size<=wr.heap.size:=ak.size;generalize wr.alloc (.cells #[.complex .f64 wa wb,.float .f64 sh,.complex .f64 fa fb,.complex .f64 ta tb] 124)=W at*;generalize hBq:wr.heap.size=B at*;have a0:W.cell? ⟨B,0,none⟩=some (.complex .f64 wa wb):=cell_of hE 0;have a1:W.cell? ⟨B,1,none⟩=some (.float .f64 sh):=cell_of hE 1;have a2:W.cell? ⟨B,2,none⟩=some (.complex .f64 fa fb):=cell_of hE 2;have a3:W.cell? ⟨B,3,none⟩=some (.complex .f64 ta tb):=cell_of hE 3;have xf:Hid (ij n1=[.complex .f64 (floatOfInt .f64 n1.1) (floatOfInt .f64 n1.2.1),.int .i64 n1.2.2]):=rfl;have xg:Hid (ij n2=[.complex .f64 (floatOfInt .f64 n2.1) (floatOfInt .f64 n2.2.1),.int .i64 n2.2.2]):=rfl;unfold ie at yT yU;generalize floatOfInt .f64 n1.1=A1 at*;generalize floatOfInt .f64 n1.2.1=A2 at*;generalize floatOfInt .f64 n2.1=A4 at*;generalize floatOfInt .f64 n2.2.1=A5 at*;have Eh:some B≠u3.ownBlock:=fun h=>acE _ (Eg B h.symm)
   clear r0 r1 r2 r3 hE;refine wp_region_held_drew (S:=(fun w'=>w'.cell? ⟨B,0,none⟩=some (.complex .f64 wa wb)/\w'.cell? ⟨B,1,none⟩=some (.float .f64 sh)/\w'.cell? ⟨B,2,none⟩=some (.complex .f64 fa fb)/\w'.cell? ⟨B,3,none⟩=some (.complex .f64 ta tb))) (by kernel_rfl) ⟨a0,a1,a2,a3⟩ (fun hHeld=>?_)
   refine wpAnyH_take (i:=0) (oi:={dst:=some 17,op:=_,type:=_,pos:=_,after:=_,guard:=_}) (v:=?_) rfl (by kernel_rfl) (by kernel_rfl) (by kernel_rfl) (fun _ _ _ h=>h) (ae ⟨by rfl,?_⟩) hHeld ?_
   rotate_left
   ·intro w' aB;obtain⟨s0,s1,s2,s3⟩:=aB
    go_simp
    try with_reducible rfl
   simp only[Act.put,aI,aJ,aG];refine wpAnyH_take (i:=1) (oi:={dst:=some 18,op:=_,type:=_,pos:=_,after:=_,guard:=_}) (v:=?_) rfl (by kernel_rfl) (by kernel_rfl) (by kernel_rfl) (fun _ _ _ h=>h) (ae ⟨by rfl,?_⟩) hHeld ?_
   rotate_left
   ·intro w' aB;obtain⟨s0,s1,s2,s3⟩:=aB
    go_simp
    try with_reducible rfl
   simp only[Act.put,aI,aJ,aG];refine wpAnyH_take (i:=2) (oi:={dst:=some 19,op:=_,type:=_,pos:=_,after:=_,guard:=_}) (v:=?_) rfl (by kernel_rfl) (by kernel_rfl) (by kernel_rfl) (fun _ _ _ h=>h) (ae ⟨by rfl,?_⟩) hHeld ?_
   rotate_left
   ·intro w' aB;obtain⟨s0,s1,s2,s3⟩:=aB
    go_simp
    try with_reducible rfl
   simp only[Act.put,aI,aJ,aG];refine wpAnyH_take (i:=4) (oi:={dst:=some 21,op:=_,type:=_,pos:=_,after:=_,guard:=_}) (v:=?_) rfl (by kernel_rfl) (by kernel_rfl) (by kernel_rfl) (fun _ _ _ h=>h) (ae ⟨by rfl,?_⟩) hHeld ?_
   rotate_left
   ·intro w' aB;obtain⟨s0,s1,s2,s3⟩:=aB
    go_simp
    try with_reducible rfl
   simp only[Act.put,aI,aJ,aG];refine wpAnyH_take (i:=5) (oi:={dst:=some 22,op:=_,type:=_,pos:=_,after:=_,guard:=_}) (v:=?_) rfl (by kernel_rfl) (by kernel_rfl) (by kernel_rfl) (fun _ _ _ h=>h) (ae ⟨by rfl,?_⟩) hHeld ?_
   rotate_left
   ·intro w' aB;obtain⟨s0,s1,s2,s3⟩:=aB
    go_simp
    try with_reducible rfl
   simp only[Act.put,aI,aJ,aG];refine wpAnyH_ready (rs:=[3]) (by kernel_rfl) (by simp) ?_
   refine AllReadyH.cons rfl (fun K hK=>?_) AllReadyH.nil
   go_simp
   refine(yT.out _).mono ?_;rintro e w6 ⟨rfl,aC⟩;have b0:=(aC.cell (p:=⟨B,0,none⟩) yX).trans a0;have b1:=(aC.cell (p:=⟨B,1,none⟩) yX).trans a1;have b2:=(aC.cell (p:=⟨B,2,none⟩) yX).trans a2;have b3:=(aC.cell (p:=⟨B,3,none⟩) yX).trans a3;have tK:=aQ yX aC.size;have gm:=aO V5.drew fun k hk=>aC.block k (acD (Eg k hk) yX)
   go_wp2_with fail
   refine hK.out _ _ ⟨b0,b1,b2,b3⟩ (fun hHeld=>?_)
   clear hK K
   try simp only[Act.put,aI,aJ,aG]
   refine wpAnyH_ready (rs:=[6]) (by kernel_rfl) (by simp) ?_
   refine AllReadyH.cons rfl (fun K hK=>?_) AllReadyH.nil
   go_simp
   refine(yU.out _).mono ?_;rintro e w7 ⟨rfl,aY⟩;have c0:=(aY.cell (p:=⟨B,0,none⟩) tK).trans b0;have c1:=(aY.cell (p:=⟨B,1,none⟩) tK).trans b1;have c2:=(aY.cell (p:=⟨B,2,none⟩) tK).trans b2;have c3:=(aY.cell (p:=⟨B,3,none⟩) tK).trans b3;have vo:=aQ tK aY.size;have I5:=aO gm fun k hk=>aY.block k (acD (Eg k hk) tK)
   go_wp2_with fail
   refine hK.out _ _ ⟨c0,c1,c2,c3⟩ (fun hHeld=>?_)
   clear hK K
   try simp only[Act.put,aI,aJ,aG]
   refine wpAnyH_ready (rs:=[7]) (by kernel_rfl) (by simp) ?_
   refine AllReadyH.cons rfl (fun K hK=>?_) AllReadyH.nil
   go_simp
   refine hK.out _ _ ⟨(ju _ _ vo).trans c0,(ju _ _ vo).trans c1,(ju _ _ vo).trans c2,(ju _ _ vo).trans c3⟩ (fun hHeld=>?_)
   clear hK K
   try simp only[Act.put,aI,aJ,aG]
   refine wpAnyH_ready (rs:=[8]) (by kernel_rfl) (by simp) ?_
   refine AllReadyH.cons rfl (fun K hK=>?_) AllReadyH.nil
   refine step_append_lies _ rfl (.tmp 17) (.tmp 24) 138 rfl w.heap.size 83 i0 _ 2 24 Tryz.underlying138 hi hz0 hz1 hz2 rfl (by decide) u3 L.length (dv L) rfl (aO I5 (fun k hk=>Below.heap_alloc _ _ _ (aA I5 k hk).2)) ⟨w7.heap.size,0,none⟩ 2 2 [.complex .f64 A1 A2,.int .i64 n1.2.2,.complex .f64 A4 A5,.int .i64 n2.2.2] rfl rfl (World.news_of_block (cs:= #[.complex .f64 A1 A2,.int .i64 n1.2.2,.complex .f64 A4 A5,.int .i64 n2.2.2]) (t:=83) (fr:=(0,0)) (heap_alloc_new w7 _)) (by simp[Value.oneCell']) (by decide) (by unfold maxLen;omega) (by omega) (by simp;omega) (w7.heap.size+1) (by simp) ?_
   intro g' cap' w8 cM bo gK qp;have d0:=(bo.cell_far ⟨B,0,none⟩ (by simp;omega) Eh).trans ((ju _ _ vo).trans c0)
   have d1:=(bo.cell_far ⟨B,1,none⟩ (by simp;omega) Eh).trans ((ju _ _ vo).trans c1)
   have d2:=(bo.cell_far ⟨B,2,none⟩ (by simp;omega) Eh).trans ((ju _ _ vo).trans c2)
   have d3:=(bo.cell_far ⟨B,3,none⟩ (by simp;omega) Eh).trans ((ju _ _ vo).trans c3)
   go_simp
   refine hK.out _ _ ⟨d0,d1,d2,d3⟩ (fun hHeld=>?_)
   clear hK K
   try simp only[Act.put,aI,aJ,aG]
   refine wpAnyH_take (i:=9) (oi:={dst:=some 3,op:=_,type:=_,pos:=_,after:=_,guard:=_}) (v:=?_) rfl (by kernel_rfl) (by kernel_rfl) (by kernel_rfl) (fun _ _ _ h=>h) (ae ⟨by rfl,?_⟩) hHeld ?_
   rotate_left
   ·intro w' aB;obtain⟨s0,s1,s2,s3⟩:=aB
    go_simp
    try with_reducible rfl
   simp only[Act.put,aI,aJ,aG];refine wpAnyH_done (by kernel_rfl) ?_ _
   have V7:Below w.heap.size w w8:=by
    have q6:=hbW.drew.trans (aC.mono (dY V6 (eF yX)));have q7:=q6.trans (aY.mono (dY V6 (eF tK)));exact(q7.alloc q7.size _).grown bo (by simp;omega) (fun k hk=>(aA I5 k hk).1)
   have I6:Hid (NL w (.slice (some ⟨g',0,none⟩) (L.length+2) cap') (L++[n1,n2]) w8):=by
    have hrow:dv (L++[n1,n2])=dv L++[.complex .f64 A1 A2,.int .i64 n1.2.2,.complex .f64 A4 A5,.int .i64 n2.2.2]:=by
     have e1:dv (L++[n1,n2])=dv L++(ij n1++ij n2):=by simp[dv]
     rw[e1,xf.out,xg.out];rfl
    refine⟨?_,V7,fun n hn=>?_,fun n hn=>?_⟩
    ·rw[hrow,aX];exact cM
    ·rcases cu.1 hn with h|h
     ·exact Bi.out.can n h
     ·rcases aV.1 h with h|h
      ·rw[h];exact Ee.out.2.1
      ·rw[bU.1 h];exact Ef.out.2.1
    ·rcases cu.1 hn with h|h
     ·exact Bi.out.aF n h
     ·rcases aV.1 h with h|h
      ·rw[h];exact Ee.out.2.2
      ·rw[bU.1 h];exact Ef.out.2.2
   have Ei:Hid (tH w B ⟨wa,wb,sh,fa,fb,ta,tb⟩ e es i 0 (.slice (some ⟨g',0,none⟩) (L.length+2) cap') (L++[n1,n2]) w8):=by
    refine⟨I6.out,?_,?_,d0,d1,d2,d3,fun q=>?_,by simp;omega⟩
    ·have h1:=bo.size;simp at h1;omega
    ·show some g'≠some B;intro h;injection h with h;rcases gK with h8|h8
     ·have:=Eg g' h8;omega
     ·omega
    ·have h1:=tJ.out q;simp only[List.take_zero,acF,um,exists_false,uo];rw[<-h1];constructor
     ·rintro⟨n,hn,h⟩;rcases cu.1 hn with hn|hn
      ·exact ae ⟨n,hn,h⟩
      ·rcases aV.1 hn with hn|hn
       ·exact af (ae (by rw[<-h,hn,Ee.out.1]))
       ·exact af (af (by rw[<-h,bU.1 hn,Ef.out.1]))
     ·rintro(⟨n,hn,h⟩|h|h)
      ·exact⟨n,by simp[hn],h⟩
      ·exact⟨n1,by simp,by rw[h,Ee.out.1]⟩
      ·exact⟨n2,by simp,by rw[h,Ef.out.1]⟩
   have hcap:¬cap<i:=by
    obtain⟨_,_,ho,_⟩:=HR.out;rcases ho.2 with⟨hv,_⟩|⟨_,_,_,hv,_,_,hc,_⟩
    ·cases hv
    ·injection hv with _ _ hv;omega
   have aoy:i<=cap:=by omega
   clear yT yU xf xg a0 a1 a2 a3 b0 b1 b2 b3 c0 c1 c2 c3 gm I5 cM aC aY V5 Eg Eh tK vo bo gK qp hHeld
   go_wp2_with fail
   obtain⟨m1,yO⟩:∃m1,m1=gk:=⟨_,rfl⟩
   go_loopg [3,30] i (fun m lv nv wr=>∃j:Nat,j+m=i/\nv=.int .i64 j/\Hid (∃L',tH w B ⟨wa,wb,sh,fa,fb,ta,tb⟩ e es i j lv L' wr))
   case atStart=>exact⟨0,by omega,rfl,⟨_,Ei.out⟩⟩
   case round=>
    obtain⟨j,hjm,rfl,kZ⟩:=hrel;clear Ei I6 d0 d1 d2 d3 tJ Bi Ee Ef V7;obtain⟨L',hI⟩:=kZ.out;by_cases ID:j<i
    ·obtain⟨f,hf⟩:∃f,es[j]?=some f:=⟨_,aD (by omega)⟩
     obtain⟨b4,y,hb4,_,hy,f0,f1,f2,f3⟩:=Dr HR.out hf;injection hb4 with hb4;injection hb4 with hb4;subst hb4;have jZ:=hI.nl.below;have s0:=(jZ.cell (p:=⟨b,j*4,none⟩) hb).trans f0;have s1:=(jZ.cell (p:=⟨b,j*4+1,none⟩) hb).trans f1;have s2:=(jZ.cell (p:=⟨b,j*4+2,none⟩) hb).trans f2;have s3:=(jZ.cell (p:=⟨b,j*4+3,none⟩) hb).trans f3;have a0:=hI.c0;have a1:=hI.c1;have a2:=hI.c2;have a3:=hI.c3;obtain⟨vn,bt,nv,hM,⟨M1,M2,MP,yY⟩,I7,I8⟩:=agw ⟨wa,wb,sh,fa,fb,ta,tb⟩ y e f HX.out hy (hs e (HEM.out)) (hs f (bn hf));subst yY;have HM:Hid (∀w,Calls Tryz.prog 123 #[.agg (EB.cells ⟨wa,wb,sh,fa,fb,ta,tb⟩),.agg y.cells] w fun r w'=>r=.returned (.tuple #[.agg #[.complex .f64 M1 M2,.int .i64 MP],.bool bt])/\Below w.heap.size w w'):=hM
     have I9:Hid (bt=true↔Ge.bG e f≠0/\Ge.hq (Ge.dJ e f) e=true/\Ge.hq (Ge.dJ e f) f=true):=I7;have Ns:Hid (bt=true->.agg #[.complex .f64 M1 M2,.int .i64 MP]=ie vn/\Ge.Can vn/\Ge.ay vn=Ge.dJ e f/\dC vn.1 vn.2.1 vn.2.2):=I8;have HF:Hid (es[j]?=some f):=hf;obtain⟨ya,yb,ys,yc,yd,ye,yf⟩:=y;simp only[EB.cells] at HM s0 s1 s2 s3 a0 a1 a2 a3;have AZ:(j:Int)<(i:Int):=by omega
     have V8:=hI.lt;clear hM I7 I8 f0 f1 f2 f3 hy hf kZ
     go_wp2_with (first |(simp only[fL];go_simp)|(simp only[nH];go_simp))
     have Bj:Below wr.heap.size wr (wr.alloc (.cells #[.complex .f64 ya yb,.float .f64 ys,.complex .f64 yc yd,.complex .f64 ye yf] 124)):=(Below.refl _ _).alloc (ai _) _;refine(HM.out _).mono ?_;rintro e5 w5 ⟨rfl,ax⟩;have Ja:=hI.keep (Bj.trans (ax.mono Bj.size));clear a0 a1 a2 a3 s0 s1 s2 s3 Bj ax HM hI jZ V8;cases bt
     ·have V9:=Ja.skip HF.out (fun h=>by have:=I9.out.2 h;cases this)
      have kK:=Ja.nl.below;have Bk:Hid (∀o,tH w B ⟨wa,wb,sh,fa,fb,ta,tb⟩ e es i (j+1) u3 L' (w5.alloc o)):=fun o=>V9.keep ((Below.refl w5.heap.size w5).alloc (ai _) o)
      clear Ns I9 V9
      go_wp2_with (simp only[fL];go_simp)
      go_roundg (gk-1)
      case measure=>omega
      case rel=>exact⟨j+1,by omega,by go_num,⟨_,Bk.out _⟩⟩
     ·obtain⟨yY,Wa,Wb,Bl⟩:=Ns.out rfl;have Wc:=I9.out.1 rfl;have hnc:ij vn=[.complex .f64 M1 M2,.int .i64 MP]:=by
       unfold ie at yY;injection yY with yY;have:=aw Array.toList yY;exact this.symm
      have Ej:Hid (ij vn=[.complex .f64 M1 M2,.int .i64 MP]/\Ge.Can vn/\Ge.ay vn=Ge.dJ e f/\dC vn.1 vn.2.1 vn.2.2):=⟨hnc,Wa,Wb,Bl⟩;have We:Hid (Ge.bG e f≠0/\Ge.hq (Ge.dJ e f) e=true/\Ge.hq (Ge.dJ e f) f=true):=Wc;have Bn:=Ja.keep ((Below.refl w5.heap.size w5).alloc (ai _) (.cells #[.complex .f64 M1 M2,.int .i64 MP] 83));have gm:=Bn.nl.own;have aoz:=Bn.len;have IL:=Bn.nl.below.size;have Df:=heap_alloc_new w5 (.cells #[.complex .f64 M1 M2,.int .i64 MP] 83);clear Ns I9 yY Wa Wb Bl Wc hnc Ja
      go_wp2_with (first
       |(at_builtin;refine wpList_append_lies _ rfl (.tmp 41) (.tmp 43) 138 rfl w.heap.size 83 i0 _ 2 24 Tryz.underlying138 hi hz0 hz1 hz2 rfl (by decide) u3 L'.length (dv L') rfl (aO gm (fun k hk=>Below.heap_alloc _ _ _ (aA gm k hk).2)) ⟨w5.heap.size+1,0,none⟩ 1 1 [.complex .f64 M1 M2,.int .i64 MP] rfl rfl (World.news_of_block (cs:= #[.complex .f64 M1 M2,.int .i64 MP]) (t:=83) (fr:=(0,0)) (by have:=heap_alloc_new (w5.alloc (.cells #[.complex .f64 M1 M2,.int .i64 MP] 83)) (.cells #[.complex .f64 M1 M2,.int .i64 MP] 83);simpa using this)) (by simp[Value.oneCell']) (by decide) (by unfold maxLen;omega) (by omega) (by simp at IL⊢;omega) (w5.heap.size+2) (by simp) ?_;intro g2 cap2 w9 yZ y7 Wf agN)
       |(simp only[fL];go_simp))
      have HN9:Hid (tH w B ⟨wa,wb,sh,fa,fb,ta,tb⟩ e es i (j+1) (.slice (some ⟨g2,0,none⟩) (L'.length+1) cap2) (L'++[vn]) w9):=by
       have pQ:=Bn.keep ((Below.refl (w5.alloc (.cells #[.complex .f64 M1 M2,.int .i64 MP] 83)).heap.size _).alloc (ai _) (.cells #[.complex .f64 M1 M2,.int .i64 MP] 83));have hne:some B≠u3.ownBlock:=fun h=>pQ.ne h.symm
       have Ek:=pQ.lt;refine⟨⟨?_,pQ.nl.below.grown y7 pQ.nl.below.size (fun k hk=>(aA pQ.nl.own k hk).1),fun n hn=>?_,fun n hn=>?_⟩,?_,?_,(y7.cell_far ⟨B,0,none⟩ Ek hne).trans pQ.c0,(y7.cell_far ⟨B,1,none⟩ Ek hne).trans pQ.c1,(y7.cell_far ⟨B,2,none⟩ Ek hne).trans pQ.c2,(y7.cell_far ⟨B,3,none⟩ Ek hne).trans pQ.c3,fun q=>?_,by rw[aX];show L'.length+1<=_;omega⟩
       ·rw[Nk,Ej.out.1,aX];exact yZ
       ·rcases cu.1 hn with h|h
        ·exact pQ.nl.can n h
        ·rw[bU.1 h];exact Ej.out.2.1
       ·rcases cu.1 hn with h|h
        ·exact pQ.nl.aF n h
        ·rw[bU.1 h];exact Ej.out.2.2.2
       ·exact aQ Ek y7.size
       ·show some g2≠some B;intro h;injection h with h;rcases Wf with h9|h9
        ·exact pQ.ne (by rw[h9,h])
        ·have:=Bn.lt;simp at this;omega
       ·have h1:=pQ.iff q;rw[VZ HF.out q];constructor
        ·rintro⟨n,hn,h⟩;rcases cu.1 hn with hn|hn
         ·rcases h1.1 ⟨n,hn,h⟩ with h|h|h|h
          ·exact ae h
          ·exact af (ae h)
          ·exact af (af (ae h))
          ·exact af (af (af (ae h)))
         ·rw[bU.1 hn,Ej.out.2.2.1] at h;exact af (af (af (af ⟨We.out.1,h.symm,We.out.2⟩)))
        ·rintro(h|h|h|h|h)
         ·obtain⟨n,hn,h⟩:=h1.2 (ae h);exact⟨n,by simp[hn],h⟩
         ·obtain⟨n,hn,h⟩:=h1.2 (af (ae h));exact⟨n,by simp[hn],h⟩
         ·obtain⟨n,hn,h⟩:=h1.2 (af (af (ae h)));exact⟨n,by simp[hn],h⟩
         ·obtain⟨n,hn,h⟩:=h1.2 (af (af (af h)));exact⟨n,by simp[hn],h⟩
         ·exact⟨vn,by simp,by rw[Ej.out.2.2.1,h.2.1]⟩
      clear yZ y7 gm Bn Wf agN Df
      go_roundg (gk-1)
      case measure=>omega
      case rel=>exact⟨j+1,by omega,by go_num,⟨_,HN9.out⟩⟩
    ·have hj:j=i:=by omega
     subst hj;have cI:Hid (NS w u3 (es.take (j+1)) ((j+1)*404) wr):=by
      have htk:es.take (j+1)=es.take j++[e]:=by rw[jH,HEI.out];rfl
      refine⟨L',hI.nl,fun q=>?_,by have:=hI.len;omega⟩
      rw[htk,Ge.agI,hI.iff q]
     clear kZ hI
     go_wp2_with fail
     go_roundg (m1-1)
     case measure=>omega
     case rel=>exact⟨j+1,by omega,by go_num,cI⟩
  ·have hk:i=es.length:=by omega
   subst hk;have HF:Hid (NS w u3 es (es.length*404) wr):=by
    have:=HE.out;rw[dN] at this;exact this
   clear HE HR;obtain⟨L,xd,Ec,jO⟩:=HF.out;have hL2:L.length<=200000:=by omega
   go_wp2_with fail
   refine(HS.out _ L _ xd hL2).mono ?_;rintro e w5 ⟨rfl,S,hS,hmem,hlen,hpw⟩
   go_wp2_with fail
   refine(HK.out _ S _ hS (by omega)).mono ?_
   rintro e w6 ⟨v',rfl,Wh,aC⟩;have Nt:Hid (iD w6 v' (Ge.cL S)):=Wh;have Wi:Hid (S.length<=200000/\∀q,(∃n∈S,Ge.ay n=q)↔Ge.isNode es q):=⟨by omega,fun q=>by
    rw[<-Ec q];constructor
    ·rintro⟨n,hn,h⟩;exact⟨n,(hmem n).1 hn,h⟩
    ·rintro⟨n,hn,h⟩;exact⟨n,(hmem n).2 hn,h⟩⟩
   have sW:Hid (S.Pairwise Ge.le):=hpw;have Nu:Hid (NL w u3 S w5):=hS;clear Wh Ec hmem hpw hS xd HF HS HK
   go_wp2_with fail
   go_ret
   exact⟨v',Ge.cL S,rfl,Nt.out,aC,Ge.agJ es S Nu.out.can sW.out Wi.out.2,fun n hn=>Nu.out.aF n ((Ge.yV S n).1 hn),dY (VY S) Wi.out.1,fun n hn=>Nu.out.can n ((Ge.yV S n).1 hn)⟩
end Go.Proofs.YtkjhhooecopolaaGreatDoor

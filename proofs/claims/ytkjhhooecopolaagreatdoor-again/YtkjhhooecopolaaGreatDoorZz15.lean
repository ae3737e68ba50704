import Derived.Test.YtkjhhooecopolaaGreatDoorZz14
set_option maxRecDepth 100000
set_option maxHeartbeats 4000000
namespace Go.Proofs.YtkjhhooecopolaaGreatDoor
open Go.RowKit
theorem SL(n:Int)(h1: -9223372036854775808<=n)(h2:n<=9223372036854775807)(w1:World)(g1:Gl w1):
  Calls Tryz.prog 146 #[.int .i64 n] w1 fun e w'=>e=.returned (.string ⟨(Lib.itoa n).toArray⟩)/\Below w1.heap.size w1 w':=by
 refine(Tryz.strconv_Itoa n h1 h2 w1 g1.tab).mono ?_;rintro e w' ⟨rfl,k,os,rfl⟩;exact⟨rfl,Lib.below_grow _ _ (ax _) _ _⟩
theorem SM(x d:Int)(w:World)(hG:Gl w)(hx: -16000000<=x/\x<=16000000)(hd:0<d/\d<=300000):
  Calls Tryz.prog 178 #[.int .i64 x,.int .i64 d] w fun e w'=>e=.returned (.string ⟨(Pl.oC (Ge.aS x d)).toArray⟩)/\Below w.heap.size w w':=by
 obtain⟨G,hg⟩:∃G,Int.gcd x d=G:=⟨_,rfl⟩;have gK:Ge.aS x d=(x.tdiv G,d.tdiv G):=by
  unfold Ge.aS;rw[aa (by omega)];unfold Bd wh;rw[hg]
 have sJ:0<G:=by rw[<-hg];exact Zo _ (by omega)
 have Gs:(G:Int)∣d:=by rw[<-hg];exact ub ..
 have SN:=Zz hd.1 Gs;have ed:=Ge.Gi Gs;have bx:=qU x G;have bd:=qU d G;rw[gK];have HD:Hid (∀w1,Calls Tryz.prog 65 #[.int .i64 x,.int .i64 d] w1 fun e w'=>e=.returned (.int .i64 (G:Int))/\Below w1.heap.size w1 w'):=fun w1=>by rw[<-hg];exact Bj x d w1 (by omega) (by omega)
 have hw1:IntKind.i64.wrap (x.tdiv (G:Int))=x.tdiv G:=by rw[IntKind.wrap_i64];omega
 have hw2:IntKind.i64.wrap (d.tdiv (G:Int))=d.tdiv G:=by rw[IntKind.wrap_i64];omega
 have hw3:IntKind.i64.wrap (d/(G:Int))=d.tdiv G:=by rw[<-hw2,Zp (by omega)]
 have HX:Hid (∀w1,Gl w1->Calls Tryz.prog 146 #[.int .i64 (x.tdiv G)] w1 fun e w'=>e=.returned (.string ⟨(Lib.itoa (x.tdiv G)).toArray⟩)/\Below w1.heap.size w1 w'):=fun w1 g1=>SL _ (by omega) (by omega) w1 g1
 have HY:Hid (∀w1,Gl w1->Calls Tryz.prog 146 #[.int .i64 (d.tdiv G)] w1 fun e w'=>e=.returned (.string ⟨(Lib.itoa (d.tdiv G)).toArray⟩)/\Below w1.heap.size w1 w'):=fun w1 g1=>SL _ (by omega) (by omega) w1 g1
 have h1:=Lib.itoa_length_le (x.tdiv G) (by omega) (by omega)
 have h2:=Lib.itoa_length_le (d.tdiv G) (by omega) (by omega)
 have Q3:¬G=0:=by omega
 have Q4:(0:Int)<G:=by omega
 by_cases K5:d=G
 ·have hq:d.tdiv G=1:=by
   rw[<-K5];exact Int.tdiv_self (by omega)
  have HV:Hid (Pl.oC (x.tdiv G,d.tdiv G)=Lib.itoa (x.tdiv G)):=ah hq;rw[HV.out];generalize Lib.itoa (x.tdiv G)=X1 at*;clear HV h1 h2 hw2 hw3 HY hq ed bx bd SN Gs gK hg;subst K5
  go_enter Tryz.func178,Tryz.ntmps178
  go_wp2_with fail
  refine(HD.out _).mono ?_;rintro e w1 ⟨rfl,hb1⟩
  go_wp2_with fail
  refine(HX.out _ (hG.below hb1 hG.sz)).mono ?_;rintro e w2 ⟨rfl,hb2⟩
  go_wp2_with fail
  go_ret
  exact⟨rfl,hb1.trans (hb2.mono hb1.size)⟩
 ·have hq:¬d.tdiv G=1:=by
   intro h;rw[h,Int.mul_one] at ed;exact K5 ed
  have HV:Hid (Pl.oC (x.tdiv G,d.tdiv G)=Lib.itoa (x.tdiv G)++([47]++Lib.itoa (d.tdiv G))):=aa hq;rw[HV.out];have hwd:(d/(G:Int))=d.tdiv G:=(Zp (by omega)).symm
  have HYt:Hid (∀w1,Gl w1->Calls Tryz.prog 146 #[.int .i64 (d/(G:Int))] w1 fun e w'=>e=.returned (.string ⟨(Lib.itoa (d.tdiv G)).toArray⟩)/\Below w1.heap.size w1 w'):=by rw[hwd];exact HY
  generalize Lib.itoa (x.tdiv G)=X1 at*;generalize Lib.itoa (d.tdiv G)=X2 at*;have hs1:¬9223372036854775807<X1.length+1:=by omega
  have hs2:¬9223372036854775807<X1.length+1+X2.length:=by omega
  clear HV hq ed bx bd SN Gs gK hg hwd h1 h2
  go_enter Tryz.func178,Tryz.ntmps178
  go_wp2_with fail
  refine(HD.out _).mono ?_;rintro e w1 ⟨rfl,hb1⟩;have bz:Gl w1:=hG.below hb1 hG.sz
  go_wp2_with fail
  go_region_held3 (fun _=>True) (trivial) (first
   |(go_at_call_of 146 (Value.int IntKind.i64 (x.tdiv G));refine(HX.out _ bz.drew).mono ?_;rintro e w5 ⟨rfl,az⟩;have Gt:=bz.drew.below az bz.sz)
   |(go_at_call_of 146 (Value.int IntKind.i64 (d.tdiv G));refine(HY.out _ Gt).mono ?_;rintro e w6 ⟨rfl,aC⟩)
   |(go_at_call_of 146 (Value.int IntKind.i64 (d/(G:Int)));refine(HYt.out _ Gt).mono ?_;rintro e w6 ⟨rfl,aC⟩))
  go_wp2_with fail
  go_ret
  refine⟨by simp[ByteArray.mk_append_mk],?_⟩
  exact(hb1.drew.trans (az.mono hb1.size)).trans (aC.mono (dY hb1.size az.size))
theorem Gu{x d:Int}(hx: -16000000<=x/\x<=16000000)(hd:0<d/\d<=300000):(Pl.oC (Ge.aS x d)).length<=50:=by
 have gK:Ge.aS x d=(x.tdiv (Int.gcd x d),d.tdiv (Int.gcd x d)):=by
  unfold Ge.aS;rw[aa (by omega)];rfl
 have bx:=qU x (Int.gcd x d);have bd:=qU d (Int.gcd x d);rw[gK];have h1:=Lib.itoa_length_le (x.tdiv (Int.gcd x d)) (by omega) (by omega)
 have h2:=Lib.itoa_length_le (d.tdiv (Int.gcd x d)) (by omega) (by omega)
 unfold Pl.oC;split
 ·show(Lib.itoa (x.tdiv (Int.gcd x d))).length<=50;omega
 ·show(Lib.itoa (x.tdiv (Int.gcd x d))++([47]++Lib.itoa (d.tdiv (Int.gcd x d)))).length<=50;simp;omega
theorem ac9(N1 N2:Nat)(X Y P:Int)(X1 X2:List UInt8)(w:World)(hG:Gl w)(h1:X1.length<=50)(h2:X2.length<=50)
  (hc1:∀w,(convert 120 3 (.float .f64 N1)).run Tryz.prog w=.ok (.int .i64 X) w)
  (hc2:∀w,(convert 120 3 (.float .f64 N2)).run Tryz.prog w=.ok (.int .i64 Y) w)
  (HN:Hid (∀w1,Gl w1->Calls Tryz.prog 178 #[.int .i64 X,.int .i64 P] w1 fun e w'=>e=.returned (.string ⟨X1.toArray⟩)/\Below w1.heap.size w1 w'))
  (HD:Hid (∀w1,Gl w1->Calls Tryz.prog 178 #[.int .i64 Y,.int .i64 P] w1 fun e w'=>e=.returned (.string ⟨X2.toArray⟩)/\Below w1.heap.size w1 w')):
  Calls Tryz.prog 122 #[.agg #[.complex .f64 N1 N2,.int .i64 P]] w fun e w'=>e=.returned (.string ⟨(X1++([32]++X2)).toArray⟩)/\Below w.heap.size w w':=by
 have hs1:¬9223372036854775807<X1.length+1:=by omega
 have hs2:¬9223372036854775807<X1.length+1+X2.length:=by omega
 have hb0:Below w.heap.size w (w.alloc (.cells #[.complex .f64 N1 N2,.int .i64 P] 83)):=(Below.refl _ _).alloc (ax _) _;have hE:=heap_alloc_new w (.cells #[.complex .f64 N1 N2,.int .i64 P] 83);have hz:w.heap.size<(w.alloc (.cells #[.complex .f64 N1 N2,.int .i64 P] 83)).heap.size:=by simp
 have uL:Gl (w.alloc (.cells #[.complex .f64 N1 N2,.int .i64 P] 83)):=hG.alloc _
 go_enter Tryz.func122,Tryz.ntmps122
 go_wp2_with fail
 generalize w.alloc (.cells #[.complex .f64 N1 N2,.int .i64 P] 83)=W at*;generalize hB:w.heap.size=B at*;have r0:W.cell? ⟨B,0,none⟩=some (.complex .f64 N1 N2):=cell_of hE 0;have r1:W.cell? ⟨B,1,none⟩=some (.int .i64 P):=cell_of hE 1
 go_region_held3 (fun w'=>w'.cell? ⟨B,0,none⟩=some (.complex .f64 N1 N2)/\w'.cell? ⟨B,1,none⟩=some (.int .i64 P)) (go_keep) (first
   |(go_at_call_of 178 (Value.int IntKind.i64 X);refine(HN.out _ uL.drew).mono ?_;rintro e w5 ⟨rfl,az⟩;have Gt:=uL.drew.below az uL.sz;have q0:=(az.cell (p:=⟨B,0,none⟩) hz).trans r0;have q1:=(az.cell (p:=⟨B,1,none⟩) hz).trans r1)
   |(go_at_call_of 178 (Value.int IntKind.i64 Y);refine(HD.out _ Gt).mono ?_;rintro e w6 ⟨rfl,aC⟩;have s0:=(aC.cell (p:=⟨B,0,none⟩) (aZ hz az.size)).trans q0;have s1:=(aC.cell (p:=⟨B,1,none⟩) (aZ hz az.size)).trans q1)
   |(simp only)
   |(simp only[hc2]))
 all_goals
  go_wp2_with fail
  go_ret
  refine⟨by simp[ByteArray.mk_append_mk],?_⟩
  rw[hB];exact(hb0.drew.trans (az.mono (dN hz))).trans (aC.mono (dY (dN hz) az.size))
theorem SP(n:Ge.Nd)(hn:cP n.1 n.2.1 n.2.2)(w:World)(hG:Gl w):
  Calls Tryz.prog 122 #[gm n] w fun e w'=>e=.returned (.string ⟨(Pl.dE (Ge.au n)).toArray⟩)/\Below w.heap.size w w':=by
 obtain⟨a1,a2⟩:=pJ hn;have hx:=hn.x;have hy:=hn.y;have c1:=a1.int (by omega) (by omega)
 have c2:=a2.int (by omega) (by omega)
 exact ac9 _ _ n.1 n.2.1 n.2.2 (Pl.oC (Ge.aS n.1 n.2.2)) (Pl.oC (Ge.aS n.2.1 n.2.2)) w hG (Gu (by omega) hn.d) (Gu (by omega) hn.d)
  (fun w=>run_convert_float_int w 120 3 .f64 .i64 _ _ (by rw[Tryz.underlying120];rfl) Tryz.underlying3 c1)
  (fun w=>run_convert_float_int w 120 3 .f64 .i64 _ _ (by rw[Tryz.underlying120];rfl) Tryz.underlying3 c2)
  (fun w1 g1=>SM _ _ w1 g1 (by omega) hn.d) (fun w1 g1=>SM _ _ w1 g1 (by omega) hn.d)
end Go.Proofs.YtkjhhooecopolaaGreatDoor

namespace Go.Proofs.YtkjhhooecopolaaGreatDoor
open Go.RowKit
def gu(n:Ge.Nd):List Value:=[.complex .f64 (floatOfInt .f64 n.1) (floatOfInt .f64 n.2.1),.int .i64 n.2.2]
def cS(l:List Ge.Nd):List Value:=l.flatMap gu
def fM(w:World)(v:Value)(l:List Ge.Nd):Prop:=w.ownsRow 0 83 2 v l.length (cS l)
theorem BP:∀(l:List Ge.Nd)(k:Nat)(e:Ge.Nd),l[k]?=some e->∀j,j<2->(cS l)[k*2+j]?=(gu e)[j]?
 |[],_,_,h,_,_=>by simp at h
 |q::r,0,e,h,j,hj=>by
  simp at h;subst h;have e1:cS (q::r)=gu q++cS r:=by simp[cS]
  rw[e1,eG (by simp[gu];omega)]
  simp
 |q::r,k+1,e,h,j,hj=>by
  have ih:=BP r k e (by simpa using h) j hj
  have e1:cS (q::r)=gu q++cS r:=by simp[cS]
  rw[e1,mW (by simp[gu];omega)]
  have e2:(k+1)*2+j-(gu q).length=k*2+j:=by simp[gu];omega
  rw[e2,ih]
theorem K6(l:List Ge.Nd)(e:Ge.Nd):cS (l++[e])=cS l++gu e:=by simp[cS]
theorem BR{w:World}{v:Value}{l:List Ge.Nd}(h:fM w v l):∃so cap,v=.slice so l.length cap:=by
 rcases h.2 with⟨hv,h0⟩|⟨b,cap,cur,hv,_⟩
 ·exact⟨none,0,by rw[hv,h0]⟩
 ·exact⟨_,cap,hv⟩
theorem BW{w:World}{so:Option Addr}{n cap:Nat}{l:List Ge.Nd}(h:fM w (.slice so n cap) l){k:Nat}{e:Ge.Nd}(he:l[k]?=some e):
  ∃b,so=some ⟨b,0,none⟩/\b<w.heap.size/\w.cell? ⟨b,k*2,none⟩=some (.complex .f64 (floatOfInt .f64 e.1) (floatOfInt .f64 e.2.1))/\w.cell? ⟨b,k*2+1,none⟩=some (.int .i64 e.2.2):=by
 have g:=BP l k e he;obtain⟨b,c,hv,hb,hc⟩:=Fg h (g 0 (by omega))
 injection hv with hv;exact⟨b,hv,hb,hc _ _ (g 0 (by omega)),hc _ _ (g 1 (by omega))⟩
theorem K7(f:Ge.Qt->List UInt8):∀l:List Ge.Qt,Lib.join (l.map f) [44,32]=Pl.aU f l
 |[]=>rfl
 |[x]=>by simp[Lib.join_one,Pl.aU]
 |x::y::r=>by
  have ih:=K7 f (y::r);simp only[Pl.aU,<-ih];simp[Lib.join,List.intercalate]
theorem Gv:(Tryz.prog.info? 9).map (fun i=>(i.zero,i.size,i.bytes))=some (some (.string ⟨#[]⟩),1,16):=by kernel_rfl
def gN(l:List Ge.Nd):List ByteArray:=l.map fun n=>⟨(Pl.dE (Ge.au n)).toArray⟩
theorem SQ(l:List Ge.Nd):(gN l).map (·.data.toList)=(l.map Ge.au).map Pl.dE:=by simp[gN]
def SI(w:World)(lv:Value)(xs:List ByteArray)(wr:World):Prop:=wr.ownsRow w.heap.size 9 1 lv xs.length (xs.map Value.string)/\Below w.heap.size w wr
theorem ada{w wr:World}{lv:Value}{xs:List ByteArray}(sep:ByteArray)(h:SI w lv xs wr)(hl:xs.length<=1000000)(hlen:(Lib.join (xs.map (·.data.toList)) sep.data.toList).length<=140737488355328):
  Calls Tryz.prog 103 #[lv,.string sep] wr fun e w'=>e=.returned (.string ⟨(Lib.join (xs.map (·.data.toList)) sep.data.toList).toArray⟩)/\Below wr.heap.size wr w':=by
 rcases h.1.2 with⟨hv,h0⟩|⟨g,cap,cur,hv,_,hb,hc,_,_,ht⟩
 ·have hx:xs=[]:=fK.1 h0;subst hx;rw[hv];exact(Tryz.strings_Join_none none 0 sep wr).mono fun e w'⟨he,hw⟩=>⟨he,hw▸Below.refl _ _⟩
 ·rw[hv];have hlt:g<wr.heap.size:=by
   rcases Ek g wr.heap.size with h1|h1
   ·exact h1
   ·rw[z8 h1] at hb;cases hb
  refine Tryz.strings_Join g 0 cap xs sep wr (fun j x hj=>?_) hlt (by omega) hc hlen
  have hm:(xs.map Value.string)[j]?=some (.string x):=by simp[hj]
  rw[js,Ku hb j,<-iu];rw[<-ht,jt] at hm;split at hm
  ·exact hm
  ·cases hm
theorem Gw{n:Ge.Nd}(h:cP n.1 n.2.1 n.2.2):(Pl.dE (Ge.au n)).length<=101:=by
 have hx:=h.x;have hy:=h.y;have h1:=Gu (x:=n.1) (d:=n.2.2) (by omega) h.d
 have h2:=Gu (x:=n.2.1) (d:=n.2.2) (by omega) h.d
 show(Pl.oC (Ge.aS n.1 n.2.2)++([32]++Pl.oC (Ge.aS n.2.1 n.2.2))).length<=101;simp;omega
theorem adb(l:List Ge.Nd)(v:Value)(w:World)(hR:fM w v l)(hG:Gl w)(hn:∀n∈l,cP n.1 n.2.1 n.2.2)(hl:l.length<=200000):
  Calls Tryz.prog 71 #[v] w fun e w'=>e=.returned (.string ⟨(Pl.aU Pl.dE (l.map Ge.au)).toArray⟩)/\Below w.heap.size w w':=by
 obtain⟨so,cap,rfl⟩:=BR hR;obtain⟨i0,hi,hz0,hz1,hz2⟩:=info_parts Gv;have HR:Hid (fM w (.slice so l.length cap) l):=hR;have HN:Hid (∀n∈l,∀w1,Gl w1->Calls Tryz.prog 122 #[.agg #[.complex .f64 (floatOfInt .f64 n.1) (floatOfInt .f64 n.2.1),.int .i64 n.2.2]] w1 fun e w'=>e=.returned (.string ⟨(Pl.dE (Ge.au n)).toArray⟩)/\Below w1.heap.size w1 w'):=fun n h w1 g1=>SP n (hn n h) w1 g1
 have HJ:Hid (∀lv wr,SI w lv (gN l) wr->Calls Tryz.prog 103 #[lv,.string ⟨#[44,32]⟩] wr fun e w'=>e=.returned (.string ⟨(Pl.aU Pl.dE (l.map Ge.au)).toArray⟩)/\Below wr.heap.size wr w'):=fun lv wr h=>by
  have e:Lib.join ((gN l).map (·.data.toList)) (⟨#[44,32]⟩:ByteArray).data.toList=Pl.aU Pl.dE (l.map Ge.au):=by
   rw[SQ];exact K7 Pl.dE _
  have hlen:=Pl.Bu Pl.dE 101 (l.map Ge.au) (fun q hq=>by
   obtain⟨n,hm,rfl⟩:=bp.1 hq;exact Gw (hn n hm))
  rw[gV] at hlen;have:=ada ⟨#[44,32]⟩ h (by simp[gN];omega) (by rw[e];omega)
  rw[e] at this;exact this
 clear hR;generalize Pl.aU Pl.dE (l.map Ge.au)=RT at*
 go_enter Tryz.func71,Tryz.ntmps71
 go_wp2_with fail
 have bH:Hid (SI w (.slice none 0 0) [] w):=⟨World.ownsRow_nil _ _ _ _,Below.refl _ _⟩
 go_loopg [3,8] l.length (fun m lv iv wr=>∃i:Nat,i+m=l.length/\iv=.int .i64 i/\Hid (SI w lv (gN (l.take i)) wr))
 case atStart=>exact⟨0,by omega,rfl,bH⟩
 case round=>
  obtain⟨i,him,rfl,HE⟩:=hrel;have aj:=HE.out.2;clear bH;by_cases hlt:i<l.length
  ·obtain⟨n,hg⟩:∃g,l[i]?=some g:=⟨_,aD hlt⟩;obtain⟨b,rfl,hb,c0,c1⟩:=BW HR.out hg;have r0:=(aj.cell (p:=⟨b,i*2,none⟩) hb).trans c0;have r1:=(aj.cell (p:=⟨b,i*2+1,none⟩) hb).trans c1;have HT:Hid (gN (l.take (i+1))=gN (l.take i)++[⟨(Pl.dE (Ge.au n)).toArray⟩]):=by
    have e:=ako hlt;have hn':l[i]=n:=by
     have:=aD hlt;rw[hg] at this;injection this with this;exact this.symm
    rw[<-e,hn'];show gN (l.take i++[n])=_;simp[gN]
   have HW:=HN.out n (bh hg);have hxl:(gN (l.take i)).length<=200000:=by simp[gN];omega
   have ez:(i:Int)<(l.length:Int):=by omega
   have hbr:b<wr.heap.size:=aZ hb aj.size;have om:Gl wr:=hG.below aj hG.sz;have nP:Hid (∀w1,Gl w1->Calls Tryz.prog 122 #[.agg #[.complex .f64 (floatOfInt .f64 n.1) (floatOfInt .f64 n.2.1),.int .i64 n.2.2]] w1 fun e w'=>e=.returned (.string ⟨(Pl.dE (Ge.au n)).toArray⟩)/\Below w1.heap.size w1 w'):=HW
   generalize Pl.dE (Ge.au n)=X at*;generalize floatOfInt .f64 n.1=N1 at*;generalize floatOfInt .f64 n.2.1=N2 at*;generalize gN (l.take i)=A1 at*;clear hg c0 c1 HN HR HW
   go_wp2_with (simp only[eK];go_simp)
   refine(nP.out _ (om.alloc _)).mono ?_;rintro e w5 ⟨rfl,az⟩;obtain⟨hx2,_⟩:=HE.out;have pI:=aj.alloc aj.size (.cells #[.complex .f64 N1 N2,.int .i64 n.2.2] 83);have ib:=pI.trans (az.mono pI.size);have cI:w5.ownsRow w.heap.size 9 1 u3 A1.length (A1.map Value.string):=aO hx2 fun k hk=>(az.block k (by have:=(aB hx2 k hk).2;simp;omega)).trans (Below.heap_alloc _ _ _ (aB hx2 k hk).2)
   have hs5:=ib.size;clear hx2 HE
   go_wp2_with (at_builtin;refine wpList_append_lies _ rfl (.tmp 12) (.tmp 15) 164 rfl w.heap.size 9 i0 _ 1 16 Tryz.underlying164 hi hz0 hz1 hz2 rfl (by decide) u3 A1.length (A1.map Value.string) rfl (aO cI (fun k hk=>Below.heap_alloc _ _ _ (aB cI k hk).2)) ⟨w5.heap.size,0,none⟩ 1 1 [.string ⟨X.toArray⟩] rfl rfl (World.news_of_block (cs:= #[.string ⟨X.toArray⟩]) (t:=9) (fr:=(0,0)) (heap_alloc_new w5 _)) (by simp[Value.oneCell']) (by decide) (by unfold maxLen;omega) (by omega) (by simp;omega) (w5.heap.size+1) (by simp) ?_;intro g' cap' w6 eN jA yN yO)
   have HN:Hid (SI w (.slice (some ⟨g',0,none⟩) (A1.length+1) cap') (gN (l.take (i+1))) w6):=by
    rw[HT.out];refine⟨?_,(ib.alloc ib.size _).grown jA (by simp;omega) (fun k hk=>(aB cI k hk).1)⟩
    rw[aT,iD];exact eN
   clear eN jA cI nP HT
   go_roundg (gk-1)
   case measure=>omega
   case rel=>exact⟨i+1,by omega,by go_num,HN⟩
  ·have hk:i=l.length:=by omega
   subst hk;have HF:=HE.out;rw[fg] at HF;clear HE HR HN
   go_wp2_with fail
   refine(HJ.out _ _ HF).mono ?_;rintro e w5 ⟨rfl,az⟩
   go_wp2_with fail
   go_ret
   exact⟨rfl,HF.2.trans (az.mono HF.2.size)⟩
end Go.Proofs.YtkjhhooecopolaaGreatDoor
namespace Go.Proofs.YtkjhhooecopolaaGreatDoor.Ge
def met(e f:Pt×Pt)(q:Qt):Prop:=cu e f≠0/\q=eA e f/\hq (eA e f) e=true/\hq (eA e f) f=true
theorem ade{e f:Pt×Pt}{q:Qt}(h:met e f q):met f e q:=by
 obtain⟨a,b,c,d⟩:=h;have a':cu f e≠0:=by rw[Sr];omega
 have m:=acP a;exact⟨a',by rw[m];exact b,by rw[m];exact d,by rw[m];exact c⟩
theorem adf(e:Pt×Pt):cu e e=0:=by unfold cu;grind
theorem adg(l:List (Pt×Pt))(e:Pt×Pt)(q:Qt):isNode (l++[e]) q↔isNode l q\/q=pt e.1\/q=pt e.2\/∃f∈l,met e f q:=by
 unfold isNode;constructor
 ·rintro(⟨g,hg,h⟩|⟨g,hg,f,hf,h⟩)
  ·rcases bT.1 hg with hg|hg
   ·exact ae (ae ⟨g,hg,h⟩)
   ·rw[bI] at hg;subst hg;rcases h with h|h
    ·exact af (ae h)
    ·exact af (af (ae h))
  ·rcases bT.1 hg with hg|hg
   ·rcases bT.1 hf with hf|hf
    ·exact ae (af ⟨g,hg,f,hf,h⟩)
    ·rw[bI] at hf;rw[hf] at h;exact af (af (af ⟨g,hg,ade h⟩))
   ·rw[bI] at hg;rw[hg] at h;rcases bT.1 hf with hf|hf
    ·exact af (af (af ⟨f,hf,h⟩))
    ·rw[bI] at hf;rw[hf] at h;exact absurd (adf e) h.1
 ·have m1:∀{x},x∈l->x∈l++[e]:=fun h=>tY _ h
  have m2:e∈l++[e]:=by simp
  rintro((⟨g,hg,h⟩|⟨g,hg,f,hf,h⟩)|h|h|⟨f,hf,h⟩)
  ·exact ae ⟨g,m1 hg,h⟩
  ·exact af ⟨g,m1 hg,f,m1 hf,h⟩
  ·exact ae ⟨e,m2,ae h⟩
  ·exact ae ⟨e,m2,af h⟩
  ·exact af ⟨e,m2,f,m1 hf,h⟩
def cC:List Nd->List Nd
 |[]=>[]
 |[a]=>[a]
 |a::b::r=>if a=b then cC (b::r) else a::cC (b::r)
theorem wR:∀(l:List Nd)(x:Nd),x∈cC l↔x∈l
 |[],x=>by simp[cC]
 |[a],x=>by simp[cC]
 |a::b::r,x=>by
  have ih:=wR (b::r) x;unfold cC;split
  ·rename_i h
   subst h;rw[ih];simp
  ·rw[aP,ih];simp
def le(a b:Nd):Prop:=¬lt (au b) (au a)
theorem yT{a b:Nd}(ha:Can a)(hb:Can b)(h:le a b)(hne:a≠b):lt (au a) (au b):=by
 unfold le lt at h;unfold lt;rw[Fv] at h;rcases eD (pc (au a) (au b)) 0 with h1|h1|h1
 ·exact h1
 ·exact absurd (sU ha hb h1) hne
 ·omega
theorem lt_le_trans{a b c:Nd}(ha:Can a)(hb:Can b)(hc:Can c)(h1:lt (au a) (au b))(h2:le b c):lt (au a) (au c):=by
 by_cases h:b=c
 ·subst h;exact h1
 ·exact lt_trans (cJ ha) (cJ hb) (cJ hc) h1 (yT hb hc h2 h)
theorem SR:∀(l:List Nd),(∀n∈l,Can n)->l.Pairwise le->(cC l).Pairwise (fun a b=>lt (au a) (au b))
 |[],_,_=>List.Pairwise.nil
 |[a],_,_=>by simp[cC]
 |a::b::r,hc,hp=>by
  have hp2:=(fE.1 hp).2;have hp1:=(fE.1 hp).1;have ih:=SR (b::r) (fun n h=>hc n (by simp[List.mem_cons] at h⊢;exact af h)) hp2
  unfold cC;split
  ·exact ih
  ·rename_i hne
   refine fE.2 ⟨fun x hx=>?_,ih⟩
   have hx':=(wR (b::r) x).1 hx;have ca:=hc a (by simp)
   have cb:=hc b (by simp)
   have hab:=yT ca cb (hp1 b (by simp)) hne
   rcases aP.1 hx' with h|h
   ·subst h;exact hab
   ·exact lt_le_trans ca cb (hc x (by simp[h])) hab ((fE.1 hp2).1 x h)
theorem adh(es:List (Pt×Pt))(S:List Nd)(hc:∀n∈S,Can n)(hp:S.Pairwise le)(hm:∀q,(∃n∈S,au n=q)↔isNode es q):(cC S).map au=eO es:=by
 obtain⟨h1,h2,h3⟩:=BF es;refine Ra (fun q hq=>?_) h1 ?_ h2 (fun q=>?_)
 ·obtain⟨n,hn,rfl⟩:=bp.1 hq;exact cJ (hc n ((wR S n).1 hn))
 ·exact lZ.2 (SR S hc hp)
 ·rw[h3,<-hm,bp];constructor
  ·rintro⟨n,hn,h⟩;exact⟨n,(wR S n).1 hn,h⟩
  ·rintro⟨n,hn,h⟩;exact⟨n,(wR S n).2 hn,h⟩
end Go.Proofs.YtkjhhooecopolaaGreatDoor.Ge

import Derived.Test.YtkjhhooecopolaaGreatDoorMz32
import Derived.LaidEqlPtr
import Derived.Lib.AppendZerosOnto
import Derived.Lib.Walk
import Derived.Lib.SliceRun
set_option maxRecDepth 100000
set_option maxHeartbeats 4000000
namespace Go.Proofs.YtkjhhooecopolaaGreatDoor
open Go.RowKit
theorem ai2(x y:PB){l m:Ge.Ln}(hx:LD x l)(hy:LD y m)(w:World):
  Calls Tryz.prog 179 #[.agg #[.complex .f64 x.wa x.wb,.float .f64 x.sh],.agg #[.complex .f64 y.wa y.wb,.float .f64 y.sh]] w fun r w'=>r=.returned (.bool (decide (eT x y=0)))/\Below w.heap.size w w':=by
 obtain⟨im,f1,hl⟩:=Et hx hy;have HL:Hid (∀w,Calls Tryz.prog 101 #[.complex .f64 x.wa x.wb,.complex .f64 y.wa y.wb] w fun e w'=>e=.returned (.float .f64 im)/\w'=w):=hl
 have q:=rW f1 kE;have hc:decide (eT x y=0)=(FloatKind.f64.format.order im 0 == some .eq):=by
  rw[q,<-Es hx hy];exact decide_eq_decide.2 vE
 rw[hc];clear hl q hc f1 hx hy;generalize x.wa=wa at*;generalize x.wb=wb at*;generalize x.sh=sh at*;generalize y.wa=iV at*;generalize y.wb=iW at*;generalize y.sh=sh' at*;have hb0:Below w.heap.size w ((w.alloc (.cells #[.complex .f64 wa wb,.float .f64 sh] 122)).alloc (.cells #[.complex .f64 iV iW,.float .f64 sh'] 122)):=((Below.refl _ _).alloc (ae _) _).alloc (by simp) _
 go_enter Tryz.func179,Tryz.ntmps179
 go_wp2_with fail
 refine(HL.out _).mono ?_;rintro e w1 ⟨rfl,rfl⟩
 go_wp2_with fail
 go_ret
 exact⟨rfl,hb0⟩
theorem ai3(cf:Nat->Nat->Int)(a:Nat)(r:List Nat)(g lo cap:Nat)(w:World)(hn:r.length<=85000000)
  (HV:Hid (∀(i:Nat) b,(a::r)[i]?=some b->w.cell? ⟨g,lo+i,none⟩=some (.pointer (some ⟨b,0,none⟩))))
  (HC:Hid (∀b∈a::r,∀c∈a::r,∀w',Below w.heap.size w w'->Calls Tryz.prog 109 #[.pointer (some ⟨b,0,none⟩),.pointer (some ⟨c,0,none⟩)] w' fun r w''=>r=.returned (.int .i64 (cf b c))/\Below w'.heap.size w' w'')):
  Calls Tryz.prog 213 #[.slice (some ⟨g,lo,none⟩) (r.length+1) cap,.func (.func 109) #[] #[]] w fun e w'=>e=.returned (.pointer (some ⟨bu cf r a,0,none⟩))/\Below w.heap.size w w':=by
 have c0:=HV.out 0 a rfl;rw[tY] at c0;have dw:g<w.heap.size:=lt_of_cell c0
 go_enter Tryz.func213,Tryz.ntmps213
 go_wp2_with fail
 go_loopg [5,6] r.length (fun m mv iv wr=>∃k:Nat,k+m=r.length/\iv=.int .i64 (k+1:Nat)/\mv=.pointer (some ⟨bu cf (r.take k) a,0,none⟩)/\Hid (Below w.heap.size w wr))
 case atStart=>exact⟨0,by omega,rfl,rfl,Below.refl _ _⟩
 case round=>
  obtain⟨k,hkn,rfl,rfl,HB⟩:=hrel;by_cases hlt:k<r.length
  ·obtain⟨b,hb⟩:∃b,r[k]?=some b:=⟨_,ay hlt⟩;have c1:=(HB.out.cell (p:=⟨g,lo+(k+1),none⟩) dw).trans (HV.out (k+1) b (by simpa using hb))
   have jQ:b∈a::r:=bn _ (aY hb);have hmm:bu cf (r.take k) a∈a::r:=by
    rcases wP cf (r.take k) a with h|h
    ·rw[h];simp
    ·exact bn _ (nL h)
   have ir:Hid (Calls Tryz.prog 109 #[.pointer (some ⟨b,0,none⟩),.pointer (some ⟨bu cf (r.take k) a,0,none⟩)] wr fun r' w''=>r'=.returned (.int .i64 (cf b (bu cf (r.take k) a)))/\Below wr.heap.size wr w''):=HC.out b jQ _ hmm wr HB.out
   have gG:Hid (bu cf (r.take (k+1)) a=if cf b (bu cf (r.take k) a)<0 then b else bu cf (r.take k) a):=by
    have htk:r.take (k+1)=r.take k++[b]:=by rw[jx,hb];rfl
    show bu cf (r.take (k+1)) a=_;rw[htk,Jh]
   have eD:((k:Int)+1)<((r.length:Int)+1):=by omega
   have hgr:g<wr.heap.size:=aL dw HB.out.size;clear c0 hb jQ hmm;generalize bu cf (r.take k) a=M at*
   go_wp2_with fail
   refine ir.out.mono ?_;rintro e w5 ⟨rfl,ai⟩;have eI:Hid (Below w.heap.size w w5):=HB.out.trans (ai.mono HB.out.size);have c5:=(ai.cell (p:=⟨g,lo+(k+1),none⟩) hgr).trans c1;clear ir ai c1;generalize cf b M=V at*;by_cases hV:V<0
   ·have HM:Hid (bu cf (r.take (k+1)) a=b):=by rw[gG.out,if_pos hV];rfl
    go_wp2_with fail
    go_roundg (gk-1)
    case measure=>omega
    case rel=>exact⟨k+1,by omega,by go_num,by rw[HM.out],eI⟩
   ·have HM:Hid (bu cf (r.take (k+1)) a=M):=by rw[gG.out,if_neg hV];rfl
    have NY:decide (V<0)=false:=decide_eq_false hV
    go_wp2_with fail
    go_roundg (gk-1)
    case measure=>omega
    case rel=>exact⟨k+1,by omega,by go_num,by rw[HM.out],eI⟩
  ·have hk:k=r.length:=by omega
   subst hk;rw[dI];clear HC HV
   go_wp2_with fail
   go_ret
   exact⟨rfl,HB.out⟩
theorem ai4:(Tryz.prog.info? 177).map (fun i=>i.size)=some 8:=by kernel_rfl
theorem ai5{w:World}{a b:Nat}(ha:∃c,w.heap[a]?=some (.cells c 177 (0,0)))(hb:∃c,w.heap[b]?=some (.cells c 177 (0,0))):
  (binOp .eql 175 (.pointer (some ⟨a,0,none⟩)) (.pointer (some ⟨b,0,none⟩))).run Tryz.prog w=.ok (.bool (b == a)) w:=by
 obtain⟨j,hj,hs⟩:=rC.1 ai4;by_cases h:a=b
 ·subst h;rw[run_eql_ptr_same w _ Tryz.underlying175 hj];simp
 ·obtain⟨ca,ha⟩:=ha;obtain⟨cb,hb⟩:=hb;rw[run_eql_ptr_other w Tryz.underlying175 hj (by rw[hs];decide) (fun e=>h (congrArg Addr.block e)) ha hb]
  have:(b == a)=false:=by simpa using fun e=>h e.symm
  rw[this]
theorem ai6(v:Nat)(bl:List Nat)(g lo cap:Nat)(w:World)(hn:bl.length<=85000000)
  (HV:Hid (∀(i:Nat) b,bl[i]?=some b->w.cell? ⟨g,lo+i,none⟩=some (.pointer (some ⟨b,0,none⟩))))
  (HK:Hid (∀b,b=v\/b∈bl->∃c,w.heap[b]?=some (.cells c 177 (0,0)))):
  Calls Tryz.prog 212 #[.slice (some ⟨g,lo,none⟩) bl.length cap,.pointer (some ⟨v,0,none⟩)] w fun e w'=>e=.returned (.int .i64 (fM (fun b=>b == v) bl))/\Below w.heap.size w w':=by
 go_enter Tryz.func212,Tryz.ntmps212
 have HS:Hid (fB (fun b=>b == v) (bl.drop 0) 0=fM (fun b=>b == v) bl):=rfl
 go_wp2_with fail
 go_loopg [8] bl.length (fun m iv wr=>∃k:Nat,k+m=bl.length/\iv=.int .i64 k/\Hid (Below w.heap.size w wr/\fB (fun b=>b == v) (bl.drop k) k=fM (fun b=>b == v) bl))
 case atStart=>exact⟨0,by omega,rfl,Below.refl _ _,HS.out⟩
 case round=>
  obtain⟨k,hkn,rfl,HB⟩:=hrel;clear HS;by_cases hlt:k<bl.length
  ·obtain⟨b,hb⟩:∃b,bl[k]?=some b:=⟨_,ay hlt⟩;have c0:=HV.out k b hb;have dw:g<w.heap.size:=lt_of_cell c0;have c1:=(HB.out.1.cell (p:=⟨g,lo+k,none⟩) dw).trans c0;have gG:Hid ((if b == v then(k:Int) else fB (fun b=>b == v) (bl.drop (k+1)) (k+1))=fM (fun b=>b == v) bl):=by
    have:=HB.out.2;rw[vg hb] at this;exact this
   have eD:(k:Int)<(bl.length:Int):=by omega
   have hop:(binOp .eql 175 (.pointer (some ⟨v,0,none⟩)) (.pointer (some ⟨b,0,none⟩))).run Tryz.prog wr=.ok (.bool (b == v)) wr:=by
    obtain⟨cv,hcv⟩:=HK.out v (Or.inl rfl);obtain⟨cb,hcb⟩:=HK.out b (Or.inr (aY hb));exact ai5 ⟨cv,(HB.out.1.block v (lt_of_heap hcv)).trans hcv⟩ ⟨cb,(HB.out.1.block b (lt_of_heap hcb)).trans hcb⟩
   clear c0 hb;generalize(b == v)=B at*;cases B
   ·have HM:Hid (fB (fun b=>b == v) (bl.drop (k+1)) (k+1)=fM (fun b=>b == v) bl):=gG.out
    clear gG
    go_wp2_with (simp only[hop])
    go_roundg (gk-1)
    case measure=>omega
    case rel=>exact⟨k+1,by omega,by go_num,HB.out.1,HM.out⟩
   ·have HM:Hid ((k:Int)=fM (fun b=>b == v) bl):=gG.out
    clear gG
    go_wp2_with (simp only[hop])
    go_ret
    exact⟨by rw[<-HM.out];rfl,HB.out.1⟩
  ·have hk:k=bl.length:=by omega
   subst hk;have HM:Hid ((-1:Int)=fM (fun b=>b == v) bl):=by
    have:=HB.out.2;rw[Rj] at this;exact this
   clear HV
   go_wp2_with fail
   go_ret
   exact⟨by rw[<-HM.out];rfl,HB.out.1⟩
theorem ai7(n:Nat)(hn:0<n)(hn':n<=85000000)(w:World):
  Calls Tryz.prog 257 #[.slice none 0 0,.int .i64 n] w fun e w'=>∃cap,e=.returned (.slice (some ⟨w.heap.size,0,none⟩) 0 cap)/\w'.ownsRow w.heap.size 175 1 (.slice (some ⟨w.heap.size,0,none⟩) 0 cap) 0 []/\Below w.heap.size w w':=by
 obtain⟨i0,hi0,hz0,hz1,hz2⟩:=info_parts yJ;have xG:∀ty,(Builtin.append_ #[185,3] ty #[.slice none 0 0,.int .i64 n]).run Tryz.prog w=.ok (.slice (some ⟨w.heap.size,0,none⟩) n (grownCap w n 0 175)) (w.drew.alloc (.cells (#[]++Builtin.zeroCells (Value.pointer none).cells n++Builtin.zeroCells (Value.pointer none).cells (grownCap w n 0 175-n)) 175)):=fun ty=>by
  have h:=Lib.run_append_grow_zeros w 185 3 ty 175 i0 (Value.pointer none) .i64 .i64 Tryz.underlying185 Tryz.underlying3 hi0 hz0 none 0 0 [] (run_firstCells_none w.drew i0.size 0 0 0) n hn (by omega) (by omega) (by omega) (by rw[hz2];omega) (by rw[hz2,jd];exact growslice_fits (by omega) (by omega))
  simpa using h
 go_enter Tryz.func257,Tryz.ntmps257
 go_wp2_with (at_builtin;refine Lib.wpList_append_run _ rfl _ _ _ _ rfl _ _ rfl rfl _ _ (xG _) ?_)
 go_ret
 have hcap:n<=grownCap w n 0 175:=grownCap_ge w _ _ _;have hcl:=grownCap_le_maxLen w n 0 175 (by unfold maxLen;omega)
 refine⟨_,rfl,⟨rfl,Or.inr ⟨w.heap.size,grownCap w n 0 175,_,rfl,ae _,heap_alloc_new _ _,iz _,hcl,?_,?_⟩⟩,((Below.refl _ _).alloc (ae _) _).drew⟩
 ·simp[size_zeroCells];omega
 ·simp
abbrev It:=Nat×Nat×List Nat
def gI(its:List It):List Nat:=its.flatMap (·.2.2)
def ED(g:Nat)(it:It):Value:=.slice (some ⟨g,it.1,none⟩) it.2.2.length it.2.1
theorem ai8(its:List It)(g sb sc:Nat)(w:World)(hN:0<(gI its).length)(hN':(gI its).length<=85000000)(hl:its.length<=100)
  (HS:Hid (∀(k:Nat) it,its[k]?=some it->w.cell? ⟨sb,k,none⟩=some (ED g it)))
  (HV:Hid (∀it∈its,∀(i:Nat) b,it.2.2[i]?=some b->w.cell? ⟨g,it.1+i,none⟩=some (.pointer (some ⟨b,0,none⟩)))):
  Calls Tryz.prog 214 #[.slice (some ⟨sb,0,none⟩) its.length sc] w fun e w'=>∃lv,e=.returned lv/\w'.ownsRow w.heap.size 175 1 lv (gI its).length (aG (gI its))/\Below w.heap.size w w':=by
 obtain⟨i0,hi0,hz0,hz1,hz2⟩:=info_parts yJ;have HG:Hid (∀(n:Nat),0<n->n<=85000000->∀w,Calls Tryz.prog 257 #[.slice none 0 0,.int .i64 n] w fun e w'=>∃cap,e=.returned (.slice (some ⟨w.heap.size,0,none⟩) 0 cap)/\w'.ownsRow w.heap.size 175 1 (.slice (some ⟨w.heap.size,0,none⟩) 0 cap) 0 []/\Below w.heap.size w w'):=ai7
 have HT:Hid (∀(k:Nat)(it:It),its[k]?=some it->gI (its.take (k+1))=gI (its.take k)++it.2.2):=fun k it h=>by
  have htk:its.take (k+1)=its.take k++[it]:=by rw[jx,h];rfl
  show(its.take (k+1)).flatMap (·.2.2)=(its.take k).flatMap (·.2.2)++it.2.2
  rw[htk,aci,tV,abK,rA]
 have Om:Hid (∀k,(gI (its.take k)).length<=(gI its).length):=fun k=>by
  show((its.take k).flatMap (·.2.2)).length<=(its.flatMap (·.2.2)).length
  conv=>rhs;rw[<-Rb k its,aci,aS]
  omega
 go_enter Tryz.func214,Tryz.ntmps214
 go_wp2_with fail
 go_loopg [3,11] its.length (fun m sv iv wr=>∃k:Nat,k+m=its.length/\iv=.int .i64 k/\sv=.int .i64 (gI (its.take k)).length/\w=wr)
 case atStart=>exact⟨0,by omega,rfl,rfl,rfl⟩
 case round=>
  obtain⟨k,hkn,rfl,rfl,rfl⟩:=hrel;by_cases hlt:k<its.length
  ·obtain⟨it,hit⟩:∃it,its[k]?=some it:=⟨_,ay hlt⟩;have c0:=HS.out k it hit;have hT:=HT.out k it hit;have hle:=Om.out (k+1);rw[hT,aS] at hle;obtain⟨o,c,bl⟩:=it;unfold ED at c0;simp only at c0 hT hle;have eD:(k:Int)<(its.length:Int):=by omega
   have Oo:Hid ((gI (its.take (k+1))).length=(gI (its.take k)).length+bl.length):=by
    show _=_;rw[hT,aS]
   clear hT hit;generalize(gI (its.take k)).length=A at*;have hA:wrap64 ((A:Int)+(bl.length:Int))=((A+bl.length:Nat):Int):=by unfold wrap64;omega
   have Sh:¬(((A+bl.length:Nat):Int)<0):=by omega
   go_wp2_with fail
   go_roundg (gk-1)
   case measure=>omega
   case rel=>exact⟨k+1,by omega,by go_num,by rw[Oo.out];simp,rfl⟩
  ·have hk:k=its.length:=by omega
   subst hk;rw[dI];generalize Yt:(gI its).length=N at*;have Yu:Hid ((gI its).length=N):=Yt;clear Yt
   go_wp2_with fail
   refine(HG.out N hN hN' _).mono ?_;rintro e w1 ⟨cap,rfl,pX,hb1⟩;have bh:Hid (w1.ownsRow w.heap.size 175 1 (.slice (some ⟨w.heap.size,0,none⟩) 0 cap) (gI (its.take 0)).length (aG (gI (its.take 0)))/\Below w.heap.size w w1):=⟨pX,hb1⟩;clear pX hb1 HG
   go_wp2_with fail
   go_loopg [6,27] its.length (fun m lv iv wr=>∃k:Nat,k+m=its.length/\iv=.int .i64 k/\Hid (wr.ownsRow w.heap.size 175 1 lv (gI (its.take k)).length (aG (gI (its.take k)))/\Below w.heap.size w wr))
   case atStart=>exact⟨0,by omega,rfl,bh.out⟩
   case round=>
    obtain⟨k,hkn,rfl,HO⟩:=hrel;clear bh;by_cases hlt:k<its.length
    ·obtain⟨it,hit⟩:∃it,its[k]?=some it:=⟨_,ay hlt⟩;have c0:=HS.out k it hit;have hT:=HT.out k it hit;have hle:=Om.out (k+1);rw[hT,aS] at hle;have hV:=HV.out it (aY hit);obtain⟨o,c,bl⟩:=it;unfold ED at c0;simp only at c0 hT hle hV;have c1:=(HO.out.2.cell (p:=⟨sb,k,none⟩) (lt_of_cell c0)).trans c0;have eD:(k:Int)<(its.length:Int):=by omega
     obtain⟨gb,hb2⟩:=HO.out;have hbz:=hb2.size;have nU:Hid (gI (its.take (k+1))=gI (its.take k)++bl):=hT;have uw:Hid (∀(i:Nat) b,bl[i]?=some b->wr.cell? ⟨g,o+i,none⟩=some (.pointer (some ⟨b,0,none⟩))):=fun i b hb=>(hb2.cell (p:=⟨g,o+i,none⟩) (lt_of_cell (hV i b hb))).trans (hV i b hb)
     clear hT hit c0 hV HO;generalize gI (its.take k)=A at*;cases bl with
     |nil=>
      have cC:Hid (wr.ownsRow w.heap.size 175 1 u6 (gI (its.take (k+1))).length (aG (gI (its.take (k+1))))/\Below w.heap.size w wr):=by
       show _/\_;rw[nU.out,rA];exact⟨gb,hb2⟩
      clear nU uw
      go_wp2_with (at_builtin;refine Wl rfl (.tmp 31) (.tmp 32) 185 rfl w.heap.size 175 i0 1 Tryz.underlying185 hi0 u6 A.length (aG A) rfl gb (some ⟨g,o,none⟩) c rfl ?_)
      go_roundg (gk-1)
      case measure=>omega
      case rel=>exact⟨k+1,by omega,by go_num,cC.out⟩
     |cons b0 br=>
      rw[bO] at hle;have Yv:∀(j:Nat)(u:Value),(aG (b0::br))[j]?=some u->wr.cell? (Addr.add ⟨g,o,none⟩ j)=some u:=fun j u hj=>by
       unfold aG at hj;rw[gm] at hj;obtain⟨b',h1,h2⟩:=rC.1 hj;rw[<-h2];have e:Addr.add ⟨g,o,none⟩ j=⟨g,o+j,none⟩:=by simp[Addr.add]
       rw[e];exact uw.out j b' h1
      have hone:∀u∈aG (b0::br),u.oneCell'=true:=by unfold aG;simp[Value.oneCell']
      have hpl:(aG (b0::br)).length=(br.length+1)*1:=by simp[aG]
      have HNW:Hid (∀(j:Nat)(u:Value),(aG (b0::br))[j]?=some u->wr.cell? (Addr.add ⟨g,o,none⟩ j)=some u):=Yv;have HON:Hid (∀u∈aG (b0::br),u.oneCell'=true):=hone;have AW:Hid ((aG (b0::br)).length=(br.length+1)*1):=hpl;clear Yv hone hpl uw
      go_wp2_with (at_builtin;go_loud (refine wpList_append_lies _ rfl (.tmp 31) (.tmp 32) 185 rfl w.heap.size 175 i0 _ 1 8 Tryz.underlying185 hi0 hz0 hz1 hz2 rfl (by decide) u6 A.length (aG A) rfl gb ⟨g,o,none⟩ (br.length+1) c (aG (b0::br)) rfl AW.out HNW.out HON.out (by omega) (by unfold maxLen;omega) (by omega) hbz wr.heap.size rfl ?_);intro g' cap' w8 cH aZ gA pY)
      have cC:Hid (w8.ownsRow w.heap.size 175 1 (.slice (some ⟨g',0,none⟩) (A.length+(br.length+1)) cap') (gI (its.take (k+1))).length (aG (gI (its.take (k+1))))/\Below w.heap.size w w8):=by
       show _/\_;rw[nU.out,aS];refine⟨?_,hb2.grown aZ hbz (fun k hk=>(au gb k hk).1)⟩
       have e:aG (A++b0::br)=aG A++aG (b0::br):=by simp[aG]
       rw[e];exact cH
      clear nU cH aZ gA
      go_wp2_with fail
      go_roundg (gk-1)
      case measure=>omega
      case rel=>exact⟨k+1,by omega,by go_num,cC.out⟩
    ·have hk:k=its.length:=by omega
     subst hk;have HF:=HO.out;rw[dI,Yu.out] at HF;have HFF:Hid (wr.ownsRow w.heap.size 175 1 u6 N (aG (gI its))/\Below w.heap.size w wr):=HF;clear HO HF HS HV HT Om
     go_wp2_with fail
     go_ret
     exact⟨u6,rfl,by rw[Yu.out];exact HFF.out⟩
def tI(Xs:List PB):Nat->List Nat->List Nat
 |_,[]=>[]
 |b,s::r=>(if eT (xi Xs s) (xi Xs b)=0 then[] else[s])++tI Xs s r
theorem Yw(Xs:List PB):∀(l:List Nat)(b s:Nat),tI Xs b (l++[s])=tI Xs b l++(if eT (xi Xs s) (xi Xs (l.getLastD b))=0 then[] else[s])
 |[],b,s=>by simp[tI]
 |a::l,b,s=>by
  show _++tI Xs a (l++[s])=(_++tI Xs a l)++_;rw[Yw Xs l a s,fD];cases l<;>rfl
theorem Bn(Xs:List PB):∀(l:List Nat)(b:Nat),∀s∈tI Xs b l,s∈l
 |[],_,s,h=>by simp[tI] at h
 |a::l,b,s,h=>by
  rcases bW.1 h with h|h
  ·split at h
   ·simp at h
   ·have:s=a:=by simpa using h
    rw[this];simp
  ·exact bn _ (Bn Xs l a s h)
theorem Oq(Xs:List PB):∀(l:List Nat)(b:Nat),(tI Xs b l).length<=l.length
 |[],_=>by simp[tI]
 |a::l,b=>by
  have:=Oq Xs l a;show(_++tI Xs a l).length<=_;rw[aS,bO];split<;>simp<;>omega
def cS(Xs:List PB)(A:List Nat):List Nat:=tI Xs (A.getLastD 0) A
def jU(Xs:List PB)(T:List Nat):Nat:=bu (fun i j=>aW (xi Xs i).f (xi Xs j).f) T.tail (T.headD 0)
def tH(Xs:List PB)(T:List Nat):Nat:=(fM (fun j=>j == jU Xs T) T).toNat
def cN(Xs:List PB)(A:List Nat):List Nat:=(cS Xs A).drop (tH Xs (cS Xs A))++(cS Xs A).take (tH Xs (cS Xs A))
theorem Jt{P Q:Nat->Bool}{f:Nat->Nat}:∀(l:List Nat)(k:Nat),(∀x∈l,P (f x)=Q x)->fB P (l.map f) k=fB Q l k
 |[],_,_=>rfl
 |a::l,k,h=>by
  show(if P (f a) then(k:Int) else fB P (l.map f) (k+1))=if Q a then(k:Int) else fB Q l (k+1)
  rw[h a (by simp),Jt l (k+1) fun x hx=>h x (bn _ hx)]
theorem Yx{P:Nat->Bool}:∀(l:List Nat)(k:Nat),(∃x∈l,P x=true)->(k:Int)<=fB P l k/\fB P l k<(k:Int)+l.length
 |[],_,h=>by obtain⟨x,hx,_⟩:=h;simp at hx
 |a::l,k,h=>by
  show(k:Int)<=(if P a then(k:Int) else fB P l (k+1))/\(if P a then(k:Int) else fB P l (k+1))<(k:Int)+(a::l).length
  by_cases ha:P a=true
  ·rw[if_pos ha,bO];omega
  ·rw[if_neg ha,bO];obtain⟨x,hx,hp⟩:=h;have:=Yx l (k+1) ⟨x,(aQ.1 hx).resolve_left (fun e=>ha (e▸hp)),hp⟩
   omega
theorem ny{w:World}{base:Nat}{e:TypeId}{v:Value}{n:Nat}{bl:List Nat}(h:w.ownsRow base e 1 v n (aG bl))(hne:bl≠[]):
  ∃gT cT,v=.slice (some ⟨gT,0,none⟩) n cT/\base<=gT/\gT<w.heap.size/\n<=cT/\cT<=maxLen/\n=bl.length/\∀(i b:Nat),bl[i]?=some b->w.cell? ⟨gT,0+i,none⟩=some (.pointer (some ⟨b,0,none⟩)):=by
 obtain⟨h1,h2⟩:=h;have hl:(aG bl).length=bl.length:=by simp[aG]
 rcases h2 with⟨_,h0⟩|⟨g,cap,cur,hv,hg,hb,hc,hm,hs,ht⟩
 ·rw[h0,zk,hl] at h1;exact absurd (gq.1 h1) hne
 ·refine⟨g,cap,hv,hg,lt_of_heap hb,hc,hm,by omega,fun i b hi=>?_⟩
  have hp:(aG bl)[i]?=some (.pointer (some ⟨b,0,none⟩)):=by unfold aG;rw[gm,hi];rfl
  rw[<-ht,j6] at hp;split at hp
  ·rw[jd];unfold World.cell?;rw[hb];simpa using hp
  ·cases hp
theorem ajc(bs:List Nat)(Xs:List PB)(hB:BD Xs)(g:Nat)(mk:Nat->Bool)(ow:Nat->Option Nat)(w:World)(hW:SW g bs Xs mk ow w)(A:List Nat)(pW:0<A.length)(n9:A.length<=85000000)(hA:∀a∈A,a<bs.length)(g0 lo cap:Nat)
  (HV:Hid (∀(i:Nat) a,A[i]?=some a->w.cell? ⟨g0,lo+i,none⟩=some (.pointer (some ⟨bx bs a,0,none⟩))))(hT:cS Xs A≠[])(T:List Nat)(bM R:Nat)(Ot:cS Xs A=T)(uZ:R<T.length)(rh:T.length<=85000000)(uL:Hid (cN Xs A=T.drop R++T.take R))
  (HM:Hid (∀gT cT wr,wr.ownsRow w.heap.size 175 1 (.slice (some ⟨gT,0,none⟩) T.length cT) T.length (aG (T.map (bx bs)))->Below w.heap.size w wr->Calls Tryz.prog 213 #[.slice (some ⟨gT,0,none⟩) T.length cT,.func (.func 109) #[] #[]] wr fun e w''=>e=.returned (.pointer (some ⟨bM,0,none⟩))/\Below wr.heap.size wr w''))
  (HX:Hid (∀gT cT wr,wr.ownsRow w.heap.size 175 1 (.slice (some ⟨gT,0,none⟩) T.length cT) T.length (aG (T.map (bx bs)))->Below w.heap.size w wr->Calls Tryz.prog 212 #[.slice (some ⟨gT,0,none⟩) T.length cT,.pointer (some ⟨bM,0,none⟩)] wr fun e w''=>e=.returned (.int .i64 R)/\Below wr.heap.size wr w'')):
  Calls Tryz.prog 168 #[.slice (some ⟨g0,lo,none⟩) A.length cap] w fun e w'=>∃lv,e=.returned lv/\w'.ownsRow w.heap.size 175 1 lv (cN Xs A).length (aG ((cN Xs A).map (bx bs)))/\Below w.heap.size w w':=by
 obtain⟨i0,hi0,hz0,hz1,hz2⟩:=info_parts yJ;have hlen:=hW.len;have Ou:Hid (∀a∈A,iE w (bx bs a) (xi Xs a)):=fun a ha=>hW.rb.at (by rw[<-hlen];exact hA a ha)
 have Ov:Hid (∀a∈A,∃l,LD (xi Xs a) l):=fun a ha=>hB.ld _ (gh (by rw[<-hlen];exact hA a ha))
 obtain⟨z,hz⟩:∃z,A[A.length-1]?=some z:=⟨_,ay (by omega)⟩
 have hzl:A.getLastD 0=z:=by
  rw[oJ,pN,hz];rfl
 have c0:=HV.out _ z hz;have hzA:z∈A:=aY hz;have hw1:IntKind.i64.wrap ((A.length:Int)-1)=((A.length-1:Nat):Int):=by rw[IntKind.wrap_i64];omega
 have bh:Hid (w.ownsRow w.heap.size 175 1 (.slice none 0 0) (tI Xs z (A.take 0)).length (aG ((tI Xs z (A.take 0)).map (bx bs)))/\Below w.heap.size w w):=⟨World.ownsRow_nil _ _ _ _,Below.refl _ _⟩
 go_enter Tryz.func168,Tryz.ntmps168
 go_wp2_with fail
 go_loopg [3,4,16] A.length (fun m lv pv iv wr=>∃k:Nat,k+m=A.length/\iv=.int .i64 k/\pv=.pointer (some ⟨bx bs ((A.take k).getLastD z),0,none⟩)/\Hid (wr.ownsRow w.heap.size 175 1 lv (tI Xs z (A.take k)).length (aG ((tI Xs z (A.take k)).map (bx bs)))/\Below w.heap.size w wr))
 case atStart=>exact⟨0,by omega,rfl,rfl,bh.out⟩
 case round=>
  obtain⟨k,hkn,rfl,rfl,HO⟩:=hrel;clear bh;by_cases hlt:k<A.length
  ·obtain⟨s,hs⟩:∃s,A[k]?=some s:=⟨_,ay hlt⟩;obtain⟨gb,hb2⟩:=HO.out;have Yy:s∈A:=aY hs;have Yz:(A.take k).getLastD z∈A:=by
    rw[oJ];cases hh:(A.take k).getLast? with
    |none=>exact hzA
    |some y=>exact nL (tX hh)
   have c1:=(hb2.cell (p:=⟨g0,lo+k,none⟩) (lt_of_cell (HV.out k s hs))).trans (HV.out k s hs);have hS:=(Ou.out s Yy).below hb2;have hP:=(Ou.out _ Yz).below hb2;have s0:=hS.c0;have s1:=hS.c1;have p0:=hP.c0;have p1:=hP.c1;obtain⟨l1,kG⟩:=Ov.out s Yy;obtain⟨l2,hl2⟩:=Ov.out _ Yz;have D4:Hid (∀w',Calls Tryz.prog 179 #[.agg #[.complex .f64 (xi Xs s).wa (xi Xs s).wb,.float .f64 (xi Xs s).sh],.agg #[.complex .f64 (xi Xs ((A.take k).getLastD z)).wa (xi Xs ((A.take k).getLastD z)).wb,.float .f64 (xi Xs ((A.take k).getLastD z)).sh]] w' fun r w''=>r=.returned (.bool (decide (eT (xi Xs s) (xi Xs ((A.take k).getLastD z))=0)))/\Below w'.heap.size w' w''):=fun w'=>ai2 _ _ kG hl2 w'
   have htk:A.take (k+1)=A.take k++[s]:=by rw[jx,hs];rfl
   have YA:Hid ((A.take (k+1)).getLastD z=s):=by
    show(A.take (k+1)).getLastD z=s;rw[htk];simp
   have nU:Hid (tI Xs z (A.take (k+1))=tI Xs z (A.take k)++(if decide (eT (xi Xs s) (xi Xs ((A.take k).getLastD z))=0)=true then[] else[s])):=by
    show tI Xs z (A.take (k+1))=_;rw[htk,Yw];simp only[decide_eq_true_eq]
   have rh:=Oq Xs (A.take k) z;rw[ig] at rh;have hbz:=hb2.size;have eD:(k:Int)<(A.length:Int):=by omega
   have hsz:bx bs s<wr.heap.size:=lt_of_cell s0;have lH:bx bs ((A.take k).getLastD z)<wr.heap.size:=lt_of_cell p0;have pH:Below wr.heap.size wr wr.drew:=(Below.refl _ _).drew;have kz:Hid (wr.ownsRow w.heap.size 175 1 u3 (tI Xs z (A.take k)).length (aG ((tI Xs z (A.take k)).map (bx bs)))):=gb;have gf:Hid (Below w.heap.size w wr):=hb2;clear hS hP kG hl2 htk hs HO gb hb2 c0 hz hw1;generalize hbb:bx bs s=bS at*;generalize bx bs ((A.take k).getLastD z)=bP at*;generalize decide (eT (xi Xs s) (xi Xs ((A.take k).getLastD z))=0)=B at*;generalize(xi Xs s).wa=X1 at*;generalize(xi Xs s).wb=X2 at*;generalize(xi Xs s).sh=X3 at*;generalize(xi Xs ((A.take k).getLastD z)).wa=Y1 at*;generalize(xi Xs ((A.take k).getLastD z)).wb=Y2 at*;generalize(xi Xs ((A.take k).getLastD z)).sh=Y3 at*;generalize tI Xs z (A.take k)=T at*
   go_wp2_with fail
   go_region_held3 (fun w'=>w'.cell? ⟨bS,0,none⟩=some (.complex .f64 X1 X2)/\w'.cell? ⟨bS,1,none⟩=some (.float .f64 X3)/\w'.cell? ⟨bP,0,none⟩=some (.complex .f64 Y1 Y2)/\w'.cell? ⟨bP,1,none⟩=some (.float .f64 Y3)) (go_keep) ((go_at_call 179;refine(D4.out _).mono ?_;rintro e w5 ⟨rfl,ai⟩;have mB:Below wr.heap.size wr w5:=pH.trans ai;have e0:=(mB.cell (p:=⟨bS,0,none⟩) hsz).trans s0;have e1:=(mB.cell (p:=⟨bS,1,none⟩) hsz).trans s1;have e2:=(mB.cell (p:=⟨bP,0,none⟩) lH).trans p0;have e3:=(mB.cell (p:=⟨bP,1,none⟩) lH).trans p1))
   all_goals
    have eI:Hid (Below w.heap.size w w5):=gf.out.trans (mB.mono hbz);have dB:w5.ownsRow w.heap.size 175 1 u3 T.length (aG (T.map (bx bs))):=aJ kz.out fun k hk=>mB.block k (au kz.out k hk).2
    have AL:=eI.out.size;clear e0 e1 e2 e3 s0 s1 p0 p1 pH mB kz gf D4;cases B
    ·have EE:Hid (tI Xs z (A.take (k+1))=T++[s]):=nU.out;have hnb:(w5.alloc (.cells #[.pointer (some ⟨bS,0,none⟩)] 175)).heap[w5.heap.size]?=some (.cells #[.pointer (some ⟨bS,0,none⟩)] 175 (0,0)):=heap_alloc_new _ _;have fW:(w5.alloc (.cells #[.pointer (some ⟨bS,0,none⟩)] 175)).ownsRow w.heap.size 175 1 u3 T.length (aG (T.map (bx bs))):=aJ dB fun k hk=>Below.heap_alloc _ _ _ (au dB k hk).2
     have CJ:=dB;clear nU dB
     go_wp2_with (at_builtin;refine wpList_append_lies _ rfl (.tmp 32) (.tmp 34) 185 rfl w.heap.size 175 i0 _ 1 8 Tryz.underlying185 hi0 hz0 hz1 hz2 rfl (by decide) u3 T.length (aG (T.map (bx bs))) rfl fW ⟨w5.heap.size,0,none⟩ 1 1 [.pointer (some ⟨bS,0,none⟩)] rfl rfl (World.news_of_block (cs:= #[.pointer (some ⟨bS,0,none⟩)]) (t:=175) (fr:=(0,0)) hnb) (by simp[Value.oneCell']) (by decide) (by unfold maxLen;omega) (by omega) (by simp;omega) (w5.heap.size+1) (by simp) ?_;intro g' cap' w8 cH aZ gA pY)
     have cC:Hid (w8.ownsRow w.heap.size 175 1 (.slice (some ⟨g',0,none⟩) (T.length+1) cap') (tI Xs z (A.take (k+1))).length (aG ((tI Xs z (A.take (k+1))).map (bx bs)))/\Below w.heap.size w w8):=by
      show _/\_;rw[EE.out,aS,iy];refine⟨?_,(eI.out.alloc AL _).grown aZ (by simp;omega) (fun k hk=>(au CJ k hk).1)⟩
      have e:aG (T.map (bx bs)++[s].map (bx bs))=aG (T.map (bx bs))++[.pointer (some ⟨bS,0,none⟩)]:=by simp[aG,hbb]
      rw[e];exact cH
     have EF:Hid (bx bs s=bS):=hbb;clear cH aZ gA hnb fW CJ EE hbb
     go_wp2_with fail
     go_roundg (gk-1)
     case measure=>omega
     case rel=>exact⟨k+1,by omega,by go_num,by rw[YA.out,EF.out],cC.out⟩
    ·have EE:Hid (tI Xs z (A.take (k+1))=T):=by
      have:=nU.out;rw[if_pos rfl,rA] at this;exact this
     have cC:Hid (w5.ownsRow w.heap.size 175 1 u3 (tI Xs z (A.take (k+1))).length (aG ((tI Xs z (A.take (k+1))).map (bx bs)))/\Below w.heap.size w w5):=by
      show _/\_;rw[EE.out];exact⟨dB,eI.out⟩
     have EF:Hid (bx bs s=bS):=hbb;clear nU dB hbb EE
     go_wp2_with fail
     go_roundg (gk-1)
     case measure=>omega
     case rel=>exact⟨k+1,by omega,by go_num,by rw[YA.out,EF.out],cC.out⟩
  ·have hk:k=A.length:=by omega
   subst hk;have gb:=HO.out.1;have gf:Hid (Below w.heap.size w wr):=HO.out.2;rw[dI] at gb;have YB:tI Xs z A=T:=by rw[<-Ot];unfold cS;rw[hzl]
   rw[YB] at gb;obtain⟨gT,cT,rfl,hgT,dw,hcT,hcm,hd1,hd2⟩:=ny gb (by rw[<-Ot];simpa using hT)
   clear hd1 hd2;have kz:Hid (wr.ownsRow w.heap.size 175 1 (.slice (some ⟨gT,0,none⟩) T.length cT) T.length (aG (T.map (bx bs)))):=gb;have aoG:cT<=9223372036854775807:=by unfold maxLen at hcm;omega
   have YC:=HM.out gT cT wr kz.out gf.out;have EG:Hid (Calls Tryz.prog 213 #[.slice (some ⟨gT,0,none⟩) T.length cT,.func (.func 109) #[] #[]] wr fun e w''=>e=.returned (.pointer (some ⟨bM,0,none⟩))/\Below wr.heap.size wr w''):=YC
   clear HM YC gb HO Ou Ov HV hW hB YB Ot hcm c0 hz hw1 hT hA hzA hzl
   go_wp2_with fail
   refine EG.out.mono ?_;rintro e w1 ⟨rfl,hb1⟩;have pX:w1.ownsRow w.heap.size 175 1 (.slice (some ⟨gT,0,none⟩) T.length cT) T.length (aG (T.map (bx bs))):=aJ kz.out fun k hk=>hb1.block k (au kz.out k hk).2
   have Ow:Below w.heap.size w w1:=gf.out.trans (hb1.mono gf.out.size);have YD:Hid (Calls Tryz.prog 212 #[.slice (some ⟨gT,0,none⟩) T.length cT,.pointer (some ⟨bM,0,none⟩)] w1 fun e w''=>e=.returned (.int .i64 R)/\Below w1.heap.size w1 w''):=HX.out gT cT w1 pX Ow
   have qL:Hid (w1.ownsRow w.heap.size 175 1 (.slice (some ⟨gT,0,none⟩) T.length cT) T.length (aG (T.map (bx bs)))):=pX;have qi:Hid (Below w.heap.size w w1):=Ow;clear HX EG pX Ow kz gf hb1
   go_wp2_with fail
   refine YD.out.mono ?_;rintro e w2 ⟨rfl,hb2⟩;have kz:Hid (w2.ownsRow w.heap.size 175 1 (.slice (some ⟨gT,0,none⟩) T.length cT) T.length (aG (T.map (bx bs)))):=aJ qL.out fun k hk=>hb2.block k (au qL.out k hk).2
   have gf:Hid (Below w.heap.size w w2):=qi.out.trans (hb2.mono qi.out.size);clear YD qL qi hb2;have YE:Hid (∀w' sb,Below w2.heap.size w2 w'->w'.cell? ⟨sb,0,none⟩=some (.slice (some ⟨gT,R,none⟩) (T.length-R) (cT-R))->w'.cell? ⟨sb,1,none⟩=some (.slice (some ⟨gT,0,none⟩) R cT)->Calls Tryz.prog 214 #[.slice (some ⟨sb,0,none⟩) 2 2] w' fun e w''=>∃lv,e=.returned lv/\w''.ownsRow w'.heap.size 175 1 lv (cN Xs A).length (aG ((cN Xs A).map (bx bs)))/\Below w'.heap.size w' w''):=fun w' sb hb c0 c1=>by
    obtain⟨lJ,jV,hv,_,UU,_,_,_,hcell⟩:=ny kz.out (by intro h;have:=congrArg List.length h;simp at this;rw[this] at uZ;simp at uZ)
    have hgg:lJ=gT/\jV=cT:=by
     injection hv with h1 _ h3;injection h1 with h1;injection h1 with h1;exact⟨h1.symm,h3.symm⟩
    obtain⟨rfl,rfl⟩:=hgg;have Ox:gI [(R,jV-R,(T.drop R).map (bx bs)),(0,jV,(T.take R).map (bx bs))]=(cN Xs A).map (bx bs):=by
     rw[uL.out,iy];simp[gI]
    have kG:((T.drop R).map (bx bs)).length=T.length-R:=by simp
    have hl2:((T.take R).map (bx bs)).length=R:=by simp;omega
    have hcl:((cN Xs A).map (bx bs)).length=T.length:=by
     rw[uL.out,iH,aS];simp;omega
    have hk:=ai8 [(R,jV-R,(T.drop R).map (bx bs)),(0,jV,(T.take R).map (bx bs))] lJ sb 2 w' (by rw[Ox,hcl];omega) (by rw[Ox,hcl];exact rh) (by simp)
     (fun k it hk=>by
      rcases k with _|_|k
      ·have e:it=(R,jV-R,(T.drop R).map (bx bs)):=by simpa using hk.symm
       rw[e];unfold ED;simp only[kG];exact c0
      ·have e:it=(0,jV,(T.take R).map (bx bs)):=by simpa using hk.symm
       rw[e];unfold ED;simp only[hl2];exact c1
      ·simp at hk)
     (fun it hit i b hi=>by
      have hgl:lJ<w2.heap.size:=UU;rcases aQ.1 hit with e|hit
      ·rw[e] at hi⊢;simp only at hi⊢;have h2:=hcell (R+i) b (by rw[<-hi,List.map_drop,KQ])
       rw[jd] at h2;exact(hb.cell (p:=⟨lJ,R+i,none⟩) hgl).trans h2
      ·have e:it=(0,jV,(T.take R).map (bx bs)):=by simpa using hit
       rw[e] at hi⊢;simp only at hi⊢;have h2:=hcell i b (by
        rw[acn,j6] at hi;split at hi
        ·exact hi
        ·cases hi)
       exact(hb.cell (p:=⟨lJ,0+i,none⟩) hgl).trans h2)
    rw[Ox,iH] at hk;exact hk
   have yQ:(0:Int)<=(R:Int):=by omega
   have hRi:(R:Int)<=(T.length:Int):=by omega
   have hTc:(T.length:Int)<=(cT:Int):=by omega
   have hRc:(R:Int)<=(cT:Int):=by omega
   have hcR:¬cT=R:=by omega
   have Jr:Hid (∀o,Below w2.heap.size w2 (w2.alloc o).drew):=fun o=>((Below.refl _ _).alloc (ae _) o).drew
   have HBD:Hid (Below w2.heap.size w2 w2.drew):=(Below.refl _ _).drew;have Oy:Below w2.heap.size w2 (w2.alloc (.cells #[.slice (some ⟨gT,R,none⟩) (T.length-R) (cT-R),.slice (some ⟨gT,0,none⟩) R cT] 185)).drew:=((Below.refl _ _).alloc (ae _) _).drew;have hcc:=YE.out _ w2.heap.size Oy (cell_of (w:=(w2.alloc (.cells #[.slice (some ⟨gT,R,none⟩) (T.length-R) (cT-R),.slice (some ⟨gT,0,none⟩) R cT] 185)).drew) (heap_alloc_new _ _) 0) (cell_of (w:=(w2.alloc (.cells #[.slice (some ⟨gT,R,none⟩) (T.length-R) (cT-R),.slice (some ⟨gT,0,none⟩) R cT] 185)).drew) (heap_alloc_new _ _) 1);have ajh:=gf.out.size;have tA:Hid (Calls Tryz.prog 214 #[.slice (some ⟨w2.heap.size,0,none⟩) 2 2] (w2.alloc (.cells #[.slice (some ⟨gT,R,none⟩) (T.length-R) (cT-R),.slice (some ⟨gT,0,none⟩) R cT] 185)).drew fun e w''=>∃lv,e=.returned lv/\w''.ownsRow w.heap.size 175 1 lv (cN Xs A).length (aG ((cN Xs A).map (bx bs)))/\Below w.heap.size w w''):=by
    refine hcc.mono ?_;rintro e w9 ⟨Ju,rfl,yA,mF⟩;exact⟨Ju,rfl,uR yA (by simp[World.drew];omega),gf.out.trans ((Oy.trans (mF.mono (by simp[World.drew]))).mono ajh)⟩
   clear kz uL YE hcc Oy Jr HBD
   go_wp2_with fail
   go_region_held3 (fun _=>True) (go_keep) ((go_at_call 214;refine tA.out.mono ?_;rintro e w9 ⟨Ju,rfl,yA,mF⟩))
   all_goals
    have HF:Hid (w9.ownsRow w.heap.size 175 1 Ju (cN Xs A).length (aG ((cN Xs A).map (bx bs)))/\Below w.heap.size w w9):=⟨yA,mF⟩;clear yA mF gf tA
    go_wp2_with fail
    go_ret
    exact⟨Ju,rfl,HF.out⟩
theorem YF(Xs:List PB){T:List Nat}(hT:T≠[]):jU Xs T∈T:=by
 cases T with
 |nil=>exact absurd rfl hT
 |cons t0 tr=>
  unfold jU;rcases wP (fun i j=>aW (xi Xs i).f (xi Xs j).f) tr t0 with e|e
  ·rw[show(t0::tr).tail=tr from rfl,show(t0::tr).headD 0=t0 from rfl,e];simp
  ·exact bn _ e
theorem aji(Xs:List PB){T:List Nat}(hT:T≠[]):fM (fun j=>j == jU Xs T) T=(tH Xs T:Int)/\tH Xs T<T.length:=by
 have hbd:=Yx (P:=fun j=>j == jU Xs T) T 0 ⟨_,YF Xs hT,by simp⟩
 have e2:fM (fun j=>j == jU Xs T) T=fB (fun j=>j == jU Xs T) T 0:=rfl
 have e3:tH Xs T=(fB (fun j=>j == jU Xs T) T 0).toNat:=rfl
 rw[e2,e3];omega
theorem Oz(Xs:List PB)(A:List Nat):∀j∈cS Xs A,j∈A:=fun j hj=>Bn Xs A _ j hj
theorem OA(Xs:List PB)(A:List Nat):(cS Xs A).length<=A.length:=Oq Xs A _
theorem ajj(bs:List Nat)(Xs:List PB)(hB:BD Xs)(g:Nat)(mk:Nat->Bool)(ow:Nat->Option Nat)(w:World)(hW:SW g bs Xs mk ow w)(A:List Nat)(pW:0<A.length)(n9:A.length<=85000000)(hA:∀a∈A,a<bs.length)(g0 lo cap:Nat)
  (HV:∀(i:Nat) a,A[i]?=some a->w.cell? ⟨g0,lo+i,none⟩=some (.pointer (some ⟨bx bs a,0,none⟩)))(hT:cS Xs A≠[]):
  Calls Tryz.prog 168 #[.slice (some ⟨g0,lo,none⟩) A.length cap] w fun e w'=>∃lv,e=.returned lv/\w'.ownsRow w.heap.size 175 1 lv (cN Xs A).length (aG ((cN Xs A).map (bx bs)))/\Below w.heap.size w w':=by
 have hlen:=hW.len;have oX:∀j∈cS Xs A,j<bs.length:=fun j hj=>hA j (Oz Xs A j hj)
 have rh:(cS Xs A).length<=85000000:=dS (OA Xs A) n9;have hlm:=YF Xs hT;obtain⟨hr1,hr2⟩:=aji Xs hT;refine ajc bs Xs hB g mk ow w hW A pW n9 hA g0 lo cap HV hT (cS Xs A) (bx bs (jU Xs (cS Xs A))) (tH Xs (cS Xs A)) rfl hr2 rh rfl ?_ ?_
 ·intro gT cT wr ho hb;generalize cS Xs A=T at*;obtain⟨lJ,jV,hv,_,dw,_,_,_,hcell⟩:=ny ho (by intro h;exact hT (rB.1 h))
  have hgg:lJ=gT/\jV=cT:=by
   injection hv with h1 _ h3;injection h1 with h1;injection h1 with h1;exact⟨h1.symm,h3.symm⟩
  obtain⟨rfl,rfl⟩:=hgg;obtain⟨t0,tr,rfl⟩:∃t0 tr,T=t0::tr:=by
   cases T with
   |nil=>exact absurd rfl hT
   |cons a r=>exact⟨a,r,rfl⟩
  have hR:=hW.rb.below hb;have hm:=ai3 (fun b b'=>aW (xi Xs (bs.idxOf b)).f (xi Xs (bs.idxOf b')).f) (bx bs t0) (tr.map (bx bs)) lJ 0 jV wr (by rw[iH];simp only[bO] at rh;omega)
   (fun i b hi=>hcell i b hi)
   (fun b h1 c h2 w'' hw=>by
    have key:∀b,b∈bx bs t0::tr.map (bx bs)->∃j,j<bs.length/\b=bx bs j:=fun b hb=>by
     have hb2:b∈(t0::tr).map (bx bs):=hb;obtain⟨j,hj,rfl⟩:=aX.1 hb2;exact⟨j,oX j hj,rfl⟩
    obtain⟨j1,q1,rfl⟩:=key b h1;obtain⟨j2,q2,rfl⟩:=key c h2;have Bi:=hR.below hw;rw[mD hW.nd q1,mD hW.nd q2];refine(NN _ _ (hB.v _ (gh (by rw[<-hlen];exact q1))) (hB.v _ (gh (by rw[<-hlen];exact q2))) _ _ w'' (Bi.at (by rw[<-hlen];exact q1)) (Bi.at (by rw[<-hlen];exact q2))).mono ?_
    rintro e w3 ⟨rfl,hb3,_⟩;exact⟨rfl,hb3⟩)
  have e1:bu (fun b b'=>aW (xi Xs (bs.idxOf b)).f (xi Xs (bs.idxOf b')).f) (tr.map (bx bs)) (bx bs t0)=bx bs (jU Xs (t0::tr)):=by
   unfold jU;refine Ew _ _ fun j hj k hk=>?_
   simp only[mD hW.nd (oX j hj),mD hW.nd (oX k hk)]
  rw[e1,iH] at hm;exact hm
 ·intro gT cT wr ho hb;generalize cS Xs A=T at*;obtain⟨lJ,jV,hv,_,dw,_,_,_,hcell⟩:=ny ho (by intro h;exact hT (rB.1 h))
  have hgg:lJ=gT/\jV=cT:=by
   injection hv with h1 _ h3;injection h1 with h1;injection h1 with h1;exact⟨h1.symm,h3.symm⟩
  obtain⟨rfl,rfl⟩:=hgg;have hm:=ai6 (bx bs (jU Xs T)) (T.map (bx bs)) lJ 0 jV wr (by rw[iH];exact rh) (fun i b hi=>hcell i b hi) (fun b hb'=>by
   have Yp:∃j,j<bs.length/\b=bx bs j:=by
    rcases hb' with rfl|hb'
    ·exact⟨_,oX _ hlm,rfl⟩
    ·obtain⟨j,hj,rfl⟩:=aX.1 hb';exact⟨j,oX j hj,rfl⟩
   obtain⟨j,hj,rfl⟩:=Yp;exact⟨_,(hb.block _ (hW.lt (qj hj))).trans (hW.side j hj)⟩)
  have e1:fM (fun b=>b == bx bs (jU Xs T)) (T.map (bx bs))=fM (fun j=>j == jU Xs T) T:=Jt _ _ fun x hx=>by
   by_cases e:x=jU Xs T
   ·rw[e];simp
   ·have h1:(x == jU Xs T)=false:=by simpa using e
    have h2:(bx bs x == bx bs (jU Xs T))=false:=by simpa using fun h=>e (Oj hW.nd (oX x hx) (oX _ hlm) h)
    rw[h1,h2]
  rw[e1,hr1,iH] at hm;exact hm
end Go.Proofs.YtkjhhooecopolaaGreatDoor

import Derived.Test.YtkjhhooecopolaaGreatDoorMz03
import Derived.Lib.LaidTab
import Derived.Lib.ItoaNum
import Derived.Shelf.Strings.Builder1
import Derived.Shelf.Strings.Builder2
import Derived.Shelf.Strings.OnBuilder
import Derived.Shelf.Small.Bits
import Derived.Shelf.Strings.BuilderF
import Derived.Shelf.Strings.BuilderK
import Derived.Shelf.Strconv.Atoi
import Derived.Shelf.Strconv.Itoa0
import Derived.Shelf.Strconv.Itoa1
import Derived.Shelf.LaysM
import Derived.Shelf.Strconv.Itoa2
import Derived.Shelf.Strconv.Itoa3
import Derived.Shelf.Strconv.AtoiErrFast
import Derived.Shelf.Strconv.ParseIntEmpty
import Derived.Shelf.Strconv.AtoiFail
import Derived.Shelf.Strconv.Clone
import Derived.Shelf.Strconv.SyntaxError
import Derived.Shelf.LaysC
import Derived.Shelf.Strconv.ToError
import Derived.Shelf.Strconv.Lower
import Derived.Shelf.Strconv.ParseUint10
import Derived.Shelf.Strconv.ParseUint10Empty
import Derived.Shelf.Strconv.ParseUint10Any
import Derived.Shelf.Strconv.ParseInt10
import Derived.Shelf.Strconv.AtoiLong
import Derived.Shelf.Strconv.AtoiInnerAll
import Derived.Shelf.Strconv.RangeError
import Derived.Shelf.Strconv.ToErrorRange
import Derived.Shelf.Strconv.AtoiAll
import Derived.Shelf.Strconv.ErrVarAll
import Derived.Test.YtkjhhooecopolaaGreatDoorProg
import Derived.Lib.AtoiErrMem
import Derived.Lib.AtoiTie
set_option maxRecDepth 100000
set_option maxHeartbeats 4000000
namespace Go.Proofs.YtkjhhooecopolaaGreatDoor
open Go.RowKit
structure Gl(w:World):Prop where
 sz:6<=w.heap.size
 es:∃tp p,w.var? Tryz.prog "strconv.ErrSyntax" =some #[.iface tp p]
 er:∃tp p,w.var? Tryz.prog "strconv.ErrRange" =some #[.iface tp p]
 tab:Lib.TabIs Tryz.prog w "internal/strconv.uint64pow10" .u64 Lib.pow10Tab
def eY(t:Pl.Tk):Array Value:= #[.int .i64 (Pl.pk t),.string ⟨(Pl.fI t).toArray⟩,.int .i64 t.n,.int .i64 t.pl]
def Sv:Prop:=∀(s:ByteArray)(j:Nat)(w:World),j<s.size->s.size<=400->Gl w->(∀h:j<s.size,Pl.aM s[j]=true\/s[j].toNat=45)->
  Calls Tryz.prog 93 #[.string s,.int .i64 j] w fun e w'=>e=.returned (.agg (eY (Pl.bX (s.data.toList.drop j) j)))/\Below w.heap.size w w'
theorem adm(s:ByteArray)(j:Nat)(h:s.size<=j):eY (Pl.bX (s.data.toList.drop j) j)= #[.int .i64 1,.string ⟨#[]⟩,.int .i64 0,.int .i64 j]:=by
 rw[zh (by simp;omega)];rfl
theorem adn(s:ByteArray)(j k:Nat)(h:j<s.size)(hl:Pl.isLet s[j]=true)(hk:k=j+((s.data.toList.drop j).takeWhile Pl.isLet).length):
  eY (Pl.bX (s.data.toList.drop j) j)= #[.int .i64 2,.string (s.extract j k),.int .i64 0,.int .i64 j]:=by
 rw[Pl.extract_eq,hk,FX,Pl.take_takeWhile,Pl.drop_cons s j h];have h1:¬(s[j].toNat=40\/s[j].toNat=41\/s[j].toNat=44\/s[j].toNat=47):=by
  have:=of_decide_eq_true hl;omega
 simp only[Pl.bX];rw[if_neg h1,if_pos hl];rfl
theorem LC(s:ByteArray)(j:Nat)(h:j<s.size)(hl:s[j].toNat=40\/s[j].toNat=41\/s[j].toNat=44):
  eY (Pl.bX (s.data.toList.drop j) j)= #[.int .i64 4,.string (s.extract j (j+1)),.int .i64 0,.int .i64 j]:=by
 rw[Pl.extract_eq,FX,Pl.drop_cons s j h];have h1:s[j].toNat=40\/s[j].toNat=41\/s[j].toNat=44\/s[j].toNat=47:=by omega
 simp only[Pl.bX];rw[if_pos h1];have h2:s[j].toNat≠101/\s[j].toNat≠119/\s[j].toNat≠110/\s[j].toNat≠47:=by omega
 simp[eY,Pl.pk,Pl.fI,h2,hl]
theorem ado(s:ByteArray)(j:Nat)(h:j<s.size)(h1:¬(s[j].toNat=40\/s[j].toNat=41\/s[j].toNat=44))(h2:Pl.isLet s[j]=false)(h3:Pl.aM s[j]=false)(h4:s[j].toNat≠45):
  eY (Pl.bX (s.data.toList.drop j) j)= #[.int .i64 0,.string ⟨#[]⟩,.int .i64 0,.int .i64 j]:=by
 rw[Pl.drop_cons s j h];simp only[Pl.bX];by_cases h5:s[j].toNat=47
 ·rw[if_pos (by omega)]
  simp[eY,Pl.pk,Pl.fI,h5]
 ·rw[if_neg (by omega),if_neg (by simp[h2]),if_neg h4]
  simp[h3,eY,Pl.pk,Pl.fI]
theorem globals:Tryz.prog.globalNamed "strconv.ErrSyntax" =some 0/\Tryz.prog.globalNamed "strconv.ErrRange" =some 1/\Tryz.prog.globalNamed "internal/strconv.uint64pow10" =some 3:=⟨by kernel_rfl,by kernel_rfl,by kernel_rfl⟩
theorem Gl.below{w w':World}{B:Nat}(h:Gl w)(hb:Below B w w')(hB:6<=B):Gl w':=by
 obtain⟨g1,g2,g3⟩:=globals;obtain⟨tp,p,h1⟩:=h.es;obtain⟨tq,q,h2⟩:=h.er;refine⟨dS h.sz hb.size,⟨tp,p,var?_below hb g1 (by omega) h1⟩,⟨tq,q,var?_below hb g2 (by omega) h2⟩,var?_below hb g3 (by omega) h.tab⟩
theorem Gl.alloc{w:World}(h:Gl w)(o:Obj):Gl (w.alloc o):=
 h.below ((Below.refl w.heap.size w).alloc (ae _) o) h.sz
theorem GJ{W w1:World}(hb:Below W.heap.size W w1):(∀b o,b<W.heap.size->w1.cell? ⟨b,o,none⟩=W.cell? ⟨b,o,none⟩)/\(∀b o,b<W.heap.size->w1.frozen? ⟨b,o,none⟩=W.frozen? ⟨b,o,none⟩):=
 ⟨fun b o h=>hb.cell (p:=⟨b,o,none⟩) h,fun b o h=>hb.frozen (p:=⟨b,o,none⟩) h⟩
theorem Sw(hN:Sv)(s:ByteArray)(i:Nat)(w:World)(h1:i<=s.size)(hs:s.size<=400)(hG:Gl w):
  Calls Tryz.prog 60 #[.string s,.int .i64 i] w fun e w'=>e=.returned (.agg (eY (Pl.tk s.data.toList i)))/\Below w.heap.size w w':=by
 have hbl:=Pl.Lx s.data.toList i (by simpa using h1)
 unfold Pl.tk;generalize hj:Pl.bl s.data.toList i=j at*;have CE:j<=s.size:=by simpa using hbl.2
 have HJ:Hid (j=i+((s.data.toList.drop i).takeWhile Pl.dC).length):=by rw[<-hj];rfl
 clear hj hbl;by_cases hlt:j<s.size
 ·have hne:((j:Int) == (s.size:Int))=false:=by simp;omega
  cases hl:Pl.isLet s[j]
  ·cases hd:Pl.aM s[j]
   ·by_cases hm:s[j].toNat=45
    ·have hmb:((s[j].toNat:Int) == 45)=true:=by simp;omega
     generalize hT:eY (Pl.bX (s.data.toList.drop j) j)=T;have HN:Hid (∀w1,Gl w1->Calls Tryz.prog 93 #[.string s,.int .i64 j] w1 fun e w'=>e=.returned (.agg T)/\Below w1.heap.size w1 w'):=fun w1 g1=>by
      rw[<-hT];exact hN s j w1 hlt hs g1 (fun _=>Or.inr hm)
     obtain⟨t0,t1,t2,t3,rfl⟩:∃a b c d,T= #[Value.int .i64 a,.string b,.int .i64 c,.int .i64 d]:=⟨_,_,_,_,hT.symm⟩;clear hT hm
     go_enter Tryz.func60,Tryz.ntmps60
     go_wp2_with fail
     refine(vP s i j _ h1 hs HJ.out).mono ?_;rintro e w' ⟨rfl,rfl⟩
     go_wp2_with fail
     refine(rQ _ _).mono ?_;rintro e w' ⟨rfl,rfl⟩
     go_wp2_with fail
     refine(ui _ _).mono ?_;rintro e w' ⟨rfl,rfl⟩
     go_wp2_with fail
     refine(HN.out _ (hG.alloc _)).mono ?_;rintro e w1 ⟨rfl,hb⟩;obtain⟨hc,hf⟩:=GJ hb;have hz:w.heap.size<w1.heap.size:=by have:=hb.size;simp at this;omega
     go_wp2_with fail
     refine bodyPost_ret (v:=.agg #[.int .i64 t0,.string t1,.int .i64 t2,.int .i64 t3]) (by simp[results,Tryz.results60,go_sem,hc]) rfl ⟨rfl,?_⟩
     exact((((((Below.refl w.heap.size w).alloc (ae _) _).trans (hb.mono (by simp))).setCell (ae _) _).setCell (ae _) _).setCell (ae _) _).setCell (ae _) _
    ·have hmb:((s[j].toNat:Int) == 45)=false:=by simp;omega
     by_cases q0:s[j].toNat=40
     ·rw[LC s j hlt (by omega)]
      have LF:((s[j].toNat:Int) == 40)=true:=by simp;omega
      clear q0 hm
      go_enter Tryz.func60,Tryz.ntmps60
      go_wp2_with fail
      refine(vP s i j _ h1 hs HJ.out).mono ?_;rintro e w' ⟨rfl,rfl⟩
      go_wp2_with fail
      refine(rQ _ _).mono ?_;rintro e w' ⟨rfl,rfl⟩
      go_wp2_with fail
      refine(ui _ _).mono ?_;rintro e w' ⟨rfl,rfl⟩
      go_wp2_with fail
      exact bodyPost_ret (v:=.agg #[.int .i64 4,.string (s.extract j (j+1)),.int .i64 0,.int .i64 j]) (by simp[results,Tryz.results60,go_sem]) rfl ⟨rfl,(Below.refl _ _).alloc (ae _) _⟩
     ·by_cases q1:s[j].toNat=41
      ·rw[LC s j hlt (by omega)]
       have LF:((s[j].toNat:Int) == 40)=false:=by simp;omega
       have Sy:((s[j].toNat:Int) == 41)=true:=by simp;omega
       clear q0 q1 hm
       go_enter Tryz.func60,Tryz.ntmps60
       go_wp2_with fail
       refine(vP s i j _ h1 hs HJ.out).mono ?_;rintro e w' ⟨rfl,rfl⟩
       go_wp2_with fail
       refine(rQ _ _).mono ?_;rintro e w' ⟨rfl,rfl⟩
       go_wp2_with fail
       refine(ui _ _).mono ?_;rintro e w' ⟨rfl,rfl⟩
       go_wp2_with fail
       exact bodyPost_ret (v:=.agg #[.int .i64 4,.string (s.extract j (j+1)),.int .i64 0,.int .i64 j]) (by simp[results,Tryz.results60,go_sem]) rfl ⟨rfl,(Below.refl _ _).alloc (ae _) _⟩
      ·by_cases q2:s[j].toNat=44
       ·rw[LC s j hlt (by omega)]
        have LF:((s[j].toNat:Int) == 40)=false:=by simp;omega
        have Sy:((s[j].toNat:Int) == 41)=false:=by simp;omega
        have adp:((s[j].toNat:Int) == 44)=true:=by simp;omega
        clear q0 q1 q2 hm
        go_enter Tryz.func60,Tryz.ntmps60
        go_wp2_with fail
        refine(vP s i j _ h1 hs HJ.out).mono ?_;rintro e w' ⟨rfl,rfl⟩
        go_wp2_with fail
        refine(rQ _ _).mono ?_;rintro e w' ⟨rfl,rfl⟩
        go_wp2_with fail
        refine(ui _ _).mono ?_;rintro e w' ⟨rfl,rfl⟩
        go_wp2_with fail
        exact bodyPost_ret (v:=.agg #[.int .i64 4,.string (s.extract j (j+1)),.int .i64 0,.int .i64 j]) (by simp[results,Tryz.results60,go_sem]) rfl ⟨rfl,(Below.refl _ _).alloc (ae _) _⟩
       ·rw[ado s j hlt (by omega) hl hd hm]
        have LF:((s[j].toNat:Int) == 40)=false:=by simp;omega
        have Sy:((s[j].toNat:Int) == 41)=false:=by simp;omega
        have adp:((s[j].toNat:Int) == 44)=false:=by simp;omega
        clear q0 q1 q2 hm
        go_enter Tryz.func60,Tryz.ntmps60
        go_wp2_with fail
        refine(vP s i j _ h1 hs HJ.out).mono ?_;rintro e w' ⟨rfl,rfl⟩
        go_wp2_with fail
        refine(rQ _ _).mono ?_;rintro e w' ⟨rfl,rfl⟩
        go_wp2_with fail
        refine(ui _ _).mono ?_;rintro e w' ⟨rfl,rfl⟩
        go_wp2_with fail
        exact bodyPost_ret (v:=.agg #[.int .i64 0,.string ⟨#[]⟩,.int .i64 0,.int .i64 j]) (by simp[results,Tryz.results60,go_sem]) rfl ⟨rfl,(Below.refl _ _).alloc (ae _) _⟩
   ·generalize hT:eY (Pl.bX (s.data.toList.drop j) j)=T;have HN:Hid (∀w1,Gl w1->Calls Tryz.prog 93 #[.string s,.int .i64 j] w1 fun e w'=>e=.returned (.agg T)/\Below w1.heap.size w1 w'):=fun w1 g1=>by
     rw[<-hT];exact hN s j w1 hlt hs g1 (fun _=>Or.inl hd)
    obtain⟨t0,t1,t2,t3,rfl⟩:∃a b c d,T= #[Value.int .i64 a,.string b,.int .i64 c,.int .i64 d]:=⟨_,_,_,_,hT.symm⟩;clear hT
    go_enter Tryz.func60,Tryz.ntmps60
    go_wp2_with fail
    refine(vP s i j _ h1 hs HJ.out).mono ?_;rintro e w' ⟨rfl,rfl⟩
    go_wp2_with fail
    refine(rQ _ _).mono ?_;rintro e w' ⟨rfl,rfl⟩
    go_wp2_with fail
    refine(ui _ _).mono ?_;rintro e w' ⟨rfl,rfl⟩
    go_wp2_with fail
    refine(HN.out _ (hG.alloc _)).mono ?_;rintro e w1 ⟨rfl,hb⟩;obtain⟨hc,hf⟩:=GJ hb;have hz:w.heap.size<w1.heap.size:=by have:=hb.size;simp at this;omega
    go_wp2_with fail
    refine bodyPost_ret (v:=.agg #[.int .i64 t0,.string t1,.int .i64 t2,.int .i64 t3]) (by simp[results,Tryz.results60,go_sem,hc]) rfl ⟨rfl,?_⟩
    exact((((((Below.refl w.heap.size w).alloc (ae _) _).trans (hb.mono (by simp))).setCell (ae _) _).setCell (ae _) _).setCell (ae _) _).setCell (ae _) _
  ·have hfin:=adn s j _ hlt hl rfl;generalize hk:j+((s.data.toList.drop j).takeWhile Pl.isLet).length=k at hfin;have hk1:j<=k/\k<=s.size:=by
    have:=(pO Pl.isLet (l:=s.data.toList.drop j)).length_le;simp at this;omega
   have HK:Hid (k=j+((s.data.toList.drop j).takeWhile Pl.isLet).length):=hk.symm;rw[hfin];clear hk hfin
   go_enter Tryz.func60,Tryz.ntmps60
   go_wp2_with fail
   refine(vP s i j _ h1 hs HJ.out).mono ?_;rintro e w' ⟨rfl,rfl⟩
   go_wp2_with fail
   refine(rQ _ _).mono ?_;rintro e w' ⟨rfl,rfl⟩
   go_wp2_with fail
   refine(adk s j k _ CE hs HK.out).mono ?_;rintro e w' ⟨rfl,rfl⟩
   go_wp2_with fail
   exact bodyPost_ret (v:=.agg #[.int .i64 2,.string (s.extract j k),.int .i64 0,.int .i64 j]) (by simp[results,Tryz.results60,go_sem]) rfl ⟨rfl,(Below.refl _ _).alloc (ae _) _⟩
 ·have he:j=s.size:=by omega
  subst he;rw[adm s s.size (ae _)]
  go_enter Tryz.func60,Tryz.ntmps60
  go_wp2_with fail
  refine(vP s i s.size _ h1 hs HJ.out).mono ?_;rintro e w' ⟨rfl,rfl⟩
  go_wp2_with fail
  exact bodyPost_ret (v:=.agg #[.int .i64 1,.string ⟨#[]⟩,.int .i64 0,.int .i64 s.size]) (by simp[results,Tryz.results60,go_sem]) rfl ⟨rfl,(Below.refl _ _).alloc (ae _) _⟩
end Go.Proofs.YtkjhhooecopolaaGreatDoor
namespace Go.Proofs
open Go.Shelf
open Go.RowKit in
open Go.RowKit in
open Go.RowKit in
open Go.RowKit in
open Go.RowKit in
def Tryz.lays156_ren:Go.Shelf.Ren:=⟨fun |156=>103|165=>154|166=>119|169=>121|240=>177|241=>197|276=>218|277=>239|n=>n,fun |31=>164|9=>9|3=>3|4=>4|0=>0|20=>20|72=>196|76=>201|70=>193|37=>194|75=>199|127=>251|164=>290|5=>5|80=>166|n=>n,fun |n=>n⟩
theorem Tryz.lays156:Go.Proofs.Lays.n156 Tryz.prog Tryz.lays156_ren:={
 mixed:=by kernel_rfl
 f156:=Tryz.func103.trans (congrArg some (by kernel_rfl))
 f165:=Tryz.func154.trans (congrArg some (by kernel_rfl))
 f166:=Tryz.func119.trans (congrArg some (by kernel_rfl))
 f169:=Tryz.func121.trans (congrArg some (by kernel_rfl))
 f240:=Tryz.func177.trans (congrArg some (by kernel_rfl))
 f241:=Tryz.func197.trans (congrArg some (by kernel_rfl))
 f276:=Tryz.func218.trans (congrArg some (by kernel_rfl))
 f277:=Tryz.func239.trans (congrArg some (by kernel_rfl))
 t0:=Tryz.underlying0
 a0:=Tryz.isAgg0
 z0:=Tryz.sizeOf0
 v0:=Tryz.zeroValue0
 t3:=Tryz.underlying3
 a3:=Tryz.isAgg3
 z3:=Tryz.sizeOf3
 v3:=Tryz.zeroValue3
 t4:=Tryz.underlying4
 a4:=Tryz.isAgg4
 z4:=Tryz.sizeOf4
 v4:=Tryz.zeroValue4
 t9:=Tryz.underlying9
 a9:=Tryz.isAgg9
 z9:=Tryz.sizeOf9
 v9:=Tryz.zeroValue9
 t20:=Tryz.underlying20
 a20:=Tryz.isAgg20
 z20:=Tryz.sizeOf20
 v20:=Tryz.zeroValue20
 t31:=Tryz.underlying164
 a31:=Tryz.isAgg164
 z31:=Tryz.sizeOf164
 v31:=Tryz.zeroValue164
 t37:=Tryz.underlying194
 a37:=Tryz.isAgg194
 z37:=Tryz.sizeOf194
 v37:=Tryz.zeroValue194
 t70:=Tryz.underlying193
 a70:=Tryz.isAgg193
 z70:=Tryz.sizeOf193
 v70:=Tryz.zeroValue193
 t72:=Tryz.underlying196
 a72:=Tryz.isAgg196
 z72:=Tryz.sizeOf196
 v72:=Tryz.zeroValue196
 t75:=Tryz.underlying199
 a75:=Tryz.isAgg199
 z75:=Tryz.sizeOf199
 v75:=Tryz.zeroValue199
 t76:=Tryz.underlying201
 a76:=Tryz.isAgg201
 z76:=Tryz.sizeOf201
 v76:=Tryz.zeroValue201
 t127:=Tryz.underlying251
 a127:=Tryz.isAgg251
 z127:=Tryz.sizeOf251
 v127:=Tryz.zeroValue251
 t164:=Tryz.underlying290
 a164:=Tryz.isAgg290
 z164:=Tryz.sizeOf290
 v164:=Tryz.zeroValue290}
theorem Tryz.Builder_Extra_156:Builder.Extra Tryz.prog Tryz.lays156_ren:={
 sizeBuilder:=by kernel_rfl
 liesBuilder:=by kernel_rfl
 t5:=Tryz.underlying5
 a5:=Tryz.isAgg5
 z5:=Tryz.sizeOf5
 v5:=Tryz.zeroValue5
 infoByte:=by kernel_rfl
 cellsByte:=by kernel_rfl
 sizeByte:=by kernel_rfl
 neB5:=by decide}
open Go.RowKit in
theorem Tryz.strings_Join_none(a:Option Addr)(c:Nat)(sep:ByteArray)(w:World):
  Calls Tryz.prog 103 #[.slice a 0 c,.string sep] w fun e w'=>e=.returned (.string ⟨#[]⟩)/\w'=w:=Any.strings_Join_none Tryz.lays156 Tryz.Builder_Extra_156 a c sep w
open Go.RowKit in
theorem Tryz.strings_Join(bk o c:Nat)(xs:List ByteArray)(sep:ByteArray)(w:World)(hcells:∀(j:Nat) x,xs[j]?=some x->w.cell? ⟨bk,o+j,none⟩=some (.string x))(hbk:bk<w.heap.size)(hN:xs.length<=140737488355328)(hcap:xs.length<=c)(hlen:(Lib.join (xs.map (·.data.toList)) sep.data.toList).length<=140737488355328):
  Calls Tryz.prog 103 #[.slice (some ⟨bk,o,none⟩) xs.length c,.string sep] w fun e w'=>e=.returned (.string ⟨(Lib.join (xs.map (·.data.toList)) sep.data.toList).toArray⟩)/\Below w.heap.size w w':=Any.strings_Join Tryz.lays156 Tryz.Builder_Extra_156 bk o c xs sep w hcells hbk hN hcap hlen
def Tryz.lays125_ren:Go.Shelf.Ren:=⟨fun |125=>164|128=>208|129=>209|n=>n,fun |46=>238|3=>3|51=>280|53=>282|4=>4|5=>5|9=>9|n=>n,fun |n=>n⟩
theorem Tryz.lays125:Go.Proofs.Lays.n125 Tryz.prog Tryz.lays125_ren:={
 mixed:=by kernel_rfl
 f125:=Tryz.func164.trans (congrArg some (by kernel_rfl))
 f128:=Tryz.func208.trans (congrArg some (by kernel_rfl))
 f129:=Tryz.func209.trans (congrArg some (by kernel_rfl))
 t3:=Tryz.underlying3
 a3:=Tryz.isAgg3
 z3:=Tryz.sizeOf3
 v3:=Tryz.zeroValue3
 t4:=Tryz.underlying4
 a4:=Tryz.isAgg4
 z4:=Tryz.sizeOf4
 v4:=Tryz.zeroValue4
 t5:=Tryz.underlying5
 a5:=Tryz.isAgg5
 z5:=Tryz.sizeOf5
 v5:=Tryz.zeroValue5
 t9:=Tryz.underlying9
 a9:=Tryz.isAgg9
 z9:=Tryz.sizeOf9
 v9:=Tryz.zeroValue9
 t46:=Tryz.underlying238
 a46:=Tryz.isAgg238
 z46:=Tryz.sizeOf238
 v46:=Tryz.zeroValue238
 t51:=Tryz.underlying280
 a51:=Tryz.isAgg280
 z51:=Tryz.sizeOf280
 v51:=Tryz.zeroValue280
 t53:=Tryz.underlying282
 a53:=Tryz.isAgg282
 z53:=Tryz.sizeOf282
 v53:=Tryz.zeroValue282}
theorem Tryz.bits_Len(x:Int)(w:World)(h0:0<=x)(h1:x<=18446744073709551615):
  Calls Tryz.prog 164 #[.int .u64 x] w fun e w'=>e=.returned (.int .i64 (Lib.bitLen x.toNat))/\w'=w:=Any.bits_Len Tryz.lays125 x w h0 h1
open Go.RowKit in
open Go.RowKit in
open Go.RowKit in
open Go.RowKit in
open Go.RowKit in
open Go.RowKit in
open Go.RowKit in
def Tryz.lays172_ren:Go.Shelf.Ren:=⟨fun |172=>147|244=>193|245=>194|247=>233|279=>234|280=>235|281=>236|282=>237|287=>283|316=>284|171=>146|205=>285|321=>302|322=>303|243=>192|246=>232|283=>279|284=>280|285=>281|286=>282|129=>209|317=>298|318=>299|319=>300|320=>301|337=>307|338=>308|n=>n,fun |9=>9|3=>3|75=>199|76=>201|4=>4|5=>5|167=>301|37=>194|0=>0|85=>302|2=>2|168=>304|53=>282|175=>338|46=>238|210=>342|127=>251|145=>361|143=>359|21=>21|171=>334|173=>336|212=>356|51=>280|20=>20|213=>357|232=>365|233=>366|80=>166|n=>n,fun |15=>0|16=>1|17=>3|18=>4|19=>5|n=>n⟩
open Go.RowKit in
open Go.Lib in
open Go.Lib in
open Go.Lib in
open Go.Lib in
open Go.RowKit Go.Sort Go.Lib in
def Tryz.laysM246_ren:Go.Shelf.Ren:=⟨fun |246=>232|283=>279|284=>280|285=>281|286=>282|129=>209|317=>298|318=>299|319=>300|320=>301|337=>307|338=>308|n=>n,fun |2=>2|3=>3|9=>9|4=>4|171=>334|0=>0|53=>282|37=>194|5=>5|173=>336|212=>356|51=>280|20=>20|213=>357|46=>238|232=>365|233=>366|n=>n,fun |17=>3|18=>4|19=>5|n=>n⟩
open Go.RowKit Go.Sort Go.Lib in
open Go.RowKit Go.Sort Go.Lib in
def Tryz.laysM243_ren:Go.Shelf.Ren:=⟨fun |243=>192|246=>232|283=>279|284=>280|285=>281|286=>282|129=>209|317=>298|318=>299|319=>300|320=>301|337=>307|338=>308|n=>n,fun |3=>3|9=>9|2=>2|4=>4|171=>334|0=>0|53=>282|37=>194|5=>5|173=>336|212=>356|51=>280|20=>20|213=>357|46=>238|232=>365|233=>366|n=>n,fun |17=>3|18=>4|19=>5|n=>n⟩
open Go.RowKit Go.Sort Go.Lib in
open Go.RowKit Go.Sort Go.Lib in
def Tryz.laysM171_ren:Go.Shelf.Ren:=⟨fun |171=>146|243=>192|246=>232|283=>279|284=>280|285=>281|286=>282|129=>209|317=>298|318=>299|319=>300|320=>301|337=>307|338=>308|n=>n,fun |3=>3|9=>9|2=>2|4=>4|171=>334|0=>0|53=>282|37=>194|5=>5|173=>336|212=>356|51=>280|20=>20|213=>357|46=>238|232=>365|233=>366|n=>n,fun |17=>3|18=>4|19=>5|n=>n⟩
theorem Tryz.laysM171:Go.Proofs.LaysM.n171 Tryz.prog Tryz.laysM171_ren:={
 mixed:=by kernel_rfl
 f129:=Tryz.func209.trans (congrArg some (by kernel_rfl))
 f171:=Tryz.func146.trans (congrArg some (by kernel_rfl))
 f243:=Tryz.func192.trans (congrArg some (by kernel_rfl))
 f246:=Tryz.func232.trans (congrArg some (by kernel_rfl))
 f283:=Tryz.func279.trans (congrArg some (by kernel_rfl))
 f284:=Tryz.func280.trans (congrArg some (by kernel_rfl))
 f285:=Tryz.func281.trans (congrArg some (by kernel_rfl))
 f286:=Tryz.func282.trans (congrArg some (by kernel_rfl))
 f317:=Tryz.func298.trans (congrArg some (by kernel_rfl))
 f318:=Tryz.func299.trans (congrArg some (by kernel_rfl))
 f319:=Tryz.func300.trans (congrArg some (by kernel_rfl))
 f320:=Tryz.func301.trans (congrArg some (by kernel_rfl))
 f337:=Tryz.func307.trans (congrArg some (by kernel_rfl))
 f338:=Tryz.func308.trans (congrArg some (by kernel_rfl))
 t0:=Tryz.underlying0
 a0:=Tryz.isAgg0
 z0:=Tryz.sizeOf0
 v0:=Tryz.zeroValue0
 t2:=Tryz.underlying2
 a2:=Tryz.isAgg2
 z2:=Tryz.sizeOf2
 v2:=Tryz.zeroValue2
 t3:=Tryz.underlying3
 a3:=Tryz.isAgg3
 z3:=Tryz.sizeOf3
 v3:=Tryz.zeroValue3
 t4:=Tryz.underlying4
 a4:=Tryz.isAgg4
 z4:=Tryz.sizeOf4
 v4:=Tryz.zeroValue4
 t5:=Tryz.underlying5
 a5:=Tryz.isAgg5
 z5:=Tryz.sizeOf5
 v5:=Tryz.zeroValue5
 t9:=Tryz.underlying9
 a9:=Tryz.isAgg9
 z9:=Tryz.sizeOf9
 v9:=Tryz.zeroValue9
 t20:=Tryz.underlying20
 a20:=Tryz.isAgg20
 z20:=Tryz.sizeOf20
 v20:=Tryz.zeroValue20
 t37:=Tryz.underlying194
 a37:=Tryz.isAgg194
 z37:=Tryz.sizeOf194
 v37:=Tryz.zeroValue194
 t46:=Tryz.underlying238
 a46:=Tryz.isAgg238
 z46:=Tryz.sizeOf238
 v46:=Tryz.zeroValue238
 t51:=Tryz.underlying280
 a51:=Tryz.isAgg280
 z51:=Tryz.sizeOf280
 v51:=Tryz.zeroValue280
 t53:=Tryz.underlying282
 a53:=Tryz.isAgg282
 z53:=Tryz.sizeOf282
 v53:=Tryz.zeroValue282
 t171:=Tryz.underlying334
 a171:=Tryz.isAgg334
 z171:=Tryz.sizeOf334
 v171:=Tryz.zeroValue334
 t173:=Tryz.underlying336
 a173:=Tryz.isAgg336
 z173:=Tryz.sizeOf336
 v173:=Tryz.zeroValue336
 t212:=Tryz.underlying356
 a212:=Tryz.isAgg356
 z212:=Tryz.sizeOf356
 v212:=Tryz.zeroValue356
 t213:=Tryz.underlying357
 a213:=Tryz.isAgg357
 z213:=Tryz.sizeOf357
 t232:=Tryz.underlying365
 a232:=Tryz.isAgg365
 z232:=Tryz.sizeOf365
 v232:=Tryz.zeroValue365
 t233:=Tryz.underlying366
 a233:=Tryz.isAgg366
 z233:=Tryz.sizeOf366
 v233:=Tryz.zeroValue366
 g17:=by kernel_rfl
 g18:=by kernel_rfl
 g19:=by kernel_rfl
 i0:=by kernel_rfl
 i2:=by kernel_rfl
 i3:=by kernel_rfl
 i4:=by kernel_rfl
 i5:=by kernel_rfl
 i9:=by kernel_rfl
 i20:=by kernel_rfl
 i37:=by kernel_rfl
 i46:=by kernel_rfl
 i51:=by kernel_rfl
 i53:=by kernel_rfl
 i171:=by kernel_rfl
 i173:=by kernel_rfl
 i212:=by kernel_rfl
 i232:=by kernel_rfl
 i233:=by kernel_rfl
 m17:=by kernel_rfl
 m18:=by kernel_rfl
 m19:=by kernel_rfl}
open Go.RowKit Go.Sort Go.Lib in
theorem Tryz.strconv_Itoa(n:Int)(h0: -9223372036854775808<=n)(h1:n<=9223372036854775807)(w:World)(adq:Lib.TabIs Tryz.prog w "internal/strconv.uint64pow10" .u64 Lib.pow10Tab):
  Calls Tryz.prog 146 #[.int .i64 n] w fun e w'=>e=.returned (.string ⟨(Lib.itoa n).toArray⟩)/\∃k os,w'=grow (w.drewN k) os:=Any.strconv_Itoa Tryz.laysM171 n h0 h1 w adq
open Go.RowKit Go.Sort Go.Lib in
open Go.RowKit in
open Go.RowKit in
open Go.RowKit in
open Go.RowKit in
open Go.RowKit in
open Go.RowKit in
open Go.RowKit in
open Go.RowKit in
open Go.RowKit in
open Go.RowKit in
open Go.RowKit in
open Go.RowKit in
open Go.RowKit in
open Go.RowKit in
open Go.RowKit in
open Go.RowKit in
def Tryz.laysC172_ren:Go.Shelf.Ren:=⟨fun |172=>147|244=>193|245=>194|247=>233|279=>234|280=>235|281=>236|282=>237|287=>283|316=>284|171=>146|205=>285|321=>302|322=>303|243=>192|246=>232|283=>279|284=>280|285=>281|286=>282|129=>209|317=>298|318=>299|319=>300|320=>301|337=>307|338=>308|n=>n,fun |9=>9|3=>3|75=>199|76=>201|4=>4|5=>5|167=>301|37=>194|0=>0|85=>302|2=>2|168=>304|53=>282|175=>338|46=>238|210=>342|127=>251|145=>361|143=>359|21=>21|171=>334|173=>336|212=>356|51=>280|20=>20|213=>357|232=>365|233=>366|80=>166|n=>n,fun |15=>0|16=>1|17=>3|18=>4|19=>5|n=>n⟩
theorem Tryz.laysC172:Go.Proofs.LaysC.n172 Tryz.prog Tryz.laysC172_ren:={
 mixed:=by kernel_rfl
 f129:=Tryz.func209.trans (congrArg some (by kernel_rfl))
 f171:=Tryz.func146.trans (congrArg some (by kernel_rfl))
 f172:=Tryz.func147.trans (congrArg some (by kernel_rfl))
 f205:=Tryz.func285.trans (congrArg some (by kernel_rfl))
 f243:=Tryz.func192.trans (congrArg some (by kernel_rfl))
 f244:=Tryz.func193.trans (congrArg some (by kernel_rfl))
 f245:=Tryz.func194.trans (congrArg some (by kernel_rfl))
 f246:=Tryz.func232.trans (congrArg some (by kernel_rfl))
 f247:=Tryz.func233.trans (congrArg some (by kernel_rfl))
 f279:=Tryz.func234.trans (congrArg some (by kernel_rfl))
 f280:=Tryz.func235.trans (congrArg some (by kernel_rfl))
 f281:=Tryz.func236.trans (congrArg some (by kernel_rfl))
 f282:=Tryz.func237.trans (congrArg some (by kernel_rfl))
 f283:=Tryz.func279.trans (congrArg some (by kernel_rfl))
 f284:=Tryz.func280.trans (congrArg some (by kernel_rfl))
 f285:=Tryz.func281.trans (congrArg some (by kernel_rfl))
 f286:=Tryz.func282.trans (congrArg some (by kernel_rfl))
 f287:=Tryz.func283.trans (congrArg some (by kernel_rfl))
 f316:=Tryz.func284.trans (congrArg some (by kernel_rfl))
 f317:=Tryz.func298.trans (congrArg some (by kernel_rfl))
 f318:=Tryz.func299.trans (congrArg some (by kernel_rfl))
 f319:=Tryz.func300.trans (congrArg some (by kernel_rfl))
 f320:=Tryz.func301.trans (congrArg some (by kernel_rfl))
 f321:=Tryz.func302.trans (congrArg some (by kernel_rfl))
 f322:=Tryz.func303.trans (congrArg some (by kernel_rfl))
 f337:=Tryz.func307.trans (congrArg some (by kernel_rfl))
 f338:=Tryz.func308.trans (congrArg some (by kernel_rfl))
 t0:=Tryz.underlying0
 a0:=Tryz.isAgg0
 z0:=Tryz.sizeOf0
 v0:=Tryz.zeroValue0
 t2:=Tryz.underlying2
 a2:=Tryz.isAgg2
 z2:=Tryz.sizeOf2
 v2:=Tryz.zeroValue2
 t3:=Tryz.underlying3
 a3:=Tryz.isAgg3
 z3:=Tryz.sizeOf3
 v3:=Tryz.zeroValue3
 t4:=Tryz.underlying4
 a4:=Tryz.isAgg4
 z4:=Tryz.sizeOf4
 v4:=Tryz.zeroValue4
 t5:=Tryz.underlying5
 a5:=Tryz.isAgg5
 z5:=Tryz.sizeOf5
 v5:=Tryz.zeroValue5
 t9:=Tryz.underlying9
 a9:=Tryz.isAgg9
 z9:=Tryz.sizeOf9
 v9:=Tryz.zeroValue9
 t20:=Tryz.underlying20
 a20:=Tryz.isAgg20
 z20:=Tryz.sizeOf20
 v20:=Tryz.zeroValue20
 t21:=Tryz.underlying21
 a21:=Tryz.isAgg21
 z21:=Tryz.sizeOf21
 v21:=Tryz.zeroValue21
 t37:=Tryz.underlying194
 a37:=Tryz.isAgg194
 z37:=Tryz.sizeOf194
 v37:=Tryz.zeroValue194
 t46:=Tryz.underlying238
 a46:=Tryz.isAgg238
 z46:=Tryz.sizeOf238
 v46:=Tryz.zeroValue238
 t51:=Tryz.underlying280
 a51:=Tryz.isAgg280
 z51:=Tryz.sizeOf280
 v51:=Tryz.zeroValue280
 t53:=Tryz.underlying282
 a53:=Tryz.isAgg282
 z53:=Tryz.sizeOf282
 v53:=Tryz.zeroValue282
 t75:=Tryz.underlying199
 a75:=Tryz.isAgg199
 z75:=Tryz.sizeOf199
 v75:=Tryz.zeroValue199
 t76:=Tryz.underlying201
 a76:=Tryz.isAgg201
 z76:=Tryz.sizeOf201
 v76:=Tryz.zeroValue201
 t85:=Tryz.underlying302
 a85:=Tryz.isAgg302
 z85:=Tryz.sizeOf302
 v85:=Tryz.zeroValue302
 t127:=Tryz.underlying251
 a127:=Tryz.isAgg251
 z127:=Tryz.sizeOf251
 v127:=Tryz.zeroValue251
 t143:=Tryz.underlying359
 a143:=Tryz.isAgg359
 z143:=Tryz.sizeOf359
 v143:=Tryz.zeroValue359
 t145:=Tryz.underlying361
 a145:=Tryz.isAgg361
 z145:=Tryz.sizeOf361
 v145:=Tryz.zeroValue361
 t167:=Tryz.underlying301
 a167:=Tryz.isAgg301
 z167:=Tryz.sizeOf301
 v167:=Tryz.zeroValue301
 t168:=Tryz.underlying304
 a168:=Tryz.isAgg304
 z168:=Tryz.sizeOf304
 v168:=Tryz.zeroValue304
 t171:=Tryz.underlying334
 a171:=Tryz.isAgg334
 z171:=Tryz.sizeOf334
 v171:=Tryz.zeroValue334
 t173:=Tryz.underlying336
 a173:=Tryz.isAgg336
 z173:=Tryz.sizeOf336
 v173:=Tryz.zeroValue336
 t175:=Tryz.underlying338
 a175:=Tryz.isAgg338
 z175:=Tryz.sizeOf338
 v175:=Tryz.zeroValue338
 t210:=Tryz.underlying342
 a210:=Tryz.isAgg342
 z210:=Tryz.sizeOf342
 v210:=Tryz.zeroValue342
 t212:=Tryz.underlying356
 a212:=Tryz.isAgg356
 z212:=Tryz.sizeOf356
 v212:=Tryz.zeroValue356
 t213:=Tryz.underlying357
 a213:=Tryz.isAgg357
 z213:=Tryz.sizeOf357
 t232:=Tryz.underlying365
 a232:=Tryz.isAgg365
 z232:=Tryz.sizeOf365
 v232:=Tryz.zeroValue365
 t233:=Tryz.underlying366
 a233:=Tryz.isAgg366
 z233:=Tryz.sizeOf366
 v233:=Tryz.zeroValue366
 g15:=by kernel_rfl
 g16:=by kernel_rfl
 g17:=by kernel_rfl
 g18:=by kernel_rfl
 g19:=by kernel_rfl
 t80:=Tryz.underlying166
 a80:=Tryz.isAgg166
 z80:=Tryz.sizeOf166
 v80:=Tryz.zeroValue166
 i0:=by kernel_rfl
 i2:=by kernel_rfl
 i3:=by kernel_rfl
 i4:=by kernel_rfl
 i5:=by kernel_rfl
 i9:=by kernel_rfl
 i20:=by kernel_rfl
 i21:=by kernel_rfl
 i37:=by kernel_rfl
 i46:=by kernel_rfl
 i51:=by kernel_rfl
 i53:=by kernel_rfl
 i75:=by kernel_rfl
 i76:=by kernel_rfl
 i80:=by kernel_rfl
 i85:=by kernel_rfl
 i127:=by kernel_rfl
 i143:=by kernel_rfl
 i145:=by kernel_rfl
 i167:=by kernel_rfl
 i168:=by kernel_rfl
 i171:=by kernel_rfl
 i173:=by kernel_rfl
 i175:=by kernel_rfl
 i210:=by kernel_rfl
 i212:=by kernel_rfl
 i232:=by kernel_rfl
 i233:=by kernel_rfl
 m15:=by kernel_rfl
 m16:=by kernel_rfl
 m17:=by kernel_rfl
 m18:=by kernel_rfl
 m19:=by kernel_rfl
 c0:=by kernel_rfl
 c2:=by kernel_rfl
 c3:=by kernel_rfl
 c4:=by kernel_rfl
 c5:=by kernel_rfl
 c9:=by kernel_rfl
 c20:=by kernel_rfl
 c21:=by kernel_rfl
 c37:=by kernel_rfl
 c46:=by kernel_rfl
 c51:=by kernel_rfl
 c53:=by kernel_rfl
 c75:=by kernel_rfl
 c76:=by kernel_rfl
 c80:=by kernel_rfl
 c85:=by kernel_rfl
 c127:=by kernel_rfl
 c143:=by kernel_rfl
 c145:=by kernel_rfl
 c167:=by kernel_rfl
 c168:=by kernel_rfl
 c171:=by kernel_rfl
 c173:=by kernel_rfl
 c175:=by kernel_rfl
 c210:=by kernel_rfl
 c212:=by kernel_rfl
 c213:=by kernel_rfl
 c232:=by kernel_rfl
 c233:=by kernel_rfl}
open Go.RowKit in
theorem Tryz.strconv_Atoi_ok(s:ByteArray)(hmax:s.size<=9223372036854775806)(v:Int)(h:Lib.atoiAll s.data.toList=.ok v)(w:World):
  Calls Tryz.prog 147 #[.string s] w fun e w'=>e=.returned (.tuple #[.int .i64 v,.nilIface])/\(w'=w\/∃t,w'=Lib.bytesWorld w 5 t):=Any.strconv_Atoi_ok Tryz.laysC172 s hmax v h w
open Go.RowKit in
open Go.RowKit in
open Go.RowKit in
theorem Tryz.strconv_Atoi_syntax_var(s:ByteArray)(hlim:s.size<=281474976710656)(h:Lib.atoiAll s.data.toList=.«syntax»)(tp:TypeId)(p:Value)(w:World)(hvar:w.var? Tryz.prog "strconv.ErrSyntax" =some #[.iface tp p]):
  Calls Tryz.prog 147 #[.string s] w fun e w'=>∃N,e=.returned (.tuple #[.int .i64 0,.iface 304 (.pointer (some ⟨N,0,none⟩))])/\w.heap.size<=N/\w'.heap[N]?=some (.cells #[.string ⟨#[65,116,111,105]⟩,.string s,.iface tp p] 342 (0,0))/\Below w.heap.size w w':=Any.strconv_Atoi_syntax_var Tryz.laysC172 s hlim h tp p w hvar
open Go.RowKit in
theorem Tryz.strconv_Atoi_range_var(s:ByteArray)(hlim:s.size<=281474976710656)(h:Lib.atoiAll s.data.toList=.range)(tp:TypeId)(p:Value)(w:World)(hvar:w.var? Tryz.prog "strconv.ErrRange" =some #[.iface tp p]):
  Calls Tryz.prog 147 #[.string s] w fun e w'=>∃N,e=.returned (.tuple #[.int .i64 (Lib.atoiSat s.data.toList),.iface 304 (.pointer (some ⟨N,0,none⟩))])/\w.heap.size<=N/\w'.heap[N]?=some (.cells #[.string ⟨#[65,116,111,105]⟩,.string s,.iface tp p] 342 (0,0))/\Below w.heap.size w w':=Any.strconv_Atoi_range_var Tryz.laysC172 s hlim h tp p w hvar
end Go.Proofs
namespace Go.Proofs.YtkjhhooecopolaaGreatDoor
open Go.RowKit
theorem Sz(s:ByteArray)(hs:s.size<=400)(w:World)(hG:Gl w):
  Calls Tryz.prog 147 #[.string s] w fun e w'=>∃v o,e=.returned (.tuple #[.int .i64 v,o])/\Below w.heap.size w w'/\
   ((Lib.atoiAll s.data.toList=.ok v/\o=.nilIface)\/((∀v,Lib.atoiAll s.data.toList≠.ok v)/\∃t p,o=.iface t p)):=by
 cases h:Lib.atoiAll s.data.toList
 ·rename_i v
  refine(Tryz.strconv_Atoi_ok s (by omega) v h w).mono ?_
  rintro e w' ⟨rfl,hw⟩;refine⟨v,_,rfl,?_,Or.inl ⟨rfl,rfl⟩⟩;rcases hw with rfl|⟨t,rfl⟩
  ·exact Below.refl _ _
  ·exact Lib.bytesWorld_below _ _ _
 ·obtain⟨tp,p,hv⟩:=hG.es;refine(Tryz.strconv_Atoi_syntax_var s (by omega) h tp p w hv).mono ?_
  rintro e w' ⟨N,rfl,_,_,hb⟩;exact⟨_,_,rfl,hb,Or.inr ⟨fun v hv=>(by cases hv),_,_,rfl⟩⟩
 ·obtain⟨tp,p,hv⟩:=hG.er;refine(Tryz.strconv_Atoi_range_var s (by omega) h tp p w hv).mono ?_
  rintro e w' ⟨N,rfl,_,_,hb⟩;exact⟨_,_,rfl,hb,Or.inr ⟨fun v hv=>(by cases hv),_,_,rfl⟩⟩
theorem adr{c:UInt8}(h:Pl.aM c=true):Lib.digitVal c=some (c.toNat-48):=by
 have h1:=of_decide_eq_true h;unfold Lib.digitVal;simp[h1]
theorem SA:∀(l:List UInt8)(acc:Nat),(∀c∈l,Pl.aM c=true)->Lib.decFrom acc l=some (l.foldl (fun a c=>10*a+(c.toNat-48)) acc)
 |[],acc,_=>rfl
 |c::r,acc,h=>by
  have hc:=adr (h c (by simp))
  have ih:=SA r (10*acc+(c.toNat-48)) (fun x hx=>h x (by simp[hx]))
  simp only[Lib.decFrom,hc,rE];rw[<-ih];simp[Nat.mul_comm]
theorem SB(l:List UInt8)(hl:l≠[])(h:∀c∈l,Pl.aM c=true):Lib.decNat l=some (Pl.dD l):=by
 unfold Lib.decNat Pl.dD;rw[if_neg (by simpa using hl)]
 exact SA l 0 h
theorem CF(l:List UInt8):∀c∈l.takeWhile Pl.aM,Pl.aM c=true:=by
 induction l with
 |nil=>intro c hc;simp at hc
 |cons a r ih=>
  intro c hc;rw[xj] at hc;split at hc
  ·rcases aQ.1 hc with rfl|h
   ·assumption
   ·exact ih c h
  ·simp at hc
end Go.Proofs.YtkjhhooecopolaaGreatDoor

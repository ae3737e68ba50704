import Derived.Test.YtkjhhooecopolaaGreatDoorMz04
import Derived.Deep.AppendLies
import Derived.OrdersHeld
import Derived.RegionTactic
set_option maxRecDepth 100000
set_option maxHeartbeats 4000000
namespace Go.Proofs.YtkjhhooecopolaaGreatDoor
open Go.RowKit
def uj(j:Nat):Array Value:= #[.int .i64 0,.string ⟨#[]⟩,.int .i64 0,.int .i64 j]
def mV(neg:Bool)(c:UInt8)(r:List UInt8):List UInt8:=if neg then c::r.takeWhile Pl.aM else(c::r).takeWhile Pl.aM
def jM(neg:Bool)(c:UInt8)(r:List UInt8):List UInt8:=if neg then r.takeWhile Pl.aM else(c::r).takeWhile Pl.aM
def CG(neg:Bool)(c:UInt8)(r:List UInt8):Int:=if neg then -(Pl.dD (jM neg c r):Int) else(Pl.dD (jM neg c r):Int)
theorem SC(neg:Bool)(c:UInt8)(r:List UInt8)(hc:if neg then c.toNat=45 else Pl.aM c=true)(hd:jM neg c r≠[]):
  Lib.atoi (mV neg c r)=some (CG neg c r):=by
 cases neg
 ·have h0:Pl.aM c=true:=by simpa using hc
  have h1:=of_decide_eq_true h0;have e:mV false c r=c::r.takeWhile Pl.aM:=by simp[mV,h0]
  have e2:jM false c r=c::r.takeWhile Pl.aM:=by simp[jM,h0]
  have h45:(c == 45)=false:=by
   rw[beq_eq_false_iff_ne];intro h;rw[h] at h1;simp at h1
  have h43:(c == 43)=false:=by
   rw[beq_eq_false_iff_ne];intro h;rw[h] at h1;simp at h1
  have hn:=SB (c::r.takeWhile Pl.aM) (by simp) (by
   have:=CF (c::r);simpa[h0] using this)
  rw[e];unfold CG;rw[e2];simp only[Lib.atoi,h45,h43,hn];simp
 ·have h0:c.toNat=45:=by simpa using hc
  have h45:(c == 45)=true:=by
   rw[beq_iff_eq];exact abN.1 h0
  have hd':r.takeWhile Pl.aM≠[]:=by simpa[jM] using hd
  have hn:=SB (r.takeWhile Pl.aM) hd' (CF r);have e:mV true c r=c::r.takeWhile Pl.aM:=rfl;have e2:jM true c r=r.takeWhile Pl.aM:=rfl;rw[e];unfold CG;rw[e2];simp only[Lib.atoi,h45,hn];simp
theorem SD(neg:Bool)(c:UInt8)(r:List UInt8):(mV neg c r).length<=(jM neg c r).length+1:=by
 cases neg<;>simp[mV,jM]
theorem SE(neg:Bool)(c:UInt8)(r:List UInt8)(j:Nat)(hc:if neg then c.toNat=45 else Pl.aM c=true):
  Pl.bX (c::r) j=if jM neg c r=[]\/9<(jM neg c r).length then⟨120,[],0,j⟩ else⟨110,mV neg c r,CG neg c r,j⟩:=by
 cases neg
 ·have h0:Pl.aM c=true:=by simpa using hc
  have h1:=of_decide_eq_true h0;have h2:¬(Pl.isLet c=true):=by
   intro h;have:=of_decide_eq_true h;omega
  simp only[Pl.bX];rw[if_neg (by omega),if_neg h2,if_neg (by omega)]
  rfl
 ·have h0:c.toNat=45:=by simpa using hc
  have h2:¬(Pl.isLet c=true):=by
   intro h;have:=of_decide_eq_true h;omega
  simp only[Pl.bX];rw[if_neg (by omega),if_neg h2,if_pos h0]
  rfl
theorem SF(neg:Bool)(c:UInt8)(r:List UInt8)(j:Nat)(v:Int)(hc:if neg then c.toNat=45 else Pl.aM c=true)
  (h:Lib.atoiAll (mV neg c r)=.ok v)(h9:(jM neg c r).length<=9):
  eY (Pl.bX (c::r) j)= #[.int .i64 3,.string ⟨(mV neg c r).toArray⟩,.int .i64 v,.int .i64 j]:=by
 have hr:=SD neg c r;rw[Lib.atoiAll_short _ (by omega)] at h
 rw[SE neg c r j hc];by_cases hd:jM neg c r=[]
 ·exfalso;cases neg
  ·have h0:Pl.aM c=true:=by simpa using hc
   simp[jM,h0] at hd
  ·have e:mV true c r=[c]:=by
    have:r.takeWhile Pl.aM=[]:=hd;simp[mV,this]
   have h0:c.toNat=45:=by simpa using hc
   have h45:(c == 45)=true:=by
    rw[beq_iff_eq];exact abN.1 h0
   rw[e] at h;simp[Lib.atoi,h45,Lib.decNat,Lib.NumEnd.ofOption] at h
 ·rw[SC neg c r hc hd] at h;rw[if_neg (by rintro(h'|h');exact hd h';omega)]
  simp only[Lib.NumEnd.ofOption] at h;injection h with h;simp[eY,Pl.pk,Pl.fI,h]
theorem GK(neg:Bool)(c:UInt8)(r:List UInt8)(j:Nat)(hc:if neg then c.toNat=45 else Pl.aM c=true)
  (h:(∀v,Lib.atoiAll (mV neg c r)≠.ok v)\/9<(jM neg c r).length):
  eY (Pl.bX (c::r) j)=uj j:=by
 have hr:=SD neg c r;rw[SE neg c r j hc];by_cases hd:jM neg c r=[]\/9<(jM neg c r).length
 ·rw[if_pos hd];rfl
 ·exfalso;rcases h with h|h
  ·apply h (CG neg c r);rw[Lib.atoiAll_short _ (by omega),SC neg c r hc (fun e=>hd (Or.inl e))]
   rfl
  ·omega
theorem SH(s:ByteArray)(j k:Nat)(neg:Bool)(h:j<s.size)(hc:if neg then s[j].toNat=45 else Pl.aM s[j]=true)
  (hk:k=(if neg then j+1 else j)+((s.data.toList.drop (if neg then j+1 else j)).takeWhile Pl.aM).length):
  s.extract j k=⟨(mV neg s[j] (s.data.toList.drop (j+1))).toArray⟩/\(jM neg s[j] (s.data.toList.drop (j+1))).length=k-(if neg then j+1 else j):=by
 rw[Pl.extract_eq,hk,Pl.drop_cons s j h];cases neg
 ·simp only[iP,if_false,FX];rw[Pl.drop_cons s j h,Pl.take_takeWhile];exact⟨rfl,rfl⟩
 ·simp only[if_true,FX];rw[show j+1+((s.data.toList.drop (j+1)).takeWhile Pl.aM).length-j=((s.data.toList.drop (j+1)).takeWhile Pl.aM).length+1 from by omega,Kw,Pl.take_takeWhile]
  exact⟨rfl,rfl⟩
theorem ads(s:ByteArray)(j:Nat)(w:World)(hlt:j<s.size)(hs:s.size<=400)(hG:Gl w)(hm:((s[j].toNat:Int) == 45)=false)(hc:if false then s[j].toNat=45 else Pl.aM s[j]=true):
    Calls Tryz.prog 93 #[.string s,.int .i64 j] w fun e w'=>e=.returned (.agg (eY (Pl.bX (s.data.toList.drop j) j)))/\Below w.heap.size w w':=by
  obtain⟨k,hk⟩:∃k,k=j+((s.data.toList.drop j).takeWhile Pl.aM).length:=⟨_,rfl⟩;have hk1:j<=k/\k<=s.size:=by
    have:=(pO Pl.aM (l:=s.data.toList.drop j)).length_le;simp at this;omega
  obtain⟨hx,hl⟩:=SH s j k false hlt hc (by simpa using hk)
  have HK:Hid (k=j+((s.data.toList.drop j).takeWhile Pl.aM).length):=hk;have hl':(jM false s[j] (s.data.toList.drop (j+1))).length=k-j:=by simpa using hl
  have HX:Hid (s.extract j k=⟨(mV false s[j] (s.data.toList.drop (j+1))).toArray⟩):=hx;rw[Pl.drop_cons s j hlt];have hsz:(s.extract j k).size<=400:=by simp[ByteArray.size_extract];omega
  have HA:Hid (∀w1,Gl w1->Calls Tryz.prog 147 #[.string (s.extract j k)] w1 fun e w'=>∃v o,e=.returned (.tuple #[.int .i64 v,o])/\Below w1.heap.size w1 w'/\
      ((k-j<=9->o=.nilIface->eY (Pl.bX (s[j]::s.data.toList.drop (j+1)) j)= #[.int .i64 3,.string (s.extract j k),.int .i64 v,.int .i64 j])/\
       ((o=.nilIface\/∃t p,o=.iface t p)/\((9<k-j\/∃t p,o=.iface t p)->eY (Pl.bX (s[j]::s.data.toList.drop (j+1)) j)=uj j)))):=fun w1 g1=>by
    refine(Sz _ hsz w1 g1).mono ?_;rintro e w' ⟨v,o,rfl,hb,ho⟩;refine⟨v,o,rfl,hb,?_⟩;rw[hx] at ho⊢;simp only[] at ho;rcases ho with⟨hv,rfl⟩|⟨hv,t,p,rfl⟩
    · refine⟨fun h9 _=>SF false s[j] _ j v hc hv (by omega),Or.inl rfl,?_⟩
      rintro(h|⟨t,p,h⟩)
      · exact GK false s[j] _ j hc (Or.inr (by omega))
      · cases h
    · refine⟨fun _ h=>(by cases h),Or.inr ⟨t,p,rfl⟩,fun _=>GK false s[j] _ j hc (Or.inl hv)⟩
  clear hx hl hl' hk hsz HX;generalize eY (Pl.bX (s[j]::s.data.toList.drop (j+1)) j)=T at*;clear hc
  go_enter Tryz.func93,Tryz.ntmps93
  go_wp2_with fail
  refine(Su s j k _ (by omega) hs HK.out).mono ?_
  rintro e w' ⟨rfl,rfl⟩
  go_wp2_with fail
  refine(HA.out _ (hG.alloc _)).mono ?_;rintro e w1 ⟨v,o,rfl,hb,h1,h2,h3⟩;have H1:Hid (k-j<=9->o=.nilIface->T= #[.int .i64 3,.string (s.extract j k),.int .i64 v,.int .i64 j]):=h1;have H3:Hid ((9<k-j\/∃t p,o=.iface t p)->T=uj j):=h3;clear h1 h3;obtain⟨hcc,hf⟩:=GJ hb;have hz:w.heap.size<w1.heap.size:=by have:=hb.size;simp at this;omega
  rcases h2 with rfl|⟨t,p,rfl⟩
  · by_cases h9:k-j<=9
    · have hT:=H1.out h9 rfl;subst hT;clear H1 H3 HA
      go_wp2_with fail
      refine bodyPost_ret (v:=.agg #[.int .i64 3,.string (s.extract j k),.int .i64 v,.int .i64 j]) (by simp[results,Tryz.results93,go_sem,hcc]) rfl ⟨rfl,?_⟩
      exact((((((Below.refl w.heap.size w).alloc (ae _) _).trans (hb.mono (by simp))).setCell (ae _) _).setCell (ae _) _).setCell (ae _) _).setCell (ae _) _
    · have hT:=H3.out (Or.inl (by omega))
      unfold uj at hT;subst hT;clear H1 H3 HA
      go_wp2_with fail
      refine bodyPost_ret (v:=.agg #[.int .i64 0,.string ⟨#[]⟩,.int .i64 0,.int .i64 j]) (by simp[results,Tryz.results93,go_sem,hcc]) rfl ⟨rfl,?_⟩
      exact((((((Below.refl w.heap.size w).alloc (ae _) _).trans (hb.mono (by simp))).setCell (ae _) _).setCell (ae _) _).setCell (ae _) _).setCell (ae _) _
  · have hT:=H3.out (Or.inr ⟨t,p,rfl⟩);unfold uj at hT;subst hT;clear H1 H3 HA
    go_wp2_with fail
    refine bodyPost_ret (v:=.agg #[.int .i64 0,.string ⟨#[]⟩,.int .i64 0,.int .i64 j]) (by simp[results,Tryz.results93,go_sem,hcc]) rfl ⟨rfl,?_⟩
    exact((((((Below.refl w.heap.size w).alloc (ae _) _).trans (hb.mono (by simp))).setCell (ae _) _).setCell (ae _) _).setCell (ae _) _).setCell (ae _) _
theorem adt(s:ByteArray)(j:Nat)(w:World)(hlt:j<s.size)(hs:s.size<=400)(hG:Gl w)(hm:((s[j].toNat:Int) == 45)=true)(hc:if true then s[j].toNat=45 else Pl.aM s[j]=true):
    Calls Tryz.prog 93 #[.string s,.int .i64 j] w fun e w'=>e=.returned (.agg (eY (Pl.bX (s.data.toList.drop j) j)))/\Below w.heap.size w w':=by
  obtain⟨k,hk⟩:∃k,k=(j+1)+((s.data.toList.drop (j+1)).takeWhile Pl.aM).length:=⟨_,rfl⟩;have hk1:(j+1)<=k/\k<=s.size:=by
    have:=(pO Pl.aM (l:=s.data.toList.drop (j+1))).length_le;simp at this;omega
  obtain⟨hx,hl⟩:=SH s j k true hlt hc (by simpa using hk)
  have HK:Hid (k=(j+1)+((s.data.toList.drop (j+1)).takeWhile Pl.aM).length):=hk;have hl':(jM true s[j] (s.data.toList.drop (j+1))).length=k-(j+1):=by simpa using hl
  have HX:Hid (s.extract j k=⟨(mV true s[j] (s.data.toList.drop (j+1))).toArray⟩):=hx;rw[Pl.drop_cons s j hlt];have hsz:(s.extract j k).size<=400:=by simp[ByteArray.size_extract];omega
  have HA:Hid (∀w1,Gl w1->Calls Tryz.prog 147 #[.string (s.extract j k)] w1 fun e w'=>∃v o,e=.returned (.tuple #[.int .i64 v,o])/\Below w1.heap.size w1 w'/\
      ((k-(j+1)<=9->o=.nilIface->eY (Pl.bX (s[j]::s.data.toList.drop (j+1)) j)= #[.int .i64 3,.string (s.extract j k),.int .i64 v,.int .i64 j])/\
       ((o=.nilIface\/∃t p,o=.iface t p)/\((9<k-(j+1)\/∃t p,o=.iface t p)->eY (Pl.bX (s[j]::s.data.toList.drop (j+1)) j)=uj j)))):=fun w1 g1=>by
    refine(Sz _ hsz w1 g1).mono ?_;rintro e w' ⟨v,o,rfl,hb,ho⟩;refine⟨v,o,rfl,hb,?_⟩;rw[hx] at ho⊢;simp only[] at ho;rcases ho with⟨hv,rfl⟩|⟨hv,t,p,rfl⟩
    · refine⟨fun h9 _=>SF true s[j] _ j v hc hv (by omega),Or.inl rfl,?_⟩
      rintro(h|⟨t,p,h⟩)
      · exact GK true s[j] _ j hc (Or.inr (by omega))
      · cases h
    · refine⟨fun _ h=>(by cases h),Or.inr ⟨t,p,rfl⟩,fun _=>GK true s[j] _ j hc (Or.inl hv)⟩
  clear hx hl hl' hk hsz HX;generalize eY (Pl.bX (s[j]::s.data.toList.drop (j+1)) j)=T at*;clear hc
  go_enter Tryz.func93,Tryz.ntmps93
  go_wp2_with fail
  refine(Su s (j+1) k _ (by omega) hs HK.out).mono ?_
  rintro e w' ⟨rfl,rfl⟩
  go_wp2_with fail
  refine(HA.out _ (hG.alloc _)).mono ?_;rintro e w1 ⟨v,o,rfl,hb,h1,h2,h3⟩;have H1:Hid (k-(j+1)<=9->o=.nilIface->T= #[.int .i64 3,.string (s.extract j k),.int .i64 v,.int .i64 j]):=h1;have H3:Hid ((9<k-(j+1)\/∃t p,o=.iface t p)->T=uj j):=h3;clear h1 h3;obtain⟨hcc,hf⟩:=GJ hb;have hz:w.heap.size<w1.heap.size:=by have:=hb.size;simp at this;omega
  rcases h2 with rfl|⟨t,p,rfl⟩
  · by_cases h9:k-(j+1)<=9
    · have hT:=H1.out h9 rfl;subst hT;clear H1 H3 HA
      go_wp2_with fail
      refine bodyPost_ret (v:=.agg #[.int .i64 3,.string (s.extract j k),.int .i64 v,.int .i64 j]) (by simp[results,Tryz.results93,go_sem,hcc]) rfl ⟨rfl,?_⟩
      exact((((((Below.refl w.heap.size w).alloc (ae _) _).trans (hb.mono (by simp))).setCell (ae _) _).setCell (ae _) _).setCell (ae _) _).setCell (ae _) _
    · have hT:=H3.out (Or.inl (by omega))
      unfold uj at hT;subst hT;clear H1 H3 HA
      go_wp2_with fail
      refine bodyPost_ret (v:=.agg #[.int .i64 0,.string ⟨#[]⟩,.int .i64 0,.int .i64 j]) (by simp[results,Tryz.results93,go_sem,hcc]) rfl ⟨rfl,?_⟩
      exact((((((Below.refl w.heap.size w).alloc (ae _) _).trans (hb.mono (by simp))).setCell (ae _) _).setCell (ae _) _).setCell (ae _) _).setCell (ae _) _
  · have hT:=H3.out (Or.inr ⟨t,p,rfl⟩);unfold uj at hT;subst hT;clear H1 H3 HA
    go_wp2_with fail
    refine bodyPost_ret (v:=.agg #[.int .i64 0,.string ⟨#[]⟩,.int .i64 0,.int .i64 j]) (by simp[results,Tryz.results93,go_sem,hcc]) rfl ⟨rfl,?_⟩
    exact((((((Below.refl w.heap.size w).alloc (ae _) _).trans (hb.mono (by simp))).setCell (ae _) _).setCell (ae _) _).setCell (ae _) _).setCell (ae _) _
theorem SJ:Sv:=by
 intro s j w hlt hs hG hd;by_cases h:s[j].toNat=45
 ·exact adt s j w hlt hs hG (by simp;omega) (by simpa using h)
 ·exact ads s j w hlt hs hG (by simp;omega) (by simpa using(hd hlt).resolve_right h)
theorem aJ{w w':World}{base:Nat}{e:TypeId}{size:Nat}{v:Value}{n:Nat}{xs:List Value}(h:w.ownsRow base e size v n xs)
  (hk:∀k,v.ownBlock=some k->w'.heap[k]?=w.heap[k]?):w'.ownsRow base e size v n xs:=by
 obtain⟨h1,h2⟩:=h;refine⟨h1,?_⟩;rcases h2 with h2|⟨g,cap,cur,hv,hg,hh,r⟩
 ·exact Or.inl h2
 ·exact Or.inr ⟨g,cap,cur,hv,hg,by rw[hk g (by rw[hv];rfl)];exact hh,r⟩
theorem au{w:World}{base:Nat}{e:TypeId}{size:Nat}{v:Value}{n:Nat}{xs:List Value}(h:w.ownsRow base e size v n xs):
  ∀k,v.ownBlock=some k->base<=k/\k<w.heap.size:=h.lt
theorem cell_of{w:World}{b:Nat}{c:Array Value}{T:TypeId}(h:w.heap[b]?=some (.cells c T (0,0)))(o:Nat):w.cell? ⟨b,o,none⟩=c[o]?:=by
 simp[World.cell?,h]
theorem aB{w:World}{b:Nat}{c:Array Value}{T:TypeId}(h:w.heap[b]?=some (.cells c T (0,0)))(o:Nat):w.frozen? ⟨b,o,none⟩=false:=by
 simp[World.frozen?,h]
theorem lt_of_heap{w:World}{b:Nat}{o:Obj}(h:w.heap[b]?=some o):b<w.heap.size:=by
 rcases Ku b w.heap.size with h1|h1
 ·exact h1
 ·rw[FY h1] at h;cases h
theorem heap_set{w:World}{b o:Nat}{c:Array Value}{T:TypeId}(h:w.heap[b]?=some (.cells c T (0,0)))(v:Value):
  (w.setCell ⟨b,o,none⟩ v).heap[b]?=some (.cells (c.setIfInBounds o v) T (0,0)):=by
 simp[World.setCell,Array.getElem?_modify,h]
theorem bg{w:World}{b k o:Nat}(h:k≠b)(v:Value):(w.setCell ⟨b,o,none⟩ v).heap[k]?=w.heap[k]?:=Below.heap_setCell _ _ _ _ h
def xM(p:Int×Int):Value:=.complex .f64 (floatOfInt .f64 p.1) (floatOfInt .f64 p.2)
def pR(g:List (Int×Int)):List Value:=g.map xM
def uk(c:List Pl.Tk):List Value:=c.flatMap fun t=>(eY t).toList
theorem adu(c:List Pl.Tk)(t:Pl.Tk):uk (c++[t])=uk c++(eY t).toList:=by simp[uk]
def qA(rb:Nat)(rv:Value)(rg:List (List (Int×Int)))(w:World):Prop:=
 ∃vs:List Value,vs.length=rg.length/\w.ownsRow (rb+1) 127 1 rv rg.length vs/\
  (∀(i:Nat) v g,vs[i]?=some v->rg[i]?=some g->w.ownsRow (rb+1) 81 1 v g.length (pR g))/\
  (∀(i j:Nat) v u k,vs[i]?=some v->vs[j]?=some u->v.ownBlock=some k->u.ownBlock=some k->i=j)
theorem qA.kept{rb:Nat}{rv:Value}{rg:List (List (Int×Int))}{w w':World}(h:qA rb rv rg w)
  (hk:∀k cur e,w.heap[k]?=some (.cells cur e (0,0))->(e=127\/e=81)->rb<k->w'.heap[k]?=w.heap[k]?):qA rb rv rg w':=by
 obtain⟨vs,h1,h2,h3,h4⟩:=h;have key:∀e v n xs,(e=127\/e=81)->w.ownsRow (rb+1) e 1 v n xs->w'.ownsRow (rb+1) e 1 v n xs:=fun e v n xs he ho=>by
  refine aJ ho fun k hv=>?_
  rcases ho.2 with⟨ha,_⟩|⟨g,cap,cur,hv',hg,hh,r⟩
  ·rw[ha] at hv;cases hv
  ·rw[hv'] at hv;have:g=k:=by simpa[Value.ownBlock] using hv
   subst this;exact hk g cur e hh he hg
 exact⟨vs,h1,key _ _ _ _ (Or.inl rfl) h2,fun i v g a b=>key _ _ _ _ (Or.inr rfl) (h3 i v g a b),h4⟩
def GL(s:ByteArray)(t:Pl.Tk)(tv rv:Value):Array Value:= #[.string s,.int .i64 (Pl.pk t),.string ⟨(Pl.fI t).toArray⟩,.int .i64 t.n,.int .i64 t.pl,tv,rv]
def RD(rb:Nat)(s:ByteArray)(A l:List Pl.Tk)(rg:List (List (Int×Int)))(w:World):Prop:=
 ∃c t r tv rv,c++l=A/\l=t::r/\w.heap[rb]?=some (.cells (GL s t tv rv) 80 (0,0))/\
  w.ownsRow (rb+1) 76 4 tv c.length (uk c)/\qA rb rv rg w
theorem CH{w w1:World}{o:Obj}{row:Option Nat}(hg:(w.alloc o).grownBy w1 row)(k:Nat)(hk:k<w.heap.size)(hne:row≠some k):w1.heap[k]?=w.heap[k]?:=
 (hg.block k (by simp;omega) (fun e=>hne e.symm)).trans (Below.heap_alloc _ _ _ hk)
theorem rR{w w1:World}{o:Obj}{row:Option Nat}(hg:(w.alloc o).drew.grownBy w1 row)(k:Nat)(hk:k<w.heap.size)(hne:row≠some k):w1.heap[k]?=w.heap[k]?:=
 (hg.block k (by show k<(w.alloc o).heap.size;simp;omega) (fun e=>hne e.symm)).trans (Below.heap_alloc _ _ _ hk)
theorem rT{w:World}{base:Nat}{e:TypeId}{size:Nat}{v:Value}{n:Nat}{xs:List Value}(h:w.ownsRow base e size v n xs)(k:Nat)(hk:k<base):v.ownBlock≠some k:=
 fun e=>by have:=(au h k e).1;omega
structure Cx(rb:Nat)(s:ByteArray)(A:List Pl.Tk):Prop where
 hs:s.size<=400
 ch:Pl.eB s.data.toList A
 len:A.length<=402
 pl:∀t∈A,Pl.Place s.data.toList t
 rb:6<=rb
theorem nP{w:World}{base:Nat}{e e':TypeId}{size:Nat}{v:Value}{n k:Nat}{xs:List Value}{cur:Array Value}(h:w.ownsRow base e size v n xs)
  (hk:w.heap[k]?=some (.cells cur e' (0,0)))(hne:e'≠e):v.ownBlock≠some k:=by
 intro hv;rcases h.2 with⟨ha,_⟩|⟨g,cap,cur',hv',hg,hh,r⟩
 ·rw[ha] at hv;cases hv
 ·rw[hv'] at hv;have:g=k:=by simpa[Value.ownBlock] using hv
  subst this;rw[hh] at hk;injection hk with hk;injection hk with _ hk _;exact hne hk.symm
def NT(rb k:Nat)(w:World):Prop:=∃tv,w.cell? ⟨rb,5,none⟩=some tv/\tv.ownBlock≠some k
def Kp(rb:Nat)(w w':World):Prop:=∀k o,k≠rb->NT rb k w->w.heap[k]?=some o->w'.heap[k]?=some o/\NT rb k w'
def mW:Prop:=∀(rb:Nat)(s:ByteArray)(A r:List Pl.Tk)(t:Pl.Tk)(rg:List (List (Int×Int)))(w:World),Cx rb s A->RD rb s A (t::r) rg w->Gl w->
  (t.k=119\/t.k=110\/t.k=40\/t.k=41\/t.k=44)->
  Calls Tryz.prog 148 #[.pointer (some ⟨rb,0,none⟩)] w fun e w'=>e=.returned (.tuple #[])/\RD rb s A r rg w'/\Below rb w w'/\Kp rb w w'
theorem RD.cells{rb:Nat}{s:ByteArray}{A l:List Pl.Tk}{rg:List (List (Int×Int))}{w:World}(h:RD rb s A l rg w):
  ∃t r,l=t::r/\w.cell? ⟨rb,0,none⟩=some (.string s)/\w.cell? ⟨rb,1,none⟩=some (.int .i64 (Pl.pk t))/\w.cell? ⟨rb,2,none⟩=some (.string ⟨(Pl.fI t).toArray⟩)/\w.cell? ⟨rb,3,none⟩=some (.int .i64 t.n)/\w.cell? ⟨rb,4,none⟩=some (.int .i64 t.pl):=by
 obtain⟨c,t,r,tv,rv,hc,hl,hb,hown,hrg⟩:=h;exact⟨t,r,hl,cell_of hb 0,cell_of hb 1,cell_of hb 2,cell_of hb 3,cell_of hb 4⟩
theorem RD.below{rb:Nat}{s:ByteArray}{A l:List Pl.Tk}{rg:List (List (Int×Int))}{w w':World}(h:RD rb s A l rg w)(hb:Below w.heap.size w w'):RD rb s A l rg w':=by
 obtain⟨c,t,r,tv,rv,hc,hl,hbk,hown,hrg⟩:=h;refine⟨c,t,r,tv,rv,hc,hl,(hb.block rb (lt_of_heap hbk)).trans hbk,aJ hown fun k hk=>hb.block k (au hown k hk).2,hrg.kept fun k cur e hk _ _=>hb.block k (lt_of_heap hk)⟩
theorem RD.alloc{rb:Nat}{s:ByteArray}{A l:List Pl.Tk}{rg:List (List (Int×Int))}{w:World}(h:RD rb s A l rg w)(o:Obj):RD rb s A l rg (w.alloc o):=
 h.below ((Below.refl _ _).alloc (ae _) o)
theorem RD.lt{rb:Nat}{s:ByteArray}{A l:List Pl.Tk}{rg:List (List (Int×Int))}{w:World}(h:RD rb s A l rg w):rb<w.heap.size:=by
 obtain⟨c,t,r,tv,rv,hc,hl,hbk,hown,hrg⟩:=h;exact lt_of_heap hbk
theorem RD.nt{rb:Nat}{s:ByteArray}{A l:List Pl.Tk}{rg:List (List (Int×Int))}{w:World}(h:RD rb s A l rg w)(k:Nat)(hk:w.heap.size<=k):NT rb k w:=by
 obtain⟨c,t,r,tv,rv,hc,hl,hbk,hown,hrg⟩:=h;exact⟨tv,cell_of hbk 5,fun e=>by have:=(au hown k e).2;omega⟩
theorem NT.below{rb k:Nat}{w w':World}(h:NT rb k w)(rU:rb<w.heap.size)(hb:Below w.heap.size w w'):NT rb k w':=by
 obtain⟨tv,h1,h2⟩:=h;exact⟨tv,(hb.cell (p:=⟨rb,5,none⟩) rU).trans h1,h2⟩
end Go.Proofs.YtkjhhooecopolaaGreatDoor
namespace Go.Proofs.YtkjhhooecopolaaGreatDoor
namespace Pl
def Form(t:Tk):Prop:=((t.k=101\/t.k=120)/\t.raw=[])\/(∃c:UInt8,t.raw=[c]/\t.k=c.toNat/\(c.toNat=40\/c.toNat=41\/c.toNat=44\/c.toNat=47))\/
 (t.k=119/\∃c r,t.raw=c::r/\isLet c=true)\/(t.k=110/\∃c r,t.raw=c::r/\(aM c=true\/c.toNat=45))
theorem adv(l:List UInt8)(i:Nat):Form (bX l i):=by
 unfold bX;split
 ·exact Or.inl ⟨Or.inl rfl,rfl⟩
 ·rename_i c r
  split
  ·rename_i h;exact Or.inr (Or.inl ⟨c,rfl,rfl,h⟩)
  ·split
   ·rename_i h
    exact Or.inr (Or.inr (Or.inl ⟨rfl,c,r.takeWhile isLet,by simp[h],h⟩))
   ·split
    ·rename_i h
     split
     ·exact Or.inl ⟨Or.inr rfl,rfl⟩
     ·exact Or.inr (Or.inr (Or.inr ⟨rfl,c,_,rfl,Or.inr h⟩))
    ·split
     ·exact Or.inl ⟨Or.inr rfl,rfl⟩
     ·rename_i h
      by_cases hd:aM c=true
      ·exact Or.inr (Or.inr (Or.inr ⟨rfl,c,r.takeWhile aM,by simp[hd],Or.inl hd⟩))
      ·exact absurd (Or.inl (by simp[hd])) h
theorem LG{s:List UInt8}{t:Tk}(h:Place s t):Form t:=by
 obtain⟨_,i,_,rfl⟩:=h;exact adv _ _
theorem GM{t:Tk}(h:Form t)(c:UInt8)(hc:c.toNat=40\/c.toNat=41\/c.toNat=44):fI t=[c]↔t.k=c.toNat:=by
 unfold fI;rcases h with⟨hk,hr⟩|⟨d,hr,hk,hd⟩|⟨hk,d,r,hr,hd⟩|⟨hk,d,r,hr,hd⟩
 ·rw[if_neg (by omega),hr]
  constructor
  ·intro h;cases h
  ·intro h;omega
 ·by_cases h47:t.k=47
  ·rw[if_pos h47];constructor
   ·intro h;cases h
   ·intro h;omega
  ·rw[if_neg h47,hr,hk];constructor
   ·intro h;injection h with h;rw[h]
   ·intro h;rw[abN.1 h]
 ·rw[if_neg (by omega),hr]
  constructor
  ·intro h;injection h with h;have:=of_decide_eq_true hd;rw[h] at this;omega
  ·intro h;omega
 ·rw[if_neg (by omega),hr]
  constructor
  ·intro h;injection h with h;rcases hd with hd|hd
   ·have:=of_decide_eq_true hd;rw[h] at this;omega
   ·rw[h] at hd;omega
  ·intro h;omega
theorem SK{t:Tk}(h:Form t)(q:List UInt8)(a:UInt8)(b:List UInt8)(hq:q=a::b)(ha:isLet a=true):fI t=q↔(t.k=119/\t.raw=q):=by
 have ha':=of_decide_eq_true ha;unfold fI;rcases h with⟨hk,hr⟩|⟨d,hr,hk,hd⟩|⟨hk,d,r,hr,hd⟩|⟨hk,d,r,hr,hd⟩
 ·rw[if_neg (by omega),hr,hq]
  constructor
  ·intro h;cases h
  ·intro h;cases h.2
 ·by_cases h47:t.k=47
  ·rw[if_pos h47,hq];constructor
   ·intro h;cases h
   ·intro h;omega
  ·rw[if_neg h47,hr,hq];constructor
   ·intro h;injection h with h;rw[h] at hd;omega
   ·intro h;omega
 ·rw[if_neg (by omega)]
  exact⟨fun h=>⟨hk,h⟩,fun h=>h.2⟩
 ·rw[if_neg (by omega),hr,hq]
  constructor
  ·intro h;injection h with h;rcases hd with hd|hd
   ·have:=of_decide_eq_true hd;rw[h] at this;omega
   ·rw[h] at hd;omega
  ·intro h;omega
theorem GP{t:Tk}:pk t=3↔t.k=110:=by
 unfold pk;constructor
 ·intro h
  repeat' split at h
  all_goals first |assumption|omega
 ·intro h;rw[if_neg (by omega),if_neg (by omega),if_pos h]
theorem SL{t:Tk}:pk t=1↔t.k=101:=by
 unfold pk;constructor
 ·intro h
  repeat' split at h
  all_goals first |assumption|omega
 ·intro h;rw[if_pos h]
end Pl
end Go.Proofs.YtkjhhooecopolaaGreatDoor
namespace Go.Proofs.YtkjhhooecopolaaGreatDoor
open Go.RowKit
theorem SM(hO:mW)(rb:Nat)(s q:ByteArray)(A r:List Pl.Tk)(t:Pl.Tk)(rg:List (List (Int×Int)))(w:World)(cx:Cx rb s A)(hR:RD rb s A (t::r) rg w)(hG:Gl w)
  (hk:t.k=119\/t.k=110\/t.k=40\/t.k=41\/t.k=44)(hq:(⟨(Pl.fI t).toArray⟩:ByteArray)=q):
  Calls Tryz.prog 94 #[.pointer (some ⟨rb,0,none⟩),.string q] w fun e w'=>e=.returned (.bool true)/\RD rb s A r rg w'/\Below rb w w':=by
 obtain⟨t',r',hl,c0,c1,c2,c3,c4⟩:=hR.cells;injection hl with h1 h2;subst h1 h2;rw[hq] at c2;clear hq;have HO:Hid (Calls Tryz.prog 148 #[.pointer (some ⟨rb,0,none⟩)] w fun e w'=>e=.returned (.tuple #[])/\RD rb s A r rg w'/\Below rb w w'/\Kp rb w w'):=hO rb s A r t rg w cx hR hG hk
 clear hO hR hk
 go_enter Tryz.func94,Tryz.ntmps94
 go_wp2_with fail
 refine HO.out.mono ?_;rintro e w1 ⟨rfl,h1,h2,h3⟩
 go_wp2_with fail
 go_ret
 exact⟨rfl,h1,h2⟩
theorem SN(rb:Nat)(s q:ByteArray)(A r:List Pl.Tk)(t:Pl.Tk)(rg:List (List (Int×Int)))(w:World)(hR:RD rb s A (t::r) rg w)
  (hq:((⟨(Pl.fI t).toArray⟩:ByteArray).toList == q.toList)=false):
  Calls Tryz.prog 94 #[.pointer (some ⟨rb,0,none⟩),.string q] w fun e w'=>e=.returned (.bool false)/\w'=w:=by
 obtain⟨t',r',hl,c0,c1,c2,c3,c4⟩:=hR.cells;injection hl with h1 h2;subst h1 h2;generalize(⟨(Pl.fI t).toArray⟩:ByteArray)=a at*;clear hR
 go_enter Tryz.func94,Tryz.ntmps94
 go_wp2_with fail
 go_ret
 exact⟨rfl,rfl⟩
theorem RD.suffix{rb:Nat}{s:ByteArray}{A l:List Pl.Tk}{rg:List (List (Int×Int))}{w:World}(h:RD rb s A l rg w):∃c t r,c++l=A/\l=t::r:=by
 obtain⟨c,t,r,tv,rv,hc,hl,_⟩:=h;exact⟨c,t,r,hc,hl⟩
theorem RD.form{rb:Nat}{s:ByteArray}{A r:List Pl.Tk}{t:Pl.Tk}{rg:List (List (Int×Int))}{w:World}(cx:Cx rb s A)(h:RD rb s A (t::r) rg w):Pl.Form t:=by
 obtain⟨c,_,_,hc,_⟩:=h.suffix;exact Pl.LG (cx.pl t (by rw[<-hc];simp))
theorem rV(hO:mW)(c:UInt8)(hc:c.toNat=40\/c.toNat=41\/c.toNat=44)(rb:Nat)(s:ByteArray)(A l:List Pl.Tk)(rg:List (List (Int×Int)))(w:World)(cx:Cx rb s A)(hR:RD rb s A l rg w)(hG:Gl w):
  Calls Tryz.prog 94 #[.pointer (some ⟨rb,0,none⟩),.string ⟨#[c]⟩] w fun e w'=>e=.returned (.bool (Pl.mk c.toNat l).1)/\RD rb s A (Pl.mk c.toNat l).2 rg w'/\Below rb w w':=by
 obtain⟨_,t,r,_,rfl⟩:=hR.suffix;have hf:=hR.form cx;by_cases hk:t.k=c.toNat
 ·have e:Pl.mk c.toNat (t::r)=(true,r):=by simp[Pl.mk,hk]
  rw[e];exact SM hO rb s ⟨#[c]⟩ A r t rg w cx hR hG (by omega) (by rw[(Pl.GM hf c hc).2 hk])
 ·have e:Pl.mk c.toNat (t::r)=(false,t::r):=by simp[Pl.mk,hk]
  rw[e];refine(SN rb s ⟨#[c]⟩ A r t rg w hR ?_).mono ?_
  ·rw[ByteArray.toList_eq,ByteArray.toList_eq,beq_eq_false_iff_ne];intro h;exact hk ((Pl.GM hf c hc).1 (by simpa using h))
  ·rintro e w' ⟨rfl,rfl⟩;exact⟨rfl,hR,Below.refl _ _⟩
theorem GQ(hO:mW)(q:List UInt8)(a:UInt8)(b:List UInt8)(hq:q=a::b)(ha:Pl.isLet a=true)(rb:Nat)(s:ByteArray)(A l:List Pl.Tk)(rg:List (List (Int×Int)))(w:World)(cx:Cx rb s A)(hR:RD rb s A l rg w)(hG:Gl w):
  Calls Tryz.prog 94 #[.pointer (some ⟨rb,0,none⟩),.string ⟨q.toArray⟩] w fun e w'=>e=.returned (.bool (Pl.wd q l).1)/\RD rb s A (Pl.wd q l).2 rg w'/\Below rb w w':=by
 obtain⟨_,t,r,_,rfl⟩:=hR.suffix;have hf:=hR.form cx;by_cases hk:t.k=119/\t.raw=q
 ·have e:Pl.wd q (t::r)=(true,r):=by simp[Pl.wd,hk]
  rw[e];exact SM hO rb s ⟨q.toArray⟩ A r t rg w cx hR hG (by omega) (by rw[(Pl.SK hf q a b hq ha).2 hk])
 ·have e:Pl.wd q (t::r)=(false,t::r):=by simp only[Pl.wd];rw[if_neg hk]
  rw[e];refine(SN rb s ⟨q.toArray⟩ A r t rg w hR ?_).mono ?_
  ·rw[ByteArray.toList_eq,ByteArray.toList_eq,beq_eq_false_iff_ne];intro h;exact hk ((Pl.SK hf q a b hq ha).1 (by simpa using h))
  ·rintro e w' ⟨rfl,rfl⟩;exact⟨rfl,hR,Below.refl _ _⟩
theorem LH(hO:mW)(rb:Nat)(s:ByteArray)(A r:List Pl.Tk)(t:Pl.Tk)(rg:List (List (Int×Int)))(w:World)(cx:Cx rb s A)(hR:RD rb s A (t::r) rg w)(hG:Gl w)(hk:t.k=110):
  Calls Tryz.prog 238 #[.pointer (some ⟨rb,0,none⟩)] w fun e w'=>e=.returned (.bool true)/\RD rb s A r rg w'/\Below rb w w'/\Kp rb w w':=by
 obtain⟨t',r',hl,c0,c1,c2,c3,c4⟩:=hR.cells;injection hl with h1 h2;subst h1 h2;rw[Pl.GP.2 hk] at c1;have HO:Hid (Calls Tryz.prog 148 #[.pointer (some ⟨rb,0,none⟩)] w fun e w'=>e=.returned (.tuple #[])/\RD rb s A r rg w'/\Below rb w w'/\Kp rb w w'):=hO rb s A r t rg w cx hR hG (by omega)
 clear hO hR hk
 go_enter Tryz.func238,Tryz.ntmps238
 go_wp2_with fail
 refine HO.out.mono ?_;rintro e w1 ⟨rfl,h1,h2,h3⟩
 go_wp2_with fail
 go_ret
 exact⟨rfl,h1,h2,h3⟩
theorem SP(rb:Nat)(s:ByteArray)(A r:List Pl.Tk)(t:Pl.Tk)(rg:List (List (Int×Int)))(w:World)(hR:RD rb s A (t::r) rg w)(hk:t.k≠110):
  Calls Tryz.prog 238 #[.pointer (some ⟨rb,0,none⟩)] w fun e w'=>e=.returned (.bool false)/\w'=w:=by
 obtain⟨t',r',hl,c0,c1,c2,c3,c4⟩:=hR.cells;injection hl with h1 h2;subst h1 h2;have hp:(Pl.pk t != 3)=true:=by
  rw[bne_iff_ne];intro h;exact hk (Pl.GP.1 h)
 generalize Pl.pk t=a at*;clear hR hk
 go_enter Tryz.func238,Tryz.ntmps238
 go_wp2_with fail
 go_ret
 exact⟨rfl,rfl⟩
theorem nQ{w:World}{base:Nat}{e:TypeId}{size:Nat}{v:Value}{n:Nat}{xs:List Value}(h:w.ownsRow base e size v n xs){k:Nat}(hk:v.ownBlock=some k):
  ∃cur,w.heap[k]?=some (.cells cur e (0,0)):=by
 rcases h.2 with⟨ha,_⟩|⟨g,cap,cur,hv,hg,hh,r⟩
 ·rw[ha] at hk;cases hk
 ·rw[hv] at hk;have:g=k:=by simpa[Value.ownBlock] using hk
  subst this;exact⟨cur,hh⟩
theorem qA.push{rb:Nat}{rv:Value}{iI:List (List (Int×Int))}{q:List (Int×Int)}{w:World}(h:qA rb rv (iI++[q]) w):
  ∃gr cap qv,rv=.slice (some ⟨gr,0,none⟩) (iI.length+1) cap/\rb<gr/\(∃cur,w.heap[gr]?=some (.cells cur 127 (0,0))/\cur[iI.length]?=some qv)/\
   w.ownsRow (rb+1) 81 1 qv q.length (pR q)/\
   ∀(w5:World)(g cap':Nat)(o:Obj)(p:Int×Int),(w.alloc o).drew.grownBy w5 qv.ownBlock->
    w5.ownsRow (rb+1) 81 1 (.slice (some ⟨g,0,none⟩) (q.length+1) cap') (q.length+1) (pR q++[xM p])->
    (qv.ownBlock=some g\/g=w.heap.size+1)->
    qA rb rv (iI++[q++[p]]) (w5.setCell ⟨gr,iI.length,none⟩ (.slice (some ⟨g,0,none⟩) (q.length+1) cap')):=by
 obtain⟨vs,h1,h2,h3,h4⟩:=h;simp only[aS,bO,fE,jd] at h1 h2;obtain⟨hl,h2'⟩:=id h2;rcases h2' with⟨_,h0⟩|⟨gr,cap,cur,hv,hg,hh,hnc,hcm,hcs,htake⟩
 ·omega
 have hn:iI.length<vs.length:=by omega
 obtain⟨qv,um⟩:∃qv,vs[iI.length]?=some qv:=⟨_,ay hn⟩;have hq:w.ownsRow (rb+1) 81 1 qv q.length (pR q):=h3 iI.length qv q um (by simp)
 have fU:cur[iI.length]?=some qv:=by
  rw[<-htake] at um;rw[j6] at um;simp only[Nat.mul_one] at um;rw[if_pos (by omega)] at um
  simpa using um
 refine⟨gr,cap,qv,hv,hg,⟨cur,hh,fU⟩,hq,?_⟩;intro w5 g cap' o p hgrow CJ hat;have adw:=lt_of_heap hh;have hne:qv.ownBlock≠some gr:=nP hq hh (by decide)
 have SQ:w5.heap[gr]?=some (.cells cur 127 (0,0)):=(rR hgrow gr adw hne).trans hh;have anG:g≠gr:=fun e=>by
  obtain⟨c5,zQ⟩:=nQ CJ (k:=g) rfl;rw[e,SQ] at zQ;injection zQ with zQ;injection zQ with _ zQ _;cases zQ
 refine⟨vs.set iI.length (.slice (some ⟨g,0,none⟩) (q.length+1) cap'),by simp[h1],?_,?_,?_⟩
 ·simp only[aS,bO,fE,jd];refine⟨by simpa using hl,Or.inr ⟨gr,cap,cur.setIfInBounds iI.length (.slice (some ⟨g,0,none⟩) (q.length+1) cap'),hv,hg,heap_set SQ _,hnc,hcm,by simpa using hcs,?_⟩⟩
  rw[<-htake];simp[List.take_set]
 ·intro i v g' hi hg';by_cases hin:i=iI.length
  ·subst hin;rw[rF hn] at hi;injection hi with hi;subst hi;have e:g'=q++[p]:=by simpa using hg'.symm
   subst e;have e2:pR (q++[p])=pR q++[xM p]:=by simp[pR]
   rw[e2];simp only[aS,bO,fE,jd];refine aJ CJ fun k hk=>bg ?_ _
   have:g=k:=by simpa[Value.ownBlock] using hk
   omega
  ·rw[xk (fun e=>hin e.symm)] at hi
   have SR:i<iI.length:=by
    have:=(bT.1 hi).1;omega
   have hg2:(iI++[q])[i]?=some g':=by
    rw[dZ SR] at hg'⊢;exact hg'
   have ho:=h3 i v g' hi hg2;refine aJ ho fun k hk=>?_
   obtain⟨c,hc⟩:=nQ ho hk;have adx:k≠gr:=fun e=>by
    rw[e,hh] at hc;injection hc with hc;injection hc with _ hc _;cases hc
   rw[bg adx];refine rR hgrow k (au ho k hk).2 fun e=>?_
   exact hin (h4 i iI.length v qv k hi um hk e)
 ·intro i j v u k hi hj hv' hu';by_cases hin:i=iI.length
  ·by_cases hjn:j=iI.length
   ·omega
   ·subst hin;rw[rF hn] at hi;injection hi with hi;subst hi;rw[xk (fun e=>hjn e.symm)] at hj
    have qB:g=k:=by simpa[Value.ownBlock] using hv'
    rcases hat with h|h
    ·exact(h4 j iI.length u qv k hj um hu' (by rw[h,qB])).symm
    ·have anH:j<iI.length:=by
      have:=(bT.1 hj).1;omega
     obtain⟨gj,hgj⟩:∃gj,(iI++[q])[j]?=some gj:=⟨_,ay (by simp;omega)⟩
     have:=(au (h3 j u gj hj hgj) k hu').2;omega
  ·rw[xk (fun e=>hin e.symm)] at hi
   by_cases hjn:j=iI.length
   ·subst hjn;rw[rF hn] at hj;injection hj with hj;subst hj;have qB:g=k:=by simpa[Value.ownBlock] using hu'
    rcases hat with h|h
    ·exact h4 i iI.length v qv k hi um hv' (by rw[h,qB])
    ·have SR:i<iI.length:=by
      have:=(bT.1 hi).1;omega
     obtain⟨gi,hgi⟩:∃gi,(iI++[q])[i]?=some gi:=⟨_,ay (by simp;omega)⟩
     have:=(au (h3 i v gi hi hgi) k hv').2;omega
   ·rw[xk (fun e=>hjn e.symm)] at hj
    exact h4 i j v u k hi hj hv' hu'
end Go.Proofs.YtkjhhooecopolaaGreatDoor
namespace Go.Proofs.YtkjhhooecopolaaGreatDoor
section
variable{P:Program}{ops:Array Oper}{Q:Exit->Act->World->Prop}{md:Region.Mode}{S:World->Prop}{n:Nat}
def Till(P:Program)(md:Region.Mode)(ops:Array Oper)(Q:Exit->Act->World->Prop)(S:World->Prop)(n:Nat):Nat->Array Bool->Act->World->Prop
 |0,l,a,w=>Region.ready md ops l=[]/\Q .normal a w
 |f+1,l,a,w=>(Region.ready md ops l=[]->Q .normal a w)/\
   ∀i∈Region.ready md ops l,wpOp P ops Q i (fun a' w'=>(i≠n->S w')/\Till P md ops Q S n f (l.setIfInBounds i true) a' w') a w
theorem Till.any:∀(f:Nat)(l:Array Bool)(a:Act)(w:World),Till P md ops Q S n f l a w->wpAny P md ops Q f l a w
 |0,_,_,_,h=>h
 |f+1,_,_,_,h=>⟨h.1,fun i hi=>wpOp_mono (fun a' w' h'=>Till.any f _ a' w' h'.2) (h.2 i hi)⟩
theorem Till.start{id:Nat}{a:Act}{w:World}(hm:P.follows .mixedOrders=true)
  (h:Till P .any ops Q S n ops.size (Array.replicate ops.size false) a w.drew):(Code.region id ops true).wp P Q a w:=
 wp_region_any hm (Till.any _ _ _ _ h)
theorem Till.done{l:Array Bool}{a:Act}{w:World}(hr:Region.ready md ops l=[])(h:Q .normal a w)(f:Nat):Till P md ops Q S n f l a w:=by
 cases f with
 |zero=>exact⟨hr,h⟩
 |succ f=>exact⟨fun _=>h,by rw[hr];simp⟩
theorem Till.one{i f:Nat}{o:Oper}{l:Array Bool}{a:Act}{w:World}(ho:ops[i]?=some o)(hr:Region.ready md ops l=[i])
  (h:∀K:Act->World->Prop,(∀a' w',(i≠n->S w')->Till P md ops Q S n f (l.setIfInBounds i true) a' w'->K a' w')->if Region.wanted o (yielded ops a.tmps)=true then Oper.wp P o a w K Q else K (a.put o.dst undef) w):
  Till P md ops Q S n (f+1) l a w:=by
 refine⟨fun h0=>?_,fun j hj=>?_⟩
 ·rw[hr] at h0;cases h0
 ·rw[hr,bJ] at hj;subst hj;exact wpOp_step ho (fun K hK=>h K (fun a' w' h1 h2=>hK a' w' ⟨h1,h2⟩))
theorem Till.first{i:Nat}{oi:Oper}{v:Value}(hi:ops[i]?=some oi)(LI:∀(j:Nat)(o:Oper) cs b,ops[j]?=some o->o.op≠.select cs b)
  (hQ:∀c a w,Q (.panic c) (a.put oi.dst v) w->Q (.panic c) a w)
  (hin:i≠n)(hn:∀o,ops[n]?=some o->∃e∈o.after,Region.binds md e=true/\e.on=i):
  ∀(f:Nat)(l:Array Bool)(a:Act)(w:World),
   (∀j oj,ops[j]?=some oj->j≠i->l.getD j true=false->(∀e∈oj.after,Region.binds md e=true->e.on≠i)->oi.apart ops oj=true)->
   i∈Region.ready md ops l->YieldsIf P ops S oi v a->S w->
   Till P md ops Q S n f (l.setIfInBounds i true) (a.put oi.dst v) w->Till P md ops Q S n (f+1) l a w
 |0,l,a,w,_,hr,hy,hS,H=>by
  refine⟨fun h=>(by rw[h] at hr;cases hr),fun j hj=>?_⟩
  rcases Nat.decEq j i with hne|rfl
  ·have:=ready_mono hj hne;rw[H.1] at this;cases this
  ·exact hy.wpOp hi hS ⟨fun _=>hS,H⟩
 |f+1,l,a,w,hfree,hr,hy,hS,H=>by
  refine⟨fun h=>(by rw[h] at hr;cases hr),fun j hj=>?_⟩
  rcases Nat.decEq j i with hne|rfl
  ·obtain⟨SS,oj,GR,hall⟩:=mem_ready.1 hj;have hir:i∈Region.ready md ops (l.setIfInBounds j true):=ready_mono hr (Ne.symm hne);have SU:∀e∈oj.after,Region.binds md e=true->e.on≠i:=fun e he hb heq=>by
    have h1:=hall e he hb;rw[heq] at h1;have h0:=(mem_ready.1 hr).1;rcases Ku i l.size with q|q
    ·simp[q] at h0 h1;rw[h0] at h1;cases h1
    ·simp[Array.getElem?_eq_none q] at h1
   have hjn:j≠n:=fun e=>by
    subst e;obtain⟨e,he,hb,mP⟩:=hn oj GR;exact SU e he hb mP
   refine wpOp_mono (fun a' w' h3=>?_) (wpOp_putIf GR (hfree j oj GR hne SS SU) (fun cs b=>LI i oi cs b hi) (fun cs b=>LI j oj cs b GR) hQ hy (H.2 j (ready_mono hj hne)))
   obtain⟨hy',h4,h5⟩:=h3;have aw:S w':=h4 hjn;refine⟨fun _=>aw,Till.first hi LI hQ hin hn f (l.setIfInBounds j true) a' w' ?_ hir hy' aw ?_⟩
   ·intro k ok hk eD hun hno;refine hfree k ok hk eD ?_ hno;rcases Nat.decEq j k with hjk|rfl
    ·rw[getD_set_ne true hjk] at hun;exact hun
    ·exact SS
   ·rw[Array.setIfInBounds_comm _ _ hne];exact h5
  ·exact hy.wpOp hi hS ⟨fun _=>hS,H⟩
def waits(md:Region.Mode)(ops:Array Oper)(n i:Nat):Bool:=
 match ops[n]? with
 |some o=>(n != i)&&o.after.any fun e=>Region.binds md e&&e.on == i
 |none=>false
theorem Till.take{i:Nat}{oi:Oper}{v:Value}{f:Nat}{l:Array Bool}{a:Act}{w:World}(hi:ops[i]?=some oi)
  (hs:Region.noSelect ops=true)(hf:Region.free md ops l i=true)(hr:(Region.ready md ops l).contains i=true)(hw:waits md ops n i=true)
  (hQ:∀c a w,Q (.panic c) (a.put oi.dst v) w->Q (.panic c) a w)(hy:YieldsIf P ops S oi v a)(hS:S w)
  (h:Till P md ops Q S n f (l.setIfInBounds i true) (a.put oi.dst v) w):Till P md ops Q S n (f+1) l a w:=by
 unfold waits at hw;split at hw
 ·rename_i o ho
  simp only[qq,bne_iff_ne,ne_eq,Array.any_eq_true',beq_iff_eq] at hw;obtain⟨h1,e,he,h2,h3⟩:=hw;refine Till.first hi (Region.noSelect_spec hs) hQ (fun q=>h1 q.symm) (fun o' ho'=>?_) f l a w (Region.free_spec hi hf) (by simpa using hr) hy hS h
  rw[ho] at ho';injection ho' with ho';subst ho';exact⟨e,he,h2,h3⟩
 ·cases hw
end
end Go.Proofs.YtkjhhooecopolaaGreatDoor

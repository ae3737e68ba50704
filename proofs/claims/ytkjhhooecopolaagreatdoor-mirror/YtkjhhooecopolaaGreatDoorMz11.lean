import Derived.Test.YtkjhhooecopolaaGreatDoorMz10
import Derived.BigQuiet
import Derived.Deep.QuietTactic
import Derived.Deep.RegionHeld3
import Derived.Lib.AppendStr
import Derived.Lib.OthersKept
import Derived.Laws.Externs
set_option maxRecDepth 100000
set_option maxHeartbeats 4000000
namespace Go.Proofs.YtkjhhooecopolaaGreatDoor
open Go.RowKit
def kH(b v:Int):Bool:=decide (-b<=v/\v<=b)
theorem Hh(v b:Int)(w:World)(h0:0<=b)(h1:b<=1000000):
  Calls Tryz.prog 34 #[.int .i64 v,.int .i64 b] w fun e w'=>e=.returned (.bool (kH b v))/\w'=w:=by
 by_cases h: -b<=v
 ·go_enter Tryz.func34,Tryz.ntmps34
  go_wp2
  go_ret
  exact⟨rO (by unfold kH;simp[h]),rfl⟩
 ·have h':decide (-b<=v)=false:=by simpa using h
  go_enter Tryz.func34,Tryz.ntmps34
  go_wp2
  go_ret
  exact⟨rO (by unfold kH;simp;omega),rfl⟩
theorem TZ(s:ByteArray)(w:World)(hs:s.size<=400)(hG:Gl w):
  Calls Tryz.prog 60 #[.string s,.int .i64 0] w fun e w'=>e=.returned (.agg (eY (Pl.tk s.data.toList 0)))/\Below w.heap.size w w':=
 Sw SJ s 0 w (iz _) hs hG
theorem C6(s:List UInt8):∃r,Pl.all s=Pl.tk s 0::r:=Pl.Lz s _ 0
theorem RD.fresh{s:ByteArray}{w:World}{o:Obj}(ho:o=.cells (GL s (Pl.tk s.data.toList 0) (.slice none 0 0) (.slice none 0 0)) 80 (0,0)):RD w.heap.size s (Pl.all s.data.toList) (Pl.all s.data.toList) [] (w.alloc o):=by
 obtain⟨r,hr⟩:=C6 s.data.toList;refine⟨[],_,r,.slice none 0 0,.slice none 0 0,rfl,hr,?_,World.ownsRow_nil _ _ _ _,[],rfl,World.ownsRow_nil _ _ _ _,?_,?_⟩
 ·rw[heap_alloc_new,ho]
 ·intro i v g hi;simp at hi
 ·intro i j v u k hi;simp at hi
theorem Cx.mk'{s:ByteArray}{rb:Nat}(hs:s.size<=400)(rU:6<=rb):Cx rb s (Pl.all s.data.toList):=
 ⟨hs,Pl.xK _,by have:=Pl.xL s.data.toList;simp at this;omega,Pl.GI _,rU⟩
def outT(t:Pl.Tk):Bool:=decide (t.k=110)&& !kH 50 t.n
theorem Hi(c:List Pl.Tk)(k:Nat)(t:Pl.Tk)(h:c[k]?=some t)(j:Nat)(hj:j<4):(uk c)[k*4+j]?=(eY t)[j]?:=by
 induction c generalizing k with
 |nil=>simp at h
 |cons a r ih=>
  cases k with
  |zero=>
   have:a=t:=by simpa using h
   subst this;simp only[uk,tV,zk,jd];rw[dZ (by simp[eY];omega)]
   simp
  |succ k=>
   have h':r[k]?=some t:=by simpa using h
   have:=ih k h';simp only[uk,tV] at this⊢;rw[nI (by simp[eY];omega)]
   rw[<-this];congr 1;simp[eY];omega
theorem aeG(s:ByteArray)(w:World)(hs:400<s.size)(hm:s.size<=maxLen):
  Calls Tryz.prog 33 #[.string s] w fun e w'=>e=.returned (.tuple #[.pointer none,.int .i64 1,.int .i64 0])/\w'=w:=by
 unfold maxLen at hm
 go_enter Tryz.func33,Tryz.ntmps33
 go_wp2
 go_ret3
 exact⟨rfl,rfl⟩
theorem aeH(s:ByteArray)(w:World)(hs:s.size<=400)(hG:Gl w)(l':List Pl.Tk)(t:Pl.Tk)(r:List Pl.Tk)(b:Bool)(v:List (List (List (Int×Int))))
  (hp:Pl.aH (Pl.all s.data.toList)=(b,l',v))(hl:l'=t::r)(hbad:b=false\/t.k≠101):
  Calls Tryz.prog 33 #[.string s] w fun e w'=>e=.returned (.tuple #[.pointer none,.int .i64 2,.int .i64 t.pl])/\Below w.heap.size w w':=by
 have HP:Hid (Pl.aH (Pl.all s.data.toList)=(b,l',v)):=hp;have HT:Hid (∀w1,Gl w1->Calls Tryz.prog 60 #[.string s,.int .i64 0] w1 fun e w'=>e=.returned (.agg (eY (Pl.tk s.data.toList 0)))/\Below w1.heap.size w1 w'):=fun w1 g1=>TZ s w1 hs g1
 clear hp;generalize hk:Pl.tk s.data.toList 0=t0 at*;have HK:Hid (Pl.tk s.data.toList 0=t0):=hk;unfold eY at HT;clear hk
 go_enter Tryz.func33,Tryz.ntmps33
 go_wp2_with fail
 refine(HT.out _ hG).mono ?_;rintro e w1 ⟨rfl,hb1⟩;have cz:Gl w1:=hG.below hb1 hG.sz
 go_wp2_with fail
 have Hj:RD w1.heap.size s (Pl.all s.data.toList) (Pl.all s.data.toList) [] (w1.alloc (.cells (GL s t0 (.slice none 0 0) (.slice none 0 0)) 80)):=RD.fresh (by rw[HK.out])
 have cx:Cx w1.heap.size s (Pl.all s.data.toList):=Cx.mk' hs cz.sz;refine(TV TY w1.heap.size s _ _ _ cx Hj (cz.alloc _)).mono ?_;rintro e w2 ⟨rfl,⟨rg2,cu,hrg2⟩,hb2⟩;rw[HP.out] at cu⊢;simp only at cu⊢;subst hl;obtain⟨t',r',hl,c0,c1,c2,c3,c4⟩:=cu.cells;injection hl with h1 h2;subst h1 h2;have ag:Below w.heap.size w w2:=((hb1.alloc hb1.size _).trans (hb2.mono hb1.size));cases b
 ·go_wp2_with fail
  go_quiet (fail)
  go_wp2_with fail
  go_ret3
  exact⟨rfl,⟨ag.os,ag.tape,ag.output,ag.size,ag.block⟩⟩
 ·have hk:(Pl.pk t != 1)=true:=by
   rw[bne_iff_ne];intro h;rcases hbad with h'|h'
   ·cases h'
   ·exact h' (Pl.SL.1 h)
  go_wp2_with fail
  go_quiet (fail)
  go_wp2_with fail
  go_ret3
  exact⟨rfl,⟨ag.os,ag.tape,ag.output,ag.size,ag.block⟩⟩
structure Fp(pb:Nat)(w w':World):Prop where
 os:w'.os=w.os
 tape:w'.tape=w.tape
 output:w'.output=w.output
 size:w.heap.size<=w'.heap.size
 block:∀k,k<w.heap.size->k≠pb->w'.heap[k]?=w.heap[k]?
theorem Fp.refl(pb:Nat)(w:World):Fp pb w w:=⟨rfl,rfl,rfl,ae _,fun _ _ _=>rfl⟩
theorem Fp.trans{pb:Nat}{a b c:World}(h:Fp pb a b)(k:Fp pb b c):Fp pb a c:=
 ⟨k.os.trans h.os,k.tape.trans h.tape,k.output.trans h.output,dS h.size k.size,fun i hi hne=>(k.block i (aL hi h.size) hne).trans (h.block i hi hne)⟩
theorem Fp.drewN{pb:Nat}{a w:World}(h:Fp pb a w)(n:Nat):Fp pb a (w.drewN n):=⟨h.os,h.tape,h.output,h.size,h.block⟩
theorem Fp.set{pb:Nat}{a w:World}(h:Fp pb a w)(o:Nat)(v:Value):Fp pb a (w.setCell ⟨pb,o,none⟩ v):=
 ⟨h.os,h.tape,h.output,by simp;exact h.size,fun k hk hne=>(bg hne _).trans (h.block k hk hne)⟩
theorem Fp.below{pb:Nat}{w w':World}(h:Fp pb w w')(B:Nat)(hB:B<=pb)(hs:B<=w.heap.size):Below B w w':=⟨h.os,h.tape,h.output,h.size,fun k hk=>h.block k (by omega) (by omega)⟩
def bG(c:List Pl.Tk):Int:=match c.find? outT with |some u=>u.pl|none=> -1
def PS(pb tb cap:Nat)(A l:List Pl.Tk)(bad:Bool)(w:World):Prop:=
 tb≠pb/\(∃cur,w.heap[tb]?=some (.cells cur 61 (0,0))/\∀(j:Nat) u,(pV A)[j]?=some u->cur[j]?=some u)/\
 ∃c,c++l=A/\w.heap[pb]?=some (.cells #[.slice (some ⟨tb,0,none⟩) A.length cap,.int .i64 c.length,.bool bad,.int .i64 (bG c)] 55 (0,0))
theorem aeJ(c:List Pl.Tk)(k:Nat)(t:Pl.Tk)(h:c[k]?=some t)(j:Nat)(hj:j<4):(pV c)[k*4+j]?=(r8 t)[j]?:=by
 induction c generalizing k with
 |nil=>simp at h
 |cons a r ih=>
  cases k with
  |zero=>
   have:a=t:=by simpa using h
   subst this;simp only[pV,tV,zk,jd];rw[dZ (by simp[r8];omega)]
   simp
  |succ k=>
   have h':r[k]?=some t:=by simpa using h
   have:=ih k h';simp only[pV,tV] at this⊢;rw[nI (by simp[r8];omega)]
   rw[<-this];congr 1;simp[r8];omega
theorem PS.cells{pb tb cap:Nat}{A r:List Pl.Tk}{t:Pl.Tk}{bad:Bool}{w:World}(h:PS pb tb cap A (t::r) bad w):
  ∃c:List Pl.Tk,c++t::r=A/\w.heap[pb]?=some (.cells #[.slice (some ⟨tb,0,none⟩) A.length cap,.int .i64 c.length,.bool bad,.int .i64 (bG c)] 55 (0,0))/\
   w.cell? ⟨tb,c.length*4,none⟩=some (.int .u8 t.k)/\w.cell? ⟨tb,c.length*4+1,none⟩=some (.string ⟨(Pl.rS t).toArray⟩)/\w.cell? ⟨tb,c.length*4+2,none⟩=some (.int .i64 t.n)/\w.cell? ⟨tb,c.length*4+3,none⟩=some (.int .i64 t.pl)/\
   c.length<A.length/\tb<w.heap.size:=by
 obtain⟨hne,⟨cur,fU,hrow⟩,c,hc,hb⟩:=h;have hg:A[c.length]?=some t:=by rw[<-hc];simp
 have hcell:∀j u,j<4->(r8 t)[j]?=some u->w.cell? ⟨tb,c.length*4+j,none⟩=some u:=fun j u hj hu=>by
  rw[cell_of fU];exact hrow _ _ (by rw[aeJ A c.length t hg j hj];exact hu)
 exact⟨c,hc,hb,by simpa using hcell 0 (.int .u8 t.k) (by omega) rfl,hcell 1 _ (by omega) rfl,hcell 2 _ (by omega) rfl,hcell 3 _ (by omega) rfl,by rw[<-hc];simp,lt_of_heap fU⟩
theorem PS.mono{pb tb cap:Nat}{A l:List Pl.Tk}{bad:Bool}{w w':World}(h:PS pb tb cap A l bad w)(hk:∀k,k<w.heap.size->w'.heap[k]?=w.heap[k]?):PS pb tb cap A l bad w':=by
 obtain⟨hne,⟨cur,fU,hrow⟩,c,hc,hb⟩:=h;exact⟨hne,⟨cur,(hk _ (lt_of_heap fU)).trans fU,hrow⟩,c,hc,(hk _ (lt_of_heap hb)).trans hb⟩
theorem PS.put{pb tb cap:Nat}{A l l':List Pl.Tk}{bad bad':Bool}{w w':World}(h:PS pb tb cap A l bad w)(c:List Pl.Tk)(hc:c++l'=A)
  (hk:∀k,k<w.heap.size->k≠pb->w'.heap[k]?=w.heap[k]?)(hb:w'.heap[pb]?=some (.cells #[.slice (some ⟨tb,0,none⟩) A.length cap,.int .i64 c.length,.bool bad',.int .i64 (bG c)] 55 (0,0))):PS pb tb cap A l' bad' w':=by
 obtain⟨hne,⟨cur,fU,hrow⟩,_⟩:=h;exact⟨hne,⟨cur,(hk _ (lt_of_heap fU) hne).trans fU,hrow⟩,c,hc,hb⟩
theorem Mj(c:List Pl.Tk)(t:Pl.Tk)(h:t.k≠110):bG (c++[t])=bG c:=by
 unfold bG;have:outT t=false:=by unfold outT;simp[h]
 rw[zo];cases h1:c.find? outT<;>simp[this]
theorem Hk(pb tb cap:Nat)(A r:List Pl.Tk)(t:Pl.Tk)(w:World)(k:Nat)(hP:PS pb tb cap A (t::r) false w)(hl:A.length<=402)(hk:t.k=k)(anO:k≠110):
  Calls Tryz.prog 42 #[.pointer (some ⟨pb,0,none⟩),.int .u8 k] w fun e w'=>e=.returned (.tuple #[])/\PS pb tb cap A r false w'/\Fp pb w w':=by
 obtain⟨c,hc,hb,e0,e1,e2,e3,hcl,jg⟩:=hP.cells;have HC:Hid (c++t::r=A):=hc;have HO:Hid (bG (c++[t])=bG c):=Mj c t (by omega)
 have c0:w.cell? ⟨pb,0,none⟩=some (.slice (some ⟨tb,0,none⟩) A.length cap):=cell_of hb 0;have c1:w.cell? ⟨pb,1,none⟩=some (.int .i64 c.length):=cell_of hb 1;have c2:w.cell? ⟨pb,2,none⟩=some (.bool false):=cell_of hb 2;have f1:w.frozen? ⟨pb,1,none⟩=false:=aB hb 1;rw[hk] at e0;clear hc hk;have hib:(c.length:Int)<(A.length:Int):=by omega
 go_enter Tryz.func42,Tryz.ntmps42
 go_wp2_with fail
 go_quiet (fail)
 go_wp2_with fail
 go_end0
 refine⟨rfl,hP.put (c++[t]) (by rw[<-HC.out];simp) (fun k hk hne=>bg hne _) ?_,((Fp.refl pb w).drewN nq).set 1 _⟩
 have q:=heap_set (w:=w.drewN nq) (o:=1) hb (.int .i64 ((c.length:Int)+1));rw[HO.out];simpa using q
theorem Hl(pb tb cap:Nat)(A r:List Pl.Tk)(t:Pl.Tk)(w:World)(k:Nat)(hP:PS pb tb cap A (t::r) false w)(_hl:A.length<=402)(hk:t.k≠k):
  Calls Tryz.prog 42 #[.pointer (some ⟨pb,0,none⟩),.int .u8 k] w fun e w'=>e=.returned (.tuple #[])/\PS pb tb cap A (t::r) true w'/\Fp pb w w':=by
 obtain⟨c,hc,hb,e0,e1,e2,e3,hcl,jg⟩:=hP.cells;have HC:Hid (c++t::r=A):=hc;have c0:w.cell? ⟨pb,0,none⟩=some (.slice (some ⟨tb,0,none⟩) A.length cap):=cell_of hb 0;have c1:w.cell? ⟨pb,1,none⟩=some (.int .i64 c.length):=cell_of hb 1;have c2:w.cell? ⟨pb,2,none⟩=some (.bool false):=cell_of hb 2;have c3:w.cell? ⟨pb,3,none⟩=some (.int .i64 (bG c)):=cell_of hb 3;have f1:w.frozen? ⟨pb,1,none⟩=false:=aB hb 1;have f2:w.frozen? ⟨pb,2,none⟩=false:=aB hb 2;have f3:w.frozen? ⟨pb,3,none⟩=false:=aB hb 3;have hib:(c.length:Int)<(A.length:Int):=by omega
 clear hc;have hkb:((t.k:Int) == (k:Int))=false:=by rw[beq_eq_false_iff_ne];omega
 clear hk
 go_enter Tryz.func42,Tryz.ntmps42
 go_wp2_with fail
 go_quiet (fail)
 go_wp2_with fail
 go_end0
 refine⟨rfl,hP.put c HC.out (fun k hk hne=>bg hne _) ?_,((Fp.refl pb w).drewN nq).set 2 _⟩
 exact heap_set (w:=w.drewN nq) (o:=2) hb (.bool true)
theorem aeK(pb tb cap:Nat)(A r:List Pl.Tk)(t:Pl.Tk)(w:World)(k:Nat)(hP:PS pb tb cap A (t::r) true w)(_hl:A.length<=402):
  Calls Tryz.prog 42 #[.pointer (some ⟨pb,0,none⟩),.int .u8 k] w fun e w'=>e=.returned (.tuple #[])/\PS pb tb cap A (t::r) true w'/\Fp pb w w':=by
 obtain⟨c,hc,hb,e0,e1,e2,e3,hcl,jg⟩:=hP.cells;have HC:Hid (c++t::r=A):=hc;have c0:w.cell? ⟨pb,0,none⟩=some (.slice (some ⟨tb,0,none⟩) A.length cap):=cell_of hb 0;have c1:w.cell? ⟨pb,1,none⟩=some (.int .i64 c.length):=cell_of hb 1;have c2:w.cell? ⟨pb,2,none⟩=some (.bool true):=cell_of hb 2;have c3:w.cell? ⟨pb,3,none⟩=some (.int .i64 (bG c)):=cell_of hb 3;have f1:w.frozen? ⟨pb,1,none⟩=false:=aB hb 1;have f2:w.frozen? ⟨pb,2,none⟩=false:=aB hb 2;have f3:w.frozen? ⟨pb,3,none⟩=false:=aB hb 3;have hib:(c.length:Int)<(A.length:Int):=by omega
 clear hc
 go_enter Tryz.func42,Tryz.ntmps42
 go_wp2_with fail
 go_quiet (fail)
 go_wp2_with fail
 go_end0
 refine⟨rfl,hP.put c HC.out (fun k hk hne=>bg hne _) ?_,((Fp.refl pb w).drewN nq).set 2 _⟩
 exact heap_set (w:=w.drewN nq) (o:=2) hb (.bool true)
theorem aeL(pb tb cap:Nat)(A r:List Pl.Tk)(t:Pl.Tk)(w:World)(k:Nat)(hP:PS pb tb cap A (t::r) false w)(_hl:A.length<=402):
  Calls Tryz.prog 44 #[.pointer (some ⟨pb,0,none⟩),.int .u8 k] w fun e w'=>e=.returned (.bool (decide (t.k=k)))/\∃n,w'=w.drewN n:=by
 obtain⟨c,hc,hb,e0,e1,e2,e3,hcl,jg⟩:=hP.cells;have HC:Hid (c++t::r=A):=hc;have c0:w.cell? ⟨pb,0,none⟩=some (.slice (some ⟨tb,0,none⟩) A.length cap):=cell_of hb 0;have c1:w.cell? ⟨pb,1,none⟩=some (.int .i64 c.length):=cell_of hb 1;have c2:w.cell? ⟨pb,2,none⟩=some (.bool false):=cell_of hb 2;have c3:w.cell? ⟨pb,3,none⟩=some (.int .i64 (bG c)):=cell_of hb 3;have f1:w.frozen? ⟨pb,1,none⟩=false:=aB hb 1;have f2:w.frozen? ⟨pb,2,none⟩=false:=aB hb 2;have f3:w.frozen? ⟨pb,3,none⟩=false:=aB hb 3;have hib:(c.length:Int)<(A.length:Int):=by omega
 clear hc
 go_enter Tryz.func44,Tryz.ntmps44
 go_wp2_with fail
 go_quiet (fail)
 go_wp2_with fail
 go_ret
 refine⟨rO ?_,_,rfl⟩;rw[mO];simp;omega
theorem aeM(pb tb cap:Nat)(A r:List Pl.Tk)(t:Pl.Tk)(w:World)(k:Nat)(hP:PS pb tb cap A (t::r) true w)(_hl:A.length<=402):
  Calls Tryz.prog 44 #[.pointer (some ⟨pb,0,none⟩),.int .u8 k] w fun e w'=>e=.returned (.bool false)/\∃n,w'=w.drewN n:=by
 obtain⟨c,hc,hb,e0,e1,e2,e3,hcl,jg⟩:=hP.cells;have HC:Hid (c++t::r=A):=hc;have c0:w.cell? ⟨pb,0,none⟩=some (.slice (some ⟨tb,0,none⟩) A.length cap):=cell_of hb 0;have c1:w.cell? ⟨pb,1,none⟩=some (.int .i64 c.length):=cell_of hb 1;have c2:w.cell? ⟨pb,2,none⟩=some (.bool true):=cell_of hb 2;have c3:w.cell? ⟨pb,3,none⟩=some (.int .i64 (bG c)):=cell_of hb 3;have f1:w.frozen? ⟨pb,1,none⟩=false:=aB hb 1;have f2:w.frozen? ⟨pb,2,none⟩=false:=aB hb 2;have f3:w.frozen? ⟨pb,3,none⟩=false:=aB hb 3;have hib:(c.length:Int)<(A.length:Int):=by omega
 clear hc
 go_enter Tryz.func44,Tryz.ntmps44
 go_wp2_with fail
 go_quiet (fail)
 go_wp2_with fail
 go_ret
 exact⟨rfl,_,rfl⟩
theorem Fp.alloc{pb:Nat}{a w:World}(h:Fp pb a w)(o:Obj):Fp pb a (w.alloc o):=
 ⟨h.os,h.tape,h.output,by simp;exact Nat.le_succ_of_le h.size,fun k hk hne=>(Below.heap_alloc _ _ _ (aL hk h.size)).trans (h.block k hk hne)⟩
theorem Fp.drew{pb:Nat}{a w:World}(h:Fp pb a w):Fp pb a w.drew:=⟨h.os,h.tape,h.output,h.size,h.block⟩
theorem aeN(pb tb cap:Nat)(A r:List Pl.Tk)(t:Pl.Tk)(w:World)(q:ByteArray)(hP:PS pb tb cap A (t::r) false w)(hl:A.length<=402)(hk:t.k=119)(hq:(⟨t.raw.toArray⟩:ByteArray)=q):
  Calls Tryz.prog 29 #[.pointer (some ⟨pb,0,none⟩),.string q] w fun e w'=>e=.returned (.bool true)/\PS pb tb cap A r false w'/\Fp pb w w':=by
 obtain⟨c,hc,hb,e0,e1,e2,e3,hcl,jg⟩:=hP.cells;have HC:Hid (c++t::r=A):=hc;have c0:w.cell? ⟨pb,0,none⟩=some (.slice (some ⟨tb,0,none⟩) A.length cap):=cell_of hb 0;have c1:w.cell? ⟨pb,1,none⟩=some (.int .i64 c.length):=cell_of hb 1;have c2:w.cell? ⟨pb,2,none⟩=some (.bool false):=cell_of hb 2;have c3:w.cell? ⟨pb,3,none⟩=some (.int .i64 (bG c)):=cell_of hb 3;have f1:w.frozen? ⟨pb,1,none⟩=false:=aB hb 1;have f2:w.frozen? ⟨pb,2,none⟩=false:=aB hb 2;have f3:w.frozen? ⟨pb,3,none⟩=false:=aB hb 3;have hib:(c.length:Int)<(A.length:Int):=by omega
 have hpb:pb<w.heap.size:=lt_of_heap hb;clear hc;have HO:Hid (bG (c++[t])=bG c):=Mj c t (by omega)
 have hrs:Pl.rS t=t.raw:=by unfold Pl.rS;rw[if_neg (by omega)]
 rw[hrs,hq] at e1;rw[hk] at e0;clear hk hq hrs
 go_enter Tryz.func29,Tryz.ntmps29
 go_wp2_with fail
 go_quiet (fail)
 go_wp2_with fail
 go_ret
 refine⟨rfl,hP.put (c++[t]) (by rw[<-HC.out];simp) (fun k hk hne=>bg hne _) ?_,((Fp.refl pb w).drewN nq).set 1 _⟩
 have q:=heap_set (w:=w.drewN nq) (o:=1) hb (.int .i64 ((c.length:Int)+1));rw[HO.out];simpa using q
theorem aeO(pb tb cap:Nat)(A r:List Pl.Tk)(t:Pl.Tk)(w:World)(q:ByteArray)(hP:PS pb tb cap A (t::r) false w)(_hl:A.length<=402)(hk:t.k≠119):
  Calls Tryz.prog 29 #[.pointer (some ⟨pb,0,none⟩),.string q] w fun e w'=>e=.returned (.bool false)/\∃n,w'=w.drewN n:=by
 obtain⟨c,hc,hb,e0,e1,e2,e3,hcl,jg⟩:=hP.cells;have HC:Hid (c++t::r=A):=hc;have c0:w.cell? ⟨pb,0,none⟩=some (.slice (some ⟨tb,0,none⟩) A.length cap):=cell_of hb 0;have c1:w.cell? ⟨pb,1,none⟩=some (.int .i64 c.length):=cell_of hb 1;have c2:w.cell? ⟨pb,2,none⟩=some (.bool false):=cell_of hb 2;have c3:w.cell? ⟨pb,3,none⟩=some (.int .i64 (bG c)):=cell_of hb 3;have f1:w.frozen? ⟨pb,1,none⟩=false:=aB hb 1;have f2:w.frozen? ⟨pb,2,none⟩=false:=aB hb 2;have f3:w.frozen? ⟨pb,3,none⟩=false:=aB hb 3;have hib:(c.length:Int)<(A.length:Int):=by omega
 have hpb:pb<w.heap.size:=lt_of_heap hb;clear hc;have hkb:((t.k:Int) == 119)=false:=by rw[beq_eq_false_iff_ne];omega
 clear hk
 go_enter Tryz.func29,Tryz.ntmps29
 go_wp2_with fail
 go_quiet (fail)
 go_wp2_with fail
 go_ret
 exact⟨rfl,_,rfl⟩
theorem aeP(pb tb cap:Nat)(A r:List Pl.Tk)(t:Pl.Tk)(w:World)(q:ByteArray)(hP:PS pb tb cap A (t::r) false w)(_hl:A.length<=402)(hk:t.k=119)(hq:((⟨t.raw.toArray⟩:ByteArray).toList == q.toList)=false):
  Calls Tryz.prog 29 #[.pointer (some ⟨pb,0,none⟩),.string q] w fun e w'=>e=.returned (.bool false)/\∃n,w'=w.drewN n:=by
 obtain⟨c,hc,hb,e0,e1,e2,e3,hcl,jg⟩:=hP.cells;have HC:Hid (c++t::r=A):=hc;have c0:w.cell? ⟨pb,0,none⟩=some (.slice (some ⟨tb,0,none⟩) A.length cap):=cell_of hb 0;have c1:w.cell? ⟨pb,1,none⟩=some (.int .i64 c.length):=cell_of hb 1;have c2:w.cell? ⟨pb,2,none⟩=some (.bool false):=cell_of hb 2;have c3:w.cell? ⟨pb,3,none⟩=some (.int .i64 (bG c)):=cell_of hb 3;have f1:w.frozen? ⟨pb,1,none⟩=false:=aB hb 1;have f2:w.frozen? ⟨pb,2,none⟩=false:=aB hb 2;have f3:w.frozen? ⟨pb,3,none⟩=false:=aB hb 3;have hib:(c.length:Int)<(A.length:Int):=by omega
 have hpb:pb<w.heap.size:=lt_of_heap hb;clear hc;have hrs:Pl.rS t=t.raw:=by unfold Pl.rS;rw[if_neg (by omega)]
 rw[hrs] at e1;rw[hk] at e0;clear hk hrs;generalize(⟨t.raw.toArray⟩:ByteArray)=Ad at*
 go_enter Tryz.func29,Tryz.ntmps29
 go_wp2_with fail
 go_quiet (fail)
 go_wp2_with fail
 go_ret
 exact⟨rfl,_,rfl⟩
theorem aeQ(pb tb cap:Nat)(A r:List Pl.Tk)(t:Pl.Tk)(w:World)(hP:PS pb tb cap A (t::r) true w)(_hl:A.length<=402):
  Calls Tryz.prog 145 #[.pointer (some ⟨pb,0,none⟩)] w fun e w'=>e=.returned (.int .i64 0)/\PS pb tb cap A (t::r) true w'/\Fp pb w w':=by
 obtain⟨c,hc,hb,e0,e1,e2,e3,hcl,jg⟩:=hP.cells;have HC:Hid (c++t::r=A):=hc;have c0:w.cell? ⟨pb,0,none⟩=some (.slice (some ⟨tb,0,none⟩) A.length cap):=cell_of hb 0;have c1:w.cell? ⟨pb,1,none⟩=some (.int .i64 c.length):=cell_of hb 1;have c2:w.cell? ⟨pb,2,none⟩=some (.bool true):=cell_of hb 2;have c3:w.cell? ⟨pb,3,none⟩=some (.int .i64 (bG c)):=cell_of hb 3;have f1:w.frozen? ⟨pb,1,none⟩=false:=aB hb 1;have f2:w.frozen? ⟨pb,2,none⟩=false:=aB hb 2;have f3:w.frozen? ⟨pb,3,none⟩=false:=aB hb 3;have hib:(c.length:Int)<(A.length:Int):=by omega
 have hpb:pb<w.heap.size:=lt_of_heap hb;clear hc;have n0:=World.new_ne w _ c0;have n1:=World.new_ne w _ c1;have n2:=World.new_ne w _ e0;have n3:=World.new_ne w _ e1;have n4:=World.new_ne w _ e2;have n5:=World.new_ne w _ e3
 go_enter Tryz.func145,Tryz.ntmps145
 go_wp2_with fail
 go_region_held3 (fun w'=>w'.cell? ⟨pb,0,none⟩=some (.slice (some ⟨tb,0,none⟩) A.length cap)/\w'.cell? ⟨pb,1,none⟩=some (.int .i64 c.length)/\w'.cell? ⟨tb,c.length*4,none⟩=some (.int .u8 t.k)/\w'.cell? ⟨tb,c.length*4+1,none⟩=some (.string ⟨(Pl.rS t).toArray⟩)/\w'.cell? ⟨tb,c.length*4+2,none⟩=some (.int .i64 t.n)/\w'.cell? ⟨tb,c.length*4+3,none⟩=some (.int .i64 t.pl)) (go_keep) (fail)
 go_wp2_with fail
 go_ret
 refine⟨rfl,hP.put c HC.out (fun k hk hne=>(Below.heap_alloc _ _ _ (by simp;exact hk)).trans (bg hne _)) ?_,(((Fp.refl pb w).set 2 _).alloc _).drew⟩
 exact(Below.heap_alloc _ _ _ (by simp;exact hpb)).trans (heap_set (o:=2) hb (.bool true))
theorem T7(pb tb cap:Nat)(A r:List Pl.Tk)(t:Pl.Tk)(w:World)(hP:PS pb tb cap A (t::r) false w)(_hl:A.length<=402)(hk:t.k≠110):
  Calls Tryz.prog 145 #[.pointer (some ⟨pb,0,none⟩)] w fun e w'=>e=.returned (.int .i64 0)/\PS pb tb cap A (t::r) true w'/\Fp pb w w':=by
 obtain⟨c,hc,hb,e0,e1,e2,e3,hcl,jg⟩:=hP.cells;have HC:Hid (c++t::r=A):=hc;have c0:w.cell? ⟨pb,0,none⟩=some (.slice (some ⟨tb,0,none⟩) A.length cap):=cell_of hb 0;have c1:w.cell? ⟨pb,1,none⟩=some (.int .i64 c.length):=cell_of hb 1;have c2:w.cell? ⟨pb,2,none⟩=some (.bool false):=cell_of hb 2;have c3:w.cell? ⟨pb,3,none⟩=some (.int .i64 (bG c)):=cell_of hb 3;have f1:w.frozen? ⟨pb,1,none⟩=false:=aB hb 1;have f2:w.frozen? ⟨pb,2,none⟩=false:=aB hb 2;have f3:w.frozen? ⟨pb,3,none⟩=false:=aB hb 3;have hib:(c.length:Int)<(A.length:Int):=by omega
 have hpb:pb<w.heap.size:=lt_of_heap hb;clear hc;have hkb:((t.k:Int) != 110)=true:=by rw[bne_iff_ne];omega
 clear hk;have n0:=World.new_ne w _ c0;have n1:=World.new_ne w _ c1;have n2:=World.new_ne w _ e0;have n3:=World.new_ne w _ e1;have n4:=World.new_ne w _ e2;have n5:=World.new_ne w _ e3
 go_enter Tryz.func145,Tryz.ntmps145
 go_wp2_with fail
 go_region_held3 (fun w'=>w'.cell? ⟨pb,0,none⟩=some (.slice (some ⟨tb,0,none⟩) A.length cap)/\w'.cell? ⟨pb,1,none⟩=some (.int .i64 c.length)/\w'.cell? ⟨tb,c.length*4,none⟩=some (.int .u8 t.k)/\w'.cell? ⟨tb,c.length*4+1,none⟩=some (.string ⟨(Pl.rS t).toArray⟩)/\w'.cell? ⟨tb,c.length*4+2,none⟩=some (.int .i64 t.n)/\w'.cell? ⟨tb,c.length*4+3,none⟩=some (.int .i64 t.pl)) (go_keep) (fail)
 go_wp2_with fail
 go_ret
 refine⟨rfl,hP.put c HC.out (fun k hk hne=>(Below.heap_alloc _ _ _ (by simp;exact hk)).trans (bg hne _)) ?_,(((Fp.refl pb w).set 2 _).alloc _).drew⟩
 exact(Below.heap_alloc _ _ _ (by simp;exact hpb)).trans (heap_set (o:=2) hb (.bool true))
theorem aeR(pb tb cap:Nat)(A r:List Pl.Tk)(t:Pl.Tk)(w:World)(hP:PS pb tb cap A (t::r) false w)(hl:A.length<=402)(hk:t.k=110)(ho:∀c:List Pl.Tk,c++t::r=A->0<=bG c):
  Calls Tryz.prog 145 #[.pointer (some ⟨pb,0,none⟩)] w fun e w'=>e=.returned (.int .i64 t.n)/\PS pb tb cap A r false w'/\Fp pb w w':=by
 obtain⟨c,hc,hb,e0,e1,e2,e3,hcl,jg⟩:=hP.cells;have HC:Hid (c++t::r=A):=hc;have c0:w.cell? ⟨pb,0,none⟩=some (.slice (some ⟨tb,0,none⟩) A.length cap):=cell_of hb 0;have c1:w.cell? ⟨pb,1,none⟩=some (.int .i64 c.length):=cell_of hb 1;have c2:w.cell? ⟨pb,2,none⟩=some (.bool false):=cell_of hb 2;have c3:w.cell? ⟨pb,3,none⟩=some (.int .i64 (bG c)):=cell_of hb 3;have f1:w.frozen? ⟨pb,1,none⟩=false:=aB hb 1;have f2:w.frozen? ⟨pb,2,none⟩=false:=aB hb 2;have f3:w.frozen? ⟨pb,3,none⟩=false:=aB hb 3;have hib:(c.length:Int)<(A.length:Int):=by omega
 have hpb:pb<w.heap.size:=lt_of_heap hb;clear hc;rw[hk] at e0;have gv:=ho c HC.out;have hd:decide (bG c<0)=false:=by simp;omega
 have HO:Hid (bG (c++[t])=bG c):=by
  show _=_;unfold bG at gv⊢;rw[zo];cases h1:c.find? outT with
  |some u=>rfl
  |none=>rw[h1] at gv;simp at gv
 generalize bG c=oc at*;clear hk;have n0:=World.new_ne w _ c0;have n1:=World.new_ne w _ c1;have n2:=World.new_ne w _ e0;have n3:=World.new_ne w _ e1;have n4:=World.new_ne w _ e2;have n5:=World.new_ne w _ e3
 go_enter Tryz.func145,Tryz.ntmps145
 go_wp2_with fail
 go_region_held3 (fun w'=>w'.cell? ⟨pb,0,none⟩=some (.slice (some ⟨tb,0,none⟩) A.length cap)/\w'.cell? ⟨pb,1,none⟩=some (.int .i64 c.length)/\w'.cell? ⟨tb,c.length*4,none⟩=some (.int .u8 110)/\w'.cell? ⟨tb,c.length*4+1,none⟩=some (.string ⟨(Pl.rS t).toArray⟩)/\w'.cell? ⟨tb,c.length*4+2,none⟩=some (.int .i64 t.n)/\w'.cell? ⟨tb,c.length*4+3,none⟩=some (.int .i64 t.pl)) (go_keep) (fail)
 go_wp2_with fail
 go_ret
 refine⟨rfl,hP.put (c++[t]) (by rw[<-HC.out];simp) (fun k hk hne=>(Below.heap_alloc _ _ _ (by simp;exact hk)).trans (bg hne _)) ?_,(((Fp.refl pb w).set 1 _).alloc _).drew⟩
 have q:=(Below.heap_alloc _ (.cells #[.int .u8 110,.string ⟨(Pl.rS t).toArray⟩,.int .i64 t.n,.int .i64 t.pl] 61) _ (by simp;exact hpb)).trans (heap_set (w:=w) (o:=1) hb (.int .i64 ((c.length:Int)+1)))
 rw[HO.out];simp only[aS,bO,fE];exact q
theorem aeS(pb tb cap:Nat)(A r:List Pl.Tk)(t:Pl.Tk)(w:World)(hP:PS pb tb cap A (t::r) false w)(hl:A.length<=402)(hk:t.k=110)(ho:∀c:List Pl.Tk,c++t::r=A->bG c<0)(hin:kH 50 t.n=true):
  Calls Tryz.prog 145 #[.pointer (some ⟨pb,0,none⟩)] w fun e w'=>e=.returned (.int .i64 t.n)/\PS pb tb cap A r false w'/\Fp pb w w':=by
 obtain⟨c,hc,hb,e0,e1,e2,e3,hcl,jg⟩:=hP.cells;have HC:Hid (c++t::r=A):=hc;have c0:w.cell? ⟨pb,0,none⟩=some (.slice (some ⟨tb,0,none⟩) A.length cap):=cell_of hb 0;have c1:w.cell? ⟨pb,1,none⟩=some (.int .i64 c.length):=cell_of hb 1;have c2:w.cell? ⟨pb,2,none⟩=some (.bool false):=cell_of hb 2;have c3:w.cell? ⟨pb,3,none⟩=some (.int .i64 (bG c)):=cell_of hb 3;have f1:w.frozen? ⟨pb,1,none⟩=false:=aB hb 1;have f2:w.frozen? ⟨pb,2,none⟩=false:=aB hb 2;have f3:w.frozen? ⟨pb,3,none⟩=false:=aB hb 3;have hib:(c.length:Int)<(A.length:Int):=by omega
 have hpb:pb<w.heap.size:=lt_of_heap hb;clear hc;rw[hk] at e0;have gv:=ho c HC.out;have hr:=of_decide_eq_true hin;obtain⟨hr1,hr2⟩:=hr;have HO:Hid (bG (c++[t])=bG c):=by
  show _=_;unfold bG at gv⊢;rw[zo];cases h1:c.find? outT with
  |some u=>rfl
  |none=>simp[outT,hin]
 generalize bG c=oc at*;clear hin;clear hk;have n0:=World.new_ne w _ c0;have n1:=World.new_ne w _ c1;have n2:=World.new_ne w _ e0;have n3:=World.new_ne w _ e1;have n4:=World.new_ne w _ e2;have n5:=World.new_ne w _ e3
 go_enter Tryz.func145,Tryz.ntmps145
 go_wp2_with fail
 go_region_held3 (fun w'=>w'.cell? ⟨pb,0,none⟩=some (.slice (some ⟨tb,0,none⟩) A.length cap)/\w'.cell? ⟨pb,1,none⟩=some (.int .i64 c.length)/\w'.cell? ⟨tb,c.length*4,none⟩=some (.int .u8 110)/\w'.cell? ⟨tb,c.length*4+1,none⟩=some (.string ⟨(Pl.rS t).toArray⟩)/\w'.cell? ⟨tb,c.length*4+2,none⟩=some (.int .i64 t.n)/\w'.cell? ⟨tb,c.length*4+3,none⟩=some (.int .i64 t.pl)) (go_keep) (fail)
 go_wp2_with fail
 go_ret
 refine⟨rfl,hP.put (c++[t]) (by rw[<-HC.out];simp) (fun k hk hne=>(Below.heap_alloc _ _ _ (by simp;exact hk)).trans (bg hne _)) ?_,(((Fp.refl pb w).set 1 _).alloc _).drew⟩
 have q:=(Below.heap_alloc _ (.cells #[.int .u8 110,.string ⟨(Pl.rS t).toArray⟩,.int .i64 t.n,.int .i64 t.pl] 61) _ (by simp;exact hpb)).trans (heap_set (w:=w) (o:=1) hb (.int .i64 ((c.length:Int)+1)))
 rw[HO.out];simp only[aS,bO,fE];exact q
theorem aeT(pb tb cap:Nat)(A r:List Pl.Tk)(t:Pl.Tk)(w:World)(hP:PS pb tb cap A (t::r) false w)(hl:A.length<=402)(hk:t.k=110)(ho:∀c:List Pl.Tk,c++t::r=A->bG c<0)(hin:50<t.n):
  Calls Tryz.prog 145 #[.pointer (some ⟨pb,0,none⟩)] w fun e w'=>e=.returned (.int .i64 t.n)/\PS pb tb cap A r false w'/\Fp pb w w':=by
 obtain⟨c,hc,hb,e0,e1,e2,e3,hcl,jg⟩:=hP.cells;have HC:Hid (c++t::r=A):=hc;have c0:w.cell? ⟨pb,0,none⟩=some (.slice (some ⟨tb,0,none⟩) A.length cap):=cell_of hb 0;have c1:w.cell? ⟨pb,1,none⟩=some (.int .i64 c.length):=cell_of hb 1;have c2:w.cell? ⟨pb,2,none⟩=some (.bool false):=cell_of hb 2;have c3:w.cell? ⟨pb,3,none⟩=some (.int .i64 (bG c)):=cell_of hb 3;have f1:w.frozen? ⟨pb,1,none⟩=false:=aB hb 1;have f2:w.frozen? ⟨pb,2,none⟩=false:=aB hb 2;have f3:w.frozen? ⟨pb,3,none⟩=false:=aB hb 3;have hib:(c.length:Int)<(A.length:Int):=by omega
 have hpb:pb<w.heap.size:=lt_of_heap hb;clear hc;rw[hk] at e0;have gv:=ho c HC.out;have HO:Hid (bG (c++[t])=t.pl):=by
  show _=_;unfold bG at gv⊢;rw[zo];cases h1:c.find? outT with
  |some u=>rw[h1] at gv;simp at gv;omega
  |none=>
   have:outT t=true:=by unfold outT kH;simp[hk];omega
   simp[this]
 generalize bG c=oc at*;clear hk;have n0:=World.new_ne w _ c0;have n1:=World.new_ne w _ c1;have n2:=World.new_ne w _ e0;have n3:=World.new_ne w _ e1;have n4:=World.new_ne w _ e2;have n5:=World.new_ne w _ e3
 go_enter Tryz.func145,Tryz.ntmps145
 go_wp2_with fail
 go_region_held3 (fun w'=>w'.cell? ⟨pb,0,none⟩=some (.slice (some ⟨tb,0,none⟩) A.length cap)/\w'.cell? ⟨pb,1,none⟩=some (.int .i64 c.length)/\w'.cell? ⟨tb,c.length*4,none⟩=some (.int .u8 110)/\w'.cell? ⟨tb,c.length*4+1,none⟩=some (.string ⟨(Pl.rS t).toArray⟩)/\w'.cell? ⟨tb,c.length*4+2,none⟩=some (.int .i64 t.n)/\w'.cell? ⟨tb,c.length*4+3,none⟩=some (.int .i64 t.pl)) (go_keep) (fail)
 go_wp2_with fail
 go_ret
 refine⟨rfl,hP.put (c++[t]) (by rw[<-HC.out];simp) (fun k hk hne=>(Below.heap_alloc _ _ _ (by simp;exact hk)).trans ((bg hne _).trans (bg hne _))) ?_,((((Fp.refl pb w).set 1 _).set 3 _).alloc _).drew⟩
 have q:=(Below.heap_alloc _ (.cells #[.int .u8 110,.string ⟨(Pl.rS t).toArray⟩,.int .i64 t.n,.int .i64 t.pl] 61) _ (by simp;exact hpb)).trans (heap_set (o:=3) (heap_set (w:=w) (o:=1) hb (.int .i64 ((c.length:Int)+1))) (.int .i64 t.pl))
 rw[HO.out];simp only[aS,bO,fE];exact q
theorem aeU(pb tb cap:Nat)(A r:List Pl.Tk)(t:Pl.Tk)(w:World)(hP:PS pb tb cap A (t::r) false w)(hl:A.length<=402)(hk:t.k=110)(ho:∀c:List Pl.Tk,c++t::r=A->bG c<0)(hin:t.n< -50):
  Calls Tryz.prog 145 #[.pointer (some ⟨pb,0,none⟩)] w fun e w'=>e=.returned (.int .i64 t.n)/\PS pb tb cap A r false w'/\Fp pb w w':=by
 obtain⟨c,hc,hb,e0,e1,e2,e3,hcl,jg⟩:=hP.cells;have HC:Hid (c++t::r=A):=hc;have c0:w.cell? ⟨pb,0,none⟩=some (.slice (some ⟨tb,0,none⟩) A.length cap):=cell_of hb 0;have c1:w.cell? ⟨pb,1,none⟩=some (.int .i64 c.length):=cell_of hb 1;have c2:w.cell? ⟨pb,2,none⟩=some (.bool false):=cell_of hb 2;have c3:w.cell? ⟨pb,3,none⟩=some (.int .i64 (bG c)):=cell_of hb 3;have f1:w.frozen? ⟨pb,1,none⟩=false:=aB hb 1;have f2:w.frozen? ⟨pb,2,none⟩=false:=aB hb 2;have f3:w.frozen? ⟨pb,3,none⟩=false:=aB hb 3;have hib:(c.length:Int)<(A.length:Int):=by omega
 have hpb:pb<w.heap.size:=lt_of_heap hb;clear hc;rw[hk] at e0;have gv:=ho c HC.out;have anP:decide (50<t.n)=false:=by simp;omega
 have HO:Hid (bG (c++[t])=t.pl):=by
  show _=_;unfold bG at gv⊢;rw[zo];cases h1:c.find? outT with
  |some u=>rw[h1] at gv;simp at gv;omega
  |none=>
   have:outT t=true:=by unfold outT kH;simp[hk];omega
   simp[this]
 generalize bG c=oc at*;clear hk;have n0:=World.new_ne w _ c0;have n1:=World.new_ne w _ c1;have n2:=World.new_ne w _ e0;have n3:=World.new_ne w _ e1;have n4:=World.new_ne w _ e2;have n5:=World.new_ne w _ e3
 go_enter Tryz.func145,Tryz.ntmps145
 go_wp2_with fail
 go_region_held3 (fun w'=>w'.cell? ⟨pb,0,none⟩=some (.slice (some ⟨tb,0,none⟩) A.length cap)/\w'.cell? ⟨pb,1,none⟩=some (.int .i64 c.length)/\w'.cell? ⟨tb,c.length*4,none⟩=some (.int .u8 110)/\w'.cell? ⟨tb,c.length*4+1,none⟩=some (.string ⟨(Pl.rS t).toArray⟩)/\w'.cell? ⟨tb,c.length*4+2,none⟩=some (.int .i64 t.n)/\w'.cell? ⟨tb,c.length*4+3,none⟩=some (.int .i64 t.pl)) (go_keep) (fail)
 go_wp2_with fail
 go_ret
 refine⟨rfl,hP.put (c++[t]) (by rw[<-HC.out];simp) (fun k hk hne=>(Below.heap_alloc _ _ _ (by simp;exact hk)).trans ((bg hne _).trans (bg hne _))) ?_,((((Fp.refl pb w).set 1 _).set 3 _).alloc _).drew⟩
 have q:=(Below.heap_alloc _ (.cells #[.int .u8 110,.string ⟨(Pl.rS t).toArray⟩,.int .i64 t.n,.int .i64 t.pl] 61) _ (by simp;exact hpb)).trans (heap_set (o:=3) (heap_set (w:=w) (o:=1) hb (.int .i64 ((c.length:Int)+1))) (.int .i64 t.pl))
 rw[HO.out];simp only[aS,bO,fE];exact q
theorem Mk(pb tb cap:Nat)(A r:List Pl.Tk)(t:Pl.Tk)(w:World)(hP:PS pb tb cap A (t::r) false w)(hl:A.length<=402)(hk:t.k=110):
  Calls Tryz.prog 145 #[.pointer (some ⟨pb,0,none⟩)] w fun e w'=>e=.returned (.int .i64 t.n)/\PS pb tb cap A r false w'/\Fp pb w w':=by
 obtain⟨c,hc,_⟩:=hP.cells;have T8:∀c':List Pl.Tk,c'++t::r=A->c'=c:=fun c' h=>BR (h.trans hc.symm)
 by_cases h0:0<=bG c
 ·exact aeR pb tb cap A r t w hP hl hk (fun c' h=>by rw[T8 c' h];exact h0)
 ·have hn:∀c':List Pl.Tk,c'++t::r=A->bG c'<0:=fun c' h=>by rw[T8 c' h];omega
  by_cases h1:50<t.n
  ·exact aeT pb tb cap A r t w hP hl hk hn h1
  ·by_cases h2:t.n< -50
   ·exact aeU pb tb cap A r t w hP hl hk hn h2
   ·exact aeS pb tb cap A r t w hP hl hk hn (by unfold kH;simp;omega)
end Go.Proofs.YtkjhhooecopolaaGreatDoor

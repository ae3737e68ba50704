import Derived.Test.YtkjhhooecopolaaGreatDoorWz08
import Derived.Test.YtkjhhooecopolaaGreatDoorWz07
set_option maxRecDepth 100000
set_option maxHeartbeats 4000000
namespace Go.Proofs.YtkjhhooecopolaaGreatDoor
open Go.RowKit
def xH(b v:Int):Bool:=decide (-b<=v/\v<=b)
theorem SQ(v b:Int)(w:World)(h0:0<=b)(h1:b<=1000000):
  Calls Tryz.prog 34 #[.int .i64 v,.int .i64 b] w fun e w'=>e=.returned (.bool (xH b v))/\w'=w:=by
 by_cases h: -b<=v
 ·go_enter Tryz.func34,Tryz.ntmps34
  go_wp2
  go_ret
  exact⟨xq (by unfold xH;simp[h]),rfl⟩
 ·have h':decide (-b<=v)=false:=by simpa using h
  go_enter Tryz.func34,Tryz.ntmps34
  go_wp2
  go_ret
  exact⟨xq (by unfold xH;simp;omega),rfl⟩
theorem SR(s:ByteArray)(w:World)(hs:s.size<=400)(hG:Gl w):
  Calls Tryz.prog 60 #[.string s,.int .i64 0] w fun e w'=>e=.returned (.agg (fq (Pl.tk s.data.toList 0)))/\Below w.heap.size w w':=
 Ri Rw s 0 w (iD _) hs hG
theorem adt(s:List UInt8):∃r,Pl.all s=Pl.tk s 0::r:=Pl.GI s _ 0
theorem RD.fresh{s:ByteArray}{w:World}{o:Obj}(ho:o=.cells (GP s (Pl.tk s.data.toList 0) (.slice none 0 0) (.slice none 0 0)) 80 (0,0)):RD w.heap.size s (Pl.all s.data.toList) (Pl.all s.data.toList) [] (w.alloc o):=by
 obtain⟨r,hr⟩:=adt s.data.toList;refine⟨[],_,r,.slice none 0 0,.slice none 0 0,rfl,hr,?_,World.ownsRow_nil _ _ _ _,[],rfl,World.ownsRow_nil _ _ _ _,?_,?_⟩
 ·rw[heap_alloc_new,ho]
 ·intro i v g hi;simp at hi
 ·intro i j v u k hi;simp at hi
theorem Cx.mk'{s:ByteArray}{rb:Nat}(hs:s.size<=400)(vB:6<=rb):Cx rb s (Pl.all s.data.toList):=
 ⟨hs,Pl.Ct _,by have:=Pl.GL s.data.toList;simp at this;omega,Pl.GK _,vB⟩
def outT(t:Pl.Tk):Bool:=decide (t.k=110)&& !xH 50 t.n
theorem pK(c:List Pl.Tk)(k:Nat)(t:Pl.Tk)(h:c[k]?=some t)(j:Nat)(hj:j<4):(oz c)[k*4+j]?=(fq t)[j]?:=by
 induction c generalizing k with
 |nil=>simp at h
 |cons a r ih=>
  cases k with
  |zero=>
   have:a=t:=by simpa using h
   subst this;simp only[oz,po,BA,ki];rw[fC (by simp[fq];omega)]
   simp
  |succ k=>
   have h':r[k]?=some t:=by simpa using h
   have:=ih k h';simp only[oz,po] at this⊢;rw[n9 (by simp[fq];omega)]
   rw[<-this];congr 1;simp[fq];omega
theorem adu(s:ByteArray)(w:World)(hs:400<s.size)(hm:s.size<=maxLen):
  Calls Tryz.prog 33 #[.string s] w fun e w'=>e=.returned (.tuple #[.pointer none,.int .i64 1,.int .i64 0])/\w'=w:=by
 unfold maxLen at hm
 go_enter Tryz.func33,Tryz.ntmps33
 go_wp2
 go_ret3
 exact⟨rfl,rfl⟩
theorem adw(s:ByteArray)(w:World)(hs:s.size<=400)(hG:Gl w)(l':List Pl.Tk)(t:Pl.Tk)(r:List Pl.Tk)(b:Bool)(v:List (List (List (Int×Int))))
  (hp:Pl.cz (Pl.all s.data.toList)=(b,l',v))(hl:l'=t::r)(hbad:b=false\/t.k≠101):
  Calls Tryz.prog 33 #[.string s] w fun e w'=>e=.returned (.tuple #[.pointer none,.int .i64 2,.int .i64 t.pl])/\Below w.heap.size w w':=by
 have HP:Hid (Pl.cz (Pl.all s.data.toList)=(b,l',v)):=hp;have HT:Hid (∀w1,Gl w1->Calls Tryz.prog 60 #[.string s,.int .i64 0] w1 fun e w'=>e=.returned (.agg (fq (Pl.tk s.data.toList 0)))/\Below w1.heap.size w1 w'):=fun w1 g1=>SR s w1 hs g1
 clear hp;generalize hk:Pl.tk s.data.toList 0=t0 at*;have HK:Hid (Pl.tk s.data.toList 0=t0):=hk;unfold fq at HT;clear hk
 go_enter Tryz.func33,Tryz.ntmps33
 go_wp2_with fail
 refine(HT.out _ hG).mono ?_;rintro e w1 ⟨rfl,hb1⟩;have bO:Gl w1:=hG.below hb1 hG.sz
 go_wp2_with fail
 have Hk:RD w1.heap.size s (Pl.all s.data.toList) (Pl.all s.data.toList) [] (w1.alloc (.cells (GP s t0 (.slice none 0 0) (.slice none 0 0)) 80)):=RD.fresh (by rw[HK.out])
 have cx:Cx w1.heap.size s (Pl.all s.data.toList):=Cx.mk' hs bO.sz;refine(SM SP w1.heap.size s _ _ _ cx Hk (bO.alloc _)).mono ?_;rintro e w2 ⟨rfl,⟨zJ,cD,hrg2⟩,hb2⟩;rw[HP.out] at cD⊢;simp only at cD⊢;subst hl;obtain⟨t',r',hl,c0,c1,c2,c3,c4⟩:=cD.cells;injection hl with h1 h2;subst h1 h2;have aw:Below w.heap.size w w2:=((hb1.alloc hb1.size _).trans (hb2.mono hb1.size));cases b
 ·go_wp2_with fail
  go_quiet (fail)
  go_wp2_with fail
  go_ret3
  exact⟨rfl,⟨aw.os,aw.tape,aw.output,aw.size,aw.block⟩⟩
 ·have hk:(Pl.pk t != 1)=true:=by
   rw[Kr];intro h;rcases hbad with h'|h'
   ·cases h'
   ·exact h' (Pl.Ry.1 h)
  go_wp2_with fail
  go_quiet (fail)
  go_wp2_with fail
  go_ret3
  exact⟨rfl,⟨aw.os,aw.tape,aw.output,aw.size,aw.block⟩⟩
theorem SS:(Tryz.prog.info? 196).map (·.size)=some 2:=by kernel_rfl
theorem adx:liesAt Tryz.prog Tryz.prog.depth 196 (2/Tryz.prog.cellsOf 196) 0 196 1=true:=by kernel_rfl
theorem ady(_B b:Nat)(v:Value)(w:World)(hbk:w.heap[b]?=some (.cells #[.pointer none,v] 196 (0,0))):
  Calls Tryz.prog 177 #[.pointer (some ⟨b,0,none⟩)] w fun e w'=>e=.returned (.tuple #[])/\w'=w.setCell ⟨b,0,none⟩ (.pointer (some ⟨b,0,none⟩)):=by
 have c0:w.cell? ⟨b,0,none⟩=some (.pointer none):=cell_of hbk 0;have f0:w.frozen? ⟨b,0,none⟩=false:=bw hbk 0
 go_enter Tryz.func177,Tryz.ntmps177
 have hsh:w.shape? b=some (196,2):=by simp[World.shape?,hbk]
 obtain⟨j,hj,hjs⟩:=pA.1 SS
 go_wp2
 rw[Lib.run_to_unsafe w ⟨b,0,none⟩ Tryz.underlying193 Tryz.underlying290 hj (by rw[hjs];decide) hsh (Nat.zero_lt_succ 1)]
 simp only[Result.andThen];rw[Oper.upon_value]
 go_wp2
 rw[run_callFunc_extern Tryz.func218 (by kernel_rfl) (by kernel_rfl) (by kernel_rfl) (e:=Extern.AbiNoEscape.same) (by kernel_rfl)]
 rw[Lib.run_noEscape];simp only[Result.andThen];rw[Oper.upon_value]
 go_wp2
 rw[Lib.run_from_unsafe w ⟨b,0,none⟩ Tryz.underlying290 Tryz.underlying193 hj hsh adx];simp only[Result.andThen];rw[Oper.upon_value]
 go_wp2
 go_end0
 exact⟨rfl,rfl⟩
theorem adz(b:Nat)(v:Value)(w:World)(hbk:w.heap[b]?=some (.cells #[.pointer (some ⟨b,0,none⟩),v] 196 (0,0))):
  Calls Tryz.prog 177 #[.pointer (some ⟨b,0,none⟩)] w fun e w'=>e=.returned (.tuple #[])/\w'=w:=by
 have c0:w.cell? ⟨b,0,none⟩=some (.pointer (some ⟨b,0,none⟩)):=cell_of hbk 0
 go_enter Tryz.func177,Tryz.ntmps177
 obtain⟨j,hj,_⟩:=pA.1 SS
 go_wp2
 rw[Lib.run_neq_ptr_same w _ Tryz.underlying193 hj]
 go_wp2
 go_end0
 exact⟨rfl,rfl⟩
theorem SU(B b:Nat)(bs:List Value)(w:World)(h:Lib.IsBuilder 196 5 B b bs w):
  Calls Tryz.prog 177 #[.pointer (some ⟨b,0,none⟩)] w fun e w'=>e=.returned (.tuple #[])/\Lib.BuilderAt 196 5 B b (.pointer (some ⟨b,0,none⟩)) bs w'/\Below B w w'/\Lib.OthersKept 5 (some b) w w'/\w'.heap.size=w.heap.size:=by
 rcases h with⟨hB,v,hbk,hown,hne⟩|⟨hB,v,hbk,hown,hne⟩
 ·refine(ady B b v w hbk).mono ?_;rintro e w' ⟨rfl,rfl⟩;refine⟨rfl,⟨hB,v,heap_set hbk _,aU hown fun k hk=>ir (fun e=>hne (by rw[hk,e])) _,hne⟩,(Below.refl _ _).setCell hB _,(Lib.OthersKept.refl _ _ _).setCell ⟨b,0,none⟩ rfl _,by simp⟩
 ·refine(adz b v w hbk).mono ?_;rintro e w' ⟨rfl,rfl⟩;exact⟨rfl,⟨hB,v,hbk,hown,hne⟩,Below.refl _ _,Lib.OthersKept.refl _ _ _,rfl⟩
theorem SV:(Tryz.prog.info? 5).map (fun i=>(i.zero,i.size,i.bytes))=some (some (.int .u8 0),1,1):=by kernel_rfl
theorem SY{w:World}{B:Nat}{e:TypeId}{size:Nat}{v:Value}{n:Nat}{xs:List Value}(h:w.ownsRow B e size v n xs):∀g,v.ownBlock=some g->∃c fz,w.heap[g]?=some (.cells c e fz):=fun g hg=>by
 obtain⟨c,hc⟩:=xw h hg;exact⟨c,_,hc⟩
theorem SZ(B b:Nat)(bs:List Value)(c:Int)(w:World)(h:Lib.IsBuilder 196 5 B b bs w)(hBw:B<=w.heap.size)(hlen:bs.length<=1000000):
  Calls Tryz.prog 118 #[.pointer (some ⟨b,0,none⟩),.int .u8 c] w fun e w'=>e=.returned .nilIface/\Lib.IsBuilder 196 5 B b (bs++[.int .u8 c]) w'/\Below B w w'/\Lib.OthersKept 5 (some b) w w':=by
 obtain⟨i0,hi,hz0,hz1,hz2⟩:=info_parts SV
 go_enter Tryz.func118,Tryz.ntmps118
 go_wp2_with fail
 refine(SU B b bs _ h).mono ?_;rintro e w1 ⟨rfl,⟨hB,v,hbk,hown,hne⟩,hb1,hk1,hsz⟩;have c1:w1.cell? ⟨b,1,none⟩=some v:=cell_of hbk 1;have hlt:=lt_of_heap hbk;have HSZ:Hid (w1.heap.size=w.heap.size):=hsz;have vM:B<=w1.heap.size:=by omega
 clear hsz
 go_wp2_with (at_builtin;refine wpList_append_lies _ rfl (.tmp 11) (.tmp 13) 194 rfl B 5 i0 _ 1 1 Tryz.underlying194 hi hz0 hz1 hz2 rfl (by decide) v bs.length bs rfl (aU hown (fun k hk=>Below.heap_alloc _ _ _ (aB hown k hk).2)) ⟨w1.heap.size,0,none⟩ 1 1 [.int .u8 c] rfl rfl (World.news_of_block (cs:= #[.int .u8 c]) (t:=5) (fr:=(0,0)) (heap_alloc_new w1 _)) (by simp[Value.oneCell']) (by decide) (by unfold maxLen;omega) (by omega) (by simp;omega) (w1.heap.size+1) (by simp) ?_;intro g cap w2 ho hgrow hat qw;have hb2:=(Cv hgrow b hlt hne).trans hbk;have d1:w2.cell? ⟨b,1,none⟩=some v:=cell_of hb2 1;have f1:w2.frozen? ⟨b,1,none⟩=false:=bw hb2 1)
 go_ret
 have hgb:g≠b:=fun e=>by
  rcases hat with h|h
  ·exact hne (by rw[h,e])
  ·omega
 refine⟨rfl,ah ⟨hB,_,heap_set hb2 _,?_,fun e=>hgb (by simpa[Value.ownBlock] using e)⟩,?_,?_⟩
 ·simp only[aX,cN,gP,ki];exact aU ho fun k hk=>ir (fun e=>hgb (by rw[<-e];simpa[Value.ownBlock] using hk)) _
 ·exact(((hb1.alloc vM _).grown hgrow (by simp;omega) (fun k hk=>(aB hown k hk).1))).setCell hB _
 ·exact((hk1.alloc _).grown hgrow (fun g hg=>by
   obtain⟨c,fz,hc⟩:=SY hown g hg;exact⟨c,fz,(Below.heap_alloc _ _ _ (lt_of_heap hc)).trans hc⟩)).setCell ⟨b,1,none⟩ rfl _
theorem Hl(B b:Nat)(bs:List Value)(s:ByteArray)(w:World)(h:Lib.IsBuilder 196 5 B b bs w)(hBw:B<=w.heap.size)(hlen:bs.length<=1000000)(hs:s.size<=1000000):
  Calls Tryz.prog 119 #[.pointer (some ⟨b,0,none⟩),.string s] w fun e w'=>e=.returned (.tuple #[.int .i64 s.size,.nilIface])/\Lib.IsBuilder 196 5 B b (bs++Lib.strCells s) w'/\Below B w w'/\Lib.OthersKept 5 (some b) w w':=by
 obtain⟨i0,hi,hz0,hz1,hz2⟩:=info_parts SV
 go_enter Tryz.func119,Tryz.ntmps119
 go_wp2_with fail
 refine(SU B b bs _ h).mono ?_;rintro e w1 ⟨rfl,⟨hB,v,hbk,hown,hne⟩,hb1,hk1,hsz⟩;have c1:w1.cell? ⟨b,1,none⟩=some v:=cell_of hbk 1;have hlt:=lt_of_heap hbk;have vM:B<=w1.heap.size:=by omega
 clear hsz
 go_wp2_with (at_builtin;refine Lib.wpList_append_own_string _ rfl (.tmp 12) (.tmp 13) 194 9 rfl B 5 i0 Tryz.underlying194 Tryz.underlying9 hi hz0 hz1 hz2 v bs.length bs rfl hown s rfl (by unfold maxLen;omega) (by omega) vM ?_)
 intro v' w2 hown' hgrow _;have hb2:=(hgrow.block b hlt (fun e=>hne e.symm)).trans hbk
 have d1:w2.cell? ⟨b,1,none⟩=some v:=cell_of hb2 1;have f1:w2.frozen? ⟨b,1,none⟩=false:=bw hb2 1;obtain⟨ao,n',cap,rfl⟩:∃ao n' cap,v'=.slice ao n' cap:=by
  rcases hown'.2 with⟨hv,_⟩|⟨g,cap,cur,hv,_⟩
  ·exact⟨_,_,_,hv⟩
  ·exact⟨_,_,_,hv⟩
 go_wp2
 go_ret2
 have hnb:(Value.slice ao n' cap).ownBlock≠some b:=ua hown' hb2 (by decide)
 refine⟨rfl,ah ⟨hB,_,heap_set hb2 _,?_,hnb⟩,?_,?_⟩
 ·have e:(bs++Lib.strCells s).length=bs.length+s.size:=by
   have:=hown'.1;omega
  rw[e];exact aU hown' fun k hk=>ir (fun e=>hnb (by rw[hk,e])) _
 ·exact(hb1.grown hgrow vM (fun k hk=>(aB hown k hk).1)).setCell hB _
 ·exact(hk1.grown hgrow (SY hown)).setCell ⟨b,1,none⟩ rfl _
theorem addr_add(g j:Nat):(⟨g,0,none⟩:Addr).add j=⟨g,j,none⟩:=by
 unfold Addr.add;split<;>simp_all
def adA(s:ByteArray)(l':List Pl.Tk)(v:List (List (List (Int×Int))))(w:World)(o:Option Pl.Tk)(e:Ending)(w':World):Prop:=
 Below w.heap.size w w'/\((∃u,o=some u/\e=.returned (.tuple #[.pointer none,.int .i64 3,.int .i64 u.pl]))\/
  (o=none/\∃rb,e=.returned (.tuple #[.pointer (some ⟨rb,0,none⟩),.int .i64 0,.int .i64 0])/\w.heap.size<=rb/\RD rb s (Pl.all s.data.toList) l' v.flatten w'))
theorem LX{α:Type}(p:α->Bool)(c:List α)(k:Nat)(a:α)(h:c[k]?=some a)(hn:(c.take k).find? p=none):
  (p a=false->(c.take (k+1)).find? p=none)/\(p a=true->c.find? p=some a):=by
 have hk:=(bZ.1 h).1;have ha:c[k]=a:=(bZ.1 h).2;have e:c.take (k+1)=c.take k++[a]:=by rw[uX hk,ha]
 constructor
 ·intro hp;rw[e,aa5,hn];simp[hp]
 ·intro hp;have e2:c=(c.take k++[a])++c.drop (k+1):=by rw[<-e,KA]
  rw[e2,aa5,aa5,hn];simp[hp]
theorem adB(s:ByteArray)(w:World)(hs:s.size<=400)(hG:Gl w)(t:Pl.Tk)(r c:List Pl.Tk)(v:List (List (List (Int×Int))))
  (hp:Pl.cz (Pl.all s.data.toList)=(true,t::r,v))(ht:t.k=101)(hc:c++t::r=Pl.all s.data.toList)(hc0:0<c.length):
  Calls Tryz.prog 33 #[.string s] w (adA s (t::r) v w (c.find? outT)):=by
 have HP:Hid (Pl.cz (Pl.all s.data.toList)=(true,t::r,v)):=hp;have HT:Hid (∀w1,Gl w1->Calls Tryz.prog 60 #[.string s,.int .i64 0] w1 fun e w'=>e=.returned (.agg (fq (Pl.tk s.data.toList 0)))/\Below w1.heap.size w1 w'):=fun w1 g1=>SR s w1 hs g1
 have hk1:(Pl.pk t != 1)=false:=by rw[Pl.Ry.2 ht];rfl
 have HC:Hid (c++t::r=Pl.all s.data.toList):=hc;have hcl:c.length<=402:=by
  have:=Pl.GL s.data.toList;rw[<-hc] at this;simp at this;omega
 clear hp hc ht;generalize hk:Pl.tk s.data.toList 0=t0 at*;have HK:Hid (Pl.tk s.data.toList 0=t0):=hk;unfold fq at HT;clear hk;generalize hF:c.find? outT=F;have HF:Hid (c.find? outT=F):=hF;clear hF
 go_enter Tryz.func33,Tryz.ntmps33
 go_wp2_with fail
 refine(HT.out _ hG).mono ?_;rintro e w1 ⟨rfl,hb1⟩;have bO:Gl w1:=hG.below hb1 hG.sz
 go_wp2_with fail
 have Hk:RD w1.heap.size s (Pl.all s.data.toList) (Pl.all s.data.toList) [] (w1.alloc (.cells (GP s t0 (.slice none 0 0) (.slice none 0 0)) 80)):=RD.fresh (by rw[HK.out])
 have cx:Cx w1.heap.size s (Pl.all s.data.toList):=Cx.mk' hs bO.sz;refine(SM SP w1.heap.size s _ _ _ cx Hk (bO.alloc _)).mono ?_;rintro e w2 ⟨rfl,⟨zJ,cD,hrg2⟩,hb2⟩;rw[HP.out] at cD hrg2⊢;simp only at cD hrg2⊢;have hrg:=hrg2 trivial;subst hrg;clear hrg2 Hk;obtain⟨c',t',r',tv,rv,hc',hl,hbk,hown,Lu⟩:=id cD;injection hl with h1 h2;subst h1 h2;have hcc:c'=c:=by
  have:=HC.out;rw[<-hc'] at this;exact(Qv this).symm
 subst hcc;obtain⟨g,cap,rfl,hg1,hg2⟩:=hown.form hc0;have c1:w2.cell? ⟨w1.heap.size,1,none⟩=some (.int .i64 (Pl.pk t)):=cell_of hbk 1;have c5:w2.cell? ⟨w1.heap.size,5,none⟩=some (.slice (some ⟨g,0,none⟩) c'.length cap):=cell_of hbk 5;have hrow:=hown.cells (g:=g) rfl;have mP:Hid (∀j u,(oz c')[j]?=some u->w2.cell? ⟨g,j,none⟩=some u):=fun j u h=>by
  have:=hrow j u h;rwa[addr_add] at this
 have aw:Below w.heap.size w w2:=((hb1.alloc hb1.size _).trans (hb2.mono hb1.size));have hw1:w.heap.size<=w1.heap.size:=hb1.size;clear hrow hown Lu hbk hc' HT HP HK
 go_wp2_with fail
 go_loopg [37] c'.length (fun n i wr=>∃k:Nat,k+n=c'.length/\i=.int .i64 k/\Hid ((c'.take k).find? outT=none)/\Below w2.heap.size w2 wr)
 case atStart=>exact⟨0,by omega,rfl,by show _=_;simp,Below.refl _ _⟩
 case round=>
  obtain⟨k,hkn,rfl,hnone,hbr⟩:=hrel;by_cases hlt:k<c'.length
  ·obtain⟨u,hu⟩:∃u,c'[k]?=some u:=⟨_,aC hlt⟩;have HU:Hid (c'[k]?=some u):=hu;have e0:wr.cell? ⟨g,k*4,none⟩=some (.int .i64 (Pl.pk u)):=by
    rw[hbr.cell (p:=⟨g,k*4,none⟩) hg2];exact mP.out (k*4) (.int .i64 (Pl.pk u)) (by have:=pK c' k u hu 0 (by omega);rw[pD] at this;rw[this];rfl)
   have e1:wr.cell? ⟨g,k*4+1,none⟩=some (.string ⟨(Pl.bB u).toArray⟩):=by
    rw[hbr.cell (p:=⟨g,k*4+1,none⟩) hg2];exact mP.out (k*4+1) (.string ⟨(Pl.bB u).toArray⟩) (by rw[pK c' k u hu 1 (by omega)];rfl)
   have e2:wr.cell? ⟨g,k*4+2,none⟩=some (.int .i64 u.n):=by
    rw[hbr.cell (p:=⟨g,k*4+2,none⟩) hg2];exact mP.out (k*4+2) (.int .i64 u.n) (by rw[pK c' k u hu 2 (by omega)];rfl)
   have e3:wr.cell? ⟨g,k*4+3,none⟩=some (.int .i64 u.pl):=by
    rw[hbr.cell (p:=⟨g,k*4+3,none⟩) hg2];exact mP.out (k*4+3) (.int .i64 u.pl) (by rw[pK c' k u hu 3 (by omega)];rfl)
   clear hu;by_cases Hm:u.k=110
   ·have qA:Pl.pk u=3:=Pl.vC.2 Hm;rw[qA] at e0;cases hin:xH 50 u.n
    ·have ho:F=some u:=by
      rw[<-HF.out];exact(LX outT c' k u HU.out hnone.out).2 (by unfold outT;simp[Hm,hin])
     subst ho
     go_wp2_with fail
     refine(SQ u.n 50 _ (by omega) (by omega)).mono ?_
     rintro e w3 ⟨rfl,rfl⟩
     go_wp2_with fail
     go_quiet (fail)
     go_wp2_with fail
     go_ret3
     refine⟨?_,ag ⟨u,rfl,rfl⟩⟩;have q:Below w.heap.size w (wr.alloc (.cells #[.int .i64 3,.string ⟨(Pl.bB u).toArray⟩,.int .i64 u.n,.int .i64 u.pl] 76)):=(aw.trans (hbr.mono aw.size)).alloc (fg aw.size hbr.size) _;exact⟨q.os,q.tape,q.output,q.size,q.block⟩
    ·have hn:Hid ((c'.take (k+1)).find? outT=none):=(LX outT c' k u HU.out hnone.out).1 (by unfold outT;simp[hin])
     go_wp2_with fail
     refine(SQ u.n 50 _ (by omega) (by omega)).mono ?_
     rintro e w3 ⟨rfl,rfl⟩
     go_wp2_with fail
     go_roundg (gk-1)
     case measure=>omega
     case rel=>exact⟨k+1,by omega,by go_num,hn,hbr.alloc hbr.size _⟩
   ·have hn:Hid ((c'.take (k+1)).find? outT=none):=(LX outT c' k u HU.out hnone.out).1 (by unfold outT;simp[Hm])
    have qA:(Pl.pk u == 3)=false:=by
     rw[yU];intro h;exact Hm (Pl.vC.1 h)
    generalize Pl.pk u=pku at*
    go_wp2_with fail
    go_roundg (gk-1)
    case measure=>omega
    case rel=>exact⟨k+1,by omega,by go_num,hn,hbr.alloc hbr.size _⟩
  ·have ho:F=none:=by
    rw[<-HF.out];have:=hnone.out;rwa[uZ (by omega)] at this
   subst ho
   go_wp2_with fail
   go_ret3
   exact⟨aw.trans (hbr.mono aw.size),ah ⟨rfl,w1.heap.size,rfl,hw1,cD.below hbr⟩⟩
namespace Pl
def wr(t:Tk):List UInt8:=if t.k=110 then Lib.itoa t.n else bB t
def bb(a b:Tk):Bool:=decide (bB a=[44])||(decide (a.k=110)&&decide (b.k=110))
def eA:Tk->List Tk->List UInt8
 |_,[]=>[]
 |p,t::r=>(if bb p t=true then[32] else[])++(wr t++eA t r)
def wt:List Tk->List UInt8
 |[]=>[]
 |[t]=>wr t
 |a::b::r=>wr a++([32]++(wr b++eA b r))
theorem adD(p:Tk)(l:List Tk)(x:Tk):eA p (l++[x])=eA p l++((if bb ((p::l).getLast (by simp)) x=true then[32] else[])++wr x):=by
 induction l generalizing p with
 |nil=>
  simp only[qd,eA,q9,List.getLast_singleton];rfl
 |cons a r ih=>
  rw[kZ,eA,ih a,eA];rw[List.getLast_cons (by simp:a::r≠[])]
  simp[List.append_assoc]
theorem adE(a b:Tk)(r:List Tk)(x:Tk):wt (a::b::r++[x])=wt (a::b::r)++((if bb ((b::r).getLast (by simp)) x=true then[32] else[])++wr x):=by
 show wr a++([32]++(wr b++eA b (r++[x])))=_;rw[adD];simp[wt,List.append_assoc]
theorem Hn(c:List Tk)(k:Nat)(x y:Tk)(hx:c[k]?=some x)(hy:2<=k->c[k-1]?=some y):
  wt (c.take (k+1))=wt (c.take k)++((if k=0 then[] else if k=1 then[32] else if bb y x=true then[32] else[])++wr x):=by
 have hk:=(bZ.1 hx).1;have ex:c[k]=x:=(bZ.1 hx).2;have e:c.take (k+1)=c.take k++[x]:=by rw[uX hk,ex]
 rw[e];by_cases h0:k=0
 ·subst h0;simp[wt]
 ·by_cases h1:k=1
  ·subst h1;obtain⟨a,r,hc⟩:∃a r,c=a::r:=by
    cases c with
    |nil=>simp at hk
    |cons a r=>exact⟨a,r,rfl⟩
   subst hc;simp[wt,eA]
  ·rw[af h0,af h1];have hy':=hy (by omega)
   match c,hk,hx,hy' with
   |[],hk,_,_=>simp at hk
   |[_],hk,_,_=>simp at hk;omega
   |a::b::r,hk,hx,hy'=>
    obtain⟨m,rfl⟩:∃m,k=m+2:=⟨k-2,by omega⟩
    simp only[Bx];rw[adE];have hl:(b::r.take m).getLast (by simp)=y:=by
     have h2:(b::r)[m]?=some y:=by simpa using hy'
     rw[List.getLast_eq_getElem];have hm:m<=r.length:=by simp at hk;omega
     have h3:(b::List.take m r)[m]?=some y:=by
      rw[<-Bx,kj,aj (by omega)]
      exact h2
     have h4:=(bZ.1 h3);have h5:(b::List.take m r).length-1=m:=by simp;omega
     simp only[h5];exact h4.2
    rw[hl]
end Pl
theorem Ho(t:Pl.Tk)(w:World)(hG:Gl w)(hn:t.k=110-> -9223372036854775808<=t.n/\t.n<=9223372036854775807):
  Calls Tryz.prog 120 #[.agg #[.int .i64 (Pl.pk t),.string ⟨(Pl.bB t).toArray⟩,.int .i64 t.n,.int .i64 t.pl]] w fun e w'=>e=.returned (.string ⟨(Pl.wr t).toArray⟩)/\Below w.heap.size w w':=by
 by_cases hk:t.k=110
 ·have e:Pl.wr t=Lib.itoa t.n:=by unfold Pl.wr;rw[aj hk]
  rw[e,Pl.vC.2 hk];obtain⟨lV,rJ⟩:=hn hk;clear hn;have HI:Hid (∀w1,Gl w1->Calls Tryz.prog 146 #[.int .i64 t.n] w1 fun e w'=>e=.returned (.string ⟨(Lib.itoa t.n).toArray⟩)/\Below w1.heap.size w1 w'):=fun w1 g1=>by
   refine(Tryz.strconv_Itoa t.n lV rJ w1 g1.tab).mono ?_;rintro e w' ⟨rfl,k,os,rfl⟩;exact⟨rfl,Lib.below_grow _ _ (ay _) _ _⟩
  clear lV rJ
  go_enter Tryz.func120,Tryz.ntmps120
  go_wp2_with fail
  refine(HI.out _ (hG.alloc _)).mono ?_;rintro e w1 ⟨rfl,hb⟩
  go_wp2_with fail
  go_ret
  exact⟨rfl,((Below.refl _ _).alloc (ay _) _).trans (hb.mono (by simp))⟩
 ·have e:Pl.wr t=Pl.bB t:=by unfold Pl.wr;rw[af hk]
  rw[e];have qA:(Pl.pk t == 3)=false:=by
   rw[yU];intro h;exact hk (Pl.vC.1 h)
  generalize Pl.pk t=pku at*
  go_enter Tryz.func120,Tryz.ntmps120
  go_wp2
  go_ret
  exact⟨rfl,(Below.refl _ _).alloc (ay _) _⟩
theorem adF(a b:Pl.Tk)(w:World):
  Calls Tryz.prog 117 #[.agg #[.int .i64 (Pl.pk a),.string ⟨(Pl.bB a).toArray⟩,.int .i64 a.n,.int .i64 a.pl],.agg #[.int .i64 (Pl.pk b),.string ⟨(Pl.bB b).toArray⟩,.int .i64 b.n,.int .i64 b.pl]] w fun e w'=>e=.returned (.bool (Pl.bb a b))/\Below w.heap.size w w':=by
 have aw:∀o1 o2,Below w.heap.size w ((w.alloc o1).alloc o2):=fun o1 o2=>((Below.refl _ _).alloc (ay _) _).alloc (by simp) _
 have hc:((⟨(Pl.bB a).toArray⟩:ByteArray).toList == [44])=decide (Pl.bB a=[44]):=by
  rw[ByteArray.toList_eq,lg];simp
 cases h1:decide (Pl.bB a=[44])
 ·rw[h1] at hc;have e1:Pl.bb a b=(decide (a.k=110)&&decide (b.k=110)):=by unfold Pl.bb;rw[h1];rfl
  rw[e1];have hpa:(Pl.pk a == 3)=decide (a.k=110):=by
   rw[lg];simp[Pl.vC]
  have hpb:(Pl.pk b == 3)=decide (b.k=110):=by
   rw[lg];simp[Pl.vC]
  generalize(⟨(Pl.bB a).toArray⟩:ByteArray)=ra at*;generalize(⟨(Pl.bB b).toArray⟩:ByteArray)=rb at*;generalize decide (a.k=110)=da at*;generalize decide (b.k=110)=db at*;generalize Pl.pk a=pa at*;generalize Pl.pk b=pb at*;clear h1 e1;cases da
  ·go_enter Tryz.func117,Tryz.ntmps117
   go_wp2
   go_ret
   exact⟨rfl,aw _ _⟩
  ·go_enter Tryz.func117,Tryz.ntmps117
   go_wp2
   go_ret
   exact⟨xq (by simp),aw _ _⟩
 ·rw[h1] at hc;have e1:Pl.bb a b=true:=by unfold Pl.bb;rw[h1];rfl
  rw[e1];generalize(⟨(Pl.bB a).toArray⟩:ByteArray)=ra at*;clear h1 e1
  go_enter Tryz.func117,Tryz.ntmps117
  go_wp2
  go_ret
  exact⟨rfl,aw _ _⟩
theorem zK{B b:Nat}{bs:List Value}{w w':World}(h:Lib.IsBuilder 196 5 B b bs w)(hb:Below w.heap.size w w'):Lib.IsBuilder 196 5 B b bs w':=by
 rcases h with⟨hB,v,hbk,hown,hne⟩|⟨hB,v,hbk,hown,hne⟩
 ·exact ag ⟨hB,v,(hb.block b (lt_of_heap hbk)).trans hbk,aU hown fun k hk=>hb.block k (aB hown k hk).2,hne⟩
 ·exact ah ⟨hB,v,(hb.block b (lt_of_heap hbk)).trans hbk,aU hown fun k hk=>hb.block k (aB hown k hk).2,hne⟩
theorem S3(l:List UInt8):Lib.byteCells l++[.int .u8 32]=Lib.byteCells (l++[32]):=by simp[Lib.byteCells]
theorem Hp(l r:List UInt8):Lib.byteCells l++Lib.strCells ⟨r.toArray⟩=Lib.byteCells (l++r):=by simp[Lib.byteCells,Lib.strCells]
def Wrote(w:World)(c:List Pl.Tk)(k:Nat)(wr:World):Prop:=
 Lib.IsBuilder 196 5 w.heap.size w.heap.size (Lib.byteCells (Pl.wt (c.take k))) wr/\Below w.heap.size w wr/\Gl wr/\w.heap.size<wr.heap.size
theorem Gl.drewN{w:World}(h:Gl w)(n:Nat):Gl (w.drewN n):=⟨h.sz,h.es,h.er,h.tab⟩
theorem zL{B:Nat}{w w':World}(h:Below B w w')(n:Nat):Below B w (w'.drewN n):=⟨h.os,h.tape,h.output,h.size,h.block⟩
theorem S4{B b n:Nat}{bs:List Value}{w:World}(h:Lib.IsBuilder 196 5 B b bs w):Lib.IsBuilder 196 5 B b bs (w.drewN n):=h
theorem Hq{w w1:World}{o:Obj}(hb:Below (w.alloc o).drew.heap.size (w.alloc o).drew w1){p:Addr}{v:Value}(hp:w.cell? p=some v):w1.cell? p=some v:=by
 have h:=World.block_lt_of_cell? w p hp;rw[hb.cell (p:=p) (by show p.block<(w.alloc o).heap.size;rw[World.size_alloc];omega)]
 exact(World.cell?_alloc_lt _ _ _ h).trans hp
theorem adG{w w1:World}{o:Obj}(hb:Below (w.alloc o).drew.heap.size (w.alloc o).drew w1):w1.heap[w.heap.size]?=some o:=
 (hb.block w.heap.size (by show w.heap.size<(w.alloc o).heap.size;rw[World.size_alloc];omega)).trans (heap_alloc_new w o)
theorem S5(c:List Pl.Tk)(hw:∀t∈c,(Pl.wr t).length<=400):∀k,(Pl.wt (c.take k)).length<=k*401
 |0=>by simp[Pl.wt]
 |k+1=>by
  have ih:=S5 c hw k;by_cases hk:k<c.length
  ·have hx:c[k]?=some c[k]:=aC hk;have hl:=hw c[k] (gw hk);have hy:2<=k->c[k-1]?=some (c[k-1]'(by omega)):=fun _=>aC (by omega)
   rw[Pl.Hn c k c[k] (c[k-1]'(by omega)) hx hy]
   simp only[aX];have:(if k=0 then([]:List UInt8) else if k=1 then[32] else if Pl.bb (c[k-1]'(by omega)) c[k]=true then[32] else[]).length<=1:=by
    repeat' split
    all_goals simp
   omega
  ·have e:c.take (k+1)=c.take k:=by rw[uZ (by omega),uZ (by omega)]
   rw[e];exact fg ih (FL _ (ny _))
theorem adH(c:List Pl.Tk)(g cap:Nat)(w:World)(hG:Gl w)(hg:g<w.heap.size)(hrow:∀j u,(oz c)[j]?=some u->w.cell? ⟨g,j,none⟩=some u)
  (hc:c.length<=402)(hw:∀t∈c,(Pl.wr t).length<=400)(hn:∀t∈c,t.k=110-> -9223372036854775808<=t.n/\t.n<=9223372036854775807):
  Calls Tryz.prog 70 #[.slice (some ⟨g,0,none⟩) c.length cap] w fun e w'=>e=.returned (.string ⟨(Pl.wt c).toArray⟩)/\Below w.heap.size w w':=by
 have mP:Hid (∀j u,(oz c)[j]?=some u->w.cell? ⟨g,j,none⟩=some u):=hrow;have HW:Hid (∀t∈c,(Pl.wr t).length<=400):=hw;have HN:Hid (∀t∈c,t.k=110-> -9223372036854775808<=t.n/\t.n<=9223372036854775807):=hn;have HS:Hid (Wrote w c 0 (w.alloc (.cells #[.pointer none,.slice none 0 0] 196))):=⟨Lib.fresh_isBuilder 196 5 w,(Below.refl _ _).alloc (ay _) _,hG.alloc _,by simp⟩
 clear hrow hw hn
 go_enter Tryz.func70,Tryz.ntmps70
 go_wp2_with fail
 go_loopg [8] c.length (fun n i wr=>∃k:Nat,k+n=c.length/\i=.int .i64 k/\Hid (Wrote w c k wr))
 case atStart=>exact⟨0,by omega,rfl,HS⟩
 case round=>
  obtain⟨k,hkn,rfl,hwr⟩:=hrel;obtain⟨hB,aw,pL,hsz⟩:=hwr.out;by_cases hlt:k<c.length
  ·obtain⟨u,hu⟩:∃u,c[k]?=some u:=⟨_,aC hlt⟩;have hmem:u∈c:=aZ hu;have hbd:=S5 c HW.out k;have hul:=HW.out u hmem;have HU:Hid (u.k=110-> -9223372036854775808<=u.n/\u.n<=9223372036854775807):=HN.out u hmem;have e0:wr.cell? ⟨g,k*4,none⟩=some (.int .i64 (Pl.pk u)):=by
    rw[aw.cell (p:=⟨g,k*4,none⟩) hg];exact mP.out (k*4) (.int .i64 (Pl.pk u)) (by have:=pK c k u hu 0 (by omega);rw[pD] at this;rw[this];rfl)
   have e1:wr.cell? ⟨g,k*4+1,none⟩=some (.string ⟨(Pl.bB u).toArray⟩):=by
    rw[aw.cell (p:=⟨g,k*4+1,none⟩) hg];exact mP.out (k*4+1) (.string ⟨(Pl.bB u).toArray⟩) (by rw[pK c k u hu 1 (by omega)];rfl)
   have e2:wr.cell? ⟨g,k*4+2,none⟩=some (.int .i64 u.n):=by
    rw[aw.cell (p:=⟨g,k*4+2,none⟩) hg];exact mP.out (k*4+2) (.int .i64 u.n) (by rw[pK c k u hu 2 (by omega)];rfl)
   have e3:wr.cell? ⟨g,k*4+3,none⟩=some (.int .i64 u.pl):=by
    rw[aw.cell (p:=⟨g,k*4+3,none⟩) hg];exact mP.out (k*4+3) (.int .i64 u.pl) (by rw[pK c k u hu 3 (by omega)];rfl)
   have vE:(wr.alloc (.cells #[.int .i64 (Pl.pk u),.string ⟨(Pl.bB u).toArray⟩,.int .i64 u.n,.int .i64 u.pl] 76)).heap[wr.heap.size]?=some (.cells #[.int .i64 (Pl.pk u),.string ⟨(Pl.bB u).toArray⟩,.int .i64 u.n,.int .i64 u.pl] 76 (0,0)):=heap_alloc_new wr _;have hBa:=zK hB ((Below.refl _ _).alloc (ay _) (.cells #[.int .i64 (Pl.pk u),.string ⟨(Pl.bB u).toArray⟩,.int .i64 u.n,.int .i64 u.pl] 76));have vN:=pL.alloc (.cells #[.int .i64 (Pl.pk u),.string ⟨(Pl.bB u).toArray⟩,.int .i64 u.n,.int .i64 u.pl] 76);have Hr:=aw.alloc aw.size (.cells #[.int .i64 (Pl.pk u),.string ⟨(Pl.bB u).toArray⟩,.int .i64 u.n,.int .i64 u.pl] 76);have LY:Hid (c[k]?=some u):=hu;clear hu;by_cases Gz:k=0
   ·have HT:Hid (Pl.wt (c.take (k+1))=Pl.wt (c.take k)++Pl.wr u):=by
     have:=Pl.Hn c k u u LY.out (fun h=>by omega)
     rw[aj Gz,qd] at this;exact this
    have hq1:((k:Int) == 1)=false:=by simp;omega
    have hq2:decide (1<(k:Int))=false:=by simp;omega
    clear Gz
    go_wp2_with fail
    go_quiet (fail)
    have oJ:Lib.IsBuilder 196 5 w.heap.size w.heap.size _ ((wr.alloc (.cells #[.int .i64 (Pl.pk u),.string ⟨(Pl.bB u).toArray⟩,.int .i64 u.n,.int .i64 u.pl] 76)).drewN nq):=S4 hBa;have hx1:((wr.alloc (.cells #[.int .i64 (Pl.pk u),.string ⟨(Pl.bB u).toArray⟩,.int .i64 u.n,.int .i64 u.pl] 76)).drewN nq).heap[wr.heap.size]?=_:=vE;have bO:Gl ((wr.alloc (.cells #[.int .i64 (Pl.pk u),.string ⟨(Pl.bB u).toArray⟩,.int .i64 u.n,.int .i64 u.pl] 76)).drewN nq):=vN.drewN nq;have iw:Below w.heap.size w ((wr.alloc (.cells #[.int .i64 (Pl.pk u),.string ⟨(Pl.bB u).toArray⟩,.int .i64 u.n,.int .i64 u.pl] 76)).drewN nq):=zL Hr nq;have y0:((wr.alloc (.cells #[.int .i64 (Pl.pk u),.string ⟨(Pl.bB u).toArray⟩,.int .i64 u.n,.int .i64 u.pl] 76)).drewN nq).cell? ⟨wr.heap.size,0,none⟩=some (.int .i64 (Pl.pk u)):=cell_of hx1 0;have y1:((wr.alloc (.cells #[.int .i64 (Pl.pk u),.string ⟨(Pl.bB u).toArray⟩,.int .i64 u.n,.int .i64 u.pl] 76)).drewN nq).cell? ⟨wr.heap.size,1,none⟩=some (.string ⟨(Pl.bB u).toArray⟩):=cell_of hx1 1;have y2:((wr.alloc (.cells #[.int .i64 (Pl.pk u),.string ⟨(Pl.bB u).toArray⟩,.int .i64 u.n,.int .i64 u.pl] 76)).drewN nq).cell? ⟨wr.heap.size,2,none⟩=some (.int .i64 u.n):=cell_of hx1 2;have y3:((wr.alloc (.cells #[.int .i64 (Pl.pk u),.string ⟨(Pl.bB u).toArray⟩,.int .i64 u.n,.int .i64 u.pl] 76)).drewN nq).cell? ⟨wr.heap.size,3,none⟩=some (.int .i64 u.pl):=cell_of hx1 3
    go_wp2_with fail
    refine(Ho u _ bO HU.out).mono ?_;rintro e w3 ⟨rfl,hb3⟩;have xI:=zK oJ hb3;have iI:=iw.trans (hb3.mono iw.size);have qz:=bO.below hb3 bO.sz
    go_wp2_with fail
    refine(Hl w.heap.size w.heap.size _ ⟨(Pl.wr u).toArray⟩ w3 xI (fg iw.size hb3.size) (by simp[Lib.byteCells];omega) (by show(Pl.wr u).toArray.size<=_;simp;omega)).mono ?_
    rintro e w4 ⟨rfl,hB4,hb4,_⟩;rw[Hp] at hB4
    go_wp2_with fail
    go_roundg (gk-1)
    case measure=>omega
    case rel=>exact⟨k+1,by omega,by go_num,⟨by rw[HT.out];exact hB4,iI.trans hb4,qz.below hb4 hG.sz,by have h1:=hb3.size;have h2:=hb4.size;simp at h1;omega⟩⟩
   ·obtain⟨m,rfl⟩:∃m,k=m+1:=⟨k-1,by omega⟩
    clear Gz;by_cases hk1:m=0
    ·have HT:Hid (Pl.wt (c.take (m+1+1))=Pl.wt (c.take (m+1))++[32]++Pl.wr u):=by
      have:=Pl.Hn c (m+1) u u LY.out (fun h=>by omega)
      rw[af (by omega),aj (by omega),<-fB] at this
      exact this
     have hq1:((m:Int)+1 == 1)=true:=by simp;omega
     clear hk1
     go_wp2_with fail
     go_quiet (fail)
     have CO:Lib.IsBuilder 196 5 w.heap.size w.heap.size _ ((wr.alloc (.cells #[.int .i64 (Pl.pk u),.string ⟨(Pl.bB u).toArray⟩,.int .i64 u.n,.int .i64 u.pl] 76)).drewN nq):=S4 hBa;have LZ:((wr.alloc (.cells #[.int .i64 (Pl.pk u),.string ⟨(Pl.bB u).toArray⟩,.int .i64 u.n,.int .i64 u.pl] 76)).drewN nq).heap[wr.heap.size]?=_:=vE;have Hs:Gl ((wr.alloc (.cells #[.int .i64 (Pl.pk u),.string ⟨(Pl.bB u).toArray⟩,.int .i64 u.n,.int .i64 u.pl] 76)).drewN nq):=vN.drewN nq;have zM:Below w.heap.size w ((wr.alloc (.cells #[.int .i64 (Pl.pk u),.string ⟨(Pl.bB u).toArray⟩,.int .i64 u.n,.int .i64 u.pl] 76)).drewN nq):=zL Hr nq;have rT:w.heap.size<((wr.alloc (.cells #[.int .i64 (Pl.pk u),.string ⟨(Pl.bB u).toArray⟩,.int .i64 u.n,.int .i64 u.pl] 76)).drewN nq).heap.size:=by show _<(wr.alloc _).heap.size;simp;omega
     go_wp2_with fail
     refine(SZ w.heap.size w.heap.size _ 32 _ CO zM.size (by simp[Lib.byteCells];omega)).mono ?_
     rintro e w2 ⟨rfl,oJ,hb2,hk2⟩;rw[S3] at oJ;have hx1:=hk2 wr.heap.size _ LZ (by simp;omega) (by intro c fz h;cases h)
     have bO:Gl w2:=Hs.below hb2 hG.sz;have iw:Below w.heap.size w w2:=zM.trans hb2;have hz1:w.heap.size<w2.heap.size:=by have:=hb2.size;omega
     have y0:w2.cell? ⟨wr.heap.size,0,none⟩=some (.int .i64 (Pl.pk u)):=cell_of hx1 0;have y1:w2.cell? ⟨wr.heap.size,1,none⟩=some (.string ⟨(Pl.bB u).toArray⟩):=cell_of hx1 1;have y2:w2.cell? ⟨wr.heap.size,2,none⟩=some (.int .i64 u.n):=cell_of hx1 2;have y3:w2.cell? ⟨wr.heap.size,3,none⟩=some (.int .i64 u.pl):=cell_of hx1 3
     go_wp2_with fail
     refine(Ho u _ bO HU.out).mono ?_;rintro e w3 ⟨rfl,hb3⟩;have xI:=zK oJ hb3;have iI:=iw.trans (hb3.mono iw.size);have qz:=bO.below hb3 bO.sz
     go_wp2_with fail
     refine(Hl w.heap.size w.heap.size _ ⟨(Pl.wr u).toArray⟩ w3 xI (fg iw.size hb3.size) (by simp[Lib.byteCells];omega) (by show(Pl.wr u).toArray.size<=_;simp;omega)).mono ?_
     rintro e w4 ⟨rfl,hB4,hb4,_⟩;rw[Hp] at hB4
     go_wp2_with fail
     go_roundg (gk-1)
     case measure=>omega
     case rel=>exact⟨(m+1)+1,by omega,by go_num,⟨by rw[HT.out];exact hB4,iI.trans hb4,qz.below hb4 hG.sz,by have h0:=hz1;have h1:=hb3.size;have h2:=hb4.size;omega⟩⟩
    ·obtain⟨y,hy⟩:∃y,c[m]?=some y:=⟨_,aC (by omega)⟩
     have z0:wr.cell? ⟨g,m*4,none⟩=some (.int .i64 (Pl.pk y)):=by
      rw[aw.cell (p:=⟨g,m*4,none⟩) hg];exact mP.out (m*4) (.int .i64 (Pl.pk y)) (by have:=pK c m y hy 0 (by omega);rw[pD] at this;rw[this];rfl)
     have z1:wr.cell? ⟨g,m*4+1,none⟩=some (.string ⟨(Pl.bB y).toArray⟩):=by
      rw[aw.cell (p:=⟨g,m*4+1,none⟩) hg];exact mP.out (m*4+1) (.string ⟨(Pl.bB y).toArray⟩) (by rw[pK c m y hy 1 (by omega)];rfl)
     have z2:wr.cell? ⟨g,m*4+2,none⟩=some (.int .i64 y.n):=by
      rw[aw.cell (p:=⟨g,m*4+2,none⟩) hg];exact mP.out (m*4+2) (.int .i64 y.n) (by rw[pK c m y hy 2 (by omega)];rfl)
     have z3:wr.cell? ⟨g,m*4+3,none⟩=some (.int .i64 y.pl):=by
      rw[aw.cell (p:=⟨g,m*4+3,none⟩) hg];exact mP.out (m*4+3) (.int .i64 y.pl) (by rw[pK c m y hy 3 (by omega)];rfl)
     have uj:=Pl.Hn c (m+1) u y LY.out (fun h=>hy)
     rw[af (by omega),af (by omega)] at uj
     have mQ:Hid (Pl.wt (c.take (m+1+1))=Pl.wt (c.take (m+1))++((if Pl.bb y u=true then[32] else[])++Pl.wr u)):=uj
     have hq1:((m:Int)+1 == 1)=false:=by simp;omega
     have hq2:(1:Int)<(m:Int)+1:=by omega
     have hgr:g<wr.heap.size:=by omega
     have jL:(m:Int)<(c.length:Int):=by omega
     have am0:(0:Int)<=(m:Int):=by omega
     have zN:m<c.length:=by omega
     have adJ:IntKind.i64.wrap (m:Int)=(m:Int):=by rw[IntKind.wrap_i64];omega
     have adK:IntKind.i64.wrap ((m:Int)+1-1)=(m:Int):=by rw[IntKind.wrap_i64];omega
     clear uj hy hk1
     go_wp2_with fail
     go_region_held3 (fun w'=>w'.cell? ⟨g,m*4,none⟩=some (.int .i64 (Pl.pk y))/\w'.cell? ⟨g,m*4+1,none⟩=some (.string ⟨(Pl.bB y).toArray⟩)/\w'.cell? ⟨g,m*4+2,none⟩=some (.int .i64 y.n)/\w'.cell? ⟨g,m*4+3,none⟩=some (.int .i64 y.pl)/\w'.cell? ⟨wr.heap.size,0,none⟩=some (.int .i64 (Pl.pk u))/\w'.cell? ⟨wr.heap.size,1,none⟩=some (.string ⟨(Pl.bB u).toArray⟩)/\w'.cell? ⟨wr.heap.size,2,none⟩=some (.int .i64 u.n)/\w'.cell? ⟨wr.heap.size,3,none⟩=some (.int .i64 u.pl)) (go_keep) (first |(go_at_call 117;refine(adF y u _).mono ?_;rintro e w1 ⟨rfl,hb1⟩;have hz0:wr.heap.size<w1.heap.size:=(by have h:=hb1.size;simp at h;omega);have q0:=Hq hb1 z0;have q1:=Hq hb1 z1;have q2:=Hq hb1 z2;have q3:=Hq hb1 z3;have CP:=adG hb1;have p0:w1.cell? ⟨wr.heap.size,0,none⟩=some (.int .i64 (Pl.pk u)):=cell_of CP 0;have p1:w1.cell? ⟨wr.heap.size,1,none⟩=some (.string ⟨(Pl.bB u).toArray⟩):=cell_of CP 1;have p2:w1.cell? ⟨wr.heap.size,2,none⟩=some (.int .i64 u.n):=cell_of CP 2;have p3:w1.cell? ⟨wr.heap.size,3,none⟩=some (.int .i64 u.pl):=cell_of CP 3))
     have pM:Below (wr.alloc (.cells #[.int .i64 (Pl.pk u),.string ⟨(Pl.bB u).toArray⟩,.int .i64 u.n,.int .i64 u.pl] 76)).heap.size (wr.alloc (.cells #[.int .i64 (Pl.pk u),.string ⟨(Pl.bB u).toArray⟩,.int .i64 u.n,.int .i64 u.pl] 76)) w1:=⟨hb1.os,hb1.tape,hb1.output,hb1.size,hb1.block⟩;have CO:Lib.IsBuilder 196 5 w.heap.size w.heap.size _ w1:=zK hBa pM;have LZ:=CP;have Hs:Gl w1:=vN.below pM vN.sz;have zM:Below w.heap.size w w1:=Hr.trans (pM.mono Hr.size);have rT:w.heap.size<w1.heap.size:=by omega
     clear z0 z1 z2 z3 q0 q1 q2 q3 adJ adK;cases hbb:Pl.bb y u
     ·have oJ:=CO;have bO:=Hs;have iw:=zM;have hz1:=rT
      go_wp2_with fail
      refine(Ho u _ bO HU.out).mono ?_;rintro e w3 ⟨rfl,hb3⟩;have xI:=zK oJ hb3;have iI:=iw.trans (hb3.mono iw.size);have qz:=bO.below hb3 bO.sz
      go_wp2_with fail
      refine(Hl w.heap.size w.heap.size _ ⟨(Pl.wr u).toArray⟩ w3 xI (fg iw.size hb3.size) (by simp[Lib.byteCells];omega) (by show(Pl.wr u).toArray.size<=_;simp;omega)).mono ?_
      rintro e w4 ⟨rfl,hB4,hb4,_⟩;rw[Hp] at hB4
      go_wp2_with fail
      go_roundg (gk-1)
      case measure=>omega
      case rel=>exact⟨m+1+1,by omega,by go_num,⟨by rw[mQ.out,hbb,af (by simp),qd];exact hB4,iI.trans hb4,qz.below hb4 hG.sz,by have h0:=hz1;have h1:=hb3.size;have h2:=hb4.size;omega⟩⟩
     ·clear p0 p1 p2 p3
      go_wp2_with fail
      refine(SZ w.heap.size w.heap.size _ 32 _ CO zM.size (by simp[Lib.byteCells];omega)).mono ?_
      rintro e w2 ⟨rfl,oJ,hb2,hk2⟩;rw[S3] at oJ;have hx1:=hk2 wr.heap.size _ LZ (by simp;omega) (by intro c fz h;cases h)
      have bO:Gl w2:=Hs.below hb2 hG.sz;have iw:Below w.heap.size w w2:=zM.trans hb2;have hz1:w.heap.size<w2.heap.size:=by have:=hb2.size;omega
      have y0:w2.cell? ⟨wr.heap.size,0,none⟩=some (.int .i64 (Pl.pk u)):=cell_of hx1 0;have y1:w2.cell? ⟨wr.heap.size,1,none⟩=some (.string ⟨(Pl.bB u).toArray⟩):=cell_of hx1 1;have y2:w2.cell? ⟨wr.heap.size,2,none⟩=some (.int .i64 u.n):=cell_of hx1 2;have y3:w2.cell? ⟨wr.heap.size,3,none⟩=some (.int .i64 u.pl):=cell_of hx1 3
      go_wp2_with fail
      refine(Ho u _ bO HU.out).mono ?_;rintro e w3 ⟨rfl,hb3⟩;have xI:=zK oJ hb3;have iI:=iw.trans (hb3.mono iw.size);have qz:=bO.below hb3 bO.sz
      go_wp2_with fail
      refine(Hl w.heap.size w.heap.size _ ⟨(Pl.wr u).toArray⟩ w3 xI (fg iw.size hb3.size) (by simp[Lib.byteCells];omega) (by show(Pl.wr u).toArray.size<=_;simp;omega)).mono ?_
      rintro e w4 ⟨rfl,hB4,hb4,_⟩;rw[Hp] at hB4
      go_wp2_with fail
      go_roundg (gk-1)
      case measure=>omega
      case rel=>exact⟨m+1+1,by omega,by go_num,⟨by rw[mQ.out,hbb,aj rfl,<-fB];exact hB4,iI.trans hb4,qz.below hb4 hG.sz,by have h0:=hz1;have h1:=hb3.size;have h2:=hb4.size;omega⟩⟩
  ·have CQ:k=c.length:=by omega
   subst CQ;rw[gm] at hB
   go_wp2_with fail
   refine(Tryz.Builder_String_any w.heap.size w.heap.size (Pl.wt c) _ hB aw.size).mono ?_;rintro e w3 ⟨rfl,hb3⟩
   go_wp2_with fail
   go_ret
   exact⟨rfl,aw.trans hb3⟩
end Go.Proofs.YtkjhhooecopolaaGreatDoor

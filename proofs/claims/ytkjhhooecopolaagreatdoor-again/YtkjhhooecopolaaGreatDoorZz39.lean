import Derived.Test.YtkjhhooecopolaaGreatDoorZz38
import Derived.Test.YtkjhhooecopolaaGreatDoorRows
import Derived.Test.YtkjhhooecopolaaGreatDoorCards
import Derived.Test.YtkjhhooecopolaaGreatDoorTie
set_option maxRecDepth 100000
set_option maxHeartbeats 4000000
namespace Go.Proofs.YtkjhhooecopolaaGreatDoor
open Go.RowKit
theorem ajB(s:ByteArray)(w:World)(hm:s.size<=maxLen)(jP:Gl w):
  Calls Tryz.prog 41 #[.string s] w fun e w'=>e=.returned (.tuple #[.string ⟨(Pl.wK s.data.toList).toArray⟩,.int .i64 (Pl.err s.data.toList).1,.int .i64 (Pl.err s.data.toList).2])/\Below w.heap.size w w':=by
 by_cases h0:(Pl.err s.data.toList).1=0
 ·have hp2:=(nN h0).2.1;obtain⟨hro,hrl,ic,hel⟩:=F7 h0;have DX:=Pl.Sm h0;have hnt:Pl.wK s.data.toList=Pl.aU Pl.dE (Ge.eO (Ge.ag (Pl.rings s.data.toList))):=ah h0;have HR:Hid (∀w1,Gl w1->Calls Tryz.prog 33 #[.string s] w1 fun e w'=>Below w1.heap.size w1 w'/\∃rb rv,e=.returned (.tuple #[.pointer (some ⟨rb,0,none⟩),.int .i64 0,.int .i64 0])/\
    w'.cell? ⟨rb,6,none⟩=some rv/\rb<w'.heap.size/\pF w' rv (Pl.rings s.data.toList)):=fun w1 g1=>by
   refine(uH s w1 hm g1).mono ?_;rintro e w' ⟨hb,pv,rfl,jz⟩;obtain⟨rb,rfl,_,hR⟩:=jz h0;obtain⟨c,t,r,tv,rv,hc,hl',hbk,hown,Cj⟩:=hR;exact⟨hb,rb,rv,by rw[h0,hp2];rfl,cell_of hbk 6,lt_of_heap hbk,KW Cj⟩
  have y9:Hid (∀v w1,pF w1 v (Pl.rings s.data.toList)->Calls Tryz.prog 36 #[v] w1 fun e w'=>∃v,e=.returned v/\fG w' v (Ge.ag (Pl.rings s.data.toList))/\Below w1.heap.size w1 w'):=fun v w1 hv=>KX _ v w1 hv hro hrl
  have Fq:Hid (∀v w1,fG w1 v (Ge.ag (Pl.rings s.data.toList))->Calls Tryz.prog 72 #[v] w1 fun e w'=>∃v' l,e=.returned v'/\fM w' v' l/\Below w1.heap.size w1 w'/\l.map Ge.au=Ge.eO (Ge.ag (Pl.rings s.data.toList))/\(∀n∈l,cP n.1 n.2.1 n.2.2)/\l.length<=200000/\(∀n∈l,Ge.Can n)):=fun v w1 hv=>TV _ v w1 hv DX ic
  rw[hnt,h0,hp2];clear hnt hp2 h0 hro hrl ic hel DX;generalize Pl.rings s.data.toList=RG at*;generalize Ge.ag RG=ES at*;generalize Ge.eO ES=NS0 at*
  go_enter Tryz.func41,Tryz.ntmps41
  go_wp2_with fail
  refine(HR.out _ jP).mono ?_;rintro e w1 ⟨hb1,rb,rv,rfl,c6,hlt,qY⟩;have bz:=jP.below hb1 jP.sz
  go_wp2_with fail
  refine(y9.out _ _ qY).mono ?_;rintro e w3 ⟨ev,rfl,od,hb3⟩;have fw:=hb1.trans (hb3.mono hb1.size);have mr:=bz.below hb3 bz.sz
  go_wp2_with fail
  refine(Fq.out _ _ od).mono ?_;rintro e w4 ⟨nv,l,rfl,mG,hb4,jX,hnn,hll,_⟩;have pI:=fw.trans (hb4.mono fw.size);have hG4:=mr.below hb4 mr.sz;subst jX;have GH:Hid (Calls Tryz.prog 71 #[nv] w4 fun e w'=>e=.returned (.string ⟨(Pl.aU Pl.dE (l.map Ge.au)).toArray⟩)/\Below w4.heap.size w4 w'):=adb l nv w4 mG hG4 hnn hll
  generalize DY:Pl.aU Pl.dE (l.map Ge.au)=TX at GH;have xp:Hid (Pl.aU Pl.dE (l.map Ge.au)=TX):=DY;clear mG hnn hll DY
  go_wp2_with fail
  refine GH.out.mono ?_;rintro e w5 ⟨rfl,az⟩;have ib:=pI.trans (az.mono pI.size)
  go_wp2_with fail
  refine bodyPost_ret (v:=.tuple #[.string ⟨TX.toArray⟩,.int .i64 0,.int .i64 0]) (by simp[results,Tryz.results41,go_sem]) rfl ⟨by rw[xp.out];rfl,ib⟩
 ·have hnt:Pl.wK s.data.toList=[]:=aa h0;rw[hnt];have hne:(((Pl.err s.data.toList).1:Int) != 0)=true:=by rw[Aa];omega
  have HR:Hid (∀w1,Gl w1->Calls Tryz.prog 33 #[.string s] w1 fun e w'=>Below w1.heap.size w1 w'/\∃pv,e=.returned (.tuple #[.pointer pv,.int .i64 (Pl.err s.data.toList).1,.int .i64 (Pl.err s.data.toList).2])):=fun w1 g1=>by
   refine(uH s w1 hm g1).mono ?_;rintro e w' ⟨hb,pv,rfl,_⟩;exact⟨hb,pv,rfl⟩
  generalize(Pl.err s.data.toList).1=E at*;generalize(Pl.err s.data.toList).2=Pp at*;clear hnt h0
  go_enter Tryz.func41,Tryz.ntmps41
  go_wp2_with fail
  refine(HR.out _ jP).mono ?_;rintro e w1 ⟨hb1,pv,rfl⟩
  go_wp2_with fail
  refine bodyPost_ret (v:=.tuple #[.string ⟨#[]⟩,.int .i64 E,.int .i64 Pp]) (by simp[results,Tryz.results41,go_sem]) rfl ⟨rfl,hb1⟩
theorem ajD(s:ByteArray)(w:World)(hm:s.size<=maxLen)(hG:Gl w):
  Calls Tryz.prog 21 #[.string s] w fun e w'=>e=.returned (.agg #[.string ⟨(Pl.wK s.data.toList).toArray⟩,.int .i64 (Pl.err s.data.toList).1,.int .i64 (Pl.err s.data.toList).2])/\Below w.heap.size w w':=by
 have HP:Hid (∀w1,Gl w1->Calls Tryz.prog 41 #[.string s] w1 fun e w'=>e=.returned (.tuple #[.string ⟨(Pl.wK s.data.toList).toArray⟩,.int .i64 (Pl.err s.data.toList).1,.int .i64 (Pl.err s.data.toList).2])/\Below w1.heap.size w1 w'):=fun w1 g1=>ajB s w1 hm g1
 have he:=IZ s.data.toList;generalize(Pl.err s.data.toList).1=E at*;generalize(Pl.err s.data.toList).2=Pp at*;generalize Pl.wK s.data.toList=PT at*;have HN:Hid (∀w1,Calls Tryz.prog 19 #[.int .i64 (E:Int)] w1 fun e w'=>e=.returned (.int .i64 (E:Int))/\w'=w1):=fun w1=>IY E w1 (by omega) (by omega)
 clear he
 go_enter Tryz.func21,Tryz.ntmps21
 go_wp2_with fail
 have hb0:Below w.heap.size w (w.alloc (.cells #[.string ⟨#[]⟩,.int .i64 0,.int .i64 0] 38)):=(Below.refl _ _).alloc (ax _) _;refine(HP.out _ (hG.alloc _)).mono ?_;rintro e w1 ⟨rfl,hb1⟩;have fT:w1.heap[w.heap.size]?=some (.cells #[.string ⟨#[]⟩,.int .i64 0,.int .i64 0] 38):=(hb1.block _ (by simp)).trans (heap_alloc_new _ _)
 have c0:w1.cell? ⟨w.heap.size,0,none⟩=some (.string ⟨#[]⟩):=cell_of fT 0;have c1:w1.cell? ⟨w.heap.size,1,none⟩=some (.int .i64 0):=cell_of fT 1;have c2:w1.cell? ⟨w.heap.size,2,none⟩=some (.int .i64 0):=cell_of fT 2;have z0:w1.frozen? ⟨w.heap.size,0,none⟩=false:=aX fT 0;have z1:w1.frozen? ⟨w.heap.size,1,none⟩=false:=aX fT 1;have z2:w1.frozen? ⟨w.heap.size,2,none⟩=false:=aX fT 2;have aj:=hb0.trans (hb1.mono hb0.size);clear fT
 go_wp2_with fail
 refine(HN.out _).mono ?_;rintro e w2 ⟨rfl,rfl⟩
 go_wp2_with fail
 refine bodyPost_ret (v:=.agg #[.string ⟨PT.toArray⟩,.int .i64 E,.int .i64 Pp]) (by simp[results,Tryz.results21,go_sem,c0,c1,c2]) rfl ⟨rfl,?_⟩
 exact((aj.setCell (ax _) _).setCell (ax _) _).setCell (ax _) _
def tX(r:Int):Prop:=r=101\/r=110\/r=43\/r=45
theorem tX.ok{r:Int}(h:tX r):Ge.rule r=true:=by
 rcases h with h|h|h|h<;>subst h<;>decide
def FA(s:ByteArray)(r:Int)(E P:Nat)(T:ByteArray):Prop:=∃T',T=ba T'/\nW s.data.toList r T' E P
theorem ajE(T:List UInt8):(ba T).toList=T:=ByteArray.toList_mk _
theorem YK(T:List UInt8):(ba T).data.toList=T:=rfl
theorem I4(T:List UInt8):(ba T).size=T.length:=by
 show T.toArray.size=_;simp
structure AG(s PT NT:ByteArray)(v:Int)(b:Bool)(E P:Nat):Prop where
 le:E<=5
 pr:∀w1,Gl w1->Calls Tryz.prog 20 #[.string s] w1 fun e w'=>e=.returned (.agg #[.string PT,.int .i64 (E:Int),.int .i64 (P:Int)])/\Below w1.heap.size w1 w'
 no:∀w1,Gl w1->Calls Tryz.prog 21 #[.string s] w1 fun e w'=>e=.returned (.agg #[.string NT,.int .i64 (E:Int),.int .i64 (P:Int)])/\Below w1.heap.size w1 w'
 wi:∀w1,Gl w1->Calls Tryz.prog 17 #[.string s,.int .i64 0,.int .i64 0,.int .i64 1] w1 fun e w'=>e=.returned (.tuple #[.int .i64 v,.bool b,.int .i64 (E:Int),.int .i64 (P:Int)])/\Below w1.heap.size w1 w'
 nu:∀w1,Calls Tryz.prog 19 #[.int .i64 (E:Int)] w1 fun e w'=>e=.returned (.int .i64 (E:Int))/\w'=w1
 fx:∀w1 r,tX r->Gl w1->Calls Tryz.prog 18 #[.string s,.int .u8 r] w1 fun e w'=>(∃T,e=.returned (.agg #[.string T,.int .i64 (E:Int),.int .i64 (P:Int)])/\Hid (FA s r E P T))/\Below w1.heap.size w1 w'
 em:∀r T,tX r->FA s r E P T->(T.toList=[]↔E≠0)
 gx:E=0->PT.size<=400->∀w1 r T,tX r->FA s r E P T->Gl w1->Calls Tryz.prog 18 #[.string PT,.int .u8 r] w1 fun e w'=>e=.returned (.agg #[.string T,.int .i64 (E:Int),.int .i64 (P:Int)])/\Below w1.heap.size w1 w'
 qx:E=0->PT.size<=400->∀w1,Gl w1->Calls Tryz.prog 20 #[.string PT] w1 fun e w'=>e=.returned (.agg #[.string PT,.int .i64 (E:Int),.int .i64 (P:Int)])/\Below w1.heap.size w1 w'
theorem YL{s:List UInt8}{r:Int}{T:List UInt8}{E P:Nat}(hr:tX r)(h:nW s r T E P):E=(Pl.err s).1/\P=(Pl.err s).2/\(T=[]↔E≠0):=by
 rcases h with⟨a1,a2,a3,a4⟩|⟨_,a2,_⟩|⟨a1,_,a3,a4,a5⟩
 ·exact⟨a3,a4,fun _=>by rw[a3];exact a1,fun _=>a2⟩
 ·rw[hr.ok] at a2;cases a2
 ·refine⟨by rw[a4,a1],by rw[a5,(nN a1).2.1],fun h=>absurd h (Gb.ai7 a3),fun h=>absurd a4 h⟩
theorem ajF(s:ByteArray)(hs:s.size<=maxLen):∃PT NT v b E P,AG s PT NT v b E P:=by
 have hw:(Pl.qT s.data.toList 0 0 1).2.2=Pl.err s.data.toList:=by
  unfold Pl.qT;have hb:Pl.wI 0 0 1=false:=by decide
  rw[hb];split
  ·rename_i h0
   have h2:=(nN h0).2.1;have e:Pl.err s.data.toList=(0,0):=dC h0 h2;rw[e];simp only[iC,jg];split<;>rfl
  ·rfl
 have hE:=IZ s.data.toList;refine⟨ba (Pl.iI s.data.toList),ba (Pl.wK s.data.toList),(Pl.qT s.data.toList 0 0 1).1,(Pl.qT s.data.toList 0 0 1).2.1,(Pl.err s.data.toList).1,(Pl.err s.data.toList).2,by omega,fun w1 g=>Ol s w1 hs g,fun w1 g=>ajD s w1 hs g,fun w1 g=>?_,fun w1=>IY _ w1 (by omega) (by omega),fun w1 r hr g=>?_,fun r T hr h=>?_,fun h0 hl w1 r T hr h g=>?_,fun h0 hl w1 g=>?_⟩
 ·refine(adx s 0 0 1 w1 hs g).mono ?_;rintro e w' ⟨rfl,hb⟩;refine⟨?_,hb⟩;unfold Pl.wJ;rw[hw]
 ·refine(Om s r w1 hs g).mono ?_;rintro e w' ⟨⟨T,E,P,rfl,h⟩,hb⟩;obtain⟨e1,e2,_⟩:=YL hr h;subst e1 e2;exact⟨⟨ba T,rfl,T,rfl,h⟩,hb⟩
 ·obtain⟨T',rfl,h'⟩:=h;rw[ajE];exact(YL hr h').2.2
 ·obtain⟨T',rfl,h'⟩:=h;rw[I4] at hl;obtain⟨k1,k2,k3⟩:=Pl.Yz h0 hl;refine(Om (ba (Pl.iI s.data.toList)) r w1 (by rw[I4];unfold maxLen;omega) g).mono ?_
  rintro e w' ⟨⟨T,E,P,rfl,h⟩,hb⟩;rw[YK] at h;have he:Pl.err s.data.toList=(0,0):=dC h0 (nN h0).2.1;obtain⟨e1,e2,e3⟩:=nW.eq h' h (by rw[he,k1]) (fun _=>k2.symm)
  subst e1;rw[<-e2,<-e3];exact⟨rfl,hb⟩
 ·rw[I4] at hl;obtain⟨k1,k2,k3⟩:=Pl.Yz h0 hl;refine(Ol (ba (Pl.iI s.data.toList)) w1 (by rw[I4];unfold maxLen;omega) g).mono ?_
  rintro e w' ⟨rfl,hb⟩;refine⟨?_,hb⟩;have he:Pl.err s.data.toList=(0,0):=dC h0 (nN h0).2.1;rw[YK,k1,k3,he];rfl
theorem ajG{w:World}{a:Addr}{v:Value}{o:Obj}(h:w.cell? a=some v):(w.alloc o).cell? a=some v:=(World.cell?_alloc_some w a o (by rw[h];rfl)).trans h
theorem zT(w7:World)(i:Nat)(hi:i<3):(w7.alloc (.cells #[.string ⟨#[]⟩,.int .i64 0,.int .i64 0] 38)).frozen? ⟨w7.heap.size,i,none⟩=false:=by
 match i,hi with
 |0,_=>exact aX (heap_alloc_new _ _) 0
 |1,_=>exact aX (heap_alloc_new _ _) 1
 |2,_=>exact aX (heap_alloc_new _ _) 2
structure Old(w W:World)(bl:List (Nat×Obj)):Prop where
 jI:Below w.heap.size w W
 gl:Gl W
 ob:∀p∈bl,W.heap[p.1]?=some p.2
section
variable{w W W':World}{bl:List (Nat×Obj)}
theorem Old.next(h:Old w W bl)(hb:Below W.heap.size W W'):Old w W' bl:=⟨h.jI.trans (hb.mono h.jI.size),D4 h.gl hb,fun p hp=>(hb.block _ (lt_of_heap (h.ob p hp))).trans (h.ob p hp)⟩
theorem Old.drew(h:Old w W bl):Old w W.drew bl:=⟨h.jI.drew,h.gl.drew,h.ob⟩
theorem Old.alloc(h:Old w W bl)(o:Obj):Old w (W.alloc o) ((W.heap.size,o)::bl):=by
 refine⟨h.jI.alloc h.jI.size _,h.gl.alloc _,fun p hp=>?_⟩
 rcases aP.1 hp with q|q
 ·rw[q];exact heap_alloc_new _ _
 ·exact(Below.heap_alloc _ _ _ (lt_of_heap (h.ob p q))).trans (h.ob p q)
theorem Old.set(hG:Gl w){B o:Nat}{c:Array Value}{T:TypeId}(h:Old w W ((B,.cells c T (0,0))::bl))(hB:w.heap.size<=B)(hn:∀p∈bl,p.1≠B)(v:Value):Old w (W.setCell ⟨B,o,none⟩ v) ((B,.cells (c.setIfInBounds o v) T (0,0))::bl):=by
 have hb:Below w.heap.size w (W.setCell ⟨B,o,none⟩ v):=h.jI.setCell hB _;refine⟨hb,D4 hG hb,fun p hp=>?_⟩
 rcases aP.1 hp with q|q
 ·rw[q];exact heap_set (h.ob _ (Ev ..)) v
 ·exact(gJ (hn p q) v).trans (h.ob p (bo _ q))
theorem Old.tl{x:Nat×Obj}(h:Old w W (x::bl)):Old w W bl:=⟨h.jI,h.gl,fun p hp=>h.ob p (bo _ hp)⟩
theorem Old.h1{x:Nat×Obj}(h:Old w W (x::bl)):W.heap[x.1]?=some x.2:=h.ob x (Ev ..)
end
def YM(wr:World):Prop:=Gl (wr.alloc (.cells #[.string ⟨#[]⟩,.int .i64 0,.int .i64 0] 38)).drew
def KA(w wr:World)(a:Addr)(s:ByteArray)(bl:List (Nat×Obj)):Prop:=∀w7,Below wr.drew.heap.size wr.drew w7->w7.cell? a=some (.string s)/\Hid (Old w w7 bl)
def KB(w wr:World)(a:Addr)(s:ByteArray)(bl:List (Nat×Obj)):Prop:=∀w7,Below (wr.alloc (.cells #[.string ⟨#[]⟩,.int .i64 0,.int .i64 0] 38)).drew.heap.size (wr.alloc (.cells #[.string ⟨#[]⟩,.int .i64 0,.int .i64 0] 38)).drew w7->(w7.cell? a=some (.string s)/\w7.frozen? ⟨wr.heap.size,0,none⟩=false/\w7.frozen? ⟨wr.heap.size,1,none⟩=false/\w7.frozen? ⟨wr.heap.size,2,none⟩=false/\∃u0 u1 u2,w7.cell? ⟨wr.heap.size,0,none⟩=some u0/\w7.cell? ⟨wr.heap.size,1,none⟩=some u1/\w7.cell? ⟨wr.heap.size,2,none⟩=some u2)/\Hid (Old w w7 ((wr.heap.size,(.cells #[.string ⟨#[]⟩,.int .i64 0,.int .i64 0] 38 (0,0)))::bl)/\w.heap.size<=wr.heap.size/\∀p∈bl,p.1≠wr.heap.size)
theorem kA{w wr:World}{a:Addr}{s:ByteArray}{bl:List (Nat×Obj)}(h:Old w wr bl)(r:wr.cell? a=some (.string s))(hz:a.block<wr.heap.size):KA w wr a s bl:=fun _ hb=>⟨(hb.cell (p:=a) hz).trans r,h.drew.next hb⟩
theorem kB{w wr:World}{a:Addr}{s:ByteArray}{bl:List (Nat×Obj)}(h:Old w wr bl)(r:wr.cell? a=some (.string s))(hz:a.block<wr.heap.size):KB w wr a s bl:=fun w7 hb=>by
 have h7:Old w w7 ((wr.heap.size,(.cells #[.string ⟨#[]⟩,.int .i64 0,.int .i64 0] 38 (0,0)))::bl):=(h.alloc (.cells #[.string ⟨#[]⟩,.int .i64 0,.int .i64 0] 38)).drew.next hb
 have q2:=h7.h1;have hsz:(wr.alloc (.cells #[.string ⟨#[]⟩,.int .i64 0,.int .i64 0] 38)).drew.heap.size=wr.heap.size+1:=by
  show(wr.alloc (.cells #[.string ⟨#[]⟩,.int .i64 0,.int .i64 0] 38)).heap.size=_;simp
 exact⟨⟨(hb.cell (p:=a) (by omega)).trans (ajG r),aX q2 0,aX q2 1,aX q2 2,_,_,_,cell_of q2 0,cell_of q2 1,cell_of q2 2⟩,h7,h.jI.size,fun p hp=>Nat.ne_of_lt (lt_of_heap (h.ob p hp))⟩
theorem YN{w w7:World}{bl:List (Nat×Obj)}(T:ByteArray)(E Pp:Int)(h:Old w w7 bl):∃WF XF,WF=w7.alloc (.cells #[.string T,.int .i64 E,.int .i64 Pp] 38)/\XF=w7.heap.size/\Hid (Old w WF ((XF,.cells #[.string T,.int .i64 E,.int .i64 Pp] 38 (0,0))::bl)):=⟨_,_,rfl,rfl,h.alloc _⟩
theorem YO{w w7:World}{B:Nat}{bl:List (Nat×Obj)}(hG:Gl w)(T:ByteArray)(E Pp:Int)(h:Old w w7 ((B,(.cells #[.string ⟨#[]⟩,.int .i64 0,.int .i64 0] 38 (0,0)))::bl)/\w.heap.size<=B/\∀p∈bl,p.1≠B):∃WF XF,WF=((w7.setCell ⟨B,0,none⟩ (.string T)).setCell ⟨B,1,none⟩ (.int .i64 E)).setCell ⟨B,2,none⟩ (.int .i64 Pp)/\XF=B/\Hid (Old w WF ((XF,.cells #[.string T,.int .i64 E,.int .i64 Pp] 38 (0,0))::bl)):=by
 obtain⟨h1,h2,h3⟩:=h;exact⟨_,_,rfl,rfl,((h1.set hG h2 h3 _).set hG h2 h3 _).set hG h2 h3 _⟩
theorem ajH(j:Nat)(h:j<4):tX ((({data:= #[101,110,43,45]}:ByteArray)[j]'h).toNat:Int):=by
 match j,h with
 |0,_=>exact ae rfl
 |1,_=>exact af (ae rfl)
 |2,_=>exact af (af (ae rfl))
 |3,_=>exact af (af (af rfl))
theorem ajI(so:Option Addr)(n cap:Nat)(w:World)(hG:Gl w)(hS:Ou w so n)(_hn:n<=maxLen):
  Calls Tryz.prog 7 #[.slice so n cap] w fun e w'=>e=.returned (.bool true)/\Below w.heap.size w w':=by
 have HS:Hid (Ou w so n):=hS;clear hS
 go_enter Tryz.func7,Tryz.ntmps7
 go_wp2_with fail
 go_loopg [3] n (fun g iv wr=>∃k:Nat,k+g=n/\iv=.int .i64 k/\Hid (Below w.heap.size w wr/\Gl wr))
 case atStart=>exact⟨0,by omega,rfl,Below.refl _ _,hG⟩
 case round=>
  obtain⟨k,hkn,rfl,HB⟩:=hrel;obtain⟨aj,om⟩:=HB.out;by_cases hlt:k<n/\k<1152921504606846976
  ·obtain⟨hlt,hmx⟩:=hlt;obtain⟨b,o,K,x,y,d,r,s,rfl,hb,hs,c0,c1,c2,c3,c4,c5⟩:=HS.out k hlt;have ez:(k:Int)<(n:Int):=by omega
   have Lv:(k:Int)<1152921504606846976:=by omega
   have e0:wr.cell? ⟨b,o+k*6,none⟩=some (.int .i64 K):=(aj.cell (p:=⟨b,o+k*6,none⟩) hb).trans c0;have e1:wr.cell? ⟨b,o+k*6+1,none⟩=some (.int .i64 x):=(aj.cell (p:=⟨b,o+k*6+1,none⟩) hb).trans c1;have e2:wr.cell? ⟨b,o+k*6+2,none⟩=some (.int .i64 y):=(aj.cell (p:=⟨b,o+k*6+2,none⟩) hb).trans c2;have e3:wr.cell? ⟨b,o+k*6+3,none⟩=some (.int .i64 d):=(aj.cell (p:=⟨b,o+k*6+3,none⟩) hb).trans c3;have e4:wr.cell? ⟨b,o+k*6+4,none⟩=some (.int .u8 r):=(aj.cell (p:=⟨b,o+k*6+4,none⟩) hb).trans c4;have e5:wr.cell? ⟨b,o+k*6+5,none⟩=some (.string s):=(aj.cell (p:=⟨b,o+k*6+5,none⟩) hb).trans c5;have hbr:b<wr.heap.size:=by have:=aj.size;omega
   obtain⟨PT,NT,v,bb,E,Pp,YP⟩:=ajF s hs;have vv:Hid (AG s PT NT v bb E Pp):=YP;have HA:Hid (Below w.heap.size w (wr.alloc (.cells #[.int .i64 K,.int .i64 x,.int .i64 y,.int .i64 d,.int .u8 r,.string s] 26))):=aj.alloc aj.size _;have Ov:Hid (Gl (wr.alloc (.cells #[.int .i64 K,.int .i64 x,.int .i64 y,.int .i64 d,.int .u8 r,.string s] 26))):=om.alloc _;clear c0 c1 c2 c3 c4 c5 HB HS aj YP om
   go_wp2_with fail
   refine(vv.out.pr _ Ov.out).mono ?_;rintro e w1 ⟨rfl,hb1⟩;have Ow:(wr.alloc (.cells #[.int .i64 K,.int .i64 x,.int .i64 y,.int .i64 d,.int .u8 r,.string s] 26)).heap[wr.heap.size]?=some (.cells #[.int .i64 K,.int .i64 x,.int .i64 y,.int .i64 d,.int .u8 r,.string s] 26 (0,0)):=heap_alloc_new _ _;have n1:=I2 (.cells #[.string PT,.int .i64 (E:Int),.int .i64 (Pp:Int)] 38) Ov.out HA.out hb1;have r5:(w1.alloc (.cells #[.string PT,.int .i64 (E:Int),.int .i64 (Pp:Int)] 38)).cell? ⟨wr.heap.size,5,none⟩=some (.string s):=cell_of (n1.old _ _ Ow) 5;clear hb1 HA Ov
   go_wp2_with fail
   generalize w1.alloc (.cells #[.string PT,.int .i64 (E:Int),.int .i64 (Pp:Int)] 38)=W1 at*;generalize w1.heap.size=X1 at*;have Ox:=n1.old _ _ Ow;have D5:=n1.nw;have ou:=n1.gl;have YR:Hid (Below w.heap.size w W1):=n1.jI;clear n1 Ow r5 e0 e1 e2 e3 e4 e5 hbr;generalize wr.heap.size=X0 at*;refine(vv.out.no _ ou).mono ?_;rintro e w2 ⟨rfl,hb2⟩;have n2:=I2 (.cells #[.string NT,.int .i64 (E:Int),.int .i64 (Pp:Int)] 38) ou YR.out hb2;have r5:(w2.alloc (.cells #[.string NT,.int .i64 (E:Int),.int .i64 (Pp:Int)] 38)).cell? ⟨X0,5,none⟩=some (.string s):=cell_of (n2.old _ _ Ox) 5;clear hb2 YR ou
   go_wp2_with fail
   generalize w2.alloc (.cells #[.string NT,.int .i64 (E:Int),.int .i64 (Pp:Int)] 38)=W2 at*;generalize w2.heap.size=X2 at*;have Oy:=n2.old _ _ Ox;have vt:=n2.old _ _ D5;have Oz:=n2.nw;have OA:=n2.gl;have OB:Hid (Below w.heap.size w W2):=n2.jI;clear n2 Ox D5 r5;refine(vv.out.wi _ OA).mono ?_;rintro e w3 ⟨rfl,hb3⟩;have YS:=(hb3.block _ (lt_of_heap Oy)).trans Oy;have D6:=(hb3.block _ (lt_of_heap vt)).trans vt;have OD:=(hb3.block _ (lt_of_heap Oz)).trans Oz;have YT:Gl w3:=D4 OA hb3;have Dv:Hid (Below w.heap.size w w3):=OB.out.trans (hb3.mono OB.out.size);have p0:w3.cell? ⟨X1,0,none⟩=some (.string PT):=cell_of D6 0;have p1:w3.cell? ⟨X1,1,none⟩=some (.int .i64 (E:Int)):=cell_of D6 1;have p2:w3.cell? ⟨X1,2,none⟩=some (.int .i64 (Pp:Int)):=cell_of D6 2;have q1:w3.cell? ⟨X2,1,none⟩=some (.int .i64 (E:Int)):=cell_of OD 1;have q2:w3.cell? ⟨X2,2,none⟩=some (.int .i64 (Pp:Int)):=cell_of OD 2;have YU:Hid (∀w1,Calls Tryz.prog 19 #[.int .i64 (E:Int)] w1 fun e w'=>e=.returned (.int .i64 (E:Int))/\w'=w1):=vv.out.nu
   clear hb3 Oy vt Oz OA OB
   go_wp2_with fail
   go_region_held3 (fun w'=>w'.cell? ⟨X1,1,none⟩=some (.int .i64 (E:Int))/\w'.cell? ⟨X1,2,none⟩=some (.int .i64 (Pp:Int))/\w'.cell? ⟨X2,1,none⟩=some (.int .i64 (E:Int))/\w'.cell? ⟨X2,2,none⟩=some (.int .i64 (Pp:Int))) (go_keep) (first
    |(go_at_call 19;refine(YU.out _).mono ?_;rintro e w7 ⟨rfl,jB⟩;subst jB))
   go_wp2_with fail
   have HW0:Hid (Old w w3.drew [(X0,.cells #[.int .i64 K,.int .i64 x,.int .i64 y,.int .i64 d,.int .u8 r,.string s] 26 (0,0)),(X1,.cells #[.string PT,.int .i64 (E:Int),.int .i64 (Pp:Int)] 38 (0,0))]):=⟨Dv.out.drew,YT.drew,fun p hp=>by
    rcases aP.1 hp with q|q
    ·rw[q];exact YS
    ·rw[bI.1 q];exact D6⟩
   obtain⟨m1,sQ⟩:∃m1,m1=gk:=⟨_,rfl⟩;clear YS D6 OD YT Dv p0 p1 p2 q1 q2 YU
   go_loopg [11] 4 (fun g iv wr=>∃j:Nat,j+g=4/\iv=.int .i64 j/\Hid (Old w wr [(X0,.cells #[.int .i64 K,.int .i64 x,.int .i64 y,.int .i64 d,.int .u8 r,.string s] 26 (0,0)),(X1,.cells #[.string PT,.int .i64 (E:Int),.int .i64 (Pp:Int)] 38 (0,0))]))
   case atStart=>exact⟨0,by omega,rfl,HW0⟩
   case round=>
    obtain⟨j,hj4,rfl,HJ⟩:=hrel;by_cases hjl:j<4
    ·have GI:(j:Int)<4:=by omega
     have r5:wr.cell? ⟨X0,5,none⟩=some (.string s):=cell_of HJ.out.h1 5;have hz0:X0<wr.heap.size:=lt_of_heap HJ.out.h1;have D7:Hid (Gl wr.drew):=HJ.out.gl.drew;have D8:YM wr:=(HJ.out.gl.alloc _).drew;have H1:KA w wr ⟨X0,5,none⟩ s [(X0,.cells #[.int .i64 K,.int .i64 x,.int .i64 y,.int .i64 d,.int .u8 r,.string s] 26 (0,0)),(X1,.cells #[.string PT,.int .i64 (E:Int),.int .i64 (Pp:Int)] 38 (0,0))]:=kA HJ.out r5 hz0;have H2:KB w wr ⟨X0,5,none⟩ s [(X0,.cells #[.int .i64 K,.int .i64 x,.int .i64 y,.int .i64 d,.int .u8 r,.string s] 26 (0,0)),(X1,.cells #[.string PT,.int .i64 (E:Int),.int .i64 (Pp:Int)] 38 (0,0))]:=kB HJ.out r5 hz0;have YV:Hid (∀w1 r,tX r->Gl w1->Calls Tryz.prog 18 #[.string s,.int .u8 r] w1 fun e w'=>(∃T,e=.returned (.agg #[.string T,.int .i64 (E:Int),.int .i64 (Pp:Int)])/\Hid (FA s r E Pp T))/\Below w1.heap.size w1 w'):=vv.out.fx
     have I5:Hid (tX ((({data:= #[101,110,43,45]}:ByteArray)[j]'hjl).toNat:Int)):=ajH j hjl;have YW:Hid (Gl w):=hG;clear HJ
     go_wp2_with fail
     have HM:Hid (k+m1=n/\j+gk=4/\k<n/\k<1152921504606846976):=⟨by omega,by omega,hlt,hmx⟩
     clear hkn hj4 hlt hmx ez Lv sQ hb hs
     go_region_held3 (fun w'=>w'.cell? ⟨X0,5,none⟩=some (.string s)) (go_keep) (first
      |(go_at_call 18;refine(YV.out _ _ I5.out D7.out).mono ?_;rintro e w7 ⟨⟨T,rfl,HT⟩,aQ⟩;obtain⟨r7,qd⟩:=H1 w7 aQ;have r8:=World.new_ne w7 _ r7;have y0:=zT w7 0 (by(omega));have y1:=zT w7 1 (by(omega));have y2:=zT w7 2 (by(omega));clear aQ)
      |(go_at_call 18;refine(YV.out _ _ I5.out D8).mono ?_;rintro e w7 ⟨⟨T,rfl,HT⟩,aQ⟩;obtain⟨⟨r7,y0,y1,y2,u0,u1,u2,x0,x1,x2⟩,qd⟩:=H2 w7 aQ;have r8:=Em hz0;clear aQ))
     all_goals first
      |(obtain⟨WF,XF,e1,e2,HQ⟩:=YN T E Pp qd.out;rw[<-e1,<-e2];clear e1 e2 r7 r8 y0 y1 y2 qd)
      |(obtain⟨WF,XF,e1,e2,HQ⟩:=YO YW.out T E Pp qd.out;rw[<-e1,<-e2];clear e1 e2 r7 r8 y0 y1 y2 x0 x1 x2 u0 u1 u2 qd)
     all_goals
      clear D7 D8 H1 H2 r5 hz0;have I6:=HQ.out.h1;have hX1:=HQ.out.tl.tl.h1;have f0:WF.cell? ⟨XF,0,none⟩=some (.string T):=cell_of I6 0;have f1:WF.cell? ⟨XF,1,none⟩=some (.int .i64 (E:Int)):=cell_of I6 1;have f2:WF.cell? ⟨XF,2,none⟩=some (.int .i64 (Pp:Int)):=cell_of I6 2;have p0:WF.cell? ⟨X1,0,none⟩=some (.string PT):=cell_of hX1 0;have p1:WF.cell? ⟨X1,1,none⟩=some (.int .i64 (E:Int)):=cell_of hX1 1;have p2:WF.cell? ⟨X1,2,none⟩=some (.int .i64 (Pp:Int)):=cell_of hX1 2;have hz1:X1<WF.heap.size:=lt_of_heap hX1;clear I6 hX1;have I7:=vv.out.em _ T I5.out HT.out;by_cases hE:E=0
      ·subst hE;have hT:T.toList.isEmpty=false:=List.isEmpty_eq_false_iff.2 fun h=>(I7.1 h) rfl
       replace f1:WF.cell? ⟨XF,1,none⟩=some (.int .i64 0):=f1
       replace p1:WF.cell? ⟨X1,1,none⟩=some (.int .i64 0):=p1
       clear I7;by_cases hl:PT.size<=400
       ·have YX:decide ((PT.size:Int)<=400)=true:=by simp;omega
        have YY:Hid (∀w1,Gl w1->Calls Tryz.prog 18 #[.string PT,.int .u8 ((({data:= #[101,110,43,45]}:ByteArray)[j]'hjl).toNat:Int)] w1 fun e w'=>e=.returned (.agg #[.string T,.int .i64 0,.int .i64 (Pp:Int)])/\Below w1.heap.size w1 w'):=fun w1 g=>vv.out.gx rfl hl w1 _ T I5.out HT.out g
        have HQX:Hid (∀w1,Gl w1->Calls Tryz.prog 20 #[.string PT] w1 fun e w'=>e=.returned (.agg #[.string PT,.int .i64 0,.int .i64 (Pp:Int)])/\Below w1.heap.size w1 w'):=fun w1 g=>vv.out.qx rfl hl w1 g
        have D7:Hid (Gl WF.drew):=HQ.out.gl.drew;have D8:YM WF:=(HQ.out.gl.alloc _).drew;have H1:=kA HQ.out p0 hz1;have H2:=kB HQ.out p0 hz1;clear hl
        go_wp2_with fail
        clear YX hT f0 f1 f2 p1 p2 HT HQ
        go_region_held3 (fun w'=>w'.cell? ⟨X1,0,none⟩=some (.string PT)) (go_keep) (first
         |(go_at_call 18;refine(YY.out _ D7.out).mono ?_;rintro e w7 ⟨rfl,aQ⟩;obtain⟨r7,qd⟩:=H1 w7 aQ;have r8:=World.new_ne w7 _ r7;have y0:=zT w7 0 (by(omega));have y1:=zT w7 1 (by(omega));have y2:=zT w7 2 (by(omega));clear aQ)
         |(go_at_call 18;refine(YY.out _ D8).mono ?_;rintro e w7 ⟨rfl,aQ⟩;obtain⟨⟨r7,y0,y1,y2,u0,u1,u2,x0,x1,x2⟩,qd⟩:=H2 w7 aQ;have r8:=Em hz1;clear aQ))
        all_goals first
         |(obtain⟨WG,XG,e1,e2,pK⟩:=YN T 0 (Pp:Int) qd.out;rw[<-e1,<-e2];clear e1 e2 r7 r8 y0 y1 y2 qd)
         |(obtain⟨WG,XG,e1,e2,pK⟩:=YO YW.out T 0 (Pp:Int) qd.out;rw[<-e1,<-e2];clear e1 e2 r7 r8 y0 y1 y2 x0 x1 x2 u0 u1 u2 qd)
        all_goals
         clear D7 D8 H1 H2 hz1 p0;have p0:WG.cell? ⟨X1,0,none⟩=some (.string PT):=cell_of pK.out.tl.tl.tl.h1 0
         go_wp2_with fail
         refine(HQX.out _ pK.out.gl).mono ?_;rintro e w9 ⟨rfl,lh⟩;have o9:=(pK.out.next lh).alloc (.cells #[.string PT,.int .i64 0,.int .i64 (Pp:Int)] 38)
         have bW:Hid (Old w (w9.alloc (.cells #[.string PT,.int .i64 0,.int .i64 (Pp:Int)] 38)) [(X0,.cells #[.int .i64 K,.int .i64 x,.int .i64 y,.int .i64 d,.int .u8 r,.string s] 26 (0,0)),(X1,.cells #[.string PT,.int .i64 ((0:Nat):Int),.int .i64 (Pp:Int)] 38 (0,0))]):=o9.tl.tl.tl;have q0:(w9.alloc (.cells #[.string PT,.int .i64 0,.int .i64 (Pp:Int)] 38)).cell? ⟨w9.heap.size,0,none⟩=some (.string PT):=cell_of o9.h1 0;have q1:(w9.alloc (.cells #[.string PT,.int .i64 0,.int .i64 (Pp:Int)] 38)).cell? ⟨w9.heap.size,1,none⟩=some (.int .i64 0):=cell_of o9.h1 1;have q2:(w9.alloc (.cells #[.string PT,.int .i64 0,.int .i64 (Pp:Int)] 38)).cell? ⟨w9.heap.size,2,none⟩=some (.int .i64 (Pp:Int)):=cell_of o9.h1 2;have g0:(w9.alloc (.cells #[.string PT,.int .i64 0,.int .i64 (Pp:Int)] 38)).cell? ⟨XG,0,none⟩=some (.string T):=cell_of o9.tl.h1 0;have g1:(w9.alloc (.cells #[.string PT,.int .i64 0,.int .i64 (Pp:Int)] 38)).cell? ⟨XG,1,none⟩=some (.int .i64 0):=cell_of o9.tl.h1 1;have g2:(w9.alloc (.cells #[.string PT,.int .i64 0,.int .i64 (Pp:Int)] 38)).cell? ⟨XG,2,none⟩=some (.int .i64 (Pp:Int)):=cell_of o9.tl.h1 2;have f0:(w9.alloc (.cells #[.string PT,.int .i64 0,.int .i64 (Pp:Int)] 38)).cell? ⟨XF,0,none⟩=some (.string T):=cell_of o9.tl.tl.h1 0;have f1:(w9.alloc (.cells #[.string PT,.int .i64 0,.int .i64 (Pp:Int)] 38)).cell? ⟨XF,1,none⟩=some (.int .i64 0):=cell_of o9.tl.tl.h1 1;have f2:(w9.alloc (.cells #[.string PT,.int .i64 0,.int .i64 (Pp:Int)] 38)).cell? ⟨XF,2,none⟩=some (.int .i64 (Pp:Int)):=cell_of o9.tl.tl.h1 2;have p1:(w9.alloc (.cells #[.string PT,.int .i64 0,.int .i64 (Pp:Int)] 38)).cell? ⟨X1,0,none⟩=some (.string PT):=cell_of o9.tl.tl.tl.tl.h1 0;have p2:(w9.alloc (.cells #[.string PT,.int .i64 0,.int .i64 (Pp:Int)] 38)).cell? ⟨X1,1,none⟩=some (.int .i64 0):=cell_of o9.tl.tl.tl.tl.h1 1;have p3:(w9.alloc (.cells #[.string PT,.int .i64 0,.int .i64 (Pp:Int)] 38)).cell? ⟨X1,2,none⟩=some (.int .i64 (Pp:Int)):=cell_of o9.tl.tl.tl.tl.h1 2;clear o9 lh pK p0
         go_wp2_with fail
         go_roundg (gk-1)
         case measure=>have:=HM.out;omega
         case rel=>exact⟨j+1,by have:=HM.out;omega,by go_num,bW⟩
       ·have YX:decide ((PT.size:Int)<=400)=false:=by simp;omega
        have bW:=HQ.out.tl
        replace bW:Hid _:=bW
        go_wp2_with fail
        go_roundg (gk-1)
        case measure=>have:=HM.out;omega
        case rel=>exact⟨j+1,by have:=HM.out;omega,by go_num,bW⟩
      ·have hEz:¬((E:Int)=0):=by omega
       have hEb:((E:Int) == 0)=false:=xM.2 hEz;have hT:T.toList.isEmpty=true:=List.isEmpty_iff.2 (I7.2 hE);have hEn:((E:Int) != 0)=true:=by simp;omega
       have bW:Hid (Old w WF [(X0,.cells #[.int .i64 K,.int .i64 x,.int .i64 y,.int .i64 d,.int .u8 r,.string s] 26 (0,0)),(X1,.cells #[.string PT,.int .i64 (E:Int),.int .i64 (Pp:Int)] 38 (0,0))]):=HQ.out.tl;clear I7 HQ
       go_wp2_with fail
       go_roundg (gk-1)
       case measure=>have:=HM.out;omega
       case rel=>exact⟨j+1,by have:=HM.out;omega,by go_num,bW⟩
    ·have GI:decide ((j:Int)<4)=false:=by simp;omega
     have HN:Hid (Below w.heap.size w wr/\Gl wr):=⟨HJ.out.jI,HJ.out.gl⟩;clear HJ
     go_wp2_with fail
     go_roundg (m1-1)
     case measure=>omega
     case rel=>exact⟨k+1,by omega,by go_num,HN⟩
  ·clear HS;by_cases h1:k<n
   ·have h2:1152921504606846976<=k:=by omega
    have ez:(k:Int)<(n:Int):=by omega
    have Lv:decide ((k:Int)<1152921504606846976)=false:=by simp;omega
    clear hlt
    go_wp2_with fail
    refine(YJ _ om).mono ?_;rintro e w1 ⟨rfl,hb1⟩
    go_wp2_with fail
    go_ret
    exact⟨rfl,aj.trans (hb1.mono aj.size)⟩
   ·have ez:decide ((k:Int)<(n:Int))=false:=by simp;omega
    clear hlt
    go_wp2_with fail
    refine(YJ _ om).mono ?_;rintro e w1 ⟨rfl,hb1⟩
    go_wp2_with fail
    go_ret
    exact⟨rfl,aj.trans (hb1.mono aj.size)⟩
end Go.Proofs.YtkjhhooecopolaaGreatDoor
namespace Go.Proofs.YtkjhhooecopolaaGreatDoor
open Go.RowKit Go.Deep
theorem Tryz.opCells:Tryz.prog.cellsOf 26=6:=by kernel_rfl
theorem Tryz.intCells:Tryz.prog.cellsOf 3=1:=by kernel_rfl
theorem Tryz.byteCells:Tryz.prog.cellsOf 5=1:=by kernel_rfl
theorem Tryz.strCells:Tryz.prog.cellsOf 9=1:=by kernel_rfl
section
variable{H:Type}{enc:TypeId×Value->H}{W:World}{spare:Nat->Bool}{held:Bool}
theorem six{α:Type}:∀{l:List α},l.length=6->∃a b c d e f,l=[a,b,c,d,e,f]
 |[a,b,c,d,e,f],_=>⟨a,b,c,d,e,f,rfl⟩
theorem ajN{so:Option Addr}{n cap:Nat}{d:DataW H}{p:List MemPlace}(h:DataW.Trod enc Tryz.prog W 0 spare held 22 (.slice so n cap) d p):n<=maxLen/\Ou W so n:=by
 obtain⟨fuel,hf⟩:=h;rcases open_slice Tryz.underlying22 hf with⟨hcs,hx⟩|⟨a,len,cap',m,fl,D,Pl,hcs,hb,hl,hm,hmm,hx,hel⟩
 ·simp[Value.cells] at hcs;obtain⟨rfl,rfl,rfl⟩:=hcs;exact⟨iq _,fun k hk=>absurd hk (Nat.not_lt_zero _)⟩
 ·simp[Value.cells] at hcs;obtain⟨rfl,rfl,rfl⟩:=hcs;refine⟨dY hl hm,fun k hk=>?_⟩
  have hspot:a.spot=none:=by
   obtain⟨cs0,z1,_⟩:=hel 0 (by rw[hmm];split<;>omega)
   rw[Tryz.opCells] at z1;obtain⟨_,zl,zc⟩:=World.cells?_some z1;obtain⟨q0,q1,q2,q3,q4,q5,rfl⟩:=six zl;simpa[Addr.add] using World.cell?_spot (v:=q0) (zc 0 (by omega))
  obtain⟨cs',h1,h2⟩:=hel k (by rw[hmm];split<;>omega)
  rw[Tryz.opCells] at h1;obtain⟨_,hlen,hcell⟩:=World.cells?_some h1;obtain⟨xs,k',hk',hxy,_,hxl,hfl⟩:=DataW.trod_struct Tryz.underlying26 h2;obtain⟨b,o,spot⟩:=a;obtain rfl:spot=none:=hspot;obtain⟨y0,y1,y2,y3,y4,y5,rfl⟩:=six (hxl.trans (by rfl))
  obtain⟨v0,v1,v2,v3,v4,v5,rfl⟩:=six hlen
  ·clear hxl hlen;have g0:=hfl 0 _ rfl;have g1:=hfl 1 _ rfl;have g2:=hfl 2 _ rfl;have g3:=hfl 3 _ rfl;have g4:=hfl 4 _ rfl;have g5:=hfl 5 _ rfl;simp[Tryz.intCells,Tryz.byteCells,Tryz.strCells] at g0 g1 g2 g3 g4 g5;obtain⟨n0,i0,_,_⟩:=DataW.trod_int Tryz.underlying3 g0;obtain⟨n1,i1,_,_⟩:=DataW.trod_int Tryz.underlying3 g1;obtain⟨n2,i2,_,_⟩:=DataW.trod_int Tryz.underlying3 g2;obtain⟨n3,i3,_,_⟩:=DataW.trod_int Tryz.underlying3 g3;obtain⟨n4,i4,_,_⟩:=DataW.trod_int Tryz.underlying5 g4;obtain⟨s,i5,_,hs⟩:=DataW.trod_string Tryz.underlying9 g5;simp only[List.cons.injEq,rR] at i0 i1 i2 i3 i4 i5;subst i0 i1 i2 i3 i4 i5;have e0:=hcell 0 (by omega)
   have e1:=hcell 1 (by omega)
   have e2:=hcell 2 (by omega)
   have e3:=hcell 3 (by omega)
   have e4:=hcell 4 (by omega)
   have e5:=hcell 5 (by omega)
   simp[Go.WideShapes.add_plain] at e0 e1 e2 e3 e4 e5;exact⟨b,o,n0,n1,n2,n3,n4,s,rfl,by simpa using World.block_lt_of_cell? _ _ e0,hs,e0,e1,e2,e3,e4,e5⟩
end
end Go.Proofs.YtkjhhooecopolaaGreatDoor
namespace Go.Proofs.YtkjhhooecopolaaGreatDoor
open Go.ChangeShapes Go.WideShapes Go.ChangeAt Go.RowKit
theorem own:ownKnob Tryz.prog.godebug=none:=by kernel_rfl
theorem laidOut:laidOutB Tryz.prog=true:=by kernel_rfl
theorem ajO:mapsRowed Tryz.prog=true:=by kernel_rfl
theorem ajP:Tryz.prog.stopsHeard=true:=by kernel_rfl
theorem ajQ:Tryz.prog.mayEnter=true:=by kernel_rfl
theorem ajR:true=Tryz.prog.looks []:=by kernel_rfl
end Go.Proofs.YtkjhhooecopolaaGreatDoor
namespace Go.Proofs.YtkjhhooecopolaaGreatDoor
open Go.ChangeShapes Go.WideShapes Go.ChangeAt Go.RowKit Go.Deep
theorem YZ:Tryz.prog.globalNamed "strconv.ErrSyntax" =some 0:=by kernel_rfl
theorem Y0:Tryz.prog.globalNamed "strconv.ErrRange" =some 1:=by kernel_rfl
theorem Y4:Tryz.prog.globalNamed "internal/strconv.uint64pow10" =some 3:=by kernel_rfl
theorem ajS:Tryz.prog.globalNamed "math/bits.deBruijn32tab" =some 4:=by kernel_rfl
theorem ajT:Tryz.prog.globalNamed "math/bits.deBruijn64tab" =some 5:=by kernel_rfl
theorem ajU:(Tryz.prog.globals[0]?).map (·.type)=some 199:=by kernel_rfl
theorem ajV:(Tryz.prog.globals[1]?).map (·.type)=some 199:=by kernel_rfl
theorem ajW:(Tryz.prog.globals[3]?).map (·.type)=some 356:=by kernel_rfl
theorem Y5: "*" ++ "errors.errorString" = "*errors.errorString" :=by decide
theorem Y6(u:TypeId)(h:Tryz.prog.typeName? 3 u=some "*errors.errorString"):u=359:=
 typeName_ptr_named (nm:= "errors.errorString") (by rw[Y5];kernel_rfl) (by kernel_rfl) (by decide) u (by rw[Y5];exact h)
theorem cellsE:Tryz.prog.cellsOf 361=1:=by kernel_rfl
theorem ajX:Tryz.prog.cellsOf 282=1:=by kernel_rfl
theorem ajY:Tryz.prog.cellsOf 356=20:=by kernel_rfl
theorem D9{W:World}{n:String}{g:Nat}{cs:Array Value}(hg:Tryz.prog.globalNamed n=some g)(hv:W.var? Tryz.prog n=some cs):g<W.heap.size:=by
 simp only[World.var?,hg,Option.bind_some] at hv;split at hv
 ·rename_i h;exact lt_of_heap h
 ·cases hv
theorem ajZ{W:World}(h:laidMetH Tryz.prog Rows.printsRow.laid W):Gl W:=by
 rw[MakeChecks.laidMetH_plain _ _ _ (by kernel_rfl)] at h
 have h1:=h.tail;have h2:=h1.tail;have h3:=h2.tail;have h4:=h3.tail;obtain⟨a0,sa,og,_,_,_⟩:=laid_sentinel h3 Y0 ajV Tryz.underlying199 Y6 Tryz.underlying359 Tryz.underlying361 rfl rfl Tryz.underlying9 cellsE Tryz.strCells;obtain⟨b0,sb,hvb,_,_,_⟩:=laid_sentinel h4 YZ ajU Tryz.underlying199 Y6 Tryz.underlying359 Tryz.underlying361 rfl rfl Tryz.underlying9 cellsE Tryz.strCells;refine⟨?_,⟨_,_,hvb⟩,⟨_,_,og⟩,?_⟩
 ·obtain⟨ps,⟨g0,t0,cs0,f0,p0,q0,hg0,ht0,hv0,hd0,_⟩,_,_⟩:=h1;obtain⟨ps',⟨g1,t1,cs1,f1,p1,q1,hg1,ht1,hv1,hd1,_⟩,_,_⟩:=h;obtain⟨al1,⟨g2,t2,cs2,f2,p2,q2,hg2,ht2,hv2,hd2,_⟩,_,_⟩:=h2;have i0:=D9 ajT hv0;have i1:=D9 ajS hv1;have i2:=D9 Y4 hv2;have i3:=D9 Y0 og;have i4:=D9 YZ hvb;omega
 ·exact Lib.tabIs_of_head (k:=.u64) (zs:=Lib.pow10Tab) Y4 ajW Tryz.underlying356 Tryz.underlying282 ajX ajY h2
theorem aj0(os:Os)(args:Array Value):laidMetH Tryz.prog Rows.printsRow.laid ((World.doorLaid Tryz.prog 400 os).forCall (fun _ _=>0) ⟨#[],args,[]⟩).memory:=
 laidMetH_of_parts3 (fuel:=8) (laidMet_of_run' 8 (by kernel_rfl) (by kernel_rfl)) (by kernel_rfl) (by kernel_rfl)
end Go.Proofs.YtkjhhooecopolaaGreatDoor
namespace Go.Proofs.YtkjhhooecopolaaGreatDoor
open Go.ChangeShapes Go.WideShapes Go.ChangeAt Go.RowKit
theorem aj1:(Rows.againRow.inPlace == Tryz.prog.inPlace 7)=true:=by kernel_rfl
theorem aj2:(Rows.againRow.unfollowed == Tryz.prog.unfollowed 7)=true:=by kernel_rfl
theorem aj3:(Rows.againRow.recurses == Tryz.prog.recurses 7)=true:=by kernel_rfl
theorem aj4:(Rows.againRow.named == Tryz.prog.varsNamed 7)=true:=by kernel_rfl
theorem aj5:(Rows.againRow.lifted == Tryz.prog.liftsFinal)=true:=by kernel_rfl
theorem aj6:(Rows.againRow.plainKeys == Tryz.prog.plainKeys)=true:=by kernel_rfl
theorem aj7:false=Rows.againRow.goesBy Tryz.prog:=by kernel_rfl
theorem aj8:joinedFacts Tryz.prog 7 Tryz.f7 Rows.againSpec Rows.againRow=true:=by
 unfold joinedFacts;simp only[laidOut,ajO,ajP,ajQ,aj1,aj2,aj3,aj4,aj5,aj6,Bool.and_true]
 kernel_rfl
end Go.Proofs.YtkjhhooecopolaaGreatDoor
namespace Go.Proofs.YtkjhhooecopolaaGreatDoor
open Go.ChangeShapes Go.WideShapes Go.ChangeAt Go.RowKit Go.Deep
theorem aj9(os:Os)(started:os.Started)(H:Type)(enc:TypeId×Value->H):
  ReturnsInHanded {} Tryz.checked os 7 .any (fun w args=>(Rows.againSpec.pre enc Tryz.prog Tryz.f7 [] false w args/\laidMetH Tryz.prog Rows.againRow.laid w)/\sizedMet enc Tryz.prog Tryz.f7 (OpenSpec.ofChange Rows.againSpec) false w args)
   (Rows.againSpec.post enc Tryz.prog Tryz.f7 false true false false):=by
 refine returnsInHanded_of_change_and (C:=Tryz.checked) (X:=fun w _=>laidMetH Tryz.prog Rows.againRow.laid w) (fun _ _ _ hh h=>h.of_heap hh) own started (by kernel_rfl) Tryz.func7
  (ChangeSpec.witness_shaped (enc:=enc) (C:=Tryz.checked) (os:=os) (X:=fun w _=>laidMetH Tryz.prog Rows.againRow.laid w) false (World.doorLaid Tryz.prog 400 os) #[.slice none 0 0] 8 rfl (World.shaped_of_RefB (by kernel_rfl) (by kernel_rfl)) (by kernel_rfl) (by kernel_rfl) (by kernel_rfl) (aj0 os _)) ?_
 intro W base args ds gs before Y7 hW _ _ hL _;have hval:∀(j:Nat) t v,Tryz.f7.params[j]?=some t->args[j]?=some v->Value.okWide Tryz.prog W .any base t v:=Y7;have hW':=hW;obtain⟨p,q,Dd,hV,rfl,hfz,hnd⟩:=hW;have hA:DataW.TrodAll enc Tryz.prog W 0 (fun _=>true) true Tryz.f7.params.toList args.toList ds p:=Dd
 rw[Tryz.params7] at hA hval;obtain⟨v0,d0,rfl,rfl,h0⟩:=trodAll_one hA;obtain⟨rfl,rfl⟩:=trodVars_none hV;obtain⟨so,n,cap,rfl⟩:=okWide_slice Tryz.underlying22 (hval 0 22 v0 rfl rfl);clear Dd Y7;simp only[qg] at hW';have hlt:∀x∈p,x.block<W.heap.size:=fun x hx=>by simpa using hW'.lt x hx
 obtain⟨hn,hS⟩:=ajN h0;refine(ajI so n cap W (ajZ hL) hS hn).mono fun e W'⟨he,hb⟩=>?_
 subst he;refine⟨_,rfl,_,_,_,[],p,[],hW',trodAll_mk1 (shut_bool Tryz.underlying4 _),trodAll_mk1 (Below.trod laidOut (by kernel_rfl) (fO (by kernel_rfl)) h0 hb hlt),rfl,hb.frame _,fun h=>by cases h⟩
theorem aka:Rows.AgainSaid:=
 OpenClaim.holds_of_wide 7 Tryz.f7 rfl rfl rfl rfl rfl rfl rfl ⟨rfl,rfl,rfl,rfl,rfl⟩ rfl rfl rfl rfl rfl (by kernel_rfl) Tryz.func7 aj8
  (fO (by kernel_rfl)) (by unfold Func.isWrapper;first |(rw[ah (by decide+kernel)];kernel_rfl)|(rw[aa (by decide+kernel)];exact⟨rfl,rfl⟩))
  (fun os started H enc _=>aj9 os started H enc)
end Go.Proofs.YtkjhhooecopolaaGreatDoor
namespace Go.Proofs.YtkjhhooecopolaaGreatDoor
theorem again_card:Rows.AgainCardSaid:=
 Claim7.holds_tied_plain_at .later [] [.data,.data,.data,.sentinel,.sentinel] true Rows.againCard.stood.harness true
  aka (fun _ h=>by cases h) (by kernel_rfl) (fun _ h=>by cases h) again_row_tie rfl ⟨rfl,rfl⟩ (by kernel_rfl) rfl
  (fun f fn hf hfn=>by
   obtain rfl:f=7:=lG ((show Tryz.prog.funcNamed "mend/mendlaw.Again" =some 7 by kernel_rfl).symm.trans hf) |>.symm
   obtain rfl:fn=Tryz.f7:=(lG (Tryz.func7.symm.trans hfn)).symm;exact⟨ajR,fun j t ht=>by
    rw[Tryz.params7] at ht;have h3:t=22:=by
     rcases j with _|j
     ·simpa using ht.symm
     ·simp at ht
    subst h3;exact(show Tryz.prog.wantsStandIn 22=false by kernel_rfl)⟩)
  aj7
end Go.Proofs.YtkjhhooecopolaaGreatDoor

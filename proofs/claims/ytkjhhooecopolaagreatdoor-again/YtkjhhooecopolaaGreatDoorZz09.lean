import Derived.Test.YtkjhhooecopolaaGreatDoorZz08
set_option maxRecDepth 100000
set_option maxHeartbeats 4000000
namespace Go.Proofs.YtkjhhooecopolaaGreatDoor
open Go.RowKit
theorem abR(k:Int)(raw:ByteArray)(n:Int)(p j:Nat)(w:World)(hp:p<=1000)(hr:raw.size<=1000)(hj:j=p+raw.size):
  Calls Tryz.prog 195 #[.agg #[.int .i64 k,.string raw,.int .i64 n,.int .i64 p]] w fun e w'=>e=.returned (.int .i64 j)/\Below w.heap.size w w':=by
 have HJ:Hid (j=p+raw.size):=hj;clear hj
 go_enter Tryz.func195,Tryz.ntmps195
 go_wp2
 go_ret
 exact⟨qB (by rw[HJ.out];simp),(Below.refl _ _).alloc (ax _) _⟩
theorem abS:(Tryz.prog.info? 76).map (fun i=>(i.zero,i.size,i.bytes))=some (some (.agg #[.int .i64 0,.string ⟨#[]⟩,.int .i64 0,.int .i64 0]),4,40):=by kernel_rfl
theorem Gl.drew{w:World}(h:Gl w):Gl w.drew:=⟨h.sz,h.es,h.er,h.tab⟩
def Rh(rb:Nat)(s:ByteArray)(rv:Value)(tv:Value)(m:Nat)(xs:List Value)(c0 c1 c2 c3:Value)(w w':World):Prop:=
 (∃yF,w'.heap[rb]?=some (.cells #[.string s,c0,c1,c2,c3,yF,rv] 80 (0,0))/\w'.ownsRow (rb+1) 76 4 yF m xs/\(∀k,yF.ownBlock=some k->tv.ownBlock=some k\/w.heap.size<=k))/\
 (∀k,k<w.heap.size->k≠rb->tv.ownBlock≠some k->w'.heap[k]?=w.heap[k]?)/\Below rb w w'
theorem abT{rb:Nat}{s:ByteArray}{k:Value}{raw n p:Value}{tv rv:Value}{m:Nat}{xs ys:List Value}{w w1 w3 w4:World}{o:Obj}{g cap:Nat}{c0 c1 c2 c3:Value}
  (hb:w.heap[rb]?=some (.cells #[.string s,k,raw,n,p,tv,rv] 80 (0,0)))
  (hown:w.ownsRow (rb+1) 76 4 tv m xs)
  (ho:w1.ownsRow (rb+1) 76 4 (.slice (some ⟨g,0,none⟩) (m+1) cap) (m+1) ys)
  (hgrow:(w.alloc o).drew.grownBy w1 tv.ownBlock)(hat:tv.ownBlock=some g\/g=w.heap.size+1)
  (hb3:Below (w1.setCell ⟨rb,5,none⟩ (.slice (some ⟨g,0,none⟩) (m+1) cap)).drew.heap.size (w1.setCell ⟨rb,5,none⟩ (.slice (some ⟨g,0,none⟩) (m+1) cap)).drew w3)
  (hb4:Below w3.heap.size w3 w4):
  Rh rb s rv tv (m+1) ys c0 c1 c2 c3 w ((((w4.setCell ⟨rb,1,none⟩ c0).setCell ⟨rb,2,none⟩ c1).setCell ⟨rb,3,none⟩ c2).setCell ⟨rb,4,none⟩ c3):=by
 have hlt:=lt_of_heap hb;have hs1:w.heap.size+1<=w1.heap.size:=by have:=hgrow.size;simpa using this
 have hW:(w1.setCell ⟨rb,5,none⟩ (.slice (some ⟨g,0,none⟩) (m+1) cap)).drew.heap.size=w1.heap.size:=by simp[World.drew]
 have hs3:w1.heap.size<=w3.heap.size:=by have:=hb3.size;rw[hW] at this;exact this
 have hs4:w3.heap.size<=w4.heap.size:=hb4.size;have e1:∀k,k<w1.heap.size->k≠rb->w4.heap[k]?=w1.heap[k]?:=fun k hk hne=>by
  rw[hb4.block k (by omega),hb3.block k (by rw[hW];exact hk)]
  exact gJ hne _
 have e2:∀k,k<w.heap.size->k≠rb->tv.ownBlock≠some k->w4.heap[k]?=w.heap[k]?:=fun k hk hne ht=>by
  rw[e1 k (by omega) hne];exact qD hgrow k hk ht
 have hb1:w1.heap[rb]?=some (.cells #[.string s,k,raw,n,p,tv,rv] 80 (0,0)):=(qD hgrow rb hlt (qE hown rb (by omega))).trans hb
 have FB:w4.heap[rb]?=some (.cells #[.string s,k,raw,n,p,.slice (some ⟨g,0,none⟩) (m+1) cap,rv] 80 (0,0)):=by
  rw[hb4.block rb (by omega),hb3.block rb (by rw[hW];omega)]
  exact heap_set hb1 _
 refine⟨⟨.slice (some ⟨g,0,none⟩) (m+1) cap,?_,?_,?_⟩,?_,?_⟩
 ·exact heap_set (heap_set (heap_set (heap_set FB _) _) _) _
 ·refine aO ho fun k hk=>?_
  obtain⟨q1,q2⟩:=aB ho k hk;rw[gJ (by omega),gJ (by omega),gJ (by omega),gJ (by omega)]
  exact e1 k q2 (by omega)
 ·intro k hk;have uw:g=k:=by simpa[Value.ownBlock] using hk
  rcases hat with h|h
  ·exact ae (by rw[h,uw])
  ·exact af (by omega)
 ·intro k hk hne ht;rw[gJ hne,gJ hne,gJ hne,gJ hne];exact e2 k hk hne ht
 ·have q:Below rb w w4:=by
   refine⟨?_,?_,?_,by omega,fun k hk=>e2 k (by omega) (by omega) (qE hown k (by omega))⟩
   ·rw[hb4.os,hb3.os];exact hgrow.os
   ·rw[hb4.tape,hb3.tape];exact hgrow.tape
   ·rw[hb4.output,hb3.output];exact hgrow.output
  exact(((q.setCell (ax _) _).setCell (ax _) _).setCell (ax _) _).setCell (ax _) _
theorem abU(rb:Nat)(s raw:ByteArray)(k n:Int)(p j:Nat)(tv rv:Value)(m:Nat)(xs:List Value)(w:World)(k':Int)(KN:ByteArray)(n':Int)(p':Nat)
  (hb:w.heap[rb]?=some (.cells #[.string s,.int .i64 k,.string raw,.int .i64 n,.int .i64 p,tv,rv] 80 (0,0)))
  (hown:w.ownsRow (rb+1) 76 4 tv m xs)(hm:m<=1000)(hp:p<=1000)(hr:raw.size<=1000)(hj:j=p+raw.size)(hG:Gl w)(od:6<=rb)
  (hT:∀w1,Gl w1->Calls Tryz.prog 60 #[.string s,.int .i64 j] w1 fun e w'=>e=.returned (.agg #[.int .i64 k',.string KN,.int .i64 n',.int .i64 p'])/\Below w1.heap.size w1 w'):
  Calls Tryz.prog 148 #[.pointer (some ⟨rb,0,none⟩)] w fun e w'=>e=.returned (.tuple #[])/\
   Rh rb s rv tv (m+1) (xs++[.int .i64 k,.string raw,.int .i64 n,.int .i64 p]) (.int .i64 k') (.string KN) (.int .i64 n') (.int .i64 p') w w':=by
 have HJ:Hid (j=p+raw.size):=hj;have HT:Hid (∀w1,Gl w1->Calls Tryz.prog 60 #[.string s,.int .i64 j] w1 fun e w'=>e=.returned (.agg #[.int .i64 k',.string KN,.int .i64 n',.int .i64 p'])/\Below w1.heap.size w1 w'):=hT
 clear hj hT;obtain⟨i0,hi,hz0,hz1,hz2⟩:=info_parts abS;have c0:w.cell? ⟨rb,0,none⟩=some (.string s):=cell_of hb 0;have c1:w.cell? ⟨rb,1,none⟩=some (.int .i64 k):=cell_of hb 1;have c2:w.cell? ⟨rb,2,none⟩=some (.string raw):=cell_of hb 2;have c3:w.cell? ⟨rb,3,none⟩=some (.int .i64 n):=cell_of hb 3;have c4:w.cell? ⟨rb,4,none⟩=some (.int .i64 p):=cell_of hb 4;have c5:w.cell? ⟨rb,5,none⟩=some tv:=cell_of hb 5;have hlt:=lt_of_heap hb
 go_enter Tryz.func148,Tryz.ntmps148
 go_wp2_with fail
 go_region_law (refine step_append_lies _ rfl (.tmp 6) (.tmp 11) 77 rfl (rb+1) 76 i0 _ 4 40 Tryz.underlying77 hi hz0 hz1 hz2 rfl (by decide) tv m xs (by simp[Act.eval]) (aO hown (fun k hk=>Below.heap_alloc _ _ _ (aB hown k hk).2)) ⟨w.heap.size,0,none⟩ 1 1 [.int .i64 k,.string raw,.int .i64 n,.int .i64 p] (by simp[Act.eval]) rfl (World.news_of_block (cs:= #[.int .i64 k,.string raw,.int .i64 n,.int .i64 p]) (t:=76) (fr:=(0,0)) (heap_alloc_new w _)) (by simp[Value.oneCell']) (by decide) (by unfold maxLen;omega) (by omega) (by simp;omega) (w.heap.size+1) (by simp) ?_;intro g cap w1 ho hgrow hat ur;have hb1:=(qD hgrow rb hlt (qE hown rb (by omega))).trans hb;have d5:w1.cell? ⟨rb,5,none⟩=some tv:=cell_of hb1 5;have f5:w1.frozen? ⟨rb,5,none⟩=false:=aX hb1 5)
 all_goals
  have d0:w1.cell? ⟨rb,0,none⟩=some (.string s):=cell_of hb1 0;have d1:w1.cell? ⟨rb,1,none⟩=some (.int .i64 k):=cell_of hb1 1;have d2:w1.cell? ⟨rb,2,none⟩=some (.string raw):=cell_of hb1 2;have d3:w1.cell? ⟨rb,3,none⟩=some (.int .i64 n):=cell_of hb1 3;have d4:w1.cell? ⟨rb,4,none⟩=some (.int .i64 p):=cell_of hb1 4;have q1:w1.frozen? ⟨rb,1,none⟩=false:=aX hb1 1;have q2:w1.frozen? ⟨rb,2,none⟩=false:=aX hb1 2;have q3:w1.frozen? ⟨rb,3,none⟩=false:=aX hb1 3;have q4:w1.frozen? ⟨rb,4,none⟩=false:=aX hb1 4;have wC:rb<w1.heap.size:=lt_of_heap hb1;have HH:Hid (Gl (w1.setCell ⟨rb,5,none⟩ (.slice (some ⟨g,0,none⟩) (m+1) cap)).drew):=by
   have q:Below rb w w1:=((Below.refl _ _).alloc (dN hlt) _).drew.grown hgrow (by show rb<=(w.alloc _).heap.size;simp;omega) (fun k hk=>by have:=(aB hown k hk).1;omega)
   exact(hG.below (q.setCell (ax _) _) od).drew
  clear c0 c1 c2 c3 c4 c5
  go_wp2_with fail
  go_region_with (first
   |(go_at_call 195;refine(abR _ _ _ _ j _ hp hr HJ.out).mono ?_;rintro e w3 ⟨rfl,hb3⟩;have hx3:w3.heap[rb]?=some (.cells #[.string s,.int .i64 k,.string raw,.int .i64 n,.int .i64 p,.slice (some ⟨g,0,none⟩) (m+1) cap,rv] 80 (0,0)):=(hb3.block rb (by simp;omega)).trans (heap_set hb1 _);have x0:w3.cell? ⟨rb,0,none⟩=some (.string s):=cell_of hx3 0)
   |(go_at_call 60;refine(HT.out _ (HH.out.below hb3 (by simp;omega))).mono ?_;rintro e w4 ⟨rfl,hb4⟩;have uF:=(hb4.block rb (lt_of_heap hx3)).trans hx3;have y1:w4.cell? ⟨rb,1,none⟩=some (.int .i64 k):=cell_of uF 1;have y2:w4.cell? ⟨rb,2,none⟩=some (.string raw):=cell_of uF 2;have y3:w4.cell? ⟨rb,3,none⟩=some (.int .i64 n):=cell_of uF 3;have y4:w4.cell? ⟨rb,4,none⟩=some (.int .i64 p):=cell_of uF 4;have z1:w4.frozen? ⟨rb,1,none⟩=false:=aX uF 1;have z2:w4.frozen? ⟨rb,2,none⟩=false:=aX uF 2;have z3:w4.frozen? ⟨rb,3,none⟩=false:=aX uF 3;have z4:w4.frozen? ⟨rb,4,none⟩=false:=aX uF 4))
  all_goals
   go_wp2_with fail
   go_end0
   exact⟨rfl,abT hb hown ho hgrow hat hb3 hb4⟩
theorem abV{rb:Nat}{s:ByteArray}{A r:List Pl.Tk}{t:Pl.Tk}{rg:List (List (Int×Int))}{w:World}(cx:Cx rb s A)(hR:RD rb s A (t::r) rg w)(hG:Gl w)
  (hk:t.k=119\/t.k=110\/t.k=40\/t.k=41\/t.k=44):
  Calls Tryz.prog 148 #[.pointer (some ⟨rb,0,none⟩)] w fun e w'=>e=.returned (.tuple #[])/\RD rb s A r rg w'/\Below rb w w'/\Kp rb w w':=by
 obtain⟨c,t',r',tv,rv,hc,hl,hb,hown,hrg⟩:=hR;injection hl with h1 h2;subst h1 h2;have hch:Pl.iG s.data.toList (t::r):=Pl.J6 _ c _ (by rw[hc];exact cx.ch) (by simp)
 obtain⟨u,r',hr,hu,hcr⟩:=Pl.Qc _ t r hch (by omega)
 have hpl:=cx.pl t (by rw[<-hc];simp)
 have hsz:s.data.toList.length=s.size:=by simp
 have hlen:c.length+(r.length+1)<=402:=by have:=cx.len;rw[<-hc] at this;simpa using this
 have abW:Pl.bu t=t.raw:=by unfold Pl.bu;rw[aa (by omega)]
 have hp1:=hpl.1;rw[hsz] at hp1;have hrs:(⟨(Pl.bu t).toArray⟩:ByteArray).size=t.raw.length:=by rw[abW];rfl
 have hs:=cx.hs;refine(abU rb s _ _ _ t.pl (t.pl+t.raw.length) tv rv c.length (nD c) w (Pl.pk u) ⟨(Pl.bu u).toArray⟩ u.n u.pl hb hown (by omega) (by omega) (by rw[hrs];omega) (by rw[hrs]) hG cx.rb ?_).mono ?_
 ·intro w1 g1;have:=Qh Qs s (t.pl+t.raw.length) w1 hp1 cx.hs g1;rw[<-hu] at this;exact this
 ·rintro e w' ⟨rfl,⟨⟨yF,hb',hown',htv⟩,mB,aj⟩⟩;refine⟨rfl,⟨c++[t],u,r',yF,rv,by rw[<-hc];simp,hr,hb',?_,?_⟩,aj,?_⟩
  ·rw[aaV];simpa[eo] using hown'
  ·refine hrg.kept fun k cur e hk' he hlt=>?_
   refine mB k (lt_of_heap hk') (by omega) (sB hown hk' ?_)
   rcases he with rfl|rfl<;>decide
  ·rintro k o hne ⟨tv0,h0,h1⟩ hk';rw[cell_of hb 5] at h0;injection h0 with h0;subst h0;refine⟨(mB k (lt_of_heap hk') hne h1).trans hk',yF,cell_of hb' 5,fun e=>?_⟩
   rcases htv k e with h|h
   ·exact h1 h
   ·have:=lt_of_heap hk';omega
theorem Ri:lM:=fun _ _ _ _ _ _ _ cx hR hG hk=>abV cx hR hG hk
def mD(b v:Int):Bool:=decide (-b<=v/\v<=b)
theorem FC(v b:Int)(w:World)(h0:0<=b)(h1:b<=1000000):
  Calls Tryz.prog 34 #[.int .i64 v,.int .i64 b] w fun e w'=>e=.returned (.bool (mD b v))/\w'=w:=by
 by_cases h: -b<=v
 ·go_enter Tryz.func34,Tryz.ntmps34
  go_wp2
  go_ret
  exact⟨vW (by unfold mD;simp[h]),rfl⟩
 ·have h':decide (-b<=v)=false:=by simpa using h
  go_enter Tryz.func34,Tryz.ntmps34
  go_wp2
  go_ret
  exact⟨vW (by unfold mD;simp;omega),rfl⟩
theorem Rj(s:ByteArray)(w:World)(hs:s.size<=400)(hG:Gl w):
  Calls Tryz.prog 60 #[.string s,.int .i64 0] w fun e w'=>e=.returned (.agg (eo (Pl.tk s.data.toList 0)))/\Below w.heap.size w w':=
 Qh Qs s 0 w (iq _) hs hG
theorem abY(s:List UInt8):∃r,Pl.all s=Pl.tk s 0::r:=Pl.J5 s _ 0
theorem RD.fresh{s:ByteArray}{w:World}{o:Obj}(ho:o=.cells (E6 s (Pl.tk s.data.toList 0) (.slice none 0 0) (.slice none 0 0)) 80 (0,0)):RD w.heap.size s (Pl.all s.data.toList) (Pl.all s.data.toList) [] (w.alloc o):=by
 obtain⟨r,hr⟩:=abY s.data.toList;refine⟨[],_,r,.slice none 0 0,.slice none 0 0,rfl,hr,?_,World.ownsRow_nil _ _ _ _,[],rfl,World.ownsRow_nil _ _ _ _,?_,?_⟩
 ·rw[heap_alloc_new,ho]
 ·intro i v g hi;simp at hi
 ·intro i j v u k hi;simp at hi
theorem Cx.mk'{s:ByteArray}{rb:Nat}(hs:s.size<=400)(od:6<=rb):Cx rb s (Pl.all s.data.toList):=
 ⟨hs,Pl.E1 _,by have:=Pl.E3 s.data.toList;simp at this;omega,Pl.E2 _,od⟩
def outT(t:Pl.Tk):Bool:=decide (t.k=110)&& !mD 50 t.n
theorem oh(c:List Pl.Tk)(k:Nat)(t:Pl.Tk)(h:c[k]?=some t)(j:Nat)(hj:j<4):(nD c)[k*4+j]?=(eo t)[j]?:=by
 induction c generalizing k with
 |nil=>simp at h
 |cons a r ih=>
  cases k with
  |zero=>
   have:a=t:=by simpa using h
   subst this;simp only[nD,vw,Ae,js];rw[eG (by simp[eo];omega)]
   simp
  |succ k=>
   have h':r[k]?=some t:=by simpa using h
   have:=ih k h';simp only[nD,vw] at this⊢;rw[mW (by simp[eo];omega)]
   rw[<-this];congr 1;simp[eo];omega
theorem abZ(s:ByteArray)(w:World)(hs:400<s.size)(hm:s.size<=maxLen):
  Calls Tryz.prog 33 #[.string s] w fun e w'=>e=.returned (.tuple #[.pointer none,.int .i64 1,.int .i64 0])/\w'=w:=by
 unfold maxLen at hm
 go_enter Tryz.func33,Tryz.ntmps33
 go_wp2
 go_ret3
 exact⟨rfl,rfl⟩
theorem ab0(s:ByteArray)(w:World)(hs:s.size<=400)(hG:Gl w)(l':List Pl.Tk)(t:Pl.Tk)(r:List Pl.Tk)(b:Bool)(v:List (List (List (Int×Int))))
  (hp:Pl.bO (Pl.all s.data.toList)=(b,l',v))(hl:l'=t::r)(hbad:b=false\/t.k≠101):
  Calls Tryz.prog 33 #[.string s] w fun e w'=>e=.returned (.tuple #[.pointer none,.int .i64 2,.int .i64 t.pl])/\Below w.heap.size w w':=by
 have HP:Hid (Pl.bO (Pl.all s.data.toList)=(b,l',v)):=hp;have HT:Hid (∀w1,Gl w1->Calls Tryz.prog 60 #[.string s,.int .i64 0] w1 fun e w'=>e=.returned (.agg (eo (Pl.tk s.data.toList 0)))/\Below w1.heap.size w1 w'):=fun w1 g1=>Rj s w1 hs g1
 clear hp;generalize hk:Pl.tk s.data.toList 0=t0 at*;have HK:Hid (Pl.tk s.data.toList 0=t0):=hk;unfold eo at HT;clear hk
 go_enter Tryz.func33,Tryz.ntmps33
 go_wp2_with fail
 refine(HT.out _ hG).mono ?_;rintro e w1 ⟨rfl,hb1⟩;have bz:Gl w1:=hG.below hb1 hG.sz
 go_wp2_with fail
 have FD:RD w1.heap.size s (Pl.all s.data.toList) (Pl.all s.data.toList) [] (w1.alloc (.cells (E6 s t0 (.slice none 0 0) (.slice none 0 0)) 80)):=RD.fresh (by rw[HK.out])
 have cx:Cx w1.heap.size s (Pl.all s.data.toList):=Cx.mk' hs bz.sz;refine(Rf Ri w1.heap.size s _ _ _ cx FD (bz.alloc _)).mono ?_;rintro e w2 ⟨rfl,⟨rg2,cd,hrg2⟩,hb2⟩;rw[HP.out] at cd⊢;simp only at cd⊢;subst hl;obtain⟨t',r',hl,c0,c1,c2,c3,c4⟩:=cd.cells;injection hl with h1 h2;subst h1 h2;have aj:Below w.heap.size w w2:=((hb1.alloc hb1.size _).trans (hb2.mono hb1.size));cases b
 ·go_wp2_with fail
  go_quiet (fail)
  go_wp2_with fail
  go_ret3
  exact⟨rfl,⟨aj.os,aj.tape,aj.output,aj.size,aj.block⟩⟩
 ·have hk:(Pl.pk t != 1)=true:=by
   rw[Aa];intro h;rcases hbad with h'|h'
   ·cases h'
   ·exact h' (Pl.Qv.1 h)
  go_wp2_with fail
  go_quiet (fail)
  go_wp2_with fail
  go_ret3
  exact⟨rfl,⟨aj.os,aj.tape,aj.output,aj.size,aj.block⟩⟩
theorem Rk:(Tryz.prog.info? 196).map (·.size)=some 2:=by kernel_rfl
theorem ab2:liesAt Tryz.prog Tryz.prog.depth 196 (2/Tryz.prog.cellsOf 196) 0 196 1=true:=by kernel_rfl
theorem ab3(_B b:Nat)(v:Value)(w:World)(hbk:w.heap[b]?=some (.cells #[.pointer none,v] 196 (0,0))):
  Calls Tryz.prog 177 #[.pointer (some ⟨b,0,none⟩)] w fun e w'=>e=.returned (.tuple #[])/\w'=w.setCell ⟨b,0,none⟩ (.pointer (some ⟨b,0,none⟩)):=by
 have c0:w.cell? ⟨b,0,none⟩=some (.pointer none):=cell_of hbk 0;have f0:w.frozen? ⟨b,0,none⟩=false:=aX hbk 0
 go_enter Tryz.func177,Tryz.ntmps177
 have hsh:w.shape? b=some (196,2):=by simp[World.shape?,hbk]
 obtain⟨j,hj,hjs⟩:=nZ.1 Rk
 go_wp2
 rw[Lib.run_to_unsafe w ⟨b,0,none⟩ Tryz.underlying193 Tryz.underlying290 hj (by rw[hjs];decide) hsh (Nat.zero_lt_succ 1)]
 simp only[Result.andThen];rw[Oper.upon_value]
 go_wp2
 rw[run_callFunc_extern Tryz.func218 (by kernel_rfl) (by kernel_rfl) (by kernel_rfl) (e:=Extern.AbiNoEscape.same) (by kernel_rfl)]
 rw[Lib.run_noEscape];simp only[Result.andThen];rw[Oper.upon_value]
 go_wp2
 rw[Lib.run_from_unsafe w ⟨b,0,none⟩ Tryz.underlying290 Tryz.underlying193 hj hsh ab2];simp only[Result.andThen];rw[Oper.upon_value]
 go_wp2
 go_end0
 exact⟨rfl,rfl⟩
theorem ab4(b:Nat)(v:Value)(w:World)(hbk:w.heap[b]?=some (.cells #[.pointer (some ⟨b,0,none⟩),v] 196 (0,0))):
  Calls Tryz.prog 177 #[.pointer (some ⟨b,0,none⟩)] w fun e w'=>e=.returned (.tuple #[])/\w'=w:=by
 have c0:w.cell? ⟨b,0,none⟩=some (.pointer (some ⟨b,0,none⟩)):=cell_of hbk 0
 go_enter Tryz.func177,Tryz.ntmps177
 obtain⟨j,hj,_⟩:=nZ.1 Rk
 go_wp2
 rw[Lib.run_neq_ptr_same w _ Tryz.underlying193 hj]
 go_wp2
 go_end0
 exact⟨rfl,rfl⟩
theorem Rl(B b:Nat)(bs:List Value)(w:World)(h:Lib.IsBuilder 196 5 B b bs w):
  Calls Tryz.prog 177 #[.pointer (some ⟨b,0,none⟩)] w fun e w'=>e=.returned (.tuple #[])/\Lib.BuilderAt 196 5 B b (.pointer (some ⟨b,0,none⟩)) bs w'/\Below B w w'/\Lib.OthersKept 5 (some b) w w'/\w'.heap.size=w.heap.size:=by
 rcases h with⟨hB,v,hbk,hown,hne⟩|⟨hB,v,hbk,hown,hne⟩
 ·refine(ab3 B b v w hbk).mono ?_;rintro e w' ⟨rfl,rfl⟩;refine⟨rfl,⟨hB,v,heap_set hbk _,aO hown fun k hk=>gJ (fun e=>hne (by rw[hk,e])) _,hne⟩,(Below.refl _ _).setCell hB _,(Lib.OthersKept.refl _ _ _).setCell ⟨b,0,none⟩ rfl _,by simp⟩
 ·refine(ab4 b v w hbk).mono ?_;rintro e w' ⟨rfl,rfl⟩;exact⟨rfl,⟨hB,v,hbk,hown,hne⟩,Below.refl _ _,Lib.OthersKept.refl _ _ _,rfl⟩
theorem Rm:(Tryz.prog.info? 5).map (fun i=>(i.zero,i.size,i.bytes))=some (some (.int .u8 0),1,1):=by kernel_rfl
theorem Rn{w:World}{B:Nat}{e:TypeId}{size:Nat}{v:Value}{n:Nat}{xs:List Value}(h:w.ownsRow B e size v n xs):∀g,v.ownBlock=some g->∃c fz,w.heap[g]?=some (.cells c e fz):=fun g hg=>by
 obtain⟨c,hc⟩:=vY h hg;exact⟨c,_,hc⟩
theorem Ro(B b:Nat)(bs:List Value)(c:Int)(w:World)(h:Lib.IsBuilder 196 5 B b bs w)(hBw:B<=w.heap.size)(hlen:bs.length<=1000000):
  Calls Tryz.prog 118 #[.pointer (some ⟨b,0,none⟩),.int .u8 c] w fun e w'=>e=.returned .nilIface/\Lib.IsBuilder 196 5 B b (bs++[.int .u8 c]) w'/\Below B w w'/\Lib.OthersKept 5 (some b) w w':=by
 obtain⟨i0,hi,hz0,hz1,hz2⟩:=info_parts Rm
 go_enter Tryz.func118,Tryz.ntmps118
 go_wp2_with fail
 refine(Rl B b bs _ h).mono ?_;rintro e w1 ⟨rfl,⟨hB,v,hbk,hown,hne⟩,hb1,hk1,hsz⟩;have c1:w1.cell? ⟨b,1,none⟩=some v:=cell_of hbk 1;have hlt:=lt_of_heap hbk;have HSZ:Hid (w1.heap.size=w.heap.size):=hsz;have uG:B<=w1.heap.size:=by omega
 clear hsz
 go_wp2_with (at_builtin;refine wpList_append_lies _ rfl (.tmp 11) (.tmp 13) 194 rfl B 5 i0 _ 1 1 Tryz.underlying194 hi hz0 hz1 hz2 rfl (by decide) v bs.length bs rfl (aO hown (fun k hk=>Below.heap_alloc _ _ _ (aB hown k hk).2)) ⟨w1.heap.size,0,none⟩ 1 1 [.int .u8 c] rfl rfl (World.news_of_block (cs:= #[.int .u8 c]) (t:=5) (fr:=(0,0)) (heap_alloc_new w1 _)) (by simp[Value.oneCell']) (by decide) (by unfold maxLen;omega) (by omega) (by simp;omega) (w1.heap.size+1) (by simp) ?_;intro g cap w2 ho hgrow hat pj;have hb2:=(AW hgrow b hlt hne).trans hbk;have d1:w2.cell? ⟨b,1,none⟩=some v:=cell_of hb2 1;have f1:w2.frozen? ⟨b,1,none⟩=false:=aX hb2 1)
 go_ret
 have hgb:g≠b:=fun e=>by
  rcases hat with h|h
  ·exact hne (by rw[h,e])
  ·omega
 refine⟨rfl,af ⟨hB,_,heap_set hb2 _,?_,fun e=>hgb (by simpa[Value.ownBlock] using e)⟩,?_,?_⟩
 ·simp only[aT,cG,gU,js];exact aO ho fun k hk=>gJ (fun e=>hgb (by rw[<-e];simpa[Value.ownBlock] using hk)) _
 ·exact(((hb1.alloc uG _).grown hgrow (by simp;omega) (fun k hk=>(aB hown k hk).1))).setCell hB _
 ·exact((hk1.alloc _).grown hgrow (fun g hg=>by
   obtain⟨c,fz,hc⟩:=Rn hown g hg;exact⟨c,fz,(Below.heap_alloc _ _ _ (lt_of_heap hc)).trans hc⟩)).setCell ⟨b,1,none⟩ rfl _
theorem FE(B b:Nat)(bs:List Value)(s:ByteArray)(w:World)(h:Lib.IsBuilder 196 5 B b bs w)(hBw:B<=w.heap.size)(hlen:bs.length<=1000000)(hs:s.size<=1000000):
  Calls Tryz.prog 119 #[.pointer (some ⟨b,0,none⟩),.string s] w fun e w'=>e=.returned (.tuple #[.int .i64 s.size,.nilIface])/\Lib.IsBuilder 196 5 B b (bs++Lib.strCells s) w'/\Below B w w'/\Lib.OthersKept 5 (some b) w w':=by
 obtain⟨i0,hi,hz0,hz1,hz2⟩:=info_parts Rm
 go_enter Tryz.func119,Tryz.ntmps119
 go_wp2_with fail
 refine(Rl B b bs _ h).mono ?_;rintro e w1 ⟨rfl,⟨hB,v,hbk,hown,hne⟩,hb1,hk1,hsz⟩;have c1:w1.cell? ⟨b,1,none⟩=some v:=cell_of hbk 1;have hlt:=lt_of_heap hbk;have uG:B<=w1.heap.size:=by omega
 clear hsz
 go_wp2_with (at_builtin;refine Lib.wpList_append_own_string _ rfl (.tmp 12) (.tmp 13) 194 9 rfl B 5 i0 Tryz.underlying194 Tryz.underlying9 hi hz0 hz1 hz2 v bs.length bs rfl hown s rfl (by unfold maxLen;omega) (by omega) uG ?_)
 intro v' w2 hown' hgrow _;have hb2:=(hgrow.block b hlt (fun e=>hne e.symm)).trans hbk
 have d1:w2.cell? ⟨b,1,none⟩=some v:=cell_of hb2 1;have f1:w2.frozen? ⟨b,1,none⟩=false:=aX hb2 1;obtain⟨ao,n',cap,rfl⟩:∃ao n' cap,v'=.slice ao n' cap:=by
  rcases hown'.2 with⟨hv,_⟩|⟨g,cap,cur,hv,_⟩
  ·exact⟨_,_,_,hv⟩
  ·exact⟨_,_,_,hv⟩
 go_wp2
 go_ret2
 have hnb:(Value.slice ao n' cap).ownBlock≠some b:=sB hown' hb2 (by decide)
 refine⟨rfl,af ⟨hB,_,heap_set hb2 _,?_,hnb⟩,?_,?_⟩
 ·have e:(bs++Lib.strCells s).length=bs.length+s.size:=by
   have:=hown'.1;omega
  rw[e];exact aO hown' fun k hk=>gJ (fun e=>hnb (by rw[hk,e])) _
 ·exact(hb1.grown hgrow uG (fun k hk=>(aB hown k hk).1)).setCell hB _
 ·exact(hk1.grown hgrow (Rn hown)).setCell ⟨b,1,none⟩ rfl _
theorem addr_add(g j:Nat):(⟨g,0,none⟩:Addr).add j=⟨g,j,none⟩:=by
 unfold Addr.add;split<;>simp_all
def ab5(s:ByteArray)(l':List Pl.Tk)(v:List (List (List (Int×Int))))(w:World)(o:Option Pl.Tk)(e:Ending)(w':World):Prop:=
 Below w.heap.size w w'/\((∃u,o=some u/\e=.returned (.tuple #[.pointer none,.int .i64 3,.int .i64 u.pl]))\/
  (o=none/\∃rb,e=.returned (.tuple #[.pointer (some ⟨rb,0,none⟩),.int .i64 0,.int .i64 0])/\w.heap.size<=rb/\RD rb s (Pl.all s.data.toList) l' v.flatten w'))
theorem KO{α:Type}(p:α->Bool)(c:List α)(k:Nat)(a:α)(h:c[k]?=some a)(hn:(c.take k).find? p=none):
  (p a=false->(c.take (k+1)).find? p=none)/\(p a=true->c.find? p=some a):=by
 have hk:=(bU.1 h).1;have ha:c[k]=a:=(bU.1 h).2;have e:c.take (k+1)=c.take k++[a]:=by rw[rT hk,ha]
 constructor
 ·intro hp;rw[e,Zv,hn];simp[hp]
 ·intro hp;have e2:c=(c.take k++[a])++c.drop (k+1):=by rw[<-e,OY]
  rw[e2,Zv,Zv,hn];simp[hp]
theorem ab6(s:ByteArray)(w:World)(hs:s.size<=400)(hG:Gl w)(t:Pl.Tk)(r c:List Pl.Tk)(v:List (List (List (Int×Int))))
  (hp:Pl.bO (Pl.all s.data.toList)=(true,t::r,v))(ht:t.k=101)(hc:c++t::r=Pl.all s.data.toList)(hc0:0<c.length):
  Calls Tryz.prog 33 #[.string s] w (ab5 s (t::r) v w (c.find? outT)):=by
 have HP:Hid (Pl.bO (Pl.all s.data.toList)=(true,t::r,v)):=hp;have HT:Hid (∀w1,Gl w1->Calls Tryz.prog 60 #[.string s,.int .i64 0] w1 fun e w'=>e=.returned (.agg (eo (Pl.tk s.data.toList 0)))/\Below w1.heap.size w1 w'):=fun w1 g1=>Rj s w1 hs g1
 have hk1:(Pl.pk t != 1)=false:=by rw[Pl.Qv.2 ht];rfl
 have HC:Hid (c++t::r=Pl.all s.data.toList):=hc;have hcl:c.length<=402:=by
  have:=Pl.E3 s.data.toList;rw[<-hc] at this;simp at this;omega
 clear hp hc ht;generalize hk:Pl.tk s.data.toList 0=t0 at*;have HK:Hid (Pl.tk s.data.toList 0=t0):=hk;unfold eo at HT;clear hk;generalize hF:c.find? outT=F;have HF:Hid (c.find? outT=F):=hF;clear hF
 go_enter Tryz.func33,Tryz.ntmps33
 go_wp2_with fail
 refine(HT.out _ hG).mono ?_;rintro e w1 ⟨rfl,hb1⟩;have bz:Gl w1:=hG.below hb1 hG.sz
 go_wp2_with fail
 have FD:RD w1.heap.size s (Pl.all s.data.toList) (Pl.all s.data.toList) [] (w1.alloc (.cells (E6 s t0 (.slice none 0 0) (.slice none 0 0)) 80)):=RD.fresh (by rw[HK.out])
 have cx:Cx w1.heap.size s (Pl.all s.data.toList):=Cx.mk' hs bz.sz;refine(Rf Ri w1.heap.size s _ _ _ cx FD (bz.alloc _)).mono ?_;rintro e w2 ⟨rfl,⟨rg2,cd,hrg2⟩,hb2⟩;rw[HP.out] at cd hrg2⊢;simp only at cd hrg2⊢;have hrg:=hrg2 trivial;subst hrg;clear hrg2 FD;obtain⟨c',t',r',tv,rv,hc',hl,hbk,hown,Kj⟩:=id cd;injection hl with h1 h2;subst h1 h2;have hcc:c'=c:=by
  have:=HC.out;rw[<-hc'] at this;exact(OZ this).symm
 subst hcc;obtain⟨g,cap,rfl,hg1,hg2⟩:=hown.form hc0;have c1:w2.cell? ⟨w1.heap.size,1,none⟩=some (.int .i64 (Pl.pk t)):=cell_of hbk 1;have c5:w2.cell? ⟨w1.heap.size,5,none⟩=some (.slice (some ⟨g,0,none⟩) c'.length cap):=cell_of hbk 5;have hrow:=hown.cells (g:=g) rfl;have lQ:Hid (∀j u,(nD c')[j]?=some u->w2.cell? ⟨g,j,none⟩=some u):=fun j u h=>by
  have:=hrow j u h;rwa[addr_add] at this
 have aj:Below w.heap.size w w2:=((hb1.alloc hb1.size _).trans (hb2.mono hb1.size));have hw1:w.heap.size<=w1.heap.size:=hb1.size;clear hrow hown Kj hbk hc' HT HP HK
 go_wp2_with fail
 go_loopg [37] c'.length (fun n i wr=>∃k:Nat,k+n=c'.length/\i=.int .i64 k/\Hid ((c'.take k).find? outT=none)/\Below w2.heap.size w2 wr)
 case atStart=>exact⟨0,by omega,rfl,by show _=_;simp,Below.refl _ _⟩
 case round=>
  obtain⟨k,hkn,rfl,hnone,hbr⟩:=hrel;by_cases hlt:k<c'.length
  ·obtain⟨u,hu⟩:∃u,c'[k]?=some u:=⟨_,aD hlt⟩;have HU:Hid (c'[k]?=some u):=hu;have e0:wr.cell? ⟨g,k*4,none⟩=some (.int .i64 (Pl.pk u)):=by
    rw[hbr.cell (p:=⟨g,k*4,none⟩) hg2];exact lQ.out (k*4) (.int .i64 (Pl.pk u)) (by have:=oh c' k u hu 0 (by omega);rw[oV] at this;rw[this];rfl)
   have e1:wr.cell? ⟨g,k*4+1,none⟩=some (.string ⟨(Pl.bu u).toArray⟩):=by
    rw[hbr.cell (p:=⟨g,k*4+1,none⟩) hg2];exact lQ.out (k*4+1) (.string ⟨(Pl.bu u).toArray⟩) (by rw[oh c' k u hu 1 (by omega)];rfl)
   have e2:wr.cell? ⟨g,k*4+2,none⟩=some (.int .i64 u.n):=by
    rw[hbr.cell (p:=⟨g,k*4+2,none⟩) hg2];exact lQ.out (k*4+2) (.int .i64 u.n) (by rw[oh c' k u hu 2 (by omega)];rfl)
   have e3:wr.cell? ⟨g,k*4+3,none⟩=some (.int .i64 u.pl):=by
    rw[hbr.cell (p:=⟨g,k*4+3,none⟩) hg2];exact lQ.out (k*4+3) (.int .i64 u.pl) (by rw[oh c' k u hu 3 (by omega)];rfl)
   clear hu;by_cases FH:u.k=110
   ·have pE:Pl.pk u=3:=Pl.uv.2 FH;rw[pE] at e0;cases hin:mD 50 u.n
    ·have ho:F=some u:=by
      rw[<-HF.out];exact(KO outT c' k u HU.out hnone.out).2 (by unfold outT;simp[FH,hin])
     subst ho
     go_wp2_with fail
     refine(FC u.n 50 _ (by omega) (by omega)).mono ?_
     rintro e w3 ⟨rfl,rfl⟩
     go_wp2_with fail
     go_quiet (fail)
     go_wp2_with fail
     go_ret3
     refine⟨?_,ae ⟨u,rfl,rfl⟩⟩;have q:Below w.heap.size w (wr.alloc (.cells #[.int .i64 3,.string ⟨(Pl.bu u).toArray⟩,.int .i64 u.n,.int .i64 u.pl] 76)):=(aj.trans (hbr.mono aj.size)).alloc (dY aj.size hbr.size) _;exact⟨q.os,q.tape,q.output,q.size,q.block⟩
    ·have hn:Hid ((c'.take (k+1)).find? outT=none):=(KO outT c' k u HU.out hnone.out).1 (by unfold outT;simp[hin])
     go_wp2_with fail
     refine(FC u.n 50 _ (by omega) (by omega)).mono ?_
     rintro e w3 ⟨rfl,rfl⟩
     go_wp2_with fail
     go_roundg (gk-1)
     case measure=>omega
     case rel=>exact⟨k+1,by omega,by go_num,hn,hbr.alloc hbr.size _⟩
   ·have hn:Hid ((c'.take (k+1)).find? outT=none):=(KO outT c' k u HU.out hnone.out).1 (by unfold outT;simp[FH])
    have pE:(Pl.pk u == 3)=false:=by
     rw[xM];intro h;exact FH (Pl.uv.1 h)
    generalize Pl.pk u=pku at*
    go_wp2_with fail
    go_roundg (gk-1)
    case measure=>omega
    case rel=>exact⟨k+1,by omega,by go_num,hn,hbr.alloc hbr.size _⟩
  ·have ho:F=none:=by
    rw[<-HF.out];have:=hnone.out;rwa[ue (by omega)] at this
   subst ho
   go_wp2_with fail
   go_ret3
   exact⟨aj.trans (hbr.mono aj.size),af ⟨rfl,w1.heap.size,rfl,hw1,cd.below hbr⟩⟩
namespace Pl
def wr(t:Tk):List UInt8:=if t.k=110 then Lib.itoa t.n else bu t
def bb(a b:Tk):Bool:=decide (bu a=[44])||(decide (a.k=110)&&decide (b.k=110))
def dI:Tk->List Tk->List UInt8
 |_,[]=>[]
 |p,t::r=>(if bb p t=true then[32] else[])++(wr t++dI t r)
def wt:List Tk->List UInt8
 |[]=>[]
 |[t]=>wr t
 |a::b::r=>wr a++([32]++(wr b++dI b r))
theorem ab8(p:Tk)(l:List Tk)(x:Tk):dI p (l++[x])=dI p l++((if bb ((p::l).getLast (by simp)) x=true then[32] else[])++wr x):=by
 induction l generalizing p with
 |nil=>
  simp only[oP,dI,qg,List.getLast_singleton];rfl
 |cons a r ih=>
  rw[kG,dI,ih a,dI];rw[List.getLast_cons (by simp:a::r≠[])]
  simp[List.append_assoc]
theorem ab9(a b:Tk)(r:List Tk)(x:Tk):wt (a::b::r++[x])=wt (a::b::r)++((if bb ((b::r).getLast (by simp)) x=true then[32] else[])++wr x):=by
 show wr a++([32]++(wr b++dI b (r++[x])))=_;rw[ab8];simp[wt,List.append_assoc]
theorem FI(c:List Tk)(k:Nat)(x y:Tk)(hx:c[k]?=some x)(hy:2<=k->c[k-1]?=some y):
  wt (c.take (k+1))=wt (c.take k)++((if k=0 then[] else if k=1 then[32] else if bb y x=true then[32] else[])++wr x):=by
 have hk:=(bU.1 hx).1;have ex:c[k]=x:=(bU.1 hx).2;have e:c.take (k+1)=c.take k++[x]:=by rw[rT hk,ex]
 rw[e];by_cases h0:k=0
 ·subst h0;simp[wt]
 ·by_cases h1:k=1
  ·subst h1;obtain⟨a,r,hc⟩:∃a r,c=a::r:=by
    cases c with
    |nil=>simp at hk
    |cons a r=>exact⟨a,r,rfl⟩
   subst hc;simp[wt,dI]
  ·rw[aa h0,aa h1];have hy':=hy (by omega)
   match c,hk,hx,hy' with
   |[],hk,_,_=>simp at hk
   |[_],hk,_,_=>simp at hk;omega
   |a::b::r,hk,hx,hy'=>
    obtain⟨m,rfl⟩:∃m,k=m+2:=⟨k-2,by omega⟩
    simp only[zZ];rw[ab9];have hl:(b::r.take m).getLast (by simp)=y:=by
     have h2:(b::r)[m]?=some y:=by simpa using hy'
     rw[List.getLast_eq_getElem];have hm:m<=r.length:=by simp at hk;omega
     have h3:(b::List.take m r)[m]?=some y:=by
      rw[<-zZ,jt,ah (by omega)]
      exact h2
     have h4:=(bU.1 h3);have h5:(b::List.take m r).length-1=m:=by simp;omega
     simp only[h5];exact h4.2
    rw[hl]
end Pl
theorem FJ(t:Pl.Tk)(w:World)(hG:Gl w)(hn:t.k=110-> -9223372036854775808<=t.n/\t.n<=9223372036854775807):
  Calls Tryz.prog 120 #[.agg #[.int .i64 (Pl.pk t),.string ⟨(Pl.bu t).toArray⟩,.int .i64 t.n,.int .i64 t.pl]] w fun e w'=>e=.returned (.string ⟨(Pl.wr t).toArray⟩)/\Below w.heap.size w w':=by
 by_cases hk:t.k=110
 ·have e:Pl.wr t=Lib.itoa t.n:=by unfold Pl.wr;rw[ah hk]
  rw[e,Pl.uv.2 hk];obtain⟨kM,qA⟩:=hn hk;clear hn;have HI:Hid (∀w1,Gl w1->Calls Tryz.prog 146 #[.int .i64 t.n] w1 fun e w'=>e=.returned (.string ⟨(Lib.itoa t.n).toArray⟩)/\Below w1.heap.size w1 w'):=fun w1 g1=>by
   refine(Tryz.strconv_Itoa t.n kM qA w1 g1.tab).mono ?_;rintro e w' ⟨rfl,k,os,rfl⟩;exact⟨rfl,Lib.below_grow _ _ (ax _) _ _⟩
  clear kM qA
  go_enter Tryz.func120,Tryz.ntmps120
  go_wp2_with fail
  refine(HI.out _ (hG.alloc _)).mono ?_;rintro e w1 ⟨rfl,hb⟩
  go_wp2_with fail
  go_ret
  exact⟨rfl,((Below.refl _ _).alloc (ax _) _).trans (hb.mono (by simp))⟩
 ·have e:Pl.wr t=Pl.bu t:=by unfold Pl.wr;rw[aa hk]
  rw[e];have pE:(Pl.pk t == 3)=false:=by
   rw[xM];intro h;exact hk (Pl.uv.1 h)
  generalize Pl.pk t=pku at*
  go_enter Tryz.func120,Tryz.ntmps120
  go_wp2
  go_ret
  exact⟨rfl,(Below.refl _ _).alloc (ax _) _⟩
theorem aca(a b:Pl.Tk)(w:World):
  Calls Tryz.prog 117 #[.agg #[.int .i64 (Pl.pk a),.string ⟨(Pl.bu a).toArray⟩,.int .i64 a.n,.int .i64 a.pl],.agg #[.int .i64 (Pl.pk b),.string ⟨(Pl.bu b).toArray⟩,.int .i64 b.n,.int .i64 b.pl]] w fun e w'=>e=.returned (.bool (Pl.bb a b))/\Below w.heap.size w w':=by
 have aj:∀o1 o2,Below w.heap.size w ((w.alloc o1).alloc o2):=fun o1 o2=>((Below.refl _ _).alloc (ax _) _).alloc (by simp) _
 have hc:((⟨(Pl.bu a).toArray⟩:ByteArray).toList == [44])=decide (Pl.bu a=[44]):=by
  rw[ByteArray.toList_eq,l8];simp
 cases h1:decide (Pl.bu a=[44])
 ·rw[h1] at hc;have e1:Pl.bb a b=(decide (a.k=110)&&decide (b.k=110)):=by unfold Pl.bb;rw[h1];rfl
  rw[e1];have hpa:(Pl.pk a == 3)=decide (a.k=110):=by
   rw[l8];simp[Pl.uv]
  have hpb:(Pl.pk b == 3)=decide (b.k=110):=by
   rw[l8];simp[Pl.uv]
  generalize(⟨(Pl.bu a).toArray⟩:ByteArray)=ra at*;generalize(⟨(Pl.bu b).toArray⟩:ByteArray)=rb at*;generalize decide (a.k=110)=da at*;generalize decide (b.k=110)=db at*;generalize Pl.pk a=pa at*;generalize Pl.pk b=pb at*;clear h1 e1;cases da
  ·go_enter Tryz.func117,Tryz.ntmps117
   go_wp2
   go_ret
   exact⟨rfl,aj _ _⟩
  ·go_enter Tryz.func117,Tryz.ntmps117
   go_wp2
   go_ret
   exact⟨vW (by simp),aj _ _⟩
 ·rw[h1] at hc;have e1:Pl.bb a b=true:=by unfold Pl.bb;rw[h1];rfl
  rw[e1];generalize(⟨(Pl.bu a).toArray⟩:ByteArray)=ra at*;clear h1 e1
  go_enter Tryz.func117,Tryz.ntmps117
  go_wp2
  go_ret
  exact⟨rfl,aj _ _⟩
end Go.Proofs.YtkjhhooecopolaaGreatDoor

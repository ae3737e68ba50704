import Derived.Test.YtkjhhooecopolaaGreatDoorSz09
set_option maxRecDepth 100000
set_option maxHeartbeats 4000000
namespace Go.Proofs.YtkjhhooecopolaaGreatDoor
open Tryz
open Value renaming int->az,complex->aA,float->aB,agg->aC,bool->aD,string->aF,slice->aG,pointer->aH,tuple->aI
open IntKind renaming i64->aJ
open FloatKind renaming f64->aK
open Ending renaming returned->aL
open Go renaming World->aM,Value->aN,floatOfInt->aO
section
open Go.RowKit
variable{S T bs A O:List Nat}{Xs:List PB}{b i g n g' cap k base cap':Nat}{mk P:Nat->Bool}{ow:Nat->Option Nat}{w w' wr w8:aM}{lv v lo lr:aN}
structure Mo(S:List Nat)(w w':aM):Prop where
 os:w'.os=w.os
 tape:w'.tape=w.tape
 output:w'.output=w.output
 size:w.heap.size<=w'.heap.size
 block:∀k,k<w.heap.size->k∉S->w'.heap[k]?=w.heap[k]?
theorem Mo.refl(S:List Nat)(w:aM):Mo S w w:=⟨rfl,rfl,rfl,aY _,λ_ _ _=>rfl⟩
theorem Mo.trans{a b c:aM}(h:Mo S a b)(k:Mo S b c):Mo S a c:=
 ⟨k.os.trans h.os,k.tape.trans h.tape,k.output.trans h.output,fN h.size k.size,λi hi hn=>(k.block i (bW hi h.size) hn).trans (h.block i hi hn)⟩
theorem Mo.of(S:List Nat)(h:aj w w'):Mo S w w':=⟨h.os,h.tape,h.output,h.size,λk hk _=>h.block k hk⟩
theorem Mo.below{w1 w2:aM}(h:Mo S w w1)(k:Mo T w1 w2)(hT:∀i,i<w.heap.size->i∈T->i∈S):Mo S w w2:=
 ⟨k.os.trans h.os,k.tape.trans h.tape,k.output.trans h.output,fN h.size k.size,λi hi hn=>(k.block i (bW hi h.size) λh'=>hn (hT i hi h')).trans (h.block i hi hn)⟩
theorem Mo.cell(h:Mo S w w'){p:Addr}(hp:p.block<w.heap.size)(hn:p.block∉S):w'.cell? p=w.cell? p:=World.cell?_of_block (w:=w) (h.block p.block hp hn)
theorem Mo.grown{row:Option Nat}(hg:w.grownBy w' row)(hr:∀k,row=some k->k∈S):Mo S w w':=
 ⟨hg.os,hg.tape,hg.output,hg.size,λk hk hn=>hg.block k hk (λe=>hn (hr k e.symm))⟩
theorem Mo.setCell(S:List Nat)(w:aM){p:Addr}(hp:p.block∈S)(u:aN):Mo S w (w.setCell p u):=
 ⟨rfl,rfl,rfl,by simp[World.setCell],λk _ hn=>Below.heap_setCell _ _ _ _ (λe=>hn (e▸hp))⟩
theorem Mo.alloc(S:List Nat)(w:aM)(o:Obj):Mo S w (w.alloc o):=Mo.of S ((Below.refl _ _).alloc (aY _) o)
theorem setCell_new{cur:Array aN}{t:TypeId}{fr:Nat×Nat}(hg:w.heap[b]?=some (.cells cur t fr))(v:aN):(w.setCell ⟨b,i,none⟩ v).heap[b]?=some (.cells (cur.setIfInBounds i v) t fr):=by
 rw[setCell_eq_setRow w b i cur t fr v hg];unfold World.setRow;simp[Array.getElem?_modify,hg]
structure SW(g:Nat)(bs:List Nat)(Xs:List PB)(mk:Nat->Bool)(ow:Nat->Option Nat)(w:aM):Prop where
 len:bs.length=Xs.length
 nd:bs.Nodup
 ng:g∉bs
 row:∀i,i<bs.length->w.cell? ⟨g,i,none⟩=some (aH (some ⟨bx bs i,0,none⟩))
 side:∀i,i<bs.length->w.heap[bx bs i]?=some (.cells (zJ (xi Xs i) (mk i) ((ow i).map λo=>⟨o,0,none⟩)) 177 (0,0))
theorem SW.rb(h:SW g bs Xs mk ow w):RB w g bs Xs:=by
 refine⟨h.len,λi b hb=>?_,λi b x hb hx=>?_⟩
 .have:=h.row i (cG.1 hb).1;rw[IA hb] at this;exact this
 .have:=h.side i (cG.1 hb).1;rw[IA hb,vU hx] at this;exact jB.of this
theorem Ua(hn:bs.Nodup){j:Nat}(hi:i<bs.length)(hj:j<bs.length)(h:bx bs i=bx bs j):i=j:=by
 rw[<-oH hn hi,<-oH hn hj,h]
theorem SW.lt(h:SW g bs Xs mk ow w)(hb:b∈bs):b<w.heap.size:=by
 obtain⟨i,hi,rfl⟩:=jG.1 hb;have:=h.side i hi;rw[IA (bo hi)] at this;exact lt_of_heap this
theorem SW.keep(h:SW g bs Xs mk ow w)(hm:Mo S w w')(hg:g∉S)(hb:∀b∈bs,b∉S):SW g bs Xs mk ow w':=
 ⟨h.len,h.nd,h.ng,λi hi=>(hm.cell (lt_of_cell (h.row i hi)) hg).trans (h.row i hi),λi hi=>(hm.block _ (h.lt (sQ hi)) (hb _ (sQ hi))).trans (h.side i hi)⟩
theorem SW.below(h:SW g bs Xs mk ow w)(hm:aj w w'):SW g bs Xs mk ow w':=
 h.keep (Mo.of [] hm) af af
theorem SW.congr{mk':Nat->Bool}{ow':Nat->Option Nat}(h:SW g bs Xs mk ow w)(hm:∀i,i<bs.length->mk' i=mk i)(ho:∀i,i<bs.length->ow' i=ow i):SW g bs Xs mk' ow' w:=
 ⟨h.len,h.nd,h.ng,h.row,λi hi=>by rw[hm i hi,ho i hi];exact h.side i hi⟩
theorem SW.mark(h:SW g bs Xs mk ow w)(hi:i<bs.length):SW g bs Xs (λj=>mk j||j == i) ow (w.setCell ⟨bx bs i,6,none⟩ (aD true)):=by
 refine⟨h.len,h.nd,h.ng,λj hj=>?_,λj hj=>?_⟩
 .exact(World.cell?_of_block (w:=w) (Below.heap_setCell _ _ _ _ (λe=>h.ng (by have e':g=bx bs i:=e;rw[e'];exact sQ hi)))).trans (h.row j hj)
 .by_cases e:j=i
  .subst e;rw[setCell_new (h.side j hj)];simp;rfl
  .rw[Below.heap_setCell _ _ _ _ (λe'=>e (Ua h.nd hj hi e')),h.side j hj]
   have:(j == i)=false:=by simpa using e
   simp only[this,Kf]
theorem SW.own(h:SW g bs Xs mk ow w)(hi:i<bs.length)(o:Nat):SW g bs Xs mk (λj=>if j=i then some o else ow j) (w.setCell ⟨bx bs i,7,none⟩ (aH (some ⟨o,0,none⟩))):=by
 refine⟨h.len,h.nd,h.ng,λj hj=>?_,λj hj=>?_⟩
 .exact(World.cell?_of_block (w:=w) (Below.heap_setCell _ _ _ _ (λe=>h.ng (by have e':g=bx bs i:=e;rw[e'];exact sQ hi)))).trans (h.row j hj)
 .by_cases e:j=i
  .subst e;rw[setCell_new (h.side j hj)];simp;rfl
  .rw[Below.heap_setCell _ _ _ _ (λe'=>e (Ua h.nd hj hi e')),h.side j hj,aP e]
def ki(nx:Nat->Nat)(mk:Nat->Bool):Nat->List Nat->Nat->List Nat
 |0,A,_=>A
 |m+1,A,i=>if mk i||A.contains i then A else ki nx mk m (A++[i]) (nx i)
theorem adf{p q:Nat->Bool}:∀(l:List Nat),(∀x∈l,q x=true->p x=true)->(∃x∈l,p x=true/\q x=false)->l.countP q<l.countP p
 |[],_,h=>by obtain⟨x,hx,_⟩:=h;simp at hx
 |a::l,h1,h2=>by
  obtain⟨x,hx,hp,hq⟩:=h2;have hle:l.countP q<=l.countP p:=ati λy hy=>h1 y (bV _ hy)
  rcases bU.1 hx with e|hx
  .subst e;rw[atj hp,atk (by simp[hq])]
   omega
  .have ih:=adf l (λy hy=>h1 y (bV _ hy)) ⟨x,hx,hp,hq⟩
   rw[V9,V9];by_cases ha:q a=true
   .rw[aV ha,aV (h1 a af ha)];omega
   .rw[aP ha];omega
def jR(n:Nat)(mk:Nat->Bool)(A:List Nat):Nat:=(List.range n).countP λj=> !(mk j||A.contains j)
theorem NI(hi:i<n)(h:(mk i||A.contains i)=false):jR n mk (A++[i])<jR n mk A:=by
 refine adf _ (λx _ hx=>?_) ⟨i,tN.2 hi,by rw[h];rfl,af⟩
 simp at hx⊢;exact⟨hx.1,hx.2.1⟩
theorem yi(n:Nat)(mk:Nat->Bool)(A:List Nat):jR n mk A<=n:=by
 have:=List.countP_le_length (p:=λj=> !(mk j||A.contains j)) (l:=List.range n)
 rw[ahv] at this;exact this
structure WS(w:aM)(g:Nat)(bs:List Nat)(Xs:List PB)(mk:Nat->Bool)(ow:Nat->Option Nat)(lv:aN)(A:List Nat)(wr:aM):Prop where
 own:wr.ownsRow w.heap.size 175 1 lv A.length (bC (A.map (bx bs)))
 sw:SW g bs Xs (λj=>mk j||A.contains j) ow wr
 mo:Mo bs w wr
theorem WS.step(h:WS w g bs Xs mk ow lv A wr)(sB:∀b∈bs,b<w.heap.size)(hgw:g<w.heap.size)(hi:i<bs.length)(o:Obj)
  (cI:((wr.setCell ⟨bx bs i,6,none⟩ (aD true)).alloc o).grownBy w8 lv.ownBlock)
  (dW:w8.ownsRow w.heap.size 175 1 (aG (some ⟨g',0,none⟩) (A.length+1) cap) (A.length+1) (bC (A.map (bx bs))++[aH (some ⟨bx bs i,0,none⟩)])):
  WS w g bs Xs mk ow (aG (some ⟨g',0,none⟩) (A.length+1) cap) (A++[i]) w8:=by
 have hown:∀k,lv.ownBlock=some k->w.heap.size<=k:=λk hk=>(bn h.own k hk).1
 have m1:Mo bs wr (wr.setCell ⟨bx bs i,6,none⟩ (aD true)):=Mo.setCell _ _ (sQ hi) _;have m2:=Mo.alloc [] (wr.setCell ⟨bx bs i,6,none⟩ (aD true)) o;have m3:Mo (lv.ownBlock.toList) _ w8:=Mo.grown cI (λk hk=>by rw[hk];simp)
 have hd:∀k,k∈lv.ownBlock.toList->w.heap.size<=k:=λk hk=>hown k (by simpa using hk)
 refine⟨?_,?_,?_⟩
 .rw[jV,bX];have e:bC (A.map (bx bs)++[i].map (bx bs))=bC (A.map (bx bs))++[aH (some ⟨bx bs i,0,none⟩)]:=by simp[bC]
  rw[e];exact dW
 .have k1:=((h.sw.mark hi).keep m2 af af).keep m3 (λhk=>by have:=hd _ hk;omega) (λb hb hk=>by have:=hd _ hk;have:=sB b hb;omega)
  refine k1.congr (λj hj=>?_) λ_ _=>rfl
  simp only[List.contains_eq_mem,dF,dB,Bool.decide_or,Bool.or_assoc];congr 2
 .exact(h.mo.trans m1).below ((Mo.alloc lv.ownBlock.toList _ o).trans m3) λk hk hk'=>by have:=hd k hk';omega
theorem WS.below(h:WS w g bs Xs mk ow lv A wr)(hb:aj wr w'):WS w g bs Xs mk ow lv A w':=
 ⟨bG h.own λk hk=>hb.block k (bn h.own k hk).2,h.sw.below hb,h.mo.trans (Mo.of _ hb)⟩
theorem aoh(bs:List Nat)(Xs:List PB)(hB:BD Xs)(g cap i:Nat)(mk:Nat->Bool)(ow:Nat->Option Nat)(w:aM)(hW:SW g bs Xs mk ow w)(hgw:g<w.heap.size)(hi:i<bs.length)(hbc:bs.length<=cap)
  (HN:Hid (∀i,i<Xs.length->∃x∈Xs,x.f=(xi Xs i).t)):
  ak 110 #[aG (some ⟨g,0,none⟩) bs.length cap,aH (some ⟨bx bs i,0,none⟩)] w λe w'=>∃lv,e=aL lv/\WS w g bs Xs mk ow lv (ki (dM Xs) mk bs.length [] i) w':=by
 obtain⟨i0,hi0,hz0,hz1,hz2⟩:=info_parts Cj;have HL:Hid (bs.length=Xs.length):=hW.len;have NK:Hid (∀b∈bs,b<w.heap.size):=λb hb=>hW.lt hb
 have hbl:bs.length<=85000000:=by rw[hW.len];exact hB.len
 have dw:Hid (∀j,j<bs.length->∀w',RB w' g bs Xs->dM Xs j<bs.length/\ak 165 #[aG (some ⟨g,0,none⟩) bs.length cap,aH (some ⟨bx bs j,0,none⟩)] w' λe w''=>e=aL (aH (some ⟨bx bs (dM Xs j),0,none⟩))/\aj w' w''):=λj hj w' hR=>by
  have hj':j<Xs.length:=by rw[<-hR.len];exact hj
  have hne:=HN.out j hj';refine⟨?_,amX bs Xs hB hW.nd g cap j hj' w' hR hbc hne⟩;have:=(ab7 (Tf hB (hB.v _ (iM hj')).ct hne)).2;have h2:=Te Xs (xi Xs j).t;rw[hR.len];omega
 have cQ:Hid (WS w g bs Xs mk ow (aG none 0 0) [] w/\ki (dM Xs) mk bs.length [] i=ki (dM Xs) mk bs.length [] i/\jR bs.length mk []<=bs.length):=⟨⟨World.ownsRow_nil _ _ _ _,hW.congr af af,Mo.refl _ _⟩,rfl,yi _ _ _⟩
 generalize hLd:ki (dM Xs) mk bs.length [] i=L at*;have HLd:Hid (ki (dM Xs) mk bs.length [] i=L):=hLd;clear hLd hW HN
 go_enter func110,ntmps110
 go_wp2_with fail
 go_loopg [5,6] bs.length (λm lv sv wr=>∃A j,j<bs.length/\A.length+m=bs.length/\sv=aH (some ⟨bx bs j,0,none⟩)/\Hid (WS w g bs Xs mk ow lv A wr/\ki (dM Xs) mk m A j=L/\jR bs.length mk A<=m))
 case atStart=>exact⟨[],i,hi,af,rfl,by have:=cQ.out;rw[HLd.out];exact⟨this.1,rfl,this.2.2⟩⟩
 case round=>
  obtain⟨A,j,hj,hAm,rfl,HE⟩:=hrel;clear cQ;obtain⟨uJ,hwk,NM⟩:=HE.out;have hs:=uJ.sw.side j hj;have s6:=FX hs;have f6:=bK hs 6;have I6:Hid (WS w g bs Xs mk ow u5 A wr):=uJ;by_cases hm:(mk j||A.contains j)=true
  .rw[hm] at s6;have HLA:Hid (A=L):=by
    rw[<-hwk];cases gk with
    |zero=>rfl
    |succ m=>show A=if _ then A else _;rw[aV hm]
   clear hs hwk NM hm HE uJ
   go_wp2_with fail
   go_ret
   exact⟨_,rfl,by rw[<-HLA.out];exact I6.out⟩
  .have hm':(mk j||A.contains j)=false:=by simpa using hm
   rw[hm'] at s6;have hst:=NI hj hm';have HST:Hid (ki (dM Xs) mk (gk-1) (A++[j]) (dM Xs j)=L/\jR bs.length mk (A++[j])<=gk-1):=by
    refine⟨?_,aa⟩
    rw[<-hwk];cases gk with
    |zero=>omega
    |succ m=>show _=if _ then A else _;rw[aP hm];rfl
   have mH:1<=gk:=aa
   have nr:=I6.out.own;have hwz:=I6.out.mo.size;have hbj:bx bs j<w.heap.size:=NK.out _ (sQ hj);have hnb:((wr.setCell ⟨bx bs j,6,none⟩ (aD true)).alloc (.cells #[aH (some ⟨bx bs j,0,none⟩)] 175)).heap[wr.heap.size]?=some (.cells #[aH (some ⟨bx bs j,0,none⟩)] 175 (0,0)):=by
    have:=heap_alloc_new (wr.setCell ⟨bx bs j,6,none⟩ (aD true)) (.cells #[aH (some ⟨bx bs j,0,none⟩)] 175);simpa[World.setCell] using this
   have hsz:(wr.setCell ⟨bx bs j,6,none⟩ (aD true)).heap.size=wr.heap.size:=by simp[World.setCell]
   have nu:((wr.setCell ⟨bx bs j,6,none⟩ (aD true)).alloc (.cells #[aH (some ⟨bx bs j,0,none⟩)] 175)).ownsRow w.heap.size 175 1 u5 A.length (bC (A.map (bx bs))):=
    bG nr λk hk=>by
     have h1:=(bn nr k hk).1;have h2:=(bn nr k hk).2;exact(Below.heap_alloc _ _ _ (by rw[hsz];exact h2)).trans (Below.heap_setCell _ _ _ _ (by show k≠bx bs j;omega))
   clear hs hwk NM hm hm' HE uJ hst nr
   go_wp2_with (at_builtin;refine wpList_append_lies _ rfl (.tmp 19) (.tmp 21) 132 rfl w.heap.size 175 i0 _ 1 8 underlying132 hi0 hz0 hz1 hz2 rfl ah u5 A.length (bC (A.map (bx bs))) rfl nu ⟨wr.heap.size,0,none⟩ 1 1 [aH (some ⟨bx bs j,0,none⟩)] rfl rfl (World.news_of_block (cs:= #[aH (some ⟨bx bs j,0,none⟩)]) (t:=175) (fr:=(0,0)) hnb) (by simp[Value.oneCell']) ah (by unfold maxLen;omega) aa (by simp[World.setCell];omega) (wr.heap.size+1) (by simp[World.setCell]) ?_;intro g' cap' w8 dW cI iN sH)
   have Ub:=I6.out.step NK.out hgw hj _ cI dW;obtain⟨hnj,hnc⟩:=dw.out j hj w8 Ub.sw.rb;have HW8:Hid (WS w g bs Xs mk ow (aG (some ⟨g',0,none⟩) (A.length+1) cap') (A++[j]) w8):=Ub;have HNC:Hid (ak 165 #[aG (some ⟨g,0,none⟩) bs.length cap,aH (some ⟨bx bs j,0,none⟩)] w8 λe w''=>e=aL (aH (some ⟨bx bs (dM Xs j),0,none⟩))/\aj w8 w''):=hnc
   clear cI dW iN hnb nu Ub hnc I6 dw s6
   go_wp2_with fail
   refine HNC.out.mono ?_;rintro e w9 ⟨rfl,oJ⟩;have HW9:Hid (WS w g bs Xs mk ow (aG (some ⟨g',0,none⟩) (A.length+1) cap') (A++[j]) w9):=HW8.out.below oJ;clear HW8 HNC oJ
   go_wp2_with fail
   go_roundg (gk-1)
   case measure=>omega
   case rel=>exact⟨A++[j],dM Xs j,hnj,by rw[bX];simp;omega,rfl,HW9.out,HST.out.1,HST.out.2⟩
theorem aom(x y:PB)(hx:eB x)(hy:eB y)(b c:Nat)(w:aM)(h1:jB w b x)(h2:jB w c y):
  ak 167 #[aH (some ⟨b,0,none⟩),aH (some ⟨c,0,none⟩)] w λe w'=>e=aL (aD (decide (x.t=y.f)))/\aj w w':=by
 have hop:∀w,(binOp .eql 83 (aC #[aA aK (aO aK x.t.1) (aO aK x.t.2.1),az aJ x.t.2.2]) (aC #[aA aK (aO aK y.f.1) (aO aK y.f.2.1),az aJ y.f.2.2])).run prog w=.ok (aD (decide (x.t=y.f))) w:=λw=>Ho x.t y.f hx.t.bw hy.f.bw w
 have a4:=h1.c4;have a5:=h1.c5;have b2:=h2.c2;have b3:=h2.c3;have hb0:=Below.refl w.heap.size w;generalize aO aK x.t.1=X1 at*;generalize aO aK x.t.2.1=X2 at*;generalize aO aK y.f.1=Y1 at*;generalize aO aK y.f.2.1=Y2 at*;generalize decide (x.t=y.f)=B at*;generalize x.t.2.2=X3 at*;generalize y.f.2.2=Y3 at*;clear h1 h2 hx hy
 go_enter func167,ntmps167
 go_wp2_with fail
 go_quiet (fail)
 go_wp2_with fail
 go_ret
 exact⟨rfl,D9 hb0 _⟩
def gZ(P:Nat->Bool):List Nat->Nat->Int
 |[],_=> -1
 |b::r,k=>if P b then(k:Int) else gZ P r (k+1)
def iz(P:Nat->Bool)(l:List Nat):Int:=gZ P l 0
theorem yj{α:Type}{l:List α}{b:α}(h:l[k]?=some b):l.drop k=b::l.drop (k+1):=by
 obtain⟨hk,e⟩:=cG.1 h;rw[rK hk,e]
theorem aon(P:Nat->Bool)(bl:List Nat)(g lo cap s:Nat)(w:aM)(hn:bl.length<=85000000)
  (HV:Hid (∀(i:Nat) b,bl[i]?=some b->w.cell? ⟨g,lo+i,none⟩=some (aH (some ⟨b,0,none⟩))))
  (HC:Hid (∀b∈bl,∀w',aj w w'->ak 167 #[aH (some ⟨s,0,none⟩),aH (some ⟨b,0,none⟩)] w' λr w''=>r=aL (aD (P b))/\aj w' w'')):
  ak 166 #[aG (some ⟨g,lo,none⟩) bl.length cap,.func (.func 167) #[aH (some ⟨s,0,none⟩)] #[]] w λe w'=>e=aL (az aJ (iz P bl))/\aj w w':=by
 go_enter func166,ntmps166
 have HS:Hid (gZ P (bl.drop 0) 0=iz P bl):=rfl
 go_wp2_with fail
 go_loopg [8] bl.length (λm iv wr=>∃k:Nat,k+m=bl.length/\iv=az aJ k/\Hid (aj w wr/\gZ P (bl.drop k) k=iz P bl))
 case atStart=>exact⟨0,aa,rfl,Below.refl _ _,HS.out⟩
 case round=>
  obtain⟨k,hkn,rfl,HB⟩:=hrel;clear HS;by_cases hlt:k<bl.length
  .obtain⟨b,hb⟩:∃b,bl[k]?=some b:=⟨_,bo hlt⟩;have c0:=HV.out k b hb;have fh:g<w.heap.size:=lt_of_cell c0;have c1:=aQ HB.out.1 c0 fh;have jo:Hid (ak 167 #[aH (some ⟨s,0,none⟩),aH (some ⟨b,0,none⟩)] wr λr' w''=>r'=aL (aD (P b))/\aj wr w''):=HC.out b (bA hb) wr HB.out.1
   have iQ:Hid ((if P b then(k:Int) else gZ P (bl.drop (k+1)) (k+1))=iz P bl):=by
    have:=HB.out.2;rw[yj hb] at this;exact this
   have ij:(k:Int)<(bl.length:Int):=aa
   clear c0 hb
   go_wp2_with fail
   refine jo.out.mono ?_;rintro e w5 ⟨rfl,bh⟩;have gV:Hid (aj w w5):=HB.out.1.trans (bh.mono HB.out.1.size);clear jo bh c1;generalize P b=B at*;cases B
   .have HM:Hid (gZ P (bl.drop (k+1)) (k+1)=iz P bl):=iQ.out;clear iQ
    go_wp2_with fail
    go_roundg (gk-1)
    case measure=>omega
    case rel=>exact⟨k+1,aa,ai,gV.out,HM.out⟩
   .have HM:Hid ((k:Int)=iz P bl):=iQ.out;clear iQ
    go_wp2_with fail
    go_ret
    exact⟨by rw[<-HM.out];rfl,gV.out⟩
  .have hk:k=bl.length:=aa
   subst hk;have HM:Hid ((-1:Int)=iz P bl):=by
    have:=HB.out.2;rw[FW] at this;exact this
   clear HC HV
   go_wp2_with fail
   go_ret
   exact⟨by rw[<-HM.out];rfl,HB.out.1⟩
theorem aoo(x y:PB){l m:Ge.Ln}(hx:LD x l)(hy:LD y m)(w:aM):
  ak 179 #[aC #[aA aK x.wa x.wb,aB aK x.sh],aC #[aA aK y.wa y.wb,aB aK y.sh]] w λr w'=>r=aL (aD (decide (gA x y=0)))/\aj w w':=by
 obtain⟨im,f1,hl⟩:=Iw hx hy;have HL:Hid (∀w,ak 101 #[aA aK x.wa x.wb,aA aK y.wa y.wb] w λe w'=>e=aL (aB aK im)/\w'=w):=hl
 have q:=vk f1 mV;have hc:decide (gA x y=0)=(FloatKind.f64.format.order im 0 == some .eq):=by
  rw[q,<-Iu hx hy];exact decide_eq_decide.2 yL
 rw[hc];clear hl q hc f1 hx hy;generalize x.wa=wa at*;generalize x.wb=wb at*;generalize x.sh=sh at*;generalize y.wa=kQ at*;generalize y.wb=kR at*;generalize y.sh=sh' at*;have hb0:aj w ((w.alloc (.cells #[aA aK wa wb,aB aK sh] 122)).alloc (.cells #[aA aK kQ kR,aB aK sh'] 122)):=(aw _ _).alloc af _
 go_enter func179,ntmps179
 go_wp2_with fail
 refine(HL.out _).mono ?_;rintro e w1 ⟨rfl,rfl⟩
 go_wp2_with fail
 go_ret
 exact⟨rfl,hb0⟩
theorem aop(cf:Nat->Nat->Int)(a:Nat)(r:List Nat)(g lo cap:Nat)(w:aM)(hn:r.length<=85000000)
  (HV:Hid (∀(i:Nat) b,(a::r)[i]?=some b->w.cell? ⟨g,lo+i,none⟩=some (aH (some ⟨b,0,none⟩))))
  (HC:Hid (∀b∈a::r,∀c∈a::r,∀w',aj w w'->ak 109 #[aH (some ⟨b,0,none⟩),aH (some ⟨c,0,none⟩)] w' λr w''=>r=aL (az aJ (cf b c))/\aj w' w'')):
  ak 213 #[aG (some ⟨g,lo,none⟩) (r.length+1) cap,.func (.func 109) #[] #[]] w λe w'=>e=aL (aH (some ⟨cN cf r a,0,none⟩))/\aj w w':=by
 have c0:=HV.out 0 a rfl;rw[rM] at c0;have fh:g<w.heap.size:=lt_of_cell c0
 go_enter func213,ntmps213
 go_wp2_with fail
 go_loopg [5,6] r.length (λm mv iv wr=>∃k:Nat,k+m=r.length/\iv=az aJ (k+1:Nat)/\mv=aH (some ⟨cN cf (r.take k) a,0,none⟩)/\Hid (aj w wr))
 case atStart=>exact⟨0,aa,rfl,rfl,Below.refl _ _⟩
 case round=>
  obtain⟨k,hkn,rfl,rfl,HB⟩:=hrel;by_cases hlt:k<r.length
  .obtain⟨b,hb⟩:∃b,r[k]?=some b:=⟨_,bo hlt⟩;have c1:=(HB.out.cell (p:=⟨g,lo+(k+1),none⟩) fh).trans (HV.out (k+1) b (by simpa using hb))
   have lM:b∈a::r:=bV _ (bA hb);have hmm:cN cf (r.take k) a∈a::r:=by
    rcases zN cf (r.take k) a with h|h
    .rw[h];simp
    .exact bV _ (rN h)
   have jo:Hid (ak 109 #[aH (some ⟨b,0,none⟩),aH (some ⟨cN cf (r.take k) a,0,none⟩)] wr λr' w''=>r'=aL (az aJ (cf b (cN cf (r.take k) a)))/\aj wr w''):=HC.out b lM _ hmm wr HB.out
   have iQ:Hid (cN cf (r.take (k+1)) a=if cf b (cN cf (r.take k) a)<0 then b else cN cf (r.take k) a):=by
    have htk:r.take (k+1)=r.take k++[b]:=by rw[ju,hb];rfl
    show cN cf (r.take (k+1)) a=_;rw[htk,MV]
   have ij:((k:Int)+1)<((r.length:Int)+1):=aa
   have hgr:g<wr.heap.size:=bW fh HB.out.size;clear c0 hb lM hmm;generalize cN cf (r.take k) a=M at*
   go_wp2_with fail
   refine jo.out.mono ?_;rintro e w5 ⟨rfl,bh⟩;have gV:Hid (aj w w5):=HB.out.trans (bh.mono HB.out.size);have c5:=aQ bh c1 hgr;clear jo bh c1;generalize cf b M=V at*;by_cases hV:V<0
   .have HM:Hid (cN cf (r.take (k+1)) a=b):=by rw[iQ.out,aV hV];rfl
    go_wp2_with fail
    go_roundg (gk-1)
    case measure=>omega
    case rel=>exact⟨k+1,aa,ai,by rw[HM.out],gV⟩
   .have HM:Hid (cN cf (r.take (k+1)) a=M):=by rw[iQ.out,aP hV];rfl
    have Ta:decide (V<0)=false:=jU hV
    go_wp2_with fail
    go_roundg (gk-1)
    case measure=>omega
    case rel=>exact⟨k+1,aa,ai,by rw[HM.out],gV⟩
  .have hk:k=r.length:=aa
   subst hk;rw[gv];clear HC HV
   go_wp2_with fail
   go_ret
   exact⟨rfl,HB.out⟩
theorem aoq:(Tryz.prog.info? 177).map (λi=>i.size)=some 8:=ag
theorem aor{a:Nat}(ha:∃c,w.heap[a]?=some (.cells c 177 (0,0)))(hb:∃c,w.heap[b]?=some (.cells c 177 (0,0))):
  (binOp .eql 175 (aH (some ⟨a,0,none⟩)) (aH (some ⟨b,0,none⟩))).run prog w=.ok (aD (b == a)) w:=by
 obtain⟨j,hj,hs⟩:=rG.1 aoq;by_cases h:a=b
 .subst h;rw[run_eql_ptr_same w _ underlying175 hj];simp
 .obtain⟨ca,ha⟩:=ha;obtain⟨cb,hb⟩:=hb;rw[run_eql_ptr_other w underlying175 hj (by rw[hs];decide) (λe=>h (aZ Addr.block e)) ha hb]
  have:(b == a)=false:=by simpa using λe=>h e.symm
  rw[this]
theorem aos(v:Nat)(bl:List Nat)(g lo cap:Nat)(w:aM)(hn:bl.length<=85000000)
  (HV:Hid (∀(i:Nat) b,bl[i]?=some b->w.cell? ⟨g,lo+i,none⟩=some (aH (some ⟨b,0,none⟩))))
  (HK:Hid (∀b,b=v\/b∈bl->∃c,w.heap[b]?=some (.cells c 177 (0,0)))):
  ak 212 #[aG (some ⟨g,lo,none⟩) bl.length cap,aH (some ⟨v,0,none⟩)] w λe w'=>e=aL (az aJ (iz (λb=>b == v) bl))/\aj w w':=by
 go_enter func212,ntmps212
 have HS:Hid (gZ (λb=>b == v) (bl.drop 0) 0=iz (λb=>b == v) bl):=rfl
 go_wp2_with fail
 go_loopg [8] bl.length (λm iv wr=>∃k:Nat,k+m=bl.length/\iv=az aJ k/\Hid (aj w wr/\gZ (λb=>b == v) (bl.drop k) k=iz (λb=>b == v) bl))
 case atStart=>exact⟨0,aa,rfl,Below.refl _ _,HS.out⟩
 case round=>
  obtain⟨k,hkn,rfl,HB⟩:=hrel;clear HS;by_cases hlt:k<bl.length
  .obtain⟨b,hb⟩:∃b,bl[k]?=some b:=⟨_,bo hlt⟩;have c0:=HV.out k b hb;have fh:g<w.heap.size:=lt_of_cell c0;have c1:=aQ HB.out.1 c0 fh;have iQ:Hid ((if b == v then(k:Int) else gZ (λb=>b == v) (bl.drop (k+1)) (k+1))=iz (λb=>b == v) bl):=by
    have:=HB.out.2;rw[yj hb] at this;exact this
   have ij:(k:Int)<(bl.length:Int):=aa
   have hop:(binOp .eql 175 (aH (some ⟨v,0,none⟩)) (aH (some ⟨b,0,none⟩))).run prog wr=.ok (aD (b == v)) wr:=by
    obtain⟨cv,hcv⟩:=HK.out v (aS rfl);obtain⟨cb,hcb⟩:=HK.out b (aR (bA hb));exact aor ⟨cv,(HB.out.1.block v (lt_of_heap hcv)).trans hcv⟩ ⟨cb,(HB.out.1.block b (lt_of_heap hcb)).trans hcb⟩
   clear c0 hb;generalize(b == v)=B at*;cases B
   .have HM:Hid (gZ (λb=>b == v) (bl.drop (k+1)) (k+1)=iz (λb=>b == v) bl):=iQ.out
    clear iQ
    go_wp2_with (simp only[hop])
    go_roundg (gk-1)
    case measure=>omega
    case rel=>exact⟨k+1,aa,ai,HB.out.1,HM.out⟩
   .have HM:Hid ((k:Int)=iz (λb=>b == v) bl):=iQ.out
    clear iQ
    go_wp2_with (simp only[hop])
    go_ret
    exact⟨by rw[<-HM.out];rfl,HB.out.1⟩
  .have hk:k=bl.length:=aa
   subst hk;have HM:Hid ((-1:Int)=iz (λb=>b == v) bl):=by
    have:=HB.out.2;rw[FW] at this;exact this
   clear HV
   go_wp2_with fail
   go_ret
   exact⟨by rw[<-HM.out];rfl,HB.out.1⟩
theorem aot(n:Nat)(hn:0<n)(hn':n<=85000000)(w:aM):
  ak 257 #[aG none 0 0,az aJ n] w λe w'=>∃cap,e=aL (aG (some ⟨w.heap.size,0,none⟩) 0 cap)/\w'.ownsRow w.heap.size 175 1 (aG (some ⟨w.heap.size,0,none⟩) 0 cap) 0 []/\aj w w':=by
 obtain⟨i0,hi0,hz0,hz1,hz2⟩:=info_parts Cj;have Be:∀ty,(Builtin.append_ #[185,3] ty #[aG none 0 0,az aJ n]).run prog w=.ok (aG (some ⟨w.heap.size,0,none⟩) n (grownCap w n 0 175)) (w.drew.alloc (.cells (#[]++Builtin.zeroCells (Value.pointer none).cells n++Builtin.zeroCells (Value.pointer none).cells (grownCap w n 0 175-n)) 175)):=λty=>by
  have h:=Lib.run_append_grow_zeros w 185 3 ty 175 i0 (Value.pointer none) aJ aJ underlying185 underlying3 hi0 hz0 none 0 0 [] (run_firstCells_none w.drew i0.size 0 0 0) n hn aa aa aa (by rw[hz2];omega) (by rw[hz2,jH];exact growslice_fits aa aa)
  simpa using h
 go_enter func257,ntmps257
 go_wp2_with (at_builtin;refine Lib.wpList_append_run _ rfl _ _ _ _ rfl _ _ rfl rfl _ _ (Be _) ?_)
 go_ret
 have hcap:n<=grownCap w n 0 175:=grownCap_ge w _ _ _;have hcl:=grownCap_le_maxLen w n 0 175 (by unfold maxLen;omega)
 refine⟨_,rfl,⟨rfl,aR ⟨w.heap.size,grownCap w n 0 175,_,rfl,aY _,heap_alloc_new _ _,iW _,hcl,?_,?_⟩⟩,(aw _ _).drew⟩
 .simp[size_zeroCells];omega
 .simp
abbrev It:=Nat×Nat×List Nat
def iR(its:List It):List Nat:=its.flatMap (·.2.2)
def I7(g:Nat)(it:It):aN:=aG (some ⟨g,it.1,none⟩) it.2.2.length it.2.1
theorem aou(its:List It)(g sb sc:Nat)(w:aM)(hN:0<(iR its).length)(hN':(iR its).length<=85000000)(hl:its.length<=100)
  (HS:Hid (∀(k:Nat) it,its[k]?=some it->w.cell? ⟨sb,k,none⟩=some (I7 g it)))
  (HV:Hid (∀it∈its,∀(i:Nat) b,it.2.2[i]?=some b->w.cell? ⟨g,it.1+i,none⟩=some (aH (some ⟨b,0,none⟩)))):
  ak 214 #[aG (some ⟨sb,0,none⟩) its.length sc] w λe w'=>∃lv,e=aL lv/\w'.ownsRow w.heap.size 175 1 lv (iR its).length (bC (iR its))/\aj w w':=by
 obtain⟨i0,hi0,hz0,hz1,hz2⟩:=info_parts Cj;have HG:Hid (∀(n:Nat),0<n->n<=85000000->∀w,ak 257 #[aG none 0 0,az aJ n] w λe w'=>∃cap,e=aL (aG (some ⟨w.heap.size,0,none⟩) 0 cap)/\w'.ownsRow w.heap.size 175 1 (aG (some ⟨w.heap.size,0,none⟩) 0 cap) 0 []/\aj w w'):=aot
 have HT:Hid (∀(k:Nat)(it:It),its[k]?=some it->iR (its.take (k+1))=iR (its.take k)++it.2.2):=λk it h=>by
  have htk:its.take (k+1)=its.take k++[it]:=by rw[ju,h];rfl
  show(its.take (k+1)).flatMap (·.2.2)=(its.take k).flatMap (·.2.2)++it.2.2
  rw[htk,Pr,qB,agW,qC]
 have rC:Hid (∀k,(iR (its.take k)).length<=(iR its).length):=λk=>by
  show((its.take k).flatMap (·.2.2)).length<=(its.flatMap (·.2.2)).length
  conv=>rhs;rw[<-AE k its,Pr,bX]
  omega
 go_enter func214,ntmps214
 go_wp2_with fail
 go_loopg [3,11] its.length (λm sv iv wr=>∃k:Nat,k+m=its.length/\iv=az aJ k/\sv=az aJ (iR (its.take k)).length/\w=wr)
 case atStart=>exact⟨0,aa,rfl,rfl,rfl⟩
 case round=>
  obtain⟨k,hkn,rfl,rfl,rfl⟩:=hrel;by_cases hlt:k<its.length
  .obtain⟨it,hit⟩:∃it,its[k]?=some it:=⟨_,bo hlt⟩;have c0:=HS.out k it hit;have hT:=HT.out k it hit;have hle:=rC.out (k+1);rw[hT,bX] at hle;obtain⟨o,c,bl⟩:=it;unfold I7 at c0;simp only at c0 hT hle;have ij:(k:Int)<(its.length:Int):=aa
   have Uc:Hid ((iR (its.take (k+1))).length=(iR (its.take k)).length+bl.length):=by
    show _=_;rw[hT,bX]
   clear hT hit;generalize(iR (its.take k)).length=A at*;have hA:wrap64 ((A:Int)+(bl.length:Int))=((A+bl.length:Nat):Int):=by unfold wrap64;omega
   have kK:¬(((A+bl.length:Nat):Int)<0):=aa
   go_wp2_with fail
   go_roundg (gk-1)
   case measure=>omega
   case rel=>exact⟨k+1,aa,ai,by rw[Uc.out];simp,rfl⟩
  .have hk:k=its.length:=aa
   subst hk;rw[gv];generalize hNN:(iR its).length=N at*;have HNN:Hid ((iR its).length=N):=hNN;clear hNN
   go_wp2_with fail
   refine(HG.out N hN hN' _).mono ?_;rintro e w1 ⟨cap,rfl,Fa,hb1⟩;have cQ:Hid (w1.ownsRow w.heap.size 175 1 (aG (some ⟨w.heap.size,0,none⟩) 0 cap) (iR (its.take 0)).length (bC (iR (its.take 0)))/\aj w w1):=⟨Fa,hb1⟩;clear Fa hb1 HG
   go_wp2_with fail
   go_loopg [6,27] its.length (λm lv iv wr=>∃k:Nat,k+m=its.length/\iv=az aJ k/\Hid (wr.ownsRow w.heap.size 175 1 lv (iR (its.take k)).length (bC (iR (its.take k)))/\aj w wr))
   case atStart=>exact⟨0,aa,rfl,cQ.out⟩
   case round=>
    obtain⟨k,hkn,rfl,HO⟩:=hrel;clear cQ;by_cases hlt:k<its.length
    .obtain⟨it,hit⟩:∃it,its[k]?=some it:=⟨_,bo hlt⟩;have c0:=HS.out k it hit;have hT:=HT.out k it hit;have hle:=rC.out (k+1);rw[hT,bX] at hle;have hV:=HV.out it (bA hit);obtain⟨o,c,bl⟩:=it;unfold I7 at c0;simp only at c0 hT hle hV;have c1:=aQ HO.out.2 c0 (lt_of_cell c0);have ij:(k:Int)<(its.length:Int):=aa
     obtain⟨j5,hb2⟩:=HO.out;have hbz:=hb2.size;have pj:Hid (iR (its.take (k+1))=iR (its.take k)++bl):=hT;have Cu:Hid (∀(i:Nat) b,bl[i]?=some b->wr.cell? ⟨g,o+i,none⟩=some (aH (some ⟨b,0,none⟩))):=λi b hb=>(hb2.cell (p:=⟨g,o+i,none⟩) (lt_of_cell (hV i b hb))).trans (hV i b hb)
     clear hT hit c0 hV HO;generalize iR (its.take k)=A at*;cases bl with
     |nil=>
      have dw:Hid (wr.ownsRow w.heap.size 175 1 u6 (iR (its.take (k+1))).length (bC (iR (its.take (k+1))))/\aj w wr):=by
       show _/\_;rw[pj.out,qC];exact⟨j5,hb2⟩
      clear pj Cu
      go_wp2_with (at_builtin;refine aaM rfl (.tmp 31) (.tmp 32) 185 rfl w.heap.size 175 i0 1 underlying185 hi0 u6 A.length (bC A) rfl j5 (some ⟨g,o,none⟩) c rfl ?_)
      go_roundg (gk-1)
      case measure=>omega
      case rel=>exact⟨k+1,aa,ai,dw.out⟩
     |cons b0 br=>
      rw[dG] at hle;have hnw:∀(j:Nat)(u:aN),(bC (b0::br))[j]?=some u->wr.cell? (Addr.add ⟨g,o,none⟩ j)=some u:=λj u hj=>by
       unfold bC at hj;rw[iy] at hj;obtain⟨b',h1,h2⟩:=rG.1 hj;rw[<-h2];have e:Addr.add ⟨g,o,none⟩ j=⟨g,o+j,none⟩:=by simp[Addr.add]
       rw[e];exact Cu.out j b' h1
      have hone:∀u∈bC (b0::br),u.oneCell'=true:=by unfold bC;simp[Value.oneCell']
      have hpl:(bC (b0::br)).length=(br.length+1)*1:=by simp[bC]
      have HNW:Hid (∀(j:Nat)(u:aN),(bC (b0::br))[j]?=some u->wr.cell? (Addr.add ⟨g,o,none⟩ j)=some u):=hnw;have HON:Hid (∀u∈bC (b0::br),u.oneCell'=true):=hone;have EF:Hid ((bC (b0::br)).length=(br.length+1)*1):=hpl;clear hnw hone hpl Cu
      go_wp2_with (at_builtin;go_loud (refine wpList_append_lies _ rfl (.tmp 31) (.tmp 32) 185 rfl w.heap.size 175 i0 _ 1 8 underlying185 hi0 hz0 hz1 hz2 rfl ah u6 A.length (bC A) rfl j5 ⟨g,o,none⟩ (br.length+1) c (bC (b0::br)) rfl EF.out HNW.out HON.out aa (by unfold maxLen;omega) aa hbz wr.heap.size rfl ?_);intro g' cap' w8 dW cI iN sH)
      have dw:Hid (w8.ownsRow w.heap.size 175 1 (aG (some ⟨g',0,none⟩) (A.length+(br.length+1)) cap') (iR (its.take (k+1))).length (bC (iR (its.take (k+1))))/\aj w w8):=by
       show _/\_;rw[pj.out,bX];refine⟨?_,hb2.grown cI hbz (λk hk=>(bn j5 k hk).1)⟩
       have e:bC (A++b0::br)=bC A++bC (b0::br):=by simp[bC]
       rw[e];exact dW
      clear pj dW cI iN
      go_wp2_with fail
      go_roundg (gk-1)
      case measure=>omega
      case rel=>exact⟨k+1,aa,ai,dw.out⟩
    .have hk:k=its.length:=aa
     subst hk;have HF:=HO.out;rw[gv,HNN.out] at HF;have HFF:Hid (wr.ownsRow w.heap.size 175 1 u6 N (bC (iR its))/\aj w wr):=HF;clear HO HF HS HV HT rC
     go_wp2_with fail
     go_ret
     exact⟨u6,rfl,by rw[HNN.out];exact HFF.out⟩
def tI(Xs:List PB):Nat->List Nat->List Nat
 |_,[]=>[]
 |b,s::r=>(if gA (xi Xs s) (xi Xs b)=0 then[] else[s])++tI Xs s r
theorem ado(Xs:List PB):∀(l:List Nat)(b s:Nat),tI Xs b (l++[s])=tI Xs b l++(if gA (xi Xs s) (xi Xs (l.getLastD b))=0 then[] else[s])
 |[],b,s=>by simp[tI]
 |a::l,b,s=>by
  show _++tI Xs a (l++[s])=(_++tI Xs a l)++_;rw[ado Xs l a s,fL];cases l<;>rfl
theorem Fb(Xs:List PB):∀(l:List Nat)(b:Nat),∀s∈tI Xs b l,s∈l
 |[],_,s,h=>by simp[tI] at h
 |a::l,b,s,h=>by
  rcases dF.1 h with h|h
  .split at h
   .simp at h
   .have:s=a:=by simpa using h
    rw[this];simp
  .exact bV _ (Fb Xs l a s h)
theorem Ud(Xs:List PB):∀(l:List Nat)(b:Nat),(tI Xs b l).length<=l.length
 |[],_=>by simp[tI]
 |a::l,b=>by
  have:=Ud Xs l a;show(_++tI Xs a l).length<=_;rw[bX,dG];split<;>simp<;>omega
def eJ(Xs:List PB)(A:List Nat):List Nat:=tI Xs (A.getLastD 0) A
def mj(Xs:List PB)(T:List Nat):Nat:=cN (λi j=>cE (xi Xs i).f (xi Xs j).f) T.tail (T.headD 0)
def wm(Xs:List PB)(T:List Nat):Nat:=(iz (λj=>j == mj Xs T) T).toNat
def eF(Xs:List PB)(A:List Nat):List Nat:=(eJ Xs A).drop (wm Xs (eJ Xs A))++(eJ Xs A).take (wm Xs (eJ Xs A))
theorem NN{Q:Nat->Bool}{f:Nat->Nat}:∀(l:List Nat)(k:Nat),(∀x∈l,P (f x)=Q x)->gZ P (l.map f) k=gZ Q l k
 |[],_,_=>rfl
 |a::l,k,h=>by
  show(if P (f a) then(k:Int) else gZ P (l.map f) (k+1))=if Q a then(k:Int) else gZ Q l (k+1)
  rw[h a af,NN l (k+1) λx hx=>h x (bV _ hx)]
theorem adp:∀(l:List Nat)(k:Nat),(∃x∈l,P x=true)->(k:Int)<=gZ P l k/\gZ P l k<(k:Int)+l.length
 |[],_,h=>by obtain⟨x,hx,_⟩:=h;simp at hx
 |a::l,k,h=>by
  show(k:Int)<=(if P a then(k:Int) else gZ P l (k+1))/\(if P a then(k:Int) else gZ P l (k+1))<(k:Int)+(a::l).length
  by_cases ha:P a=true
  .rw[aV ha,dG];omega
  .rw[aP ha,dG];obtain⟨x,hx,hp⟩:=h;have:=adp l (k+1) ⟨x,(bU.1 hx).resolve_left (λe=>ha (e▸hp)),hp⟩
   omega
theorem pL{e:TypeId}{bl:List Nat}(h:w.ownsRow base e 1 v n (bC bl))(hne:bl≠[]):
  ∃gT cT,v=aG (some ⟨gT,0,none⟩) n cT/\base<=gT/\gT<w.heap.size/\n<=cT/\cT<=maxLen/\n=bl.length/\∀(i b:Nat),bl[i]?=some b->w.cell? ⟨gT,0+i,none⟩=some (aH (some ⟨b,0,none⟩)):=by
 obtain⟨h1,h2⟩:=h;have hl:(bC bl).length=bl.length:=by simp[bC]
 rcases h2 with⟨_,h0⟩|⟨g,cap,cur,hv,hg,hb,hc,hm,hs,ht⟩
 .rw[h0,wR,hl] at h1;exact absurd (iX.1 h1) hne
 .refine⟨g,cap,hv,hg,lt_of_heap hb,hc,hm,aa,λi b hi=>?_⟩
  have hp:(bC bl)[i]?=some (aH (some ⟨b,0,none⟩)):=by unfold bC;rw[iy,hi];rfl
  rw[<-ht,lH] at hp;split at hp
  .rw[jH];unfold World.cell?;rw[hb];simpa using hp
  .cases hp
theorem aoy(bs:List Nat)(Xs:List PB)(hB:BD Xs)(g:Nat)(mk:Nat->Bool)(ow:Nat->Option Nat)(w:aM)(hW:SW g bs Xs mk ow w)(A:List Nat)(I8:0<A.length)(nQ:A.length<=85000000)(hA:∀a∈A,a<bs.length)(g0 lo cap:Nat)
  (HV:Hid (∀(i:Nat) a,A[i]?=some a->w.cell? ⟨g0,lo+i,none⟩=some (aH (some ⟨bx bs a,0,none⟩))))(hT:eJ Xs A≠[])(T:List Nat)(bM R:Nat)(Ue:eJ Xs A=T)(xP:R<T.length)(mi:T.length<=85000000)(qY:Hid (eF Xs A=T.drop R++T.take R))
  (HM:Hid (∀gT cT wr,wr.ownsRow w.heap.size 175 1 (aG (some ⟨gT,0,none⟩) T.length cT) T.length (bC (T.map (bx bs)))->aj w wr->ak 213 #[aG (some ⟨gT,0,none⟩) T.length cT,.func (.func 109) #[] #[]] wr λe w''=>e=aL (aH (some ⟨bM,0,none⟩))/\aj wr w''))
  (HX:Hid (∀gT cT wr,wr.ownsRow w.heap.size 175 1 (aG (some ⟨gT,0,none⟩) T.length cT) T.length (bC (T.map (bx bs)))->aj w wr->ak 212 #[aG (some ⟨gT,0,none⟩) T.length cT,aH (some ⟨bM,0,none⟩)] wr λe w''=>e=aL (az aJ R)/\aj wr w'')):
  ak 168 #[aG (some ⟨g0,lo,none⟩) A.length cap] w λe w'=>∃lv,e=aL lv/\w'.ownsRow w.heap.size 175 1 lv (eF Xs A).length (bC ((eF Xs A).map (bx bs)))/\aj w w':=by
 obtain⟨i0,hi0,hz0,hz1,hz2⟩:=info_parts Cj;have hlen:=hW.len;have Uf:Hid (∀a∈A,jB w (bx bs a) (xi Xs a)):=λa ha=>hW.rb.at (by rw[<-hlen];exact hA a ha)
 have Ug:Hid (∀a∈A,∃l,LD (xi Xs a) l):=λa ha=>hB.ld _ (iM (by rw[<-hlen];exact hA a ha))
 obtain⟨z,hz⟩:∃z,A[A.length-1]?=some z:=⟨_,bo aa⟩
 have hzl:A.getLastD 0=z:=by
  rw[nG,nX,hz];rfl
 have c0:=HV.out _ z hz;have hzA:z∈A:=bA hz;have hw1:IntKind.i64.wrap ((A.length:Int)-1)=((A.length-1:Nat):Int):=by rw[IntKind.wrap_i64];omega
 have cQ:Hid (w.ownsRow w.heap.size 175 1 (aG none 0 0) (tI Xs z (A.take 0)).length (bC ((tI Xs z (A.take 0)).map (bx bs)))/\aj w w):=⟨World.ownsRow_nil _ _ _ _,Below.refl _ _⟩
 go_enter func168,ntmps168
 go_wp2_with fail
 go_loopg [3,4,16] A.length (λm lv pv iv wr=>∃k:Nat,k+m=A.length/\iv=az aJ k/\pv=aH (some ⟨bx bs ((A.take k).getLastD z),0,none⟩)/\Hid (wr.ownsRow w.heap.size 175 1 lv (tI Xs z (A.take k)).length (bC ((tI Xs z (A.take k)).map (bx bs)))/\aj w wr))
 case atStart=>exact⟨0,aa,rfl,rfl,cQ.out⟩
 case round=>
  obtain⟨k,hkn,rfl,rfl,HO⟩:=hrel;clear cQ;by_cases hlt:k<A.length
  .obtain⟨s,hs⟩:∃s,A[k]?=some s:=⟨_,bo hlt⟩;obtain⟨j5,hb2⟩:=HO.out;have hsA:s∈A:=bA hs;have hpA:(A.take k).getLastD z∈A:=by
    rw[nG];cases hh:(A.take k).getLast? with
    |none=>exact hzA
    |some y=>exact rN (rH hh)
   have c1:=(hb2.cell (p:=⟨g0,lo+k,none⟩) (lt_of_cell (HV.out k s hs))).trans (HV.out k s hs);have hS:=(Uf.out s hsA).below hb2;have hP:=(Uf.out _ hpA).below hb2;have s0:=hS.c0;have s1:=hS.c1;have p0:=hP.c0;have p1:=hP.c1;obtain⟨l1,Bq⟩:=Ug.out s hsA;obtain⟨l2,hl2⟩:=Ug.out _ hpA;have Hv:Hid (∀w',ak 179 #[aC #[aA aK (xi Xs s).wa (xi Xs s).wb,aB aK (xi Xs s).sh],aC #[aA aK (xi Xs ((A.take k).getLastD z)).wa (xi Xs ((A.take k).getLastD z)).wb,aB aK (xi Xs ((A.take k).getLastD z)).sh]] w' λr w''=>r=aL (aD (decide (gA (xi Xs s) (xi Xs ((A.take k).getLastD z))=0)))/\aj w' w''):=λw'=>aoo _ _ Bq hl2 w'
   have htk:A.take (k+1)=A.take k++[s]:=by rw[ju,hs];rfl
   have HLL:Hid ((A.take (k+1)).getLastD z=s):=by
    show(A.take (k+1)).getLastD z=s;rw[htk];simp
   have pj:Hid (tI Xs z (A.take (k+1))=tI Xs z (A.take k)++(if decide (gA (xi Xs s) (xi Xs ((A.take k).getLastD z))=0)=true then[] else[s])):=by
    show tI Xs z (A.take (k+1))=_;rw[htk,ado];simp only[AL]
   have mi:=Ud Xs (A.take k) z;rw[iE] at mi;have hbz:=hb2.size;have ij:(k:Int)<(A.length:Int):=aa
   have hsz:bx bs s<wr.heap.size:=lt_of_cell s0;have kf:bx bs ((A.take k).getLastD z)<wr.heap.size:=lt_of_cell p0;have rq:aj wr wr.drew:=(Below.refl _ _).drew;have oM:Hid (wr.ownsRow w.heap.size 175 1 u3 (tI Xs z (A.take k)).length (bC ((tI Xs z (A.take k)).map (bx bs)))):=j5;have fw:Hid (aj w wr):=hb2;clear hS hP Bq hl2 htk hs HO j5 hb2 c0 hz hw1;generalize hbb:bx bs s=bS at*;generalize bx bs ((A.take k).getLastD z)=bP at*;generalize decide (gA (xi Xs s) (xi Xs ((A.take k).getLastD z))=0)=B at*;generalize(xi Xs s).wa=X1 at*;generalize(xi Xs s).wb=X2 at*;generalize(xi Xs s).sh=X3 at*;generalize(xi Xs ((A.take k).getLastD z)).wa=Y1 at*;generalize(xi Xs ((A.take k).getLastD z)).wb=Y2 at*;generalize(xi Xs ((A.take k).getLastD z)).sh=Y3 at*;generalize tI Xs z (A.take k)=T at*
   go_wp2_with fail
   go_region_held3 (λw'=>w'.cell? ⟨bS,0,none⟩=some (aA aK X1 X2)/\w'.cell? ⟨bS,1,none⟩=some (aB aK X3)/\w'.cell? ⟨bP,0,none⟩=some (aA aK Y1 Y2)/\w'.cell? ⟨bP,1,none⟩=some (aB aK Y3)) (go_keep) ((go_at_call 179;refine(Hv.out _).mono ?_;rintro e w5 ⟨rfl,bh⟩;have oF:aj wr w5:=rq.trans bh;have e0:=aQ oF s0 hsz;have e1:=aQ oF s1 hsz;have e2:=aQ oF p0 kf;have e3:=(aQ oF p1 kf)))
   all_goals
    have gV:Hid (aj w w5):=fw.out.trans (oF.mono hbz);have fD:w5.ownsRow w.heap.size 175 1 u3 T.length (bC (T.map (bx bs))):=bG oM.out λk hk=>oF.block k (bn oM.out k hk).2
    have Ez:=gV.out.size;clear e0 e1 e2 e3 s0 s1 p0 p1 rq oF oM fw Hv;cases B
    .have z8:Hid (tI Xs z (A.take (k+1))=T++[s]):=pj.out;have hnb:(w5.alloc (.cells #[aH (some ⟨bS,0,none⟩)] 175)).heap[w5.heap.size]?=some (.cells #[aH (some ⟨bS,0,none⟩)] 175 (0,0)):=heap_alloc_new _ _;have gU:(w5.alloc (.cells #[aH (some ⟨bS,0,none⟩)] 175)).ownsRow w.heap.size 175 1 u3 T.length (bC (T.map (bx bs))):=bG fD λk hk=>Below.heap_alloc _ _ _ (bn fD k hk).2
     have rV:=fD;clear pj fD
     go_wp2_with (at_builtin;refine wpList_append_lies _ rfl (.tmp 32) (.tmp 34) 185 rfl w.heap.size 175 i0 _ 1 8 underlying185 hi0 hz0 hz1 hz2 rfl ah u3 T.length (bC (T.map (bx bs))) rfl gU ⟨w5.heap.size,0,none⟩ 1 1 [aH (some ⟨bS,0,none⟩)] rfl rfl (World.news_of_block (cs:= #[aH (some ⟨bS,0,none⟩)]) (t:=175) (fr:=(0,0)) hnb) (by simp[Value.oneCell']) ah (by unfold maxLen;omega) aa (by simp;omega) (w5.heap.size+1) af ?_;intro g' cap' w8 dW cI iN sH)
     have dw:Hid (w8.ownsRow w.heap.size 175 1 (aG (some ⟨g',0,none⟩) (T.length+1) cap') (tI Xs z (A.take (k+1))).length (bC ((tI Xs z (A.take (k+1))).map (bx bs)))/\aj w w8):=by
      show _/\_;rw[z8.out,bX,jV];refine⟨?_,(gV.out.alloc Ez _).grown cI (by simp;omega) (λk hk=>(bn rV k hk).1)⟩
      have e:bC (T.map (bx bs)++[s].map (bx bs))=bC (T.map (bx bs))++[aH (some ⟨bS,0,none⟩)]:=by simp[bC,hbb]
      rw[e];exact dW
     have qp:Hid (bx bs s=bS):=hbb;clear dW cI iN hnb gU rV z8 hbb
     go_wp2_with fail
     go_roundg (gk-1)
     case measure=>omega
     case rel=>exact⟨k+1,aa,ai,by rw[HLL.out,qp.out],dw.out⟩
    .have z8:Hid (tI Xs z (A.take (k+1))=T):=by
      have:=pj.out;rw[aV rfl,qC] at this;exact this
     have dw:Hid (w5.ownsRow w.heap.size 175 1 u3 (tI Xs z (A.take (k+1))).length (bC ((tI Xs z (A.take (k+1))).map (bx bs)))/\aj w w5):=by
      show _/\_;rw[z8.out];exact⟨fD,gV.out⟩
     have qp:Hid (bx bs s=bS):=hbb;clear pj fD hbb z8
     go_wp2_with fail
     go_roundg (gk-1)
     case measure=>omega
     case rel=>exact⟨k+1,aa,ai,by rw[HLL.out,qp.out],dw.out⟩
  .have hk:k=A.length:=aa
   subst hk;have j5:=HO.out.1;have fw:Hid (aj w wr):=HO.out.2;rw[gv] at j5;have hTd:tI Xs z A=T:=by rw[<-Ue];unfold eJ;rw[hzl]
   rw[hTd] at j5;obtain⟨gT,cT,rfl,hgT,fh,hcT,hcm,hd1,hd2⟩:=pL j5 (by rw[<-Ue];simpa using hT)
   clear hd1 hd2;have oM:Hid (wr.ownsRow w.heap.size 175 1 (aG (some ⟨gT,0,none⟩) T.length cT) T.length (bC (T.map (bx bs)))):=j5;have auY:cT<=9223372036854775807:=by unfold maxLen at hcm;omega
   have hMc:=HM.out gT cT wr oM.out fw.out;have I9:Hid (ak 213 #[aG (some ⟨gT,0,none⟩) T.length cT,.func (.func 109) #[] #[]] wr λe w''=>e=aL (aH (some ⟨bM,0,none⟩))/\aj wr w''):=hMc
   clear HM hMc j5 HO Uf Ug HV hW hB hTd Ue hcm c0 hz hw1 hT hA hzA hzl
   go_wp2_with fail
   refine I9.out.mono ?_;rintro e w1 ⟨rfl,hb1⟩;have Fa:w1.ownsRow w.heap.size 175 1 (aG (some ⟨gT,0,none⟩) T.length cT) T.length (bC (T.map (bx bs))):=bG oM.out λk hk=>hb1.block k (bn oM.out k hk).2
   have zx:aj w w1:=fw.out.trans (hb1.mono fw.out.size);have HXc:Hid (ak 212 #[aG (some ⟨gT,0,none⟩) T.length cT,aH (some ⟨bM,0,none⟩)] w1 λe w''=>e=aL (az aJ R)/\aj w1 w''):=HX.out gT cT w1 Fa zx
   have Uh:Hid (w1.ownsRow w.heap.size 175 1 (aG (some ⟨gT,0,none⟩) T.length cT) T.length (bC (T.map (bx bs)))):=Fa;have zO:Hid (aj w w1):=zx;clear HX I9 Fa zx oM fw hb1
   go_wp2_with fail
   refine HXc.out.mono ?_;rintro e w2 ⟨rfl,hb2⟩;have oM:Hid (w2.ownsRow w.heap.size 175 1 (aG (some ⟨gT,0,none⟩) T.length cT) T.length (bC (T.map (bx bs)))):=bG Uh.out λk hk=>hb2.block k (bn Uh.out k hk).2
   have fw:Hid (aj w w2):=zO.out.trans (hb2.mono zO.out.size);clear HXc Uh zO hb2;have HCo:Hid (∀w' sb,aj w2 w'->w'.cell? ⟨sb,0,none⟩=some (aG (some ⟨gT,R,none⟩) (T.length-R) (cT-R))->w'.cell? ⟨sb,1,none⟩=some (aG (some ⟨gT,0,none⟩) R cT)->ak 214 #[aG (some ⟨sb,0,none⟩) 2 2] w' λe w''=>∃lv,e=aL lv/\w''.ownsRow w'.heap.size 175 1 lv (eF Xs A).length (bC ((eF Xs A).map (bx bs)))/\aj w' w''):=λw' sb hb c0 c1=>by
    obtain⟨pM,mn,hv,_,Zl,_,_,_,hcell⟩:=pL oM.out (by intro h;have:=aZ List.length h;simp at this;rw[this] at xP;simp at xP)
    have hgg:pM=gT/\mn=cT:=by
     injection hv with h1 _ h3;injection h1 with h1;injection h1 with h1;exact⟨h1.symm,h3.symm⟩
    obtain⟨rfl,rfl⟩:=hgg;have Ui:iR [(R,mn-R,(T.drop R).map (bx bs)),(0,mn,(T.take R).map (bx bs))]=(eF Xs A).map (bx bs):=by
     rw[qY.out,jV];simp[iR]
    have Bq:((T.drop R).map (bx bs)).length=T.length-R:=af
    have hl2:((T.take R).map (bx bs)).length=R:=by simp;omega
    have hcl:((eF Xs A).map (bx bs)).length=T.length:=by
     rw[qY.out,gG,bX];simp;omega
    have hk:=aou [(R,mn-R,(T.drop R).map (bx bs)),(0,mn,(T.take R).map (bx bs))] pM sb 2 w' (by rw[Ui,hcl];omega) (by rw[Ui,hcl];exact mi) af
     (λk it hk=>by
      rcases k with _|_|k
      .have e:it=(R,mn-R,(T.drop R).map (bx bs)):=by simpa using hk.symm
       rw[e];unfold I7;simp only[Bq];exact c0
      .have e:it=(0,mn,(T.take R).map (bx bs)):=by simpa using hk.symm
       rw[e];unfold I7;simp only[hl2];exact c1
      .simp at hk)
     (λit hit i b hi=>by
      have hgl:pM<w2.heap.size:=Zl;rcases bU.1 hit with e|hit
      .rw[e] at hi⊢;simp only at hi⊢;have h2:=hcell (R+i) b (by rw[<-hi,List.map_drop,Py])
       rw[jH] at h2;exact(aQ hb h2 hgl)
      .have e:it=(0,mn,(T.take R).map (bx bs)):=by simpa using hit
       rw[e] at hi⊢;simp only at hi⊢;have h2:=hcell i b (by
        rw[WD,lH] at hi;split at hi
        .exact hi
        .cases hi)
       exact(aQ hb h2 hgl))
    rw[Ui,gG] at hk;exact hk
   have CF:(0:Int)<=(R:Int):=aa
   have hRi:(R:Int)<=(T.length:Int):=aa
   have xS:(T.length:Int)<=(cT:Int):=aa
   have hRc:(R:Int)<=(cT:Int):=aa
   have hcR:¬cT=R:=aa
   have NK:Hid (∀o,aj w2 (w2.alloc o).drew):=λo=>((Below.refl _ _).alloc (aY _) o).drew
   have HBD:Hid (aj w2 w2.drew):=(Below.refl _ _).drew;have Uj:aj w2 (w2.alloc (.cells #[aG (some ⟨gT,R,none⟩) (T.length-R) (cT-R),aG (some ⟨gT,0,none⟩) R cT] 185)).drew:=(aw _ _).drew;have hcc:=HCo.out _ w2.heap.size Uj (cell_of (w:=(w2.alloc (.cells #[aG (some ⟨gT,R,none⟩) (T.length-R) (cT-R),aG (some ⟨gT,0,none⟩) R cT] 185)).drew) (heap_alloc_new _ _) 0) (cell_of (w:=(w2.alloc (.cells #[aG (some ⟨gT,R,none⟩) (T.length-R) (cT-R),aG (some ⟨gT,0,none⟩) R cT] 185)).drew) (heap_alloc_new _ _) 1);have aoC:=fw.out.size;have vR:Hid (ak 214 #[aG (some ⟨w2.heap.size,0,none⟩) 2 2] (w2.alloc (.cells #[aG (some ⟨gT,R,none⟩) (T.length-R) (cT-R),aG (some ⟨gT,0,none⟩) R cT] 185)).drew λe w''=>∃lv,e=aL lv/\w''.ownsRow w.heap.size 175 1 lv (eF Xs A).length (bC ((eF Xs A).map (bx bs)))/\aj w w''):=by
    refine hcc.mono ?_;rintro e w9 ⟨NQ,rfl,BP,oJ⟩;exact⟨NQ,rfl,xH BP (by simp[World.drew];omega),fw.out.trans ((Uj.trans (oJ.mono (by simp[World.drew]))).mono aoC)⟩
   clear oM qY HCo hcc Uj NK HBD
   go_wp2_with fail
   go_region_held3 (λ_=>True) (go_keep) ((go_at_call 214;refine vR.out.mono ?_;rintro e w9 ⟨NQ,rfl,BP,oJ⟩))
   all_goals
    have HF:Hid (w9.ownsRow w.heap.size 175 1 NQ (eF Xs A).length (bC ((eF Xs A).map (bx bs)))/\aj w w9):=⟨BP,oJ⟩;clear BP oJ fw vR
    go_wp2_with fail
    go_ret
    exact⟨NQ,rfl,HF.out⟩
theorem adx(Xs:List PB)(hT:T≠[]):mj Xs T∈T:=by
 cases T with
 |nil=>exact absurd rfl hT
 |cons t0 tr=>
  unfold mj;rcases zN (λi j=>cE (xi Xs i).f (xi Xs j).f) tr t0 with e|e
  .rw[show(t0::tr).tail=tr from rfl,show(t0::tr).headD 0=t0 from rfl,e];simp
  .exact bV _ e
theorem aoD(Xs:List PB)(hT:T≠[]):iz (λj=>j == mj Xs T) T=(wm Xs T:Int)/\wm Xs T<T.length:=by
 have hbd:=adp (P:=λj=>j == mj Xs T) T 0 ⟨_,adx Xs hT,af⟩
 have e2:iz (λj=>j == mj Xs T) T=gZ (λj=>j == mj Xs T) T 0:=rfl
 have e3:wm Xs T=(gZ (λj=>j == mj Xs T) T 0).toNat:=rfl
 rw[e2,e3];omega
theorem Uk(Xs:List PB)(A:List Nat):∀j∈eJ Xs A,j∈A:=λj hj=>Fb Xs A _ j hj
theorem Ul(Xs:List PB)(A:List Nat):(eJ Xs A).length<=A.length:=Ud Xs A _
theorem aoE(bs:List Nat)(Xs:List PB)(hB:BD Xs)(g:Nat)(mk:Nat->Bool)(ow:Nat->Option Nat)(w:aM)(hW:SW g bs Xs mk ow w)(A:List Nat)(I8:0<A.length)(nQ:A.length<=85000000)(hA:∀a∈A,a<bs.length)(g0 lo cap:Nat)
  (HV:∀(i:Nat) a,A[i]?=some a->w.cell? ⟨g0,lo+i,none⟩=some (aH (some ⟨bx bs a,0,none⟩)))(hT:eJ Xs A≠[]):
  ak 168 #[aG (some ⟨g0,lo,none⟩) A.length cap] w λe w'=>∃lv,e=aL lv/\w'.ownsRow w.heap.size 175 1 lv (eF Xs A).length (bC ((eF Xs A).map (bx bs)))/\aj w w':=by
 have hlen:=hW.len;have qR:∀j∈eJ Xs A,j<bs.length:=λj hj=>hA j (Uk Xs A j hj)
 have mi:(eJ Xs A).length<=85000000:=fN (Ul Xs A) nQ;have hlm:=adx Xs hT;obtain⟨hr1,hr2⟩:=aoD Xs hT;refine aoy bs Xs hB g mk ow w hW A I8 nQ hA g0 lo cap HV hT (eJ Xs A) (bx bs (mj Xs (eJ Xs A))) (wm Xs (eJ Xs A)) rfl hr2 mi rfl ?_ ?_
 .intro gT cT wr ho hb;generalize eJ Xs A=T at*;obtain⟨pM,mn,hv,_,fh,_,_,_,hcell⟩:=pL ho (by intro h;exact hT (uS.1 h))
  have hgg:pM=gT/\mn=cT:=by
   injection hv with h1 _ h3;injection h1 with h1;injection h1 with h1;exact⟨h1.symm,h3.symm⟩
  obtain⟨rfl,rfl⟩:=hgg;obtain⟨t0,tr,rfl⟩:∃t0 tr,T=t0::tr:=by
   cases T with
   |nil=>exact absurd rfl hT
   |cons a r=>exact⟨a,r,rfl⟩
  have hR:=hW.rb.below hb;have hm:=aop (λb b'=>cE (xi Xs (bs.idxOf b)).f (xi Xs (bs.idxOf b')).f) (bx bs t0) (tr.map (bx bs)) pM 0 mn wr (by rw[gG];simp only[dG] at mi;omega)
   (λi b hi=>hcell i b hi)
   (λb h1 c h2 w'' hw=>by
    have key:∀b,b∈bx bs t0::tr.map (bx bs)->∃j,j<bs.length/\b=bx bs j:=λb hb=>by
     have hb2:b∈(t0::tr).map (bx bs):=hb;obtain⟨j,hj,rfl⟩:=bQ.1 hb2;exact⟨j,qR j hj,rfl⟩
    obtain⟨j1,q1,rfl⟩:=key b h1;obtain⟨j2,q2,rfl⟩:=key c h2;have EU:=hR.below hw;rw[oH hW.nd q1,oH hW.nd q2];refine(S3 _ _ (hB.v _ (iM (by rw[<-hlen];exact q1))) (hB.v _ (iM (by rw[<-hlen];exact q2))) _ _ w'' (EU.at (by rw[<-hlen];exact q1)) (EU.at (by rw[<-hlen];exact q2))).mono ?_
    rintro e w3 ⟨rfl,hb3,_⟩;exact⟨rfl,hb3⟩)
  have e1:cN (λb b'=>cE (xi Xs (bs.idxOf b)).f (xi Xs (bs.idxOf b')).f) (tr.map (bx bs)) (bx bs t0)=bx bs (mj Xs (t0::tr)):=by
   unfold mj;refine IB _ _ λj hj k hk=>?_
   simp only[oH hW.nd (qR j hj),oH hW.nd (qR k hk)]
  rw[e1,gG] at hm;exact hm
 .intro gT cT wr ho hb;generalize eJ Xs A=T at*;obtain⟨pM,mn,hv,_,fh,_,_,_,hcell⟩:=pL ho (by intro h;exact hT (uS.1 h))
  have hgg:pM=gT/\mn=cT:=by
   injection hv with h1 _ h3;injection h1 with h1;injection h1 with h1;exact⟨h1.symm,h3.symm⟩
  obtain⟨rfl,rfl⟩:=hgg;have hm:=aos (bx bs (mj Xs T)) (T.map (bx bs)) pM 0 mn wr (by rw[gG];exact mi) (λi b hi=>hcell i b hi) (λb hb'=>by
   have hbj:∃j,j<bs.length/\b=bx bs j:=by
    rcases hb' with rfl|hb'
    .exact⟨_,qR _ hlm,rfl⟩
    .obtain⟨j,hj,rfl⟩:=bQ.1 hb';exact⟨j,qR j hj,rfl⟩
   obtain⟨j,hj,rfl⟩:=hbj;exact⟨_,(hb.block _ (hW.lt (sQ hj))).trans (hW.side j hj)⟩)
  have e1:iz (λb=>b == bx bs (mj Xs T)) (T.map (bx bs))=iz (λj=>j == mj Xs T) T:=NN _ _ λx hx=>by
   by_cases e:x=mj Xs T
   .rw[e];simp
   .have h1:(x == mj Xs T)=false:=by simpa using e
    have h2:(bx bs x == bx bs (mj Xs T))=false:=by simpa using λh=>e (Ua hW.nd (qR x hx) (qR _ hlm) h)
    rw[h1,h2]
  rw[e1,hr1,gG] at hm;exact hm
def nB(Xs:List PB)(s j:Nat):Bool:=decide ((xi Xs s).t=(xi Xs j).f)
def jg(Xs:List PB)(O:List Nat)(s:Nat):Int:=iz (nB Xs s) O
def kj(Xs:List PB)(p:List Nat×List (List Nat))(s:Nat):List Nat×List (List Nat):=
 if 0<=jg Xs (p.1++[s]) s then((p.1++[s]).take (jg Xs (p.1++[s]) s).toNat,p.2++[eF Xs ((p.1++[s]).drop (jg Xs (p.1++[s]) s).toNat)]) else(p.1++[s],p.2)
def cU(Xs:List PB)(W:List Nat):List Nat×List (List Nat):=W.foldl (kj Xs) ([],[])
def cJ(Xs:List PB)(W:List Nat):List (List Nat):=(cU Xs W).2
theorem Ab(Xs:List PB)(W:List Nat)(s:Nat):cU Xs (W++[s])=kj Xs (cU Xs W) s:=by unfold cU;rw[Pz];rfl
theorem ady:(Tryz.prog.info? 185).map (λi=>(i.zero,i.size,i.bytes))=some (some (aG none 0 0),1,24):=ag
structure RI(bs:List Nat)(w:aM)(lo lr:aN)(O:List Nat)(Rs:List (List Nat))(rv:List aN)(wr:aM):Prop where
 oo:wr.ownsRow w.heap.size 175 1 lo O.length (bC (O.map (bx bs)))
 ro:wr.ownsRow w.heap.size 185 1 lr rv.length rv
 len:rv.length=Rs.length
 ring:∀(i:Nat) v r,rv[i]?=some v->Rs[i]?=some r->wr.ownsRow w.heap.size 175 1 v r.length (bC (r.map (bx bs)))/\∀k,v.ownBlock=some k->lo.ownBlock≠some k/\lr.ownBlock≠some k
 ne:∀k,lo.ownBlock=some k->lr.ownBlock≠some k
 below:aj w wr
theorem RI.keep{Rs:List (List Nat)}{rv:List aN}(h:RI bs w lo lr O Rs rv wr)(hb:aj wr w'):RI bs w lo lr O Rs rv w':=
 ⟨bG h.oo λk hk=>hb.block k (bn h.oo k hk).2,bG h.ro λk hk=>hb.block k (bn h.ro k hk).2,h.len,λi v r h1 h2=>⟨bG (h.ring i v r h1 h2).1 λk hk=>hb.block k (bn (h.ring i v r h1 h2).1 k hk).2,(h.ring i v r h1 h2).2⟩,h.ne,h.below.trans (hb.mono h.below.size)⟩
theorem RI.aoF{Rs:List (List Nat)}{rv:List aN}(h:RI bs w lo lr O Rs rv wr)(s:Nat)(o:Obj)(cI:(wr.alloc o).grownBy w8 lo.ownBlock)
  (dW:w8.ownsRow w.heap.size 175 1 (aG (some ⟨g',0,none⟩) (O.length+1) cap') (O.length+1) (bC (O.map (bx bs))++[aH (some ⟨bx bs s,0,none⟩)]))(hat:lo.ownBlock=some g'\/g'=wr.heap.size+1):
  RI bs w (aG (some ⟨g',0,none⟩) (O.length+1) cap') lr (O++[s]) Rs rv w8:=by
 have hold:∀k,k<wr.heap.size->lo.ownBlock≠some k->w8.heap[k]?=wr.heap[k]?:=λk hk hne=>(cI.block k (by simp;omega) (λe=>hne e.symm)).trans (Below.heap_alloc _ _ _ hk)
 refine⟨?_,bG h.ro λk hk=>hold k (bn h.ro k hk).2 (λe=>h.ne k e hk),h.len,λi v r h1 h2=>?_,λk hk=>?_,?_⟩
 .rw[jV,bX];have e:bC (O.map (bx bs)++[s].map (bx bs))=bC (O.map (bx bs))++[aH (some ⟨bx bs s,0,none⟩)]:=by simp[bC]
  rw[e];exact dW
 .obtain⟨k1,k2⟩:=h.ring i v r h1 h2;refine⟨bG k1 λk hk=>hold k (bn k1 k hk).2 (k2 k hk).1,λk hk=>⟨λe=>?_,(k2 k hk).2⟩⟩
  have e':g'=k:=by simpa[Value.ownBlock] using e
  subst e';rcases hat with hat|hat
  .exact(k2 _ hk).1 hat
  .have:=(bn k1 _ hk).2;omega
 .have e':g'=k:=by simpa[Value.ownBlock] using hk
  subst e';intro hr;rcases hat with hat|hat
  .exact h.ne _ hat hr
  .have:=(bn h.ro _ hr).2;omega
 .exact(h.below.alloc h.below.size _).grown cI (by have:=h.below.size;simp;omega) (λk hk=>(bn h.oo k hk).1)
theorem RI.aoG{Rs:List (List Nat)}{rv:List aN}(h:RI bs w lo lr O Rs rv wr){r:List Nat}{B:Nat}(hv:wr.ownsRow B 175 1 v r.length (bC (r.map (bx bs))))(hB:w.heap.size<=B)(hlB:∀k,lo.ownBlock=some k\/lr.ownBlock=some k->k<B)(o:Obj)(cI:(wr.alloc o).grownBy w8 lr.ownBlock)
  (dW:w8.ownsRow w.heap.size 185 1 (aG (some ⟨g',0,none⟩) (rv.length+1) cap') (rv.length+1) (rv++[v]))(hat:lr.ownBlock=some g'\/g'=wr.heap.size+1):
  RI bs w lo (aG (some ⟨g',0,none⟩) (rv.length+1) cap') O (Rs++[r]) (rv++[v]) w8:=by
 have hold:∀k,k<wr.heap.size->lr.ownBlock≠some k->w8.heap[k]?=wr.heap[k]?:=λk hk hne=>(cI.block k (by simp;omega) (λe=>hne e.symm)).trans (Below.heap_alloc _ _ _ hk)
 have hvk:∀k,v.ownBlock=some k->B<=k/\k<wr.heap.size:=λk hk=>bn hv k hk
 refine⟨bG h.oo λk hk=>hold k (bn h.oo k hk).2 (h.ne k hk),?_,by rw[bX,bX,h.len];rfl,λi u q h1 h2=>?_,λk hk e=>?_,?_⟩
 .rw[bX];exact dW
 .by_cases hi:i<rv.length
  .rw[fM hi] at h1;rw[fM (by rw[<-h.len];exact hi)] at h2
   obtain⟨k1,k2⟩:=h.ring i u q h1 h2;refine⟨bG k1 λk hk=>hold k (bn k1 k hk).2 (k2 k hk).2,λk hk=>⟨(k2 k hk).1,λe=>?_⟩⟩
   have e':g'=k:=by simpa[Value.ownBlock] using e
   subst e';rcases hat with hat|hat
   .exact(k2 _ hk).2 hat
   .have:=(bn k1 _ hk).2;omega
  .have hi2:i=rv.length:=by
    have:=(cG.1 h1).1;simp at this;omega
   subst hi2;have e1:u=v:=by simpa using h1.symm
   have e2:q=r:=by rw[h.len] at h2;simpa using h2.symm
   subst e1 e2;refine⟨xH (bG hv λk hk=>hold k (hvk k hk).2 (λe=>by have:=hlB k (aR e);have:=(hvk k hk).1;omega)) hB,λk hk=>⟨λe=>by have:=hlB k (aS e);have:=(hvk k hk).1;omega,λe=>?_⟩⟩
   have e':g'=k:=by simpa[Value.ownBlock] using e
   subst e';rcases hat with hat|hat
   .have:=hlB _ (aR hat);have:=(hvk _ hk).1;omega
   .have:=(hvk _ hk).2;omega
 .have e':g'=k:=by simpa[Value.ownBlock] using e
  subst e';rcases hat with hat|hat
  .exact h.ne _ hk hat
  .have:=(bn h.oo _ hk).2;omega
 .exact(h.below.alloc h.below.size _).grown cI (by have:=h.below.size;simp;omega) (λk hk=>(bn h.ro k hk).1)
theorem aoH{e:TypeId}{xs:List aN}(h:w.ownsRow base e 1 (aG (some ⟨g,0,none⟩) n cap) n xs)(hk:k<=n):w.ownsRow base e 1 (aG (some ⟨g,0,none⟩) k cap) k (xs.take k):=by
 obtain⟨h1,h2⟩:=h;rcases h2 with⟨h0,_⟩|⟨g1,c1,cur,hv,hg,hb,hc,hm,hs,ht⟩
 .cases h0
 .refine⟨by rw[iE,h1];omega,aR ⟨g1,c1,cur,?_,hg,hb,aa,hm,hs,?_⟩⟩
  .injection hv with a1 _ a3;rw[a1,a3]
  .rw[<-ht,AK];congr 1;omega
theorem RI.aoI{Rs:List (List Nat)}{rv:List aN}(h:RI bs w (aG (some ⟨g,0,none⟩) n cap) lr O Rs rv wr)(hk:k<=O.length)(hn:n=O.length):RI bs w (aG (some ⟨g,0,none⟩) k cap) lr (O.take k) Rs rv wr:=by
 subst hn;refine⟨?_,h.ro,h.len,h.ring,h.ne,h.below⟩;have:=aoH h.oo hk;have e:(bC (O.map (bx bs))).take k=bC ((O.take k).map (bx bs)):=by unfold bC;rw[WD,WD]
 rw[e] at this;have hl:(O.take k).length=k:=by rw[iE];omega
 rw[hl];exact this
theorem aoJ(Xs:List PB)(p:List Nat×List (List Nat))(s:Nat):∀j∈(kj Xs p s).1,j∈p.1\/j=s:=by
 intro j hj;unfold kj at hj;split at hj
 .have:=rN hj;simpa using this
 .simpa using hj
theorem NR(Xs:List PB)(A:List Nat):∀k,∀j∈(cU Xs (A.take k)).1,j∈A:=by
 intro k;induction k with
 |zero=>intro j hj;simp[cU] at hj
 |succ k ih=>
  intro j hj;by_cases hk:k<A.length
  .have htk:A.take (k+1)=A.take k++[A[k]]:=by rw[ju,bo hk];rfl
   rw[htk,Ab] at hj;rcases aoJ Xs _ _ j hj with h|h
   .exact ih j h
   .rw[h];exact iw hk
  .rw[qE aa] at hj
   rw[qE aa] at ih
   exact ih j hj
theorem aoK(Xs:List PB)(p:List Nat×List (List Nat))(s:Nat):(kj Xs p s).1.length<=p.1.length+1/\(kj Xs p s).2.length<=p.2.length+1:=by
 unfold kj;split
 .simp;omega
 .simp
theorem Ja(Xs:List PB)(A:List Nat):∀k,(cU Xs (A.take k)).1.length<=k/\(cU Xs (A.take k)).2.length<=k:=by
 intro k;induction k with
 |zero=>simp[cU]
 |succ k ih=>
  by_cases hk:k<A.length
  .have htk:A.take (k+1)=A.take k++[A[k]]:=by rw[ju,bo hk];rfl
   rw[htk,Ab];have:=aoK Xs (cU Xs (A.take k)) A[k];omega
  .rw[qE aa]
   rw[qE aa] at ih
   omega
theorem adz{P:Nat->Bool}:∀(l:List Nat)(k:Nat),gZ P l k= -1\/((k:Int)<=gZ P l k/\gZ P l k<(k:Int)+l.length)
 |[],_=>aS rfl
 |a::l,k=>by
  show(if P a then(k:Int) else gZ P l (k+1))= -1\/((k:Int)<=(if P a then(k:Int) else gZ P l (k+1))/\(if P a then(k:Int) else gZ P l (k+1))<(k:Int)+(a::l).length)
  rw[dG];by_cases ha:P a=true
  .rw[aV ha];omega
  .rw[aP ha];have:=adz (P:=P) l (k+1);omega
theorem aoL(Xs:List PB)(O:List Nat)(s:Nat)(h:0<=jg Xs O s):(jg Xs O s).toNat<O.length:=by
 have:=adz (P:=nB Xs s) O 0;have e:jg Xs O s=gZ (nB Xs s) O 0:=rfl;rw[e] at h⊢;omega
theorem aoM(bs:List Nat)(Xs:List PB)(hB:BD Xs)(g:Nat)(mk:Nat->Bool)(ow:Nat->Option Nat)(w:aM)(hW:SW g bs Xs mk ow w)(O:List Nat)(s gO cO:Nat)(w':aM)(ho:w'.ownsRow w.heap.size 175 1 (aG (some ⟨gO,0,none⟩) O.length cO) O.length (bC (O.map (bx bs))))(hb:aj w w')(hO:∀j∈O,j<bs.length)(hs:s<bs.length)(hne:O≠[])(hl:O.length<=85000000):
  ak 166 #[aG (some ⟨gO,0,none⟩) O.length cO,.func (.func 167) #[aH (some ⟨bx bs s,0,none⟩)] #[]] w' λe w''=>e=aL (az aJ (jg Xs O s))/\aj w' w'':=by
 have hlen:=hW.len;obtain⟨pM,mn,hv,_,fh,_,_,_,hcell⟩:=pL ho (by intro h;exact hne (uS.1 h))
 have hgg:pM=gO/\mn=cO:=by
  injection hv with h1 _ h3;injection h1 with h1;injection h1 with h1;exact⟨h1.symm,h3.symm⟩
 obtain⟨rfl,rfl⟩:=hgg;have hm:=aon (λb=>decide ((xi Xs s).t=(xi Xs (bs.idxOf b)).f)) (O.map (bx bs)) pM 0 mn (bx bs s) w' (by rw[gG];exact hl) (λi b hi=>hcell i b hi) (λb hb' w'' hw=>by
  obtain⟨j,hj,rfl⟩:=bQ.1 hb';have hjl:=hO j hj;have hR:=(hW.rb.below hb).below hw;rw[oH hW.nd hjl];exact aom _ _ (hB.v _ (iM (by rw[<-hlen];exact hs))) (hB.v _ (iM (by rw[<-hlen];exact hjl))) _ _ w'' (hR.at (by rw[<-hlen];exact hs)) (hR.at (by rw[<-hlen];exact hjl)))
 have e1:iz (λb=>decide ((xi Xs s).t=(xi Xs (bs.idxOf b)).f)) (O.map (bx bs))=jg Xs O s:=NN _ _ λx hx=>by
  simp only[oH hW.nd (hO x hx)];rfl
 rw[e1,gG] at hm;exact hm
theorem aoN(bs:List Nat)(Xs:List PB)(hB:BD Xs)(g:Nat)(mk:Nat->Bool)(ow:Nat->Option Nat)(w:aM)(hW:SW g bs Xs mk ow w)(O:List Nat)(R gO cO:Nat)(w':aM)(ho:w'.ownsRow w.heap.size 175 1 (aG (some ⟨gO,0,none⟩) O.length cO) O.length (bC (O.map (bx bs))))(hb:aj w w')(hO:∀j∈O,j<bs.length)(hR:R<O.length)(hl:O.length<=85000000)(hT:eJ Xs (O.drop R)≠[]):
  ak 168 #[aG (some ⟨gO,R,none⟩) (O.length-R) (cO-R)] w' λe w''=>∃lv,e=aL lv/\w''.ownsRow w'.heap.size 175 1 lv (eF Xs (O.drop R)).length (bC ((eF Xs (O.drop R)).map (bx bs)))/\aj w' w'':=by
 have hne:O≠[]:=by intro h;rw[h] at hR;simp at hR
 obtain⟨pM,mn,hv,_,fh,_,_,_,hcell⟩:=pL ho (by intro h;exact hne (uS.1 h))
 have hgg:pM=gO/\mn=cO:=by
  injection hv with h1 _ h3;injection h1 with h1;injection h1 with h1;exact⟨h1.symm,h3.symm⟩
 obtain⟨rfl,rfl⟩:=hgg;have hm:=aoE bs Xs hB g mk ow w' (hW.below hb) (O.drop R) (by rw[rJ];omega) (by rw[rJ];omega) (λa ha=>hO a (WH ha)) pM R (mn-R) (λi a hi=>by
  rw[Py] at hi;have h2:=hcell (R+i) (bx bs a) (by rw[iy,hi];rfl)
  rw[jH] at h2;exact h2) hT
 rw[rJ] at hm;exact hm
theorem aoO(bs:List Nat)(Xs:List PB)(hB:BD Xs)(g:Nat)(mk:Nat->Bool)(ow:Nat->Option Nat)(w:aM)(hW:SW g bs Xs mk ow w)(A:List Nat)(nQ:A.length<=85000000)(hA:∀a∈A,a<bs.length)(g0 cap:Nat)
  (HV:Hid (∀(i:Nat) a,A[i]?=some a->w.cell? ⟨g0,0+i,none⟩=some (aH (some ⟨bx bs a,0,none⟩))))
  (Nt:Hid (∀(k:Nat) s,A[k]?=some s->0<=jg Xs ((cU Xs (A.take k)).1++[s]) s->eJ Xs (((cU Xs (A.take k)).1++[s]).drop (jg Xs ((cU Xs (A.take k)).1++[s]) s).toNat)≠[])):
  ak 111 #[aG (some ⟨g0,0,none⟩) A.length cap] w λe w'=>∃lv lo O rv,e=aL lv/\RI bs w lo lv O (cJ Xs A) rv w':=by
 obtain⟨i0,hi0,hz0,hz1,hz2⟩:=info_parts Cj;obtain⟨j0,Cv,hy0,hy1,hy2⟩:=info_parts ady;have Um:Hid (∀(O:List Nat)(s gO cO:Nat)(w':aM),w'.ownsRow w.heap.size 175 1 (aG (some ⟨gO,0,none⟩) O.length cO) O.length (bC (O.map (bx bs)))->aj w w'->(∀j∈O,j<bs.length)->s<bs.length->O≠[]->O.length<=85000000->ak 166 #[aG (some ⟨gO,0,none⟩) O.length cO,.func (.func 167) #[aH (some ⟨bx bs s,0,none⟩)] #[]] w' λe w''=>e=aL (az aJ (jg Xs O s))/\aj w' w''):=λO s gO cO w'=>aoM bs Xs hB g mk ow w hW O s gO cO w'
 have Un:Hid (∀(O:List Nat)(R gO cO:Nat)(w':aM),w'.ownsRow w.heap.size 175 1 (aG (some ⟨gO,0,none⟩) O.length cO) O.length (bC (O.map (bx bs)))->aj w w'->(∀j∈O,j<bs.length)->R<O.length->O.length<=85000000->eJ Xs (O.drop R)≠[]->ak 168 #[aG (some ⟨gO,R,none⟩) (O.length-R) (cO-R)] w' λe w''=>∃lv,e=aL lv/\w''.ownsRow w'.heap.size 175 1 lv (eF Xs (O.drop R)).length (bC ((eF Xs (O.drop R)).map (bx bs)))/\aj w' w''):=λO R gO cO w'=>aoN bs Xs hB g mk ow w hW O R gO cO w'
 have HA:Hid (∀a∈A,a<bs.length):=hA;have cQ:Hid (RI bs w (aG none 0 0) (aG none 0 0) (cU Xs (A.take 0)).1 (cU Xs (A.take 0)).2 [] w):=⟨World.ownsRow_nil _ _ _ _,World.ownsRow_nil _ _ _ _,rfl,λi v r h=>by simp at h,λk h=>by simp[Value.ownBlock] at h,Below.refl _ _⟩
 clear hA hW hB
 go_enter func111,ntmps111
 go_wp2_with fail
 go_loopg [3,4,10] A.length (λm lr lo iv wr=>∃k:Nat,k+m=A.length/\iv=az aJ k/\Hid (∃rv,RI bs w lo lr (cU Xs (A.take k)).1 (cU Xs (A.take k)).2 rv wr))
 case atStart=>exact⟨0,aa,rfl,[],cQ.out⟩
 case round=>
  obtain⟨k,hkn,rfl,HE⟩:=hrel;clear cQ;by_cases hlt:k<A.length
  .obtain⟨s,hs⟩:∃s,A[k]?=some s:=⟨_,bo hlt⟩;obtain⟨rv,qq⟩:=HE.out;have Hp:Hid (RI bs w u4 u3 (cU Xs (A.take k)).1 (cU Xs (A.take k)).2 rv wr):=qq;have c1:=(qq.below.cell (p:=⟨g0,0+k,none⟩) (lt_of_cell (HV.out k s hs))).trans (HV.out k s hs);rw[jH] at c1;have hsl:s<bs.length:=HA.out s (bA hs);have hTn:=Nt.out k s hs;have htk:A.take (k+1)=A.take k++[s]:=by rw[ju,hs];rfl
   have hfl:=Ja Xs A k;have Uo:Hid (∀j∈(cU Xs (A.take k)).1++[s],j<bs.length):=λj hj=>by
    rcases dF.1 hj with h|h
    .exact HA.out j (NR Xs A k j h)
    .rw[dB.1 h];exact hsl
   have HST:Hid (cU Xs (A.take (k+1))=kj Xs (cU Xs (A.take k)) s):=by
    show cU Xs (A.take (k+1))=_;rw[htk,Ab]
   have oK:Hid (0<=jg Xs ((cU Xs (A.take k)).1++[s]) s->eJ Xs (((cU Xs (A.take k)).1++[s]).drop (jg Xs ((cU Xs (A.take k)).1++[s]) s).toNat)≠[]):=hTn;have ij:(k:Int)<(A.length:Int):=aa
   have hrl:rv.length<=k:=by rw[qq.len];exact hfl.2
   have hol:=hfl.1;have nr:=qq.oo;have hbz:=qq.below.size;clear qq HE hTn htk hs hfl;generalize cU Xs (A.take k)=st at*;obtain⟨O,Rs⟩:=st;simp only at*;have hnb:(wr.alloc (.cells #[aH (some ⟨bx bs s,0,none⟩)] 175)).heap[wr.heap.size]?=some (.cells #[aH (some ⟨bx bs s,0,none⟩)] 175 (0,0)):=heap_alloc_new _ _;have nu:(wr.alloc (.cells #[aH (some ⟨bx bs s,0,none⟩)] 175)).ownsRow w.heap.size 175 1 u4 O.length (bC (O.map (bx bs))):=bG nr λk hk=>Below.heap_alloc _ _ _ (bn nr k hk).2
   clear nr
   go_wp2_with (at_builtin;refine wpList_append_lies _ rfl (.tmp 14) (.tmp 16) 132 rfl w.heap.size 175 i0 _ 1 8 underlying132 hi0 hz0 hz1 hz2 rfl ah u4 O.length (bC (O.map (bx bs))) rfl nu ⟨wr.heap.size,0,none⟩ 1 1 [aH (some ⟨bx bs s,0,none⟩)] rfl rfl (World.news_of_block (cs:= #[aH (some ⟨bx bs s,0,none⟩)]) (t:=175) (fr:=(0,0)) hnb) (by simp[Value.oneCell']) ah (by unfold maxLen;omega) aa (by simp;omega) (wr.heap.size+1) af ?_;intro g' cap' w8 dW cI iN sH)
   have Jb:=Hp.out.aoF s _ cI dW iN;have hel:(O++[s]).length=O.length+1:=af
   have HI8:Hid (RI bs w (aG (some ⟨g',0,none⟩) (O.length+1) cap') u3 (O++[s]) Rs rv w8):=Jb;obtain⟨gX,cX,hvX,_,_,hcX,hcm,hd1,hd2⟩:=pL Jb.oo af
   have hcap:O.length+1<=cap'/\cap'<=9223372036854775807:=by
    injection hvX with _ _ h3;unfold maxLen at hcm;omega
   have Uq:=Um.out (O++[s]) s g' cap' w8 (by rw[hel];have:=Jb.oo;rw[hel] at this;exact this) Jb.below Uo.out hsl af aa
   rw[hel] at Uq;have HIc:Hid (ak 166 #[aG (some ⟨g',0,none⟩) (O.length+1) cap',.func (.func 167) #[aH (some ⟨bx bs s,0,none⟩)] #[]] w8 λe w''=>e=aL (az aJ (jg Xs (O++[s]) s))/\aj w8 w''):=Uq
   clear hvX hcX hcm hd1 hd2 Uq Jb dW cI iN hnb nu Hp c1;refine HIc.out.mono ?_;rintro e w9 ⟨rfl,oJ⟩;have yl:Hid (RI bs w (aG (some ⟨g',0,none⟩) (O.length+1) cap') u3 (O++[s]) Rs rv w9):=HI8.out.keep oJ;clear HI8 HIc oJ;by_cases hS:0<=jg Xs (O++[s]) s
   .have xP:=aoL Xs (O++[s]) s hS;have sy:=oK.out hS;obtain⟨R,hRe⟩:=atm hS;have Jc:Hid (cU Xs (A.take (k+1))=((O++[s]).take R,Rs++[eF Xs ((O++[s]).drop R)])):=by
     show cU Xs (A.take (k+1))=_;rw[HST.out];unfold kj;simp only;rw[aV hS,hRe];rfl
    rw[hRe,J4] at xP sy;rw[hel] at xP;have Ur:=Un.out (O++[s]) R g' cap' w9 (by rw[hel];have:=yl.out.oo;rw[hel] at this;exact this) yl.out.below Uo.out aa aa sy
    rw[hel] at Ur;have adE:Hid (ak 168 #[aG (some ⟨g',R,none⟩) (O.length+1-R) (cap'-R)] w9 λe w''=>∃lv,e=aL lv/\w''.ownsRow w9.heap.size 175 1 lv (eF Xs ((O++[s]).drop R)).length (bC ((eF Xs ((O++[s]).drop R)).map (bx bs)))/\aj w9 w''):=Ur
    rw[hRe];have CF:(R:Int)≥0:=aa
    have hRi:(R:Int)<=((O.length+1:Nat):Int):=aa
    have auZ:(R:Int)<=(O.length:Int)+1:=aa
    have xS:(O.length:Int)+1<=(cap':Int):=aa
    have hRc:(R:Int)<=(cap':Int):=aa
    have hcR:¬cap'=R:=aa
    clear Ur sy oK HST hS hRe
    go_wp2_with fail
    refine adE.out.mono ?_;rintro e wA ⟨lv,rfl,Us,Er⟩;have Es:Hid (RI bs w (aG (some ⟨g',0,none⟩) (O.length+1) cap') u3 (O++[s]) Rs rv wA):=yl.out.keep Er;obtain⟨so,ln,lc,rfl⟩:∃so ln lc,lv=aG so ln lc:=by
     rcases Us.2 with⟨h,_⟩|⟨_,_,_,h,_⟩
     .exact⟨_,_,_,h⟩
     .exact⟨_,_,_,h⟩
    have hro:=Es.out.ro;have au0:=Es.out.below.size;have hB9:=yl.out.below.size;have hlB:∀k,(Value.slice (some ⟨g',0,none⟩) (O.length+1) cap').ownBlock=some k\/u3.ownBlock=some k->k<w9.heap.size:=λk hk=>by
     rcases hk with hk|hk
     .exact(bn yl.out.oo k hk).2
     .exact(bn yl.out.ro k hk).2
    have HLB:Hid (∀k,(Value.slice (some ⟨g',0,none⟩) (O.length+1) cap').ownBlock=some k\/u3.ownBlock=some k->k<w9.heap.size):=hlB;have HOA:Hid (wA.ownsRow w9.heap.size 175 1 (aG so ln lc) (eF Xs ((O++[s]).drop R)).length (bC ((eF Xs ((O++[s]).drop R)).map (bx bs)))):=Us;have hnb:(wA.alloc (.cells #[aG so ln lc] 185)).heap[wA.heap.size]?=some (.cells #[aG so ln lc] 185 (0,0)):=heap_alloc_new _ _;have nu:(wA.alloc (.cells #[aG so ln lc] 185)).ownsRow w.heap.size 185 1 u3 rv.length rv:=bG hro λk hk=>Below.heap_alloc _ _ _ (bn hro k hk).2
    clear Us Er adE yl hro hlB
    go_wp2_with (at_builtin;refine wpList_append_lies _ rfl (.tmp 24) (.tmp 29) 183 rfl w.heap.size 185 j0 _ 1 24 underlying183 Cv hy0 hy1 hy2 rfl ah u3 rv.length rv rfl nu ⟨wA.heap.size,0,none⟩ 1 1 [aG so ln lc] rfl rfl (World.news_of_block (cs:= #[aG so ln lc]) (t:=185) (fr:=(0,0)) hnb) (by simp[Value.oneCell']) ah (by unfold maxLen;omega) aa (by simp;omega) (wA.heap.size+1) af ?_;intro gB adH wB hoB hgB adK Z8)
    have HIB:Hid (RI bs w (aG (some ⟨g',0,none⟩) R cap') (aG (some ⟨gB,0,none⟩) (rv.length+1) adH) ((O++[s]).take R) (Rs++[eF Xs ((O++[s]).drop R)]) (rv++[aG so ln lc]) wB):=
     (Es.out.aoG HOA.out hB9 HLB.out _ hgB hoB adK).aoI (by rw[hel];omega) hel.symm
    have dw:Hid (∃rv',RI bs w (aG (some ⟨g',0,none⟩) R cap') (aG (some ⟨gB,0,none⟩) (rv.length+1) adH) (cU Xs (A.take (k+1))).1 (cU Xs (A.take (k+1))).2 rv' wB):=by
     show ∃rv',_;rw[Jc.out];exact⟨_,HIB.out⟩
    clear Es HOA HLB hoB hgB adK hnb nu HIB Jc
    go_wp2_with fail
    go_roundg (gk-1)
    case measure=>omega
    case rel=>exact⟨k+1,aa,ai,dw.out⟩
   .have Jc:Hid (cU Xs (A.take (k+1))=(O++[s],Rs)):=by
     show cU Xs (A.take (k+1))=_;rw[HST.out];unfold kj;simp only;rw[aP hS]
    have dw:Hid (∃rv,RI bs w (aG (some ⟨g',0,none⟩) (O.length+1) cap') u3 (cU Xs (A.take (k+1))).1 (cU Xs (A.take (k+1))).2 rv w9):=by
     show ∃rv,_;rw[Jc.out];exact⟨rv,yl.out⟩
    have hSd:¬jg Xs (O++[s]) s≥0:=hS;clear yl Jc HST oK Uo Un Um;generalize jg Xs (O++[s]) s=S at*
    go_wp2_with fail
    go_roundg (gk-1)
    case measure=>omega
    case rel=>exact⟨k+1,aa,ai,dw.out⟩
  .have hk:k=A.length:=aa
   subst hk;obtain⟨rv,qq⟩:=HE.out;rw[gv] at qq;have HF:Hid (RI bs w u4 u3 (cU Xs A).1 (cJ Xs A) rv wr):=qq;clear qq HE HV Nt Um Un HA
   go_wp2_with fail
   go_ret
   exact⟨u3,u4,_,rv,rfl,HF.out⟩
def dA(Xs:List PB)(r:List Nat):Bool:=decide (0<gA (xi Xs (r.getLastD 0)) (xi Xs (r.headD 0)))
theorem aoR(X1 X2 Y1 Y2 im:Nat)(B:Bool)(g n cap bL bF:Nat)(w:aM)(hn:0<n)(hn':n<=85000000)(cl:w.cell? ⟨g,n-1,none⟩=some (aH (some ⟨bL,0,none⟩)))(cf:w.cell? ⟨g,0,none⟩=some (aH (some ⟨bF,0,none⟩)))(l0:w.cell? ⟨bL,0,none⟩=some (aA aK X1 X2))(f0:w.cell? ⟨bF,0,none⟩=some (aA aK Y1 Y2))
  (HL:Hid (∀w,ak 101 #[aA aK X1 X2,aA aK Y1 Y2] w λe w'=>e=aL (aB aK im)/\w'=w))(hB:(FloatKind.f64.format.order im 0 == some .gt)=B):
  ak 113 #[aG (some ⟨g,0,none⟩) n cap] w λe w'=>e=aL (aD B)/\aj w w':=by
 have hw1:IntKind.i64.wrap ((n:Int)-1)=((n-1:Nat):Int):=by rw[IntKind.wrap_i64];omega
 have hi:((n-1:Nat):Int)<(n:Int):=aa
 have h0:(0:Int)<(n:Int):=aa
 subst hB
 go_enter func113,ntmps113
 go_wp2_with fail
 go_region_held3 (λw'=>w'.cell? ⟨g,n-1,none⟩=some (aH (some ⟨bL,0,none⟩))/\w'.cell? ⟨g,0,none⟩=some (aH (some ⟨bF,0,none⟩))/\w'.cell? ⟨bL,0,none⟩=some (aA aK X1 X2)/\w'.cell? ⟨bF,0,none⟩=some (aA aK Y1 Y2)) (go_keep) ((go_at_call 101;refine(HL.out _).mono ?_;rintro e w5 ⟨rfl,rY⟩;subst rY))
 all_goals
  go_wp2_with fail
  go_ret
  exact⟨rfl,(Below.refl _ _).drew⟩
theorem aoS(bs:List Nat)(Xs:List PB)(hB:BD Xs)(g:Nat)(mk:Nat->Bool)(ow:Nat->Option Nat)(w:aM)(hW:SW g bs Xs mk ow w)(r:List Nat)(hr:r≠[])(hrl:r.length<=85000000)(hr':∀a∈r,a<bs.length)(base:Nat)(v:aN)(ho:w.ownsRow base 175 1 v r.length (bC (r.map (bx bs)))):
  ak 113 #[v] w λe w'=>e=aL (aD (dA Xs r))/\aj w w':=by
 have hlen:=hW.len;obtain⟨gT,cT,rfl,_,fh,_,_,_,hcell⟩:=pL ho (by intro h;exact hr (uS.1 h))
 have hl0:0<r.length:=jk.2 hr;have hlast:r[r.length-1]?=some (r.getLastD 0):=by
  rw[nG,nX,bo aa];rfl
 have adN:r[0]?=some (r.headD 0):=by
  cases r with
  |nil=>exact absurd rfl hr
  |cons a l=>rfl
 have hLm:r.getLastD 0<bs.length:=hr' _ (bA hlast);have hFm:r.headD 0<bs.length:=hr' _ (bA adN);have hL:=hW.rb.at (by rw[<-hlen];exact hLm)
 have hF:=hW.rb.at (by rw[<-hlen];exact hFm)
 obtain⟨l1,d1⟩:=hB.ld _ (iM (by rw[<-hlen];exact hLm))
 obtain⟨l2,d2⟩:=hB.ld _ (iM (by rw[<-hlen];exact hFm))
 obtain⟨im,f1,hl⟩:=Iw d1 d2;have q:=K2 f1 mV;have c1:=hcell (r.length-1) (bx bs (r.getLastD 0)) (by rw[iy,hlast];rfl)
 have c2:=hcell 0 (bx bs (r.headD 0)) (by rw[iy,adN];rfl)
 rw[jH] at c1 c2;refine aoR _ _ _ _ im (dA Xs r) gT r.length cT _ _ w hl0 hrl c1 c2 hL.c0 hF.c0 hl ?_;rw[q];unfold dA;rw[<-Iu d1 d2];refine decide_eq_decide.2 ?_;have:=Ga.sg (l1.1*l2.2.1-l1.2.1*l2.1);omega
def qs(P:List Nat->Bool):List (List Nat)->Nat->Int
 |[],_=> -1
 |b::r,k=>if P b then(k:Int) else qs P r (k+1)
theorem aoT(P:List Nat->Bool)(Rs:List (List Nat))(rv:List aN)(hlen:rv.length=Rs.length)(g cap:Nat)(w:aM)(hn:rv.length<=85000000)
  (HV:Hid (∀(i:Nat) v,rv[i]?=some v->w.cell? ⟨g,i,none⟩=some v/\∃so n c,v=aG so n c))
  (HC:Hid (∀(i:Nat) v r,rv[i]?=some v->Rs[i]?=some r->∀w',aj w w'->ak 113 #[v] w' λe w''=>e=aL (aD (P r))/\aj w' w'')):
  ak 169 #[aG (some ⟨g,0,none⟩) rv.length cap,.func (.func 113) #[] #[]] w λe w'=>e=aL (az aJ (qs P Rs 0))/\aj w w':=by
 go_enter func169,ntmps169
 have HS:Hid (qs P (Rs.drop 0) 0=qs P Rs 0):=rfl;have Ut:Hid (rv.length=Rs.length):=hlen;clear hlen
 go_wp2_with fail
 go_loopg [8] rv.length (λm iv wr=>∃k:Nat,k+m=rv.length/\iv=az aJ k/\Hid (aj w wr/\qs P (Rs.drop k) k=qs P Rs 0))
 case atStart=>exact⟨0,aa,rfl,Below.refl _ _,HS.out⟩
 case round=>
  obtain⟨k,hkn,rfl,HB⟩:=hrel;clear HS;by_cases hlt:k<rv.length
  .obtain⟨v,hb⟩:∃v,rv[k]?=some v:=⟨_,bo hlt⟩;obtain⟨r,hr⟩:∃r,Rs[k]?=some r:=⟨_,bo (by rw[<-Ut.out];exact hlt)⟩
   obtain⟨c0,so,sn,sc,rfl⟩:=HV.out k v hb;have fh:g<w.heap.size:=lt_of_cell c0;have c1:=aQ HB.out.1 c0 fh;have jo:Hid (ak 113 #[aG so sn sc] wr λr' w''=>r'=aL (aD (P r))/\aj wr w''):=HC.out k _ r hb hr wr HB.out.1
   have iQ:Hid ((if P r then(k:Int) else qs P (Rs.drop (k+1)) (k+1))=qs P Rs 0):=by
    have:=HB.out.2;rw[yj hr] at this;exact this
   have ij:(k:Int)<(rv.length:Int):=aa
   clear c0 hb hr
   go_wp2_with fail
   refine jo.out.mono ?_;rintro e w5 ⟨rfl,bh⟩;have gV:Hid (aj w w5):=HB.out.1.trans (bh.mono HB.out.1.size);clear jo bh c1;generalize P r=B at*;cases B
   .have HM:Hid (qs P (Rs.drop (k+1)) (k+1)=qs P Rs 0):=iQ.out;clear iQ
    go_wp2_with fail
    go_roundg (gk-1)
    case measure=>omega
    case rel=>exact⟨k+1,aa,ai,gV.out,HM.out⟩
   .have HM:Hid ((k:Int)=qs P Rs 0):=iQ.out;clear iQ
    go_wp2_with fail
    go_ret
    exact⟨by rw[<-HM.out];rfl,gV.out⟩
  .have hk:k=rv.length:=aa
   subst hk;have HM:Hid ((-1:Int)=qs P Rs 0):=by
    have:=HB.out.2;rw[Ut.out,FW] at this;exact this
   clear HC HV Ut
   go_wp2_with fail
   go_ret
   exact⟨by rw[<-HM.out];rfl,HB.out.1⟩
theorem adQ{P:List Nat->Bool}:∀(l:List (List Nat))(k:Nat),decide (0<=qs P l k)=l.any P
 |[],_=>rfl
 |a::l,k=>by
  show decide (0<=(if P a then(k:Int) else qs P l (k+1)))=(P a||l.any P)
  by_cases ha:P a=true
  .rw[aV ha,ha];simp
  .rw[aP ha,adQ l (k+1)];have:P a=false:=by simpa using ha
   rw[this];rfl
theorem aoU(S:Int)(g n cap:Nat)(w:aM)
  (HI:Hid (ak 169 #[aG (some ⟨g,0,none⟩) n cap,.func (.func 113) #[] #[]] w λe w'=>e=aL (az aJ S)/\aj w w')):
  ak 112 #[aG (some ⟨g,0,none⟩) n cap,.func (.func 113) #[] #[]] w λe w'=>e=aL (aD (decide (0<=S)))/\aj w w':=by
 go_enter func112,ntmps112
 go_wp2_with fail
 refine HI.out.mono ?_;rintro e w1 ⟨rfl,hb⟩
 go_wp2_with fail
 go_ret
 exact⟨rfl,hb⟩
theorem aoV(X1 X2 X3 F1 F2 T1 T2 N1 N2 r:Nat)(F3 T3 N3:Int)(FA TA GB:Bool)(b:Nat)(w:aM)
  (a0:w.cell? ⟨b,0,none⟩=some (aA aK X1 X2))(a1:w.cell? ⟨b,1,none⟩=some (aB aK X3))(a2:w.cell? ⟨b,2,none⟩=some (aA aK F1 F2))(a3:w.cell? ⟨b,3,none⟩=some (az aJ F3))(a4:w.cell? ⟨b,4,none⟩=some (aA aK T1 T2))(a5:w.cell? ⟨b,5,none⟩=some (az aJ T3))
  (HF:Hid (∀w,ak 100 #[aC #[aA aK N1 N2,az aJ N3],aC #[aA aK F1 F2,az aJ F3]] w λe w'=>e=aL (aD FA)/\Below w.heap.size w w'))
  (HT:Hid (∀w,ak 100 #[aC #[aA aK N1 N2,az aJ N3],aC #[aA aK T1 T2,az aJ T3]] w λe w'=>e=aL (aD TA)/\Below w.heap.size w w'))
  (HL:Hid (∀w,ak 97 #[aC #[aA aK X1 X2,aB aK X3],aC #[aA aK N1 N2,az aJ N3]] w λe w'=>e=aL (aB aK r)/\Below w.heap.size w w'))
  (hr:(FloatKind.f64.format.order r 0 == some .gt)=GB):
  ak 170 #[aH (some ⟨b,0,none⟩),aC #[aA aK N1 N2,az aJ N3]] w λe w'=>e=aL (aD (!FA&&TA&&GB))/\Below w.heap.size w w':=by
 have hbz:b<w.heap.size:=lt_of_cell a0;have hb0:Below w.heap.size w (w.alloc (.cells #[aA aK N1 N2,az aJ N3] 83)):=(Below.refl _ _).alloc (aY _) _;have hE:=heap_alloc_new w (.cells #[aA aK N1 N2,az aJ N3] 83);have hz:w.heap.size<(w.alloc (.cells #[aA aK N1 N2,az aJ N3] 83)).heap.size:=af
 go_enter func170,ntmps170
 go_wp2_with fail
 have z0:(w.alloc (.cells #[aA aK N1 N2,az aJ N3] 83)).cell? ⟨w.heap.size,0,none⟩=some (aA aK N1 N2):=cell_of hE 0;have z1:(w.alloc (.cells #[aA aK N1 N2,az aJ N3] 83)).cell? ⟨w.heap.size,1,none⟩=some (az aJ N3):=cell_of hE 1;have z2:=aQ hb0 a0 hbz;have z3:=aQ hb0 a1 hbz;have z4:=aQ hb0 a2 hbz;have z5:=aQ hb0 a3 hbz;have z6:=aQ hb0 a4 hbz;have z7:=aQ hb0 a5 hbz;generalize w.alloc (.cells #[aA aK N1 N2,az aJ N3] 83)=W at*;generalize ui:w.heap.size=B at*;have jA:B<W.heap.size:=aa
 have lT:b<W.heap.size:=aa
 have Uu:Below B w W:=hb0;have Jd:∀w5,Below W.heap.size W.drew w5->Below B w w5:=λw5 h=>(Uu.drew).trans (h.mono (fF jA))
 clear hE hz a0 a1 a2 a3 a4 a5 hb0;cases FA
 .cases TA
  ·
   refine wp_region_held_drew (S:=(λw'=>w'.cell? ⟨B,0,none⟩=some (aA aK N1 N2)/\w'.cell? ⟨B,1,none⟩=some (az aJ N3)/\w'.cell? ⟨b,0,none⟩=some (aA aK X1 X2)/\w'.cell? ⟨b,1,none⟩=some (aB aK X3)/\w'.cell? ⟨b,2,none⟩=some (aA aK F1 F2)/\w'.cell? ⟨b,3,none⟩=some (az aJ F3)/\w'.cell? ⟨b,4,none⟩=some (aA aK T1 T2)/\w'.cell? ⟨b,5,none⟩=some (az aJ T3))) ag ⟨z0,z1,z2,z3,z4,z5,z6,z7⟩ (λhHeld=>?_)
   iterate 6
    (
     refine mB (oi:={dst:=_,op:=_,type:=_,pos:=_,after:=_,guard:=_}) (v:=?_) rfl rfl (by rfl) hHeld ?_ ?_
     rotate_left
     .intro w' bY;obtain⟨s0,s1,s2,s3,s4,s5,s6,s7⟩:=bY
      go_simp
      try with_reducible rfl
     simp only[Act.put,dY,dZ,dL])
   refine wpAnyH_ready (rs:=[6]) ag af ?_
   refine AllReadyH.cons rfl (λK hK=>?_) AllReadyH.nil
   go_simp
   refine(HF.out _).mono ?_;rintro e w5 ⟨rfl,fS⟩;have pN:B<w5.heap.size:=bW jA fS.size;have oN:b<w5.heap.size:=bW lT fS.size;have l0:=aQ fS z0 jA;have l1:=aQ fS z1 jA;have l2:=aQ fS z2 lT;have l3:=aQ fS z3 lT;have l4:=aQ fS z4 lT;have l5:=aQ fS z5 lT;have l6:=aQ fS z6 lT;have l7:=aQ fS z7 lT
   go_wp2_with fail
   refine hK.out _ _ ⟨l0,l1,l2,l3,l4,l5,l6,l7⟩ (λhHeld=>?_)
   clear hK K
   try simp only[Act.put,dY,dZ,dL]
   iterate 8
    (
     refine mB (oi:={dst:=_,op:=_,type:=_,pos:=_,after:=_,guard:=_}) (v:=?_) rfl rfl (by rfl) hHeld ?_ ?_
     rotate_left
     .intro w' bY;obtain⟨s0,s1,s2,s3,s4,s5,s6,s7⟩:=bY
      go_simp
      try with_reducible rfl
     simp only[Act.put,dY,dZ,dL])
   refine wpAnyH_ready (rs:=[15]) ag af ?_
   refine AllReadyH.cons rfl (λK hK=>?_) AllReadyH.nil
   go_simp
   refine(HT.out _).mono ?_;rintro e w6 ⟨rfl,jh⟩;have wq:B<w6.heap.size:=bW pN jh.size;have Ac:b<w6.heap.size:=bW oN jh.size;have m0:=aQ jh l0 pN;have m1:=aQ jh l1 pN;have m2:=aQ jh l2 oN;have m3:=aQ jh l3 oN;have m4:=aQ jh l4 oN;have m5:=aQ jh l5 oN;have m6:=aQ jh l6 oN;have m7:=aQ jh l7 oN
   go_wp2_with fail
   refine hK.out _ _ ⟨m0,m1,m2,m3,m4,m5,m6,m7⟩ (λhHeld=>?_)
   clear hK K
   try simp only[Act.put,dY,dZ,dL]
   iterate 2
    (
     refine mB (oi:={dst:=_,op:=_,type:=_,pos:=_,after:=_,guard:=_}) (v:=?_) rfl rfl (by rfl) hHeld ?_ ?_
     rotate_left
     .intro w' bY;obtain⟨s0,s1,s2,s3,s4,s5,s6,s7⟩:=bY
      go_simp
      try with_reducible rfl
     simp only[Act.put,dY,dZ,dL])
   iterate 8
    (
     refine Dl (oi:={dst:=_,op:=_,type:=_,pos:=_,after:=_,guard:=_}) rfl rfl hHeld ?_;simp only[Act.put,dY,dZ,dL])
   iterate 2
    (
     refine mB (oi:={dst:=_,op:=_,type:=_,pos:=_,after:=_,guard:=_}) (v:=?_) rfl rfl (by rfl) hHeld ?_ ?_
     rotate_left
     .intro w' bY;obtain⟨s0,s1,s2,s3,s4,s5,s6,s7⟩:=bY
      go_simp
      try with_reducible rfl
     simp only[Act.put,dY,dZ,dL])
   refine wpAnyH_done ag ?_ _
   go_wp2_with fail
   go_ret
   exact⟨rfl,by rw[ui];exact(Jd _ fS).trans (jh.mono (fF pN))⟩
  ·
   go_region_held3 (λw'=>w'.cell? ⟨B,0,none⟩=some (aA aK N1 N2)/\w'.cell? ⟨B,1,none⟩=some (az aJ N3)/\w'.cell? ⟨b,0,none⟩=some (aA aK X1 X2)/\w'.cell? ⟨b,1,none⟩=some (aB aK X3)/\w'.cell? ⟨b,2,none⟩=some (aA aK F1 F2)/\w'.cell? ⟨b,3,none⟩=some (az aJ F3)/\w'.cell? ⟨b,4,none⟩=some (aA aK T1 T2)/\w'.cell? ⟨b,5,none⟩=some (az aJ T3)) (go_keep) (first
    |(go_at_call_of 100 (Value.agg #[Value.complex FloatKind.f64 F1 F2,Value.int IntKind.i64 F3]);refine(HF.out _).mono ?_;rintro e w5 ⟨rfl,fS⟩;have pN:B<w5.heap.size:=bW jA fS.size;have oN:b<w5.heap.size:=bW lT fS.size;have l0:=aQ fS z0 jA;have l1:=aQ fS z1 jA;have l2:=aQ fS z2 lT;have l3:=aQ fS z3 lT;have l4:=aQ fS z4 lT;have l5:=aQ fS z5 lT;have l6:=aQ fS z6 lT;have l7:=(aQ fS z7 lT))
    |(go_at_call_of 100 (Value.agg #[Value.complex FloatKind.f64 T1 T2,Value.int IntKind.i64 T3]);refine(HT.out _).mono ?_;rintro e w6 ⟨rfl,jh⟩;have wq:B<w6.heap.size:=bW pN jh.size;have Ac:b<w6.heap.size:=bW oN jh.size;have m0:=aQ jh l0 pN;have m1:=aQ jh l1 pN;have m2:=aQ jh l2 oN;have m3:=aQ jh l3 oN;have m4:=aQ jh l4 oN;have m5:=aQ jh l5 oN;have m6:=aQ jh l6 oN;have m7:=(aQ jh l7 oN))
    |(go_at_call 97;refine(HL.out _).mono ?_;rintro e w7 ⟨rfl,uK⟩;have au2:B<w7.heap.size:=bW wq uK.size;have au3:b<w7.heap.size:=bW Ac uK.size;have q0:=aQ uK m0 wq;have q1:=aQ uK m1 wq;have q2:=aQ uK m2 Ac;have q3:=aQ uK m3 Ac;have q4:=aQ uK m4 Ac;have q5:=aQ uK m5 Ac;have q6:=aQ uK m6 Ac;have q7:=(aQ uK m7 Ac)))
   all_goals
    go_wp2_with fail
    go_ret
    exact⟨af,by rw[ui];exact((Jd _ fS).trans (jh.mono (fF pN))).trans (uK.mono (fF wq))⟩
 ·
  refine wp_region_held_drew (S:=(λw'=>w'.cell? ⟨B,0,none⟩=some (aA aK N1 N2)/\w'.cell? ⟨B,1,none⟩=some (az aJ N3)/\w'.cell? ⟨b,0,none⟩=some (aA aK X1 X2)/\w'.cell? ⟨b,1,none⟩=some (aB aK X3)/\w'.cell? ⟨b,2,none⟩=some (aA aK F1 F2)/\w'.cell? ⟨b,3,none⟩=some (az aJ F3)/\w'.cell? ⟨b,4,none⟩=some (aA aK T1 T2)/\w'.cell? ⟨b,5,none⟩=some (az aJ T3))) ag ⟨z0,z1,z2,z3,z4,z5,z6,z7⟩ (λhHeld=>?_)
  iterate 6
   (
    refine mB (oi:={dst:=_,op:=_,type:=_,pos:=_,after:=_,guard:=_}) (v:=?_) rfl rfl (by rfl) hHeld ?_ ?_
    rotate_left
    .intro w' bY;obtain⟨s0,s1,s2,s3,s4,s5,s6,s7⟩:=bY
     go_simp
     try with_reducible rfl
    simp only[Act.put,dY,dZ,dL])
  refine wpAnyH_ready (rs:=[6]) ag af ?_
  refine AllReadyH.cons rfl (λK hK=>?_) AllReadyH.nil
  go_simp
  refine(HF.out _).mono ?_;rintro e w5 ⟨rfl,fS⟩;have pN:B<w5.heap.size:=bW jA fS.size;have oN:b<w5.heap.size:=bW lT fS.size;have l0:=aQ fS z0 jA;have l1:=aQ fS z1 jA;have l2:=aQ fS z2 lT;have l3:=aQ fS z3 lT;have l4:=aQ fS z4 lT;have l5:=aQ fS z5 lT;have l6:=aQ fS z6 lT;have l7:=aQ fS z7 lT
  go_wp2_with fail
  refine hK.out _ _ ⟨l0,l1,l2,l3,l4,l5,l6,l7⟩ (λhHeld=>?_)
  clear hK K
  try simp only[Act.put,dY,dZ,dL]
  iterate 2
   (
    refine mB (oi:={dst:=_,op:=_,type:=_,pos:=_,after:=_,guard:=_}) (v:=?_) rfl rfl (by rfl) hHeld ?_ ?_
    rotate_left
    .intro w' bY;obtain⟨s0,s1,s2,s3,s4,s5,s6,s7⟩:=bY
     go_simp
     try with_reducible rfl
    simp only[Act.put,dY,dZ,dL])
  iterate 7
   (
    refine Dl (oi:={dst:=_,op:=_,type:=_,pos:=_,after:=_,guard:=_}) rfl rfl hHeld ?_;simp only[Act.put,dY,dZ,dL])
  iterate 2
   (
    refine mB (oi:={dst:=_,op:=_,type:=_,pos:=_,after:=_,guard:=_}) (v:=?_) rfl rfl (by rfl) hHeld ?_ ?_
    rotate_left
    .intro w' bY;obtain⟨s0,s1,s2,s3,s4,s5,s6,s7⟩:=bY
     go_simp
     try with_reducible rfl
    simp only[Act.put,dY,dZ,dL])
  iterate 8
   (
    refine Dl (oi:={dst:=_,op:=_,type:=_,pos:=_,after:=_,guard:=_}) rfl rfl hHeld ?_;simp only[Act.put,dY,dZ,dL])
  iterate 2
   (
    refine mB (oi:={dst:=_,op:=_,type:=_,pos:=_,after:=_,guard:=_}) (v:=?_) rfl rfl (by rfl) hHeld ?_ ?_
    rotate_left
    .intro w' bY;obtain⟨s0,s1,s2,s3,s4,s5,s6,s7⟩:=bY
     go_simp
     try with_reducible rfl
    simp only[Act.put,dY,dZ,dL])
  refine wpAnyH_done ag ?_ _
  go_wp2_with fail
  go_ret
  exact⟨rfl,by rw[ui];exact Jd _ fS⟩
theorem Uv{x:PB}{l:Ge.Ln}(hx:LD x l){n:Ge.Nd}(hn:nj n):∃r,Fl r (l.1*n.2.1-l.2.1*n.1-l.2.2*n.2.2)/\∀w,ak 97 #[aC #[aA aK x.wa x.wb,aB aK x.sh],aC #[aA aK (aO aK n.1) (aO aK n.2.1),az aJ n.2.2]] w λe w'=>e=aL (aB aK r)/\aj w w':=
 QP hx.fl.a hx.fl.b hx.fl.s (qQ (by have:=hn.x;unfold sm;omega)) (qQ (by have:=hn.y;unfold sm;omega)) hx.qg.1 hx.qg.2.1 hx.qg.2.2 (by have:=hn.d;unfold sm;omega) (by have:=hn.x;unfold sm;omega) (by have:=hn.y;unfold sm;omega)
theorem aoW{x:PB}{l:Ge.Ln}(hx:LD x l)(hf:0<x.f.2.2)(n:Ge.Nd):(l.1*n.2.1-l.2.1*n.1-l.2.2*n.2.2).sign=(Ge.cr (Ga.wv x.f x.t) (Ga.wv x.f n)).sign:=by
 have e1:x.f.2.2*(l.1*n.2.1-l.2.1*n.1-l.2.2*n.2.2)=l.1*(Ga.wv x.f n).2+l.2.1*(-(Ga.wv x.f n).1):=by
  have h:=hx.S6;unfold Ga.wv;simp only;have:x.f.2.2*(l.1*n.2.1-l.2.1*n.1-l.2.2*n.2.2)=x.f.2.2*l.1*n.2.1-x.f.2.2*l.2.1*n.1-n.2.2*(l.2.2*x.f.2.2):=by grind
  rw[this,<-h]
  grind
 have e2:Ge.cr (Ga.wv x.f x.t) (Ga.wv x.f n)=(df x.f x.t).1*(Ga.wv x.f n).2+(df x.f x.t).2.1*(-(Ga.wv x.f n).1):=by
  rw[(vV x.f x.t).1,(vV x.f x.t).2];unfold Ge.cr
  grind
 rw[e2,<-My hx.par hx.pos (dC hx.pos),<-e1];have:=Ge.QJ (k:=x.f.2.2) (z:=l.1*n.2.1-l.2.1*n.1-l.2.2*n.2.2) hf;exact this.symm
def ll(Xs:List PB)(n:Ge.Nd)(i:Nat):Bool:=
 !decide (n.1*(xi Xs i).f.2.2<(xi Xs i).f.1*n.2.2)&&decide (n.1*(xi Xs i).t.2.2<(xi Xs i).t.1*n.2.2)&&decide (0<Ge.cr (Ga.wv (xi Xs i).f (xi Xs i).t) (Ga.wv (xi Xs i).f n))
theorem aoX(bs:List Nat)(Xs:List PB)(hB:BD Xs)(w:aM)(g:Nat)(hR:RB w g bs Xs)(n:Ge.Nd)(hn:nj n)(i:Nat)(hi:i<Xs.length):
  ak 170 #[aH (some ⟨bx bs i,0,none⟩),jb n] w λe w'=>e=aL (aD (ll Xs n i))/\aj w w':=by
 have hS:=hR.at hi;have hv:=hB.v _ (iM hi);obtain⟨l,hl⟩:=hB.ld _ (iM hi);obtain⟨r,fr,hL⟩:=Uv hl hn;have q:=K2 fr mV;have sN:sm n.1/\sm n.2.1/\sm n.2.2:=by have:=hn.x;have:=hn.y;have:=hn.d;unfold sm;omega
 have sF:sm (xi Xs i).f.1/\sm (xi Xs i).f.2.1/\sm (xi Xs i).f.2.2:=by have:=hv.f.x;have:=hv.f.y;have:=hv.f.d;unfold sm;omega
 have sT:sm (xi Xs i).t.1/\sm (xi Xs i).t.2.1/\sm (xi Xs i).t.2.2:=by have:=hv.t.x;have:=hv.t.y;have:=hv.t.d;unfold sm;omega
 have hg:decide (0<l.1*n.2.1-l.2.1*n.1-l.2.2*n.2.2)=decide (0<Ge.cr (Ga.wv (xi Xs i).f (xi Xs i).t) (Ga.wv (xi Xs i).f n)):=by
  have h:=aoW hl hv.cf.pos n;have s1:=Ga.sg (l.1*n.2.1-l.2.1*n.1-l.2.2*n.2.2);have s2:=Ga.sg (Ge.cr (Ga.wv (xi Xs i).f (xi Xs i).t) (Ga.wv (xi Xs i).f n));exact decide_eq_decide.2 aa
 unfold jb ll;exact aoV _ _ _ _ _ _ _ _ _ r _ _ _ _ _ _ (bx bs i) w hS.c0 hS.c1 hS.c2 hS.c3 hS.c4 hS.c5
  (λw=>K8 (qQ sN.1) (qQ sN.2.1) (qQ sF.1) (qQ sF.2.1) sF.1 sF.2.1 sN.2.2 sF.2.2 sN.1 sN.2.1 w)
  (λw=>K8 (qQ sN.1) (qQ sN.2.1) (qQ sT.1) (qQ sT.2.1) sT.1 sT.2.1 sN.2.2 sT.2.2 sN.1 sN.2.1 w)
  hL (q.trans hg)
end
end Go.Proofs.YtkjhhooecopolaaGreatDoor

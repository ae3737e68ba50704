import Derived.Test.YtkjhhooecopolaaGreatDoorWz24
set_option maxRecDepth 100000
set_option maxHeartbeats 4000000
namespace Go.Proofs.YtkjhhooecopolaaGreatDoor.Gb
open Ge Ga
section
variable{ν:Type}{f:Nat->ν}{m:Nat}
theorem ahd(f:Nat->ν)(i:Nat)(a:List Nat×List (List Nat)):∃b,xp f i a b:=by
 by_cases h:∀o∈a.1++[i],f o≠f (i+1)
 ·exact⟨_,ag ⟨h,rfl⟩⟩
 ·have key:∀L:List Nat,¬(∀o∈L,f o≠f (i+1))->∃O1 d D,L=O1++d::D/\f d=f (i+1)/\∀o∈O1,f o≠f (i+1):=by
   intro L;induction L with
   |nil=>intro k;exact absurd (fun o ho=>by simp at ho) k
   |cons x L ih=>
    intro k;by_cases hx:f x=f (i+1)
    ·exact⟨[],x,L,rfl,hx,by simp⟩
    ·obtain⟨O1,d,D,e,e1,e2⟩:=ih (fun w=>k fun o ho=>by
      rcases aP.1 ho with q|q
      ·rw[q];exact hx
      ·exact w o q)
     exact⟨x::O1,d,D,by rw[e];rfl,e1,fun o ho=>by
      rcases aP.1 ho with q|q
      ·rw[q];exact hx
      ·exact e2 o q⟩
  obtain⟨O1,d,D,e,e1,e2⟩:=key _ h;exact⟨_,ah ⟨O1,d,D,e,e1,e2,rfl⟩⟩
theorem ahe(f:Nat->ν):∃st:Nat->List Nat×List (List Nat),st 0=([],[])/\∀i,xp f i (st i) (st (i+1)):=by
 obtain⟨F,hF⟩:=Classical.axiomOfChoice (r:=fun(p:Nat×(List Nat×List (List Nat))) b=>xp f p.1 p.2 b) fun p=>ahd f p.1 p.2
 exact⟨fun i=>Nat.rec ([],[]) (fun i s=>F (i,s)) i,rfl,fun i=>hF (i,_)⟩
end
section
variable{S:List Sg}{nx:Sg->Sg}
theorem Wd.ahf(h:Wd S nx){s:Sg}(hs:s∈S){m:Nat}(hc:Cm nx s m){i:Nat}(hi:i<m):∃R,eo S nx R/\it nx i s∈R/\∀u∈R,∃j,j<m/\u=it nx j s:=by
 obtain⟨st,h0,hst⟩:=ahe (fun i=>(it nx i s).1)
 obtain⟨_,hp,hg⟩:=parted (h.nc hs hc) (fun j hj e=>by
  rw[h.ou hs] at e;exact h.ne _ (h.iG hs j) e) (by show(it nx m s).1=s.1;rw[hc.per]) st h0 (fun i _=>hst i)
 have:i∈(st m).2.flatten:=hp.mem_iff.2 (qi.2 hi);obtain⟨D,hD,hiD⟩:=tO.1 this;obtain⟨d,hd⟩:=hg D hD;refine⟨D.map fun j=>it nx j s,hd.ring h hs hc,aN.2 ⟨i,hiD,rfl⟩,fun u hu=>?_⟩
 obtain⟨j,hj,rfl⟩:=aN.1 hu;exact⟨j,hd.lt j hj,rfl⟩
theorem ahh{A B:List Sg}{u:Sg}:u∈B++A↔u∈A++B:=by simp[or_comm]
theorem Wd.ahi(h:Wd S nx){s:Sg}(hs:s∈S){m:Nat}(hc:Cm nx s m)(hl:∀i,i<m->ge s.1 (it nx i s).1)(hno:∀R,LR S nx R->(∃i,i<m/\it nx i s∈R)->¬shl R){es:List Sg}(hcl:Cl es)(hi:In S es):Lf es s=PP es (n1 s.1):=by
 have hm:=hc.pos;obtain⟨z0,hz0,hT,hmax⟩:=I3 (lt:=fun x y=>nz (dr (it nx x s))&&nz (dr (it nx y s))&&ak (neg (dr (it nx y s))) (neg (dr (it nx x s)))) (fun x y z h1 h2=>by
   simp only[pj] at h1 h2⊢;have k:∀d,nz d=true->neg d≠(0,0):=fun d q=>jc (by unfold nz at q;simpa using q)
   exact⟨⟨h1.1.1,h2.1.2⟩,gQ (k _ h2.1.2) (k _ h1.1.2) (k _ h1.1.1) h2.2 h1.2⟩) (fun x=>by rw[qq];simp) (fun i=>decide ((it nx i s).2=s.1)) (List.range m) _ (m-1) (qi.2 (by omega)) (by
   refine eN ?_;rw[<-h.ou hs,show m-1+1=m by omega,hc.per]) (ay _)
 have anO:=qi.1 hz0;have hb2:(it nx z0 s).2=s.1:=gh hT;have wI:=h.iG hs z0;have low:∀i,i<m->(it nx i s).2=s.1->ak (neg (dr (it nx i s))) (neg (dr (it nx z0 s)))=false:=fun i hi e=>by
  have:=hmax i (qi.2 hi) (eN e);rw[rH (h.dK wI),rH (h.dK (h.iG hs i))] at this;simpa using this
 generalize hb:it nx z0 s=b at*;obtain⟨Ep,ha1⟩:=h.qs b wI;have WJ:=h.dK Ep;have Nv:=jc (h.dK wI);have hsm:=h.two _ Ep _ wI ha1;have hwrap:ak (neg (dr b)) (dr (nx b))=true:=by
  apply fV;intro hk;have hab:ak (dr (nx b)) (neg (dr b))=true:=by
   have t:=gG WJ Nv;rw[hsm] at t;cases q1:ak (dr (nx b)) (neg (dr b))<;>cases q2:ak (neg (dr b)) (dr (nx b))<;>rw[q1,q2] at t<;>simp[bb] at t
   ·exact absurd q2 hk
  have hnb:∃i,i<m/\it nx i s=nx b:=by
   by_cases e:z0+1<m
   ·exact⟨z0+1,e,by show nx (it nx z0 s)=_;rw[hb]⟩
   ·refine⟨0,hm,?_⟩;have:it nx (z0+1) s=s:=by rw[show z0+1=m by omega];exact hc.per
    have w:nx (it nx z0 s)=s:=this;rw[hb] at w;exact w.symm
  obtain⟨i,him,hia⟩:=hnb;obtain⟨R,hR,yu,WK⟩:=h.ahf hs hc him;obtain⟨A,B,e,nS⟩:=hR.Q6;have hmem:∀u,u∈B++A↔u∈R:=fun u=>by rw[e];exact ahh
  obtain⟨a,z,yw,Nw⟩:=jI nS.ring.ne;have hai:a∈B++A:=by
   cases hq:B++A with
   |nil=>rw[hq] at yw;cases yw
   |cons c T=>rw[hq] at yw;rw[<-gA yw];simp
  have WM:a=nx b:=by
   have m1:nx b∈B++A:=(hmem _).2 (by rw[<-hia];exact yu)
   have g1:=nS.least a yw _ m1;obtain⟨j,hj,ej⟩:=WK a ((hmem a).1 hai);have g2:=hl j hj;rw[<-ej] at g2;rw[ha1,hb2] at g1;have ef:a.1=(nx b).1:=by rw[ha1,hb2];exact(Gk g2 g1).symm
   apply fV;intro hne;obtain⟨x,hx,ex⟩:=iO.1 hai;obtain⟨y,hy,ey⟩:=iO.1 m1;have pw:=kE.1 nS.ring.mK;rcases rf x y with q|q|q
   ·have:=pw x y hx hy q;rw[ex,ey] at this;exact this ef
   ·subst q;exact hne (ex.symm.trans ey)
   ·have:=pw y x hy hx q;rw[ex,ey] at this;exact this ef.symm
  obtain⟨M,hg⟩:=nS.rg h yw Nw;refine hno (B++A) nS ⟨i,him,(hmem _).2 yu⟩ ⟨a,z,yw,Nw,?_⟩;have Er:z∈B++A:=pB Nw;obtain⟨j,hj,ej⟩:=WK z ((hmem z).1 Er);have hz2:z.2=s.1:=by rw[hg.z2,WM,ha1,hb2]
  have pW:=low j hj (by rw[<-ej];exact hz2)
  rw[<-ej] at pW;have WN:=jc (h.dK hg.mz);have dJ:ak (dr a) (neg (dr z))=true:=by
   rw[WM];have t:=gG WN Nv;rw[pW] at t;cases q1:ai (neg (dr z)) (neg (dr b))
   ·cases q2:ak (neg (dr b)) (neg (dr z))
    ·rw[q1,q2] at t;simp[bb] at t
    ·exact gQ WJ Nv WN hab q2
   ·rw[IU q1];exact hab
  have Gu:=hg.Gs h;have xn:=hg.Gt h;rw[kI] at dJ;rcases dJ with⟨_,q⟩|⟨_,q⟩
  ·exact absurd xn q
  ·rw[dP,bT] at q;omega
 have Ny:Lf es s=Lf es b:=by
  rw[<-hb];exact(h.along hcl hi hs (Ck nx s z0)).symm
 rw[Ny,(h.at_end hcl hi wI).1,hb2];unfold bg;have z1:Ga.AS es (n1 s.1) (fun z=>nz z&&ak z (neg (dr b)))=0:=by
  rw[vo (Q':=fun _=>false) (by simp[nz]) (fun z hz=>?_),Ca]
  have hz':=hz;rw[<-hb2] at hz';obtain⟨u,hu,k⟩:=h.arm hi wI hz';cases q:ak z (neg (dr b))
  ·simp
  ·exfalso;have hcw:cw (neg (dr b)) z (dr (nx b))=true:=kJ.2 (ah (ag ⟨q,hwrap⟩));rcases k with⟨k1,rfl⟩|⟨k1,rfl⟩
   ·rw[h.w1 b wI u hu k1] at hcw;cases hcw
   ·rw[h.w2 b wI u hu k1] at hcw;cases hcw
 rw[z1];omega
end
end Go.Proofs.YtkjhhooecopolaaGreatDoor.Gb
namespace Go.Proofs.YtkjhhooecopolaaGreatDoor
open Go.RowKit
structure Mo(S:List Nat)(w w':World):Prop where
 os:w'.os=w.os
 tape:w'.tape=w.tape
 output:w'.output=w.output
 size:w.heap.size<=w'.heap.size
 block:∀k,k<w.heap.size->k∉S->w'.heap[k]?=w.heap[k]?
theorem Mo.refl(S:List Nat)(w:World):Mo S w w:=⟨rfl,rfl,rfl,ay _,fun _ _ _=>rfl⟩
theorem Mo.trans{S:List Nat}{a b c:World}(h:Mo S a b)(k:Mo S b c):Mo S a c:=
 ⟨k.os.trans h.os,k.tape.trans h.tape,k.output.trans h.output,fg h.size k.size,fun i hi hn=>(k.block i (bu hi h.size) hn).trans (h.block i hi hn)⟩
theorem Mo.of(S:List Nat){w w':World}(h:Below w.heap.size w w'):Mo S w w':=⟨h.os,h.tape,h.output,h.size,fun k hk _=>h.block k hk⟩
theorem Mo.below{S T:List Nat}{w w1 w2:World}(h:Mo S w w1)(k:Mo T w1 w2)(hT:∀i,i<w.heap.size->i∈T->i∈S):Mo S w w2:=
 ⟨k.os.trans h.os,k.tape.trans h.tape,k.output.trans h.output,fg h.size k.size,fun i hi hn=>(k.block i (bu hi h.size) fun h'=>hn (hT i hi h')).trans (h.block i hi hn)⟩
theorem Mo.cell{S:List Nat}{w w':World}(h:Mo S w w'){p:Addr}(hp:p.block<w.heap.size)(hn:p.block∉S):w'.cell? p=w.cell? p:=World.cell?_of_block (w:=w) (h.block p.block hp hn)
theorem Mo.grown{S:List Nat}{w w':World}{row:Option Nat}(hg:w.grownBy w' row)(hr:∀k,row=some k->k∈S):Mo S w w':=
 ⟨hg.os,hg.tape,hg.output,hg.size,fun k hk hn=>hg.block k hk (fun e=>hn (hr k e.symm))⟩
theorem Mo.setCell(S:List Nat)(w:World){p:Addr}(hp:p.block∈S)(u:Value):Mo S w (w.setCell p u):=
 ⟨rfl,rfl,rfl,by simp[World.setCell],fun k _ hn=>Below.heap_setCell _ _ _ _ (fun e=>hn (e▸hp))⟩
theorem Mo.alloc(S:List Nat)(w:World)(o:Obj):Mo S w (w.alloc o):=Mo.of S ((Below.refl _ _).alloc (ay _) o)
theorem setCell_new{w:World}{b i:Nat}{cur:Array Value}{t:TypeId}{fr:Nat×Nat}(hg:w.heap[b]?=some (.cells cur t fr))(v:Value):(w.setCell ⟨b,i,none⟩ v).heap[b]?=some (.cells (cur.setIfInBounds i v) t fr):=by
 rw[setCell_eq_setRow w b i cur t fr v hg];unfold World.setRow;simp[Array.getElem?_modify,hg]
structure SW(g:Nat)(bs:List Nat)(Xs:List PB)(mk:Nat->Bool)(ow:Nat->Option Nat)(w:World):Prop where
 len:bs.length=Xs.length
 nd:bs.Nodup
 ng:g∉bs
 row:∀i,i<bs.length->w.cell? ⟨g,i,none⟩=some (.pointer (some ⟨bx bs i,0,none⟩))
 side:∀i,i<bs.length->w.heap[bx bs i]?=some (.cells (wj (xi Xs i) (mk i) ((ow i).map fun o=>⟨o,0,none⟩)) 177 (0,0))
theorem SW.rb{g:Nat}{bs:List Nat}{Xs:List PB}{mk:Nat->Bool}{ow:Nat->Option Nat}{w:World}(h:SW g bs Xs mk ow w):RB w g bs Xs:=by
 refine⟨h.len,fun i b hb=>?_,fun i b x hb hx=>?_⟩
 ·have:=h.row i (bZ.1 hb).1;rw[Eg hb] at this;exact this
 ·have:=h.side i (bZ.1 hb).1;rw[Eg hb,sL hx] at this;exact iK.of this
theorem Nz{bs:List Nat}(hn:bs.Nodup){i j:Nat}(hi:i<bs.length)(hj:j<bs.length)(h:bx bs i=bx bs j):i=j:=by
 rw[<-mj hn hi,<-mj hn hj,h]
theorem SW.lt{g:Nat}{bs:List Nat}{Xs:List PB}{mk:Nat->Bool}{ow:Nat->Option Nat}{w:World}(h:SW g bs Xs mk ow w){b:Nat}(hb:b∈bs):b<w.heap.size:=by
 obtain⟨i,hi,rfl⟩:=iO.1 hb;have:=h.side i hi;rw[Eg (aC hi)] at this;exact lt_of_heap this
theorem SW.keep{g:Nat}{bs:List Nat}{Xs:List PB}{mk:Nat->Bool}{ow:Nat->Option Nat}{w w':World}{S:List Nat}(h:SW g bs Xs mk ow w)(hm:Mo S w w')(hg:g∉S)(hb:∀b∈bs,b∉S):SW g bs Xs mk ow w':=
 ⟨h.len,h.nd,h.ng,fun i hi=>(hm.cell (lt_of_cell (h.row i hi)) hg).trans (h.row i hi),fun i hi=>(hm.block _ (h.lt (pT hi)) (hb _ (pT hi))).trans (h.side i hi)⟩
theorem SW.below{g:Nat}{bs:List Nat}{Xs:List PB}{mk:Nat->Bool}{ow:Nat->Option Nat}{w w':World}(h:SW g bs Xs mk ow w)(hm:Below w.heap.size w w'):SW g bs Xs mk ow w':=
 h.keep (Mo.of [] hm) (by simp) (by simp)
theorem SW.congr{g:Nat}{bs:List Nat}{Xs:List PB}{mk mk':Nat->Bool}{ow WQ:Nat->Option Nat}{w:World}(h:SW g bs Xs mk ow w)(hm:∀i,i<bs.length->mk' i=mk i)(ho:∀i,i<bs.length->WQ i=ow i):SW g bs Xs mk' WQ w:=
 ⟨h.len,h.nd,h.ng,h.row,fun i hi=>by rw[hm i hi,ho i hi];exact h.side i hi⟩
theorem SW.mark{g:Nat}{bs:List Nat}{Xs:List PB}{mk:Nat->Bool}{ow:Nat->Option Nat}{w:World}(h:SW g bs Xs mk ow w){i:Nat}(hi:i<bs.length):SW g bs Xs (fun j=>mk j||j == i) ow (w.setCell ⟨bx bs i,6,none⟩ (.bool true)):=by
 refine⟨h.len,h.nd,h.ng,fun j hj=>?_,fun j hj=>?_⟩
 ·exact(World.cell?_of_block (w:=w) (Below.heap_setCell _ _ _ _ (fun e=>h.ng (by have e':g=bx bs i:=e;rw[e'];exact pT hi)))).trans (h.row j hj)
 ·by_cases e:j=i
  ·subst e;rw[setCell_new (h.side j hj)];simp;rfl
  ·rw[Below.heap_setCell _ _ _ _ (fun e'=>e (Nz h.nd hj hi e')),h.side j hj]
   have:(j == i)=false:=by simpa using e
   simp only[this,FV]
theorem SW.own{g:Nat}{bs:List Nat}{Xs:List PB}{mk:Nat->Bool}{ow:Nat->Option Nat}{w:World}(h:SW g bs Xs mk ow w){i:Nat}(hi:i<bs.length)(o:Nat):SW g bs Xs mk (fun j=>if j=i then some o else ow j) (w.setCell ⟨bx bs i,7,none⟩ (.pointer (some ⟨o,0,none⟩))):=by
 refine⟨h.len,h.nd,h.ng,fun j hj=>?_,fun j hj=>?_⟩
 ·exact(World.cell?_of_block (w:=w) (Below.heap_setCell _ _ _ _ (fun e=>h.ng (by have e':g=bx bs i:=e;rw[e'];exact pT hi)))).trans (h.row j hj)
 ·by_cases e:j=i
  ·subst e;rw[setCell_new (h.side j hj)];simp;rfl
  ·rw[Below.heap_setCell _ _ _ _ (fun e'=>e (Nz h.nd hj hi e')),h.side j hj,af e]
def jn(nx:Nat->Nat)(mk:Nat->Bool):Nat->List Nat->Nat->List Nat
 |0,A,_=>A
 |m+1,A,i=>if mk i||A.contains i then A else jn nx mk m (A++[i]) (nx i)
theorem WR{p q:Nat->Bool}:∀(l:List Nat),(∀x∈l,q x=true->p x=true)->(∃x∈l,p x=true/\q x=false)->l.countP q<l.countP p
 |[],_,h=>by obtain⟨x,hx,_⟩:=h;simp at hx
 |a::l,h1,h2=>by
  obtain⟨x,hx,hp,hq⟩:=h2;have hle:l.countP q<=l.countP p:=aml fun y hy=>h1 y (aT _ hy)
  rcases aP.1 hx with e|hx
  ·subst e;rw[amm hp,amn (by simp[hq])]
   omega
  ·have ih:=WR l (fun y hy=>h1 y (aT _ hy)) ⟨x,hx,hp,hq⟩
   rw[Qg,Qg];by_cases ha:q a=true
   ·rw[aj ha,aj (h1 a (by simp) ha)];omega
   ·rw[af ha];omega
def iY(n:Nat)(mk:Nat->Bool)(A:List Nat):Nat:=(List.range n).countP fun j=> !(mk j||A.contains j)
theorem Jn{n:Nat}{mk:Nat->Bool}{A:List Nat}{i:Nat}(hi:i<n)(h:(mk i||A.contains i)=false):iY n mk (A++[i])<iY n mk A:=by
 refine WR _ (fun x _ hx=>?_) ⟨i,qi.2 hi,by rw[h];rfl,by simp⟩
 simp at hx⊢;exact⟨hx.1,hx.2.1⟩
theorem uE(n:Nat)(mk:Nat->Bool)(A:List Nat):iY n mk A<=n:=by
 have:=List.countP_le_length (p:=fun j=> !(mk j||A.contains j)) (l:=List.range n)
 rw[abo] at this;exact this
structure WS(w:World)(g:Nat)(bs:List Nat)(Xs:List PB)(mk:Nat->Bool)(ow:Nat->Option Nat)(lv:Value)(A:List Nat)(wr:World):Prop where
 own:wr.ownsRow w.heap.size 175 1 lv A.length (aL (A.map (bx bs)))
 sw:SW g bs Xs (fun j=>mk j||A.contains j) ow wr
 mo:Mo bs w wr
theorem WS.step{w:World}{g:Nat}{bs:List Nat}{Xs:List PB}{mk:Nat->Bool}{ow:Nat->Option Nat}{lv:Value}{A:List Nat}{wr:World}(h:WS w g bs Xs mk ow lv A wr)(pM:∀b∈bs,b<w.heap.size)(WT:g<w.heap.size){i:Nat}(hi:i<bs.length)(o:Obj){g' cap:Nat}{w8:World}
  (bo:((wr.setCell ⟨bx bs i,6,none⟩ (.bool true)).alloc o).grownBy w8 lv.ownBlock)
  (cU:w8.ownsRow w.heap.size 175 1 (.slice (some ⟨g',0,none⟩) (A.length+1) cap) (A.length+1) (aL (A.map (bx bs))++[.pointer (some ⟨bx bs i,0,none⟩)])):
  WS w g bs Xs mk ow (.slice (some ⟨g',0,none⟩) (A.length+1) cap) (A++[i]) w8:=by
 have hown:∀k,lv.ownBlock=some k->w.heap.size<=k:=fun k hk=>(aB h.own k hk).1
 have m1:Mo bs wr (wr.setCell ⟨bx bs i,6,none⟩ (.bool true)):=Mo.setCell _ _ (pT hi) _;have m2:=Mo.alloc [] (wr.setCell ⟨bx bs i,6,none⟩ (.bool true)) o;have m3:Mo (lv.ownBlock.toList) _ w8:=Mo.grown bo (fun k hk=>by rw[hk];simp)
 have hd:∀k,k∈lv.ownBlock.toList->w.heap.size<=k:=fun k hk=>hown k (by simpa using hk)
 refine⟨?_,?_,?_⟩
 ·rw[ja,aX];have e:aL (A.map (bx bs)++[i].map (bx bs))=aL (A.map (bx bs))++[.pointer (some ⟨bx bs i,0,none⟩)]:=by simp[aL]
  rw[e];exact cU
 ·have k1:=((h.sw.mark hi).keep m2 (by simp) (by simp)).keep m3 (fun hk=>by have:=hd _ hk;omega) (fun b hb hk=>by have:=hd _ hk;have:=pM b hb;omega)
  refine k1.congr (fun j hj=>?_) fun _ _=>rfl
  simp only[List.contains_eq_mem,bQ,bY,Bool.decide_or,Bool.or_assoc];congr 2
 ·exact(h.mo.trans m1).below ((Mo.alloc lv.ownBlock.toList _ o).trans m3) fun k hk hk'=>by have:=hd k hk';omega
theorem WS.below{w:World}{g:Nat}{bs:List Nat}{Xs:List PB}{mk:Nat->Bool}{ow:Nat->Option Nat}{lv:Value}{A:List Nat}{wr w':World}(h:WS w g bs Xs mk ow lv A wr)(hb:Below wr.heap.size wr w'):WS w g bs Xs mk ow lv A w':=
 ⟨aU h.own fun k hk=>hb.block k (aB h.own k hk).2,h.sw.below hb,h.mo.trans (Mo.of _ hb)⟩
theorem ahk(bs:List Nat)(Xs:List PB)(hB:BD Xs)(g cap i:Nat)(mk:Nat->Bool)(ow:Nat->Option Nat)(w:World)(hW:SW g bs Xs mk ow w)(WT:g<w.heap.size)(hi:i<bs.length)(hbc:bs.length<=cap)
  (HN:Hid (∀i,i<Xs.length->∃x∈Xs,x.f=(xi Xs i).t)):
  Calls Tryz.prog 110 #[.slice (some ⟨g,0,none⟩) bs.length cap,.pointer (some ⟨bx bs i,0,none⟩)] w fun e w'=>∃lv,e=.returned lv/\WS w g bs Xs mk ow lv (jn (cJ Xs) mk bs.length [] i) w':=by
 obtain⟨i0,hi0,hz0,hz1,hz2⟩:=info_parts ym;have HL:Hid (bs.length=Xs.length):=hW.len;have Jo:Hid (∀b∈bs,b<w.heap.size):=fun b hb=>hW.lt hb
 have hbl:bs.length<=85000000:=by rw[hW.len];exact hB.len
 have cI:Hid (∀j,j<bs.length->∀w',RB w' g bs Xs->cJ Xs j<bs.length/\Calls Tryz.prog 165 #[.slice (some ⟨g,0,none⟩) bs.length cap,.pointer (some ⟨bx bs j,0,none⟩)] w' fun e w''=>e=.returned (.pointer (some ⟨bx bs (cJ Xs j),0,none⟩))/\Below w'.heap.size w' w''):=fun j hj w' hR=>by
  have hj':j<Xs.length:=by rw[<-hR.len];exact hj
  have hne:=HN.out j hj';refine⟨?_,agX bs Xs hB hW.nd g cap j hj' w' hR hbc hne⟩;have:=(Wt (Nj hB (hB.v _ (gu hj')).ct hne)).2;have h2:=Ni Xs (xi Xs j).t;rw[hR.len];omega
 have bW:Hid (WS w g bs Xs mk ow (.slice none 0 0) [] w/\jn (cJ Xs) mk bs.length [] i=jn (cJ Xs) mk bs.length [] i/\iY bs.length mk []<=bs.length):=⟨⟨World.ownsRow_nil _ _ _ _,hW.congr (by simp) (by simp),Mo.refl _ _⟩,rfl,uE _ _ _⟩
 generalize WU:jn (cJ Xs) mk bs.length [] i=L at*;have HLd:Hid (jn (cJ Xs) mk bs.length [] i=L):=WU;clear WU hW HN
 go_enter Tryz.func110,Tryz.ntmps110
 go_wp2_with fail
 go_loopg [5,6] bs.length (fun m lv sv wr=>∃A j,j<bs.length/\A.length+m=bs.length/\sv=.pointer (some ⟨bx bs j,0,none⟩)/\Hid (WS w g bs Xs mk ow lv A wr/\jn (cJ Xs) mk m A j=L/\iY bs.length mk A<=m))
 case atStart=>exact⟨[],i,hi,by simp,rfl,by have:=bW.out;rw[HLd.out];exact⟨this.1,rfl,this.2.2⟩⟩
 case round=>
  obtain⟨A,j,hj,hAm,rfl,HE⟩:=hrel;clear bW;obtain⟨qQ,hwk,Jp⟩:=HE.out;have hs:=qQ.sw.side j hj;have s6:wr.cell? ⟨bx bs j,6,none⟩=some (.bool (mk j||A.contains j)):=cell_of hs 6
  have f6:wr.frozen? ⟨bx bs j,6,none⟩=false:=bw hs 6;have Es:Hid (WS w g bs Xs mk ow u5 A wr):=qQ;by_cases hm:(mk j||A.contains j)=true
  ·rw[hm] at s6;have HLA:Hid (A=L):=by
    rw[<-hwk];cases gk with
    |zero=>rfl
    |succ m=>show A=if _ then A else _;rw[aj hm]
   clear hs hwk Jp hm HE qQ
   go_wp2_with fail
   go_ret
   exact⟨_,rfl,by rw[<-HLA.out];exact Es.out⟩
  ·have hm':(mk j||A.contains j)=false:=by simpa using hm
   rw[hm'] at s6;have hst:=Jn hj hm';have HST:Hid (jn (cJ Xs) mk (gk-1) (A++[j]) (cJ Xs j)=L/\iY bs.length mk (A++[j])<=gk-1):=by
    refine⟨?_,by omega⟩
    rw[<-hwk];cases gk with
    |zero=>omega
    |succ m=>show _=if _ then A else _;rw[af hm];rfl
   have vD:1<=gk:=by omega
   have kT:=Es.out.own;have hwz:=Es.out.mo.size;have WV:bx bs j<w.heap.size:=Jo.out _ (pT hj);have hnb:((wr.setCell ⟨bx bs j,6,none⟩ (.bool true)).alloc (.cells #[.pointer (some ⟨bx bs j,0,none⟩)] 175)).heap[wr.heap.size]?=some (.cells #[.pointer (some ⟨bx bs j,0,none⟩)] 175 (0,0)):=by
    have:=heap_alloc_new (wr.setCell ⟨bx bs j,6,none⟩ (.bool true)) (.cells #[.pointer (some ⟨bx bs j,0,none⟩)] 175);simpa[World.setCell] using this
   have hsz:(wr.setCell ⟨bx bs j,6,none⟩ (.bool true)).heap.size=wr.heap.size:=by simp[World.setCell]
   have nT:((wr.setCell ⟨bx bs j,6,none⟩ (.bool true)).alloc (.cells #[.pointer (some ⟨bx bs j,0,none⟩)] 175)).ownsRow w.heap.size 175 1 u5 A.length (aL (A.map (bx bs))):=
    aU kT fun k hk=>by
     have h1:=(aB kT k hk).1;have h2:=(aB kT k hk).2;exact(Below.heap_alloc _ _ _ (by rw[hsz];exact h2)).trans (Below.heap_setCell _ _ _ _ (by show k≠bx bs j;omega))
   clear hs hwk Jp hm hm' HE qQ hst kT
   go_wp2_with (at_builtin;refine wpList_append_lies _ rfl (.tmp 19) (.tmp 21) 132 rfl w.heap.size 175 i0 _ 1 8 Tryz.underlying132 hi0 hz0 hz1 hz2 rfl (by decide) u5 A.length (aL (A.map (bx bs))) rfl nT ⟨wr.heap.size,0,none⟩ 1 1 [.pointer (some ⟨bx bs j,0,none⟩)] rfl rfl (World.news_of_block (cs:= #[.pointer (some ⟨bx bs j,0,none⟩)]) (t:=175) (fr:=(0,0)) hnb) (by simp[Value.oneCell']) (by decide) (by unfold maxLen;omega) (by omega) (by simp[World.setCell];omega) (wr.heap.size+1) (by simp[World.setCell]) ?_;intro g' cap' w8 cU bo gJ pP)
   have NA:=Es.out.step Jo.out WT hj _ bo cU;obtain⟨hnj,hnc⟩:=cI.out j hj w8 NA.sw.rb;have WW:Hid (WS w g bs Xs mk ow (.slice (some ⟨g',0,none⟩) (A.length+1) cap') (A++[j]) w8):=NA;have WX:Hid (Calls Tryz.prog 165 #[.slice (some ⟨g,0,none⟩) bs.length cap,.pointer (some ⟨bx bs j,0,none⟩)] w8 fun e w''=>e=.returned (.pointer (some ⟨bx bs (cJ Xs j),0,none⟩))/\Below w8.heap.size w8 w''):=hnc
   clear bo cU gJ hnb nT NA hnc Es cI s6
   go_wp2_with fail
   refine WX.out.mono ?_;rintro e w9 ⟨rfl,oX⟩;have HW9:Hid (WS w g bs Xs mk ow (.slice (some ⟨g',0,none⟩) (A.length+1) cap') (A++[j]) w9):=WW.out.below oX;clear WW WX oX
   go_wp2_with fail
   go_roundg (gk-1)
   case measure=>omega
   case rel=>exact⟨A++[j],cJ Xs j,hnj,by rw[aX];simp;omega,rfl,HW9.out,HST.out.1,HST.out.2⟩
theorem ahp(x y:PB)(hx:dh x)(hy:dh y)(b c:Nat)(w:World)(h1:iK w b x)(h2:iK w c y):
  Calls Tryz.prog 167 #[.pointer (some ⟨b,0,none⟩),.pointer (some ⟨c,0,none⟩)] w fun e w'=>e=.returned (.bool (decide (x.t=y.f)))/\Below w.heap.size w w':=by
 have hop:∀w,(binOp .eql 83 (.agg #[.complex .f64 (floatOfInt .f64 x.t.1) (floatOfInt .f64 x.t.2.1),.int .i64 x.t.2.2]) (.agg #[.complex .f64 (floatOfInt .f64 y.f.1) (floatOfInt .f64 y.f.2.1),.int .i64 y.f.2.2])).run Tryz.prog w=.ok (.bool (decide (x.t=y.f))) w:=fun w=>Dq x.t y.f hx.t.inn hy.f.inn w
 have a4:=h1.c4;have a5:=h1.c5;have b2:=h2.c2;have b3:=h2.c3;have hb0:=Below.refl w.heap.size w;generalize floatOfInt .f64 x.t.1=X1 at*;generalize floatOfInt .f64 x.t.2.1=X2 at*;generalize floatOfInt .f64 y.f.1=Y1 at*;generalize floatOfInt .f64 y.f.2.1=Y2 at*;generalize decide (x.t=y.f)=B at*;generalize x.t.2.2=X3 at*;generalize y.f.2.2=Y3 at*;clear h1 h2 hx hy
 go_enter Tryz.func167,Tryz.ntmps167
 go_wp2_with fail
 go_quiet (fail)
 go_wp2_with fail
 go_ret
 exact⟨rfl,zL hb0 _⟩
def fG(P:Nat->Bool):List Nat->Nat->Int
 |[],_=> -1
 |b::r,k=>if P b then(k:Int) else fG P r (k+1)
def fR(P:Nat->Bool)(l:List Nat):Int:=fG P l 0
theorem uF{α:Type}{l:List α}{k:Nat}{b:α}(h:l[k]?=some b):l.drop k=b::l.drop (k+1):=by
 obtain⟨hk,e⟩:=bZ.1 h;rw[Qk hk,e]
theorem ahq(P:Nat->Bool)(bl:List Nat)(g lo cap s:Nat)(w:World)(hn:bl.length<=85000000)
  (HV:Hid (∀(i:Nat) b,bl[i]?=some b->w.cell? ⟨g,lo+i,none⟩=some (.pointer (some ⟨b,0,none⟩))))
  (HC:Hid (∀b∈bl,∀w',Below w.heap.size w w'->Calls Tryz.prog 167 #[.pointer (some ⟨s,0,none⟩),.pointer (some ⟨b,0,none⟩)] w' fun r w''=>r=.returned (.bool (P b))/\Below w'.heap.size w' w'')):
  Calls Tryz.prog 166 #[.slice (some ⟨g,lo,none⟩) bl.length cap,.func (.func 167) #[.pointer (some ⟨s,0,none⟩)] #[]] w fun e w'=>e=.returned (.int .i64 (fR P bl))/\Below w.heap.size w w':=by
 go_enter Tryz.func166,Tryz.ntmps166
 have HS:Hid (fG P (bl.drop 0) 0=fR P bl):=rfl
 go_wp2_with fail
 go_loopg [8] bl.length (fun m iv wr=>∃k:Nat,k+m=bl.length/\iv=.int .i64 k/\Hid (Below w.heap.size w wr/\fG P (bl.drop k) k=fR P bl))
 case atStart=>exact⟨0,by omega,rfl,Below.refl _ _,HS.out⟩
 case round=>
  obtain⟨k,hkn,rfl,HB⟩:=hrel;clear HS;by_cases hlt:k<bl.length
  ·obtain⟨b,hb⟩:∃b,bl[k]?=some b:=⟨_,aC hlt⟩;have c0:=HV.out k b hb;have dH:g<w.heap.size:=lt_of_cell c0;have c1:=(HB.out.1.cell (p:=⟨g,lo+k,none⟩) dH).trans c0;have iz:Hid (Calls Tryz.prog 167 #[.pointer (some ⟨s,0,none⟩),.pointer (some ⟨b,0,none⟩)] wr fun r' w''=>r'=.returned (.bool (P b))/\Below wr.heap.size wr w''):=HC.out b (aZ hb) wr HB.out.1
   have gM:Hid ((if P b then(k:Int) else fG P (bl.drop (k+1)) (k+1))=fR P bl):=by
    have:=HB.out.2;rw[uF hb] at this;exact this
   have fN:(k:Int)<(bl.length:Int):=by omega
   clear c0 hb
   go_wp2_with fail
   refine iz.out.mono ?_;rintro e w5 ⟨rfl,az⟩;have fF:Hid (Below w.heap.size w w5):=HB.out.1.trans (az.mono HB.out.1.size);clear iz az c1;generalize P b=B at*;cases B
   ·have HM:Hid (fG P (bl.drop (k+1)) (k+1)=fR P bl):=gM.out;clear gM
    go_wp2_with fail
    go_roundg (gk-1)
    case measure=>omega
    case rel=>exact⟨k+1,by omega,by go_num,fF.out,HM.out⟩
   ·have HM:Hid ((k:Int)=fR P bl):=gM.out;clear gM
    go_wp2_with fail
    go_ret
    exact⟨by rw[<-HM.out];rfl,fF.out⟩
  ·have hk:k=bl.length:=by omega
   subst hk;have HM:Hid ((-1:Int)=fR P bl):=by
    have:=HB.out.2;rw[QC] at this;exact this
   clear HC HV
   go_wp2_with fail
   go_ret
   exact⟨by rw[<-HM.out];rfl,HB.out.1⟩
theorem ahr(x y:PB){l m:Ge.Ln}(hx:LD x l)(hy:LD y m)(w:World):
  Calls Tryz.prog 179 #[.agg #[.complex .f64 x.wa x.wb,.float .f64 x.sh],.agg #[.complex .f64 y.wa y.wb,.float .f64 y.sh]] w fun r w'=>r=.returned (.bool (decide (eW x y=0)))/\Below w.heap.size w w':=by
 obtain⟨im,f1,hl⟩:=Ee hx hy;have HL:Hid (∀w,Calls Tryz.prog 101 #[.complex .f64 x.wa x.wb,.complex .f64 y.wa y.wb] w fun e w'=>e=.returned (.float .f64 im)/\w'=w):=hl
 have q:=rP f1 kM;have hc:decide (eW x y=0)=(FloatKind.f64.format.order im 0 == some .eq):=by
  rw[q,<-Ec hx hy];exact decide_eq_decide.2 uY
 rw[hc];clear hl q hc f1 hx hy;generalize x.wa=wa at*;generalize x.wb=wb at*;generalize x.sh=sh at*;generalize y.wa=jg at*;generalize y.wb=jh at*;generalize y.sh=sh' at*;have hb0:Below w.heap.size w ((w.alloc (.cells #[.complex .f64 wa wb,.float .f64 sh] 122)).alloc (.cells #[.complex .f64 jg jh,.float .f64 sh'] 122)):=((Below.refl _ _).alloc (ay _) _).alloc (by simp) _
 go_enter Tryz.func179,Tryz.ntmps179
 go_wp2_with fail
 refine(HL.out _).mono ?_;rintro e w1 ⟨rfl,rfl⟩
 go_wp2_with fail
 go_ret
 exact⟨rfl,hb0⟩
theorem ahs(cf:Nat->Nat->Int)(a:Nat)(r:List Nat)(g lo cap:Nat)(w:World)(hn:r.length<=85000000)
  (HV:Hid (∀(i:Nat) b,(a::r)[i]?=some b->w.cell? ⟨g,lo+i,none⟩=some (.pointer (some ⟨b,0,none⟩))))
  (HC:Hid (∀b∈a::r,∀c∈a::r,∀w',Below w.heap.size w w'->Calls Tryz.prog 109 #[.pointer (some ⟨b,0,none⟩),.pointer (some ⟨c,0,none⟩)] w' fun r w''=>r=.returned (.int .i64 (cf b c))/\Below w'.heap.size w' w'')):
  Calls Tryz.prog 213 #[.slice (some ⟨g,lo,none⟩) (r.length+1) cap,.func (.func 109) #[] #[]] w fun e w'=>e=.returned (.pointer (some ⟨bG cf r a,0,none⟩))/\Below w.heap.size w w':=by
 have c0:=HV.out 0 a rfl;rw[pD] at c0;have dH:g<w.heap.size:=lt_of_cell c0
 go_enter Tryz.func213,Tryz.ntmps213
 go_wp2_with fail
 go_loopg [5,6] r.length (fun m mv iv wr=>∃k:Nat,k+m=r.length/\iv=.int .i64 (k+1:Nat)/\mv=.pointer (some ⟨bG cf (r.take k) a,0,none⟩)/\Hid (Below w.heap.size w wr))
 case atStart=>exact⟨0,by omega,rfl,rfl,Below.refl _ _⟩
 case round=>
  obtain⟨k,hkn,rfl,rfl,HB⟩:=hrel;by_cases hlt:k<r.length
  ·obtain⟨b,hb⟩:∃b,r[k]?=some b:=⟨_,aC hlt⟩;have c1:=(HB.out.cell (p:=⟨g,lo+(k+1),none⟩) dH).trans (HV.out (k+1) b (by simpa using hb))
   have jL:b∈a::r:=aT _ (aZ hb);have hmm:bG cf (r.take k) a∈a::r:=by
    rcases wu cf (r.take k) a with h|h
    ·rw[h];simp
    ·exact aT _ (qh h)
   have iz:Hid (Calls Tryz.prog 109 #[.pointer (some ⟨b,0,none⟩),.pointer (some ⟨bG cf (r.take k) a,0,none⟩)] wr fun r' w''=>r'=.returned (.int .i64 (cf b (bG cf (r.take k) a)))/\Below wr.heap.size wr w''):=HC.out b jL _ hmm wr HB.out
   have gM:Hid (bG cf (r.take (k+1)) a=if cf b (bG cf (r.take k) a)<0 then b else bG cf (r.take k) a):=by
    have htk:r.take (k+1)=r.take k++[b]:=by rw[jF,hb];rfl
    show bG cf (r.take (k+1)) a=_;rw[htk,Je]
   have fN:((k:Int)+1)<((r.length:Int)+1):=by omega
   have hgr:g<wr.heap.size:=bu dH HB.out.size;clear c0 hb jL hmm;generalize bG cf (r.take k) a=M at*
   go_wp2_with fail
   refine iz.out.mono ?_;rintro e w5 ⟨rfl,az⟩;have fF:Hid (Below w.heap.size w w5):=HB.out.trans (az.mono HB.out.size);have c5:=(az.cell (p:=⟨g,lo+(k+1),none⟩) hgr).trans c1;clear iz az c1;generalize cf b M=V at*;by_cases hV:V<0
   ·have HM:Hid (bG cf (r.take (k+1)) a=b):=by rw[gM.out,aj hV];rfl
    go_wp2_with fail
    go_roundg (gk-1)
    case measure=>omega
    case rel=>exact⟨k+1,by omega,by go_num,by rw[HM.out],fF⟩
   ·have HM:Hid (bG cf (r.take (k+1)) a=M):=by rw[gM.out,af hV];rfl
    have Nb:decide (V<0)=false:=gv hV
    go_wp2_with fail
    go_roundg (gk-1)
    case measure=>omega
    case rel=>exact⟨k+1,by omega,by go_num,by rw[HM.out],fF⟩
  ·have hk:k=r.length:=by omega
   subst hk;rw[gm];clear HC HV
   go_wp2_with fail
   go_ret
   exact⟨rfl,HB.out⟩
theorem aht:(Tryz.prog.info? 177).map (fun i=>i.size)=some 8:=by kernel_rfl
theorem ahu{w:World}{a b:Nat}(ha:∃c,w.heap[a]?=some (.cells c 177 (0,0)))(hb:∃c,w.heap[b]?=some (.cells c 177 (0,0))):
  (binOp .eql 175 (.pointer (some ⟨a,0,none⟩)) (.pointer (some ⟨b,0,none⟩))).run Tryz.prog w=.ok (.bool (b == a)) w:=by
 obtain⟨j,hj,hs⟩:=pA.1 aht;by_cases h:a=b
 ·subst h;rw[run_eql_ptr_same w _ Tryz.underlying175 hj];simp
 ·obtain⟨ca,ha⟩:=ha;obtain⟨cb,hb⟩:=hb;rw[run_eql_ptr_other w Tryz.underlying175 hj (by rw[hs];decide) (fun e=>h (au Addr.block e)) ha hb]
  have:(b == a)=false:=by simpa using fun e=>h e.symm
  rw[this]
theorem ahv(v:Nat)(bl:List Nat)(g lo cap:Nat)(w:World)(hn:bl.length<=85000000)
  (HV:Hid (∀(i:Nat) b,bl[i]?=some b->w.cell? ⟨g,lo+i,none⟩=some (.pointer (some ⟨b,0,none⟩))))
  (HK:Hid (∀b,b=v\/b∈bl->∃c,w.heap[b]?=some (.cells c 177 (0,0)))):
  Calls Tryz.prog 212 #[.slice (some ⟨g,lo,none⟩) bl.length cap,.pointer (some ⟨v,0,none⟩)] w fun e w'=>e=.returned (.int .i64 (fR (fun b=>b == v) bl))/\Below w.heap.size w w':=by
 go_enter Tryz.func212,Tryz.ntmps212
 have HS:Hid (fG (fun b=>b == v) (bl.drop 0) 0=fR (fun b=>b == v) bl):=rfl
 go_wp2_with fail
 go_loopg [8] bl.length (fun m iv wr=>∃k:Nat,k+m=bl.length/\iv=.int .i64 k/\Hid (Below w.heap.size w wr/\fG (fun b=>b == v) (bl.drop k) k=fR (fun b=>b == v) bl))
 case atStart=>exact⟨0,by omega,rfl,Below.refl _ _,HS.out⟩
 case round=>
  obtain⟨k,hkn,rfl,HB⟩:=hrel;clear HS;by_cases hlt:k<bl.length
  ·obtain⟨b,hb⟩:∃b,bl[k]?=some b:=⟨_,aC hlt⟩;have c0:=HV.out k b hb;have dH:g<w.heap.size:=lt_of_cell c0;have c1:=(HB.out.1.cell (p:=⟨g,lo+k,none⟩) dH).trans c0;have gM:Hid ((if b == v then(k:Int) else fG (fun b=>b == v) (bl.drop (k+1)) (k+1))=fR (fun b=>b == v) bl):=by
    have:=HB.out.2;rw[uF hb] at this;exact this
   have fN:(k:Int)<(bl.length:Int):=by omega
   have hop:(binOp .eql 175 (.pointer (some ⟨v,0,none⟩)) (.pointer (some ⟨b,0,none⟩))).run Tryz.prog wr=.ok (.bool (b == v)) wr:=by
    obtain⟨cv,hcv⟩:=HK.out v (ag rfl);obtain⟨cb,hcb⟩:=HK.out b (ah (aZ hb));exact ahu ⟨cv,(HB.out.1.block v (lt_of_heap hcv)).trans hcv⟩ ⟨cb,(HB.out.1.block b (lt_of_heap hcb)).trans hcb⟩
   clear c0 hb;generalize(b == v)=B at*;cases B
   ·have HM:Hid (fG (fun b=>b == v) (bl.drop (k+1)) (k+1)=fR (fun b=>b == v) bl):=gM.out
    clear gM
    go_wp2_with (simp only[hop])
    go_roundg (gk-1)
    case measure=>omega
    case rel=>exact⟨k+1,by omega,by go_num,HB.out.1,HM.out⟩
   ·have HM:Hid ((k:Int)=fR (fun b=>b == v) bl):=gM.out
    clear gM
    go_wp2_with (simp only[hop])
    go_ret
    exact⟨by rw[<-HM.out];rfl,HB.out.1⟩
  ·have hk:k=bl.length:=by omega
   subst hk;have HM:Hid ((-1:Int)=fR (fun b=>b == v) bl):=by
    have:=HB.out.2;rw[QC] at this;exact this
   clear HV
   go_wp2_with fail
   go_ret
   exact⟨by rw[<-HM.out];rfl,HB.out.1⟩
theorem ahw(n:Nat)(hn:0<n)(hn':n<=85000000)(w:World):
  Calls Tryz.prog 257 #[.slice none 0 0,.int .i64 n] w fun e w'=>∃cap,e=.returned (.slice (some ⟨w.heap.size,0,none⟩) 0 cap)/\w'.ownsRow w.heap.size 175 1 (.slice (some ⟨w.heap.size,0,none⟩) 0 cap) 0 []/\Below w.heap.size w w':=by
 obtain⟨i0,hi0,hz0,hz1,hz2⟩:=info_parts ym;have xn:∀ty,(Builtin.append_ #[185,3] ty #[.slice none 0 0,.int .i64 n]).run Tryz.prog w=.ok (.slice (some ⟨w.heap.size,0,none⟩) n (grownCap w n 0 175)) (w.drew.alloc (.cells (#[]++Builtin.zeroCells (Value.pointer none).cells n++Builtin.zeroCells (Value.pointer none).cells (grownCap w n 0 175-n)) 175)):=fun ty=>by
  have h:=Lib.run_append_grow_zeros w 185 3 ty 175 i0 (Value.pointer none) .i64 .i64 Tryz.underlying185 Tryz.underlying3 hi0 hz0 none 0 0 [] (run_firstCells_none w.drew i0.size 0 0 0) n hn (by omega) (by omega) (by omega) (by rw[hz2];omega) (by rw[hz2,ki];exact growslice_fits (by omega) (by omega))
  simpa using h
 go_enter Tryz.func257,Tryz.ntmps257
 go_wp2_with (at_builtin;refine Lib.wpList_append_run _ rfl _ _ _ _ rfl _ _ rfl rfl _ _ (xn _) ?_)
 go_ret
 have hcap:n<=grownCap w n 0 175:=grownCap_ge w _ _ _;have hcl:=grownCap_le_maxLen w n 0 175 (by unfold maxLen;omega)
 refine⟨_,rfl,⟨rfl,ah ⟨w.heap.size,grownCap w n 0 175,_,rfl,ay _,heap_alloc_new _ _,iD _,hcl,?_,?_⟩⟩,((Below.refl _ _).alloc (ay _) _).drew⟩
 ·simp[size_zeroCells];omega
 ·simp
abbrev It:=Nat×Nat×List Nat
def gN(its:List It):List Nat:=its.flatMap (·.2.2)
def Et(g:Nat)(it:It):Value:=.slice (some ⟨g,it.1,none⟩) it.2.2.length it.2.1
theorem ahx(its:List It)(g sb sc:Nat)(w:World)(hN:0<(gN its).length)(hN':(gN its).length<=85000000)(hl:its.length<=100)
  (HS:Hid (∀(k:Nat) it,its[k]?=some it->w.cell? ⟨sb,k,none⟩=some (Et g it)))
  (HV:Hid (∀it∈its,∀(i:Nat) b,it.2.2[i]?=some b->w.cell? ⟨g,it.1+i,none⟩=some (.pointer (some ⟨b,0,none⟩)))):
  Calls Tryz.prog 214 #[.slice (some ⟨sb,0,none⟩) its.length sc] w fun e w'=>∃lv,e=.returned lv/\w'.ownsRow w.heap.size 175 1 lv (gN its).length (aL (gN its))/\Below w.heap.size w w':=by
 obtain⟨i0,hi0,hz0,hz1,hz2⟩:=info_parts ym;have HG:Hid (∀(n:Nat),0<n->n<=85000000->∀w,Calls Tryz.prog 257 #[.slice none 0 0,.int .i64 n] w fun e w'=>∃cap,e=.returned (.slice (some ⟨w.heap.size,0,none⟩) 0 cap)/\w'.ownsRow w.heap.size 175 1 (.slice (some ⟨w.heap.size,0,none⟩) 0 cap) 0 []/\Below w.heap.size w w'):=ahw
 have HT:Hid (∀(k:Nat)(it:It),its[k]?=some it->gN (its.take (k+1))=gN (its.take k)++it.2.2):=fun k it h=>by
  have htk:its.take (k+1)=its.take k++[it]:=by rw[jF,h];rfl
  show(its.take (k+1)).flatMap (·.2.2)=(its.take k).flatMap (·.2.2)++it.2.2
  rw[htk,abm,po,aaM,q9]
 have NB:Hid (∀k,(gN (its.take k)).length<=(gN its).length):=fun k=>by
  show((its.take k).flatMap (·.2.2)).length<=(its.flatMap (·.2.2)).length
  conv=>rhs;rw[<-KA k its,abm,aX]
  omega
 go_enter Tryz.func214,Tryz.ntmps214
 go_wp2_with fail
 go_loopg [3,11] its.length (fun m sv iv wr=>∃k:Nat,k+m=its.length/\iv=.int .i64 k/\sv=.int .i64 (gN (its.take k)).length/\w=wr)
 case atStart=>exact⟨0,by omega,rfl,rfl,rfl⟩
 case round=>
  obtain⟨k,hkn,rfl,rfl,rfl⟩:=hrel;by_cases hlt:k<its.length
  ·obtain⟨it,hit⟩:∃it,its[k]?=some it:=⟨_,aC hlt⟩;have c0:=HS.out k it hit;have hT:=HT.out k it hit;have hle:=NB.out (k+1);rw[hT,aX] at hle;obtain⟨o,c,bl⟩:=it;unfold Et at c0;simp only at c0 hT hle;have fN:(k:Int)<(its.length:Int):=by omega
   have ND:Hid ((gN (its.take (k+1))).length=(gN (its.take k)).length+bl.length):=by
    show _=_;rw[hT,aX]
   clear hT hit;generalize(gN (its.take k)).length=A at*;have hA:wrap64 ((A:Int)+(bl.length:Int))=((A+bl.length:Nat):Int):=by unfold wrap64;omega
   have vv:¬(((A+bl.length:Nat):Int)<0):=by omega
   go_wp2_with fail
   go_roundg (gk-1)
   case measure=>omega
   case rel=>exact⟨k+1,by omega,by go_num,by rw[ND.out];simp,rfl⟩
  ·have hk:k=its.length:=by omega
   subst hk;rw[gm];generalize WY:(gN its).length=N at*;have WZ:Hid ((gN its).length=N):=WY;clear WY
   go_wp2_with fail
   refine(HG.out N hN hN' _).mono ?_;rintro e w1 ⟨cap,rfl,AO,hb1⟩;have bW:Hid (w1.ownsRow w.heap.size 175 1 (.slice (some ⟨w.heap.size,0,none⟩) 0 cap) (gN (its.take 0)).length (aL (gN (its.take 0)))/\Below w.heap.size w w1):=⟨AO,hb1⟩;clear AO hb1 HG
   go_wp2_with fail
   go_loopg [6,27] its.length (fun m lv iv wr=>∃k:Nat,k+m=its.length/\iv=.int .i64 k/\Hid (wr.ownsRow w.heap.size 175 1 lv (gN (its.take k)).length (aL (gN (its.take k)))/\Below w.heap.size w wr))
   case atStart=>exact⟨0,by omega,rfl,bW.out⟩
   case round=>
    obtain⟨k,hkn,rfl,HO⟩:=hrel;clear bW;by_cases hlt:k<its.length
    ·obtain⟨it,hit⟩:∃it,its[k]?=some it:=⟨_,aC hlt⟩;have c0:=HS.out k it hit;have hT:=HT.out k it hit;have hle:=NB.out (k+1);rw[hT,aX] at hle;have hV:=HV.out it (aZ hit);obtain⟨o,c,bl⟩:=it;unfold Et at c0;simp only at c0 hT hle hV;have c1:=(HO.out.2.cell (p:=⟨sb,k,none⟩) (lt_of_cell c0)).trans c0;have fN:(k:Int)<(its.length:Int):=by omega
     obtain⟨jk,hb2⟩:=HO.out;have hbz:=hb2.size;have mQ:Hid (gN (its.take (k+1))=gN (its.take k)++bl):=hT;have NF:Hid (∀(i:Nat) b,bl[i]?=some b->wr.cell? ⟨g,o+i,none⟩=some (.pointer (some ⟨b,0,none⟩))):=fun i b hb=>(hb2.cell (p:=⟨g,o+i,none⟩) (lt_of_cell (hV i b hb))).trans (hV i b hb)
     clear hT hit c0 hV HO;generalize gN (its.take k)=A at*;cases bl with
     |nil=>
      have cI:Hid (wr.ownsRow w.heap.size 175 1 u6 (gN (its.take (k+1))).length (aL (gN (its.take (k+1))))/\Below w.heap.size w wr):=by
       show _/\_;rw[mQ.out,q9];exact⟨jk,hb2⟩
      clear mQ NF
      go_wp2_with (at_builtin;refine U8 rfl (.tmp 31) (.tmp 32) 185 rfl w.heap.size 175 i0 1 Tryz.underlying185 hi0 u6 A.length (aL A) rfl jk (some ⟨g,o,none⟩) c rfl ?_)
      go_roundg (gk-1)
      case measure=>omega
      case rel=>exact⟨k+1,by omega,by go_num,cI.out⟩
     |cons b0 br=>
      rw[cN] at hle;have W6:∀(j:Nat)(u:Value),(aL (b0::br))[j]?=some u->wr.cell? (Addr.add ⟨g,o,none⟩ j)=some u:=fun j u hj=>by
       unfold aL at hj;rw[gz] at hj;obtain⟨b',h1,h2⟩:=pA.1 hj;rw[<-h2];have e:Addr.add ⟨g,o,none⟩ j=⟨g,o+j,none⟩:=by simp[Addr.add]
       rw[e];exact NF.out j b' h1
      have hone:∀u∈aL (b0::br),u.oneCell'=true:=by unfold aL;simp[Value.oneCell']
      have hpl:(aL (b0::br)).length=(br.length+1)*1:=by simp[aL]
      have HNW:Hid (∀(j:Nat)(u:Value),(aL (b0::br))[j]?=some u->wr.cell? (Addr.add ⟨g,o,none⟩ j)=some u):=W6;have HON:Hid (∀u∈aL (b0::br),u.oneCell'=true):=hone;have Am:Hid ((aL (b0::br)).length=(br.length+1)*1):=hpl;clear W6 hone hpl NF
      go_wp2_with (at_builtin;go_loud (refine wpList_append_lies _ rfl (.tmp 31) (.tmp 32) 185 rfl w.heap.size 175 i0 _ 1 8 Tryz.underlying185 hi0 hz0 hz1 hz2 rfl (by decide) u6 A.length (aL A) rfl jk ⟨g,o,none⟩ (br.length+1) c (aL (b0::br)) rfl Am.out HNW.out HON.out (by omega) (by unfold maxLen;omega) (by omega) hbz wr.heap.size rfl ?_);intro g' cap' w8 cU bo gJ pP)
      have cI:Hid (w8.ownsRow w.heap.size 175 1 (.slice (some ⟨g',0,none⟩) (A.length+(br.length+1)) cap') (gN (its.take (k+1))).length (aL (gN (its.take (k+1))))/\Below w.heap.size w w8):=by
       show _/\_;rw[mQ.out,aX];refine⟨?_,hb2.grown bo hbz (fun k hk=>(aB jk k hk).1)⟩
       have e:aL (A++b0::br)=aL A++aL (b0::br):=by simp[aL]
       rw[e];exact cU
      clear mQ cU bo gJ
      go_wp2_with fail
      go_roundg (gk-1)
      case measure=>omega
      case rel=>exact⟨k+1,by omega,by go_num,cI.out⟩
    ·have hk:k=its.length:=by omega
     subst hk;have HF:=HO.out;rw[gm,WZ.out] at HF;have HFF:Hid (wr.ownsRow w.heap.size 175 1 u6 N (aL (gN its))/\Below w.heap.size w wr):=HF;clear HO HF HS HV HT NB
     go_wp2_with fail
     go_ret
     exact⟨u6,rfl,by rw[WZ.out];exact HFF.out⟩
end Go.Proofs.YtkjhhooecopolaaGreatDoor

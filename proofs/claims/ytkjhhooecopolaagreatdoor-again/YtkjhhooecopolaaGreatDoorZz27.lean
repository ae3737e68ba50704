import Derived.Test.YtkjhhooecopolaaGreatDoorZz26
set_option maxRecDepth 100000
set_option maxHeartbeats 4000000
namespace Go.Proofs.YtkjhhooecopolaaGreatDoor.Gb
open Ge Ga
section
variable{ν:Type}{f:Nat->ν}{m:Nat}
theorem afS(f:Nat->ν)(i:Nat)(a:List Nat×List (List Nat)):∃b,vU f i a b:=by
 by_cases h:∀o∈a.1++[i],f o≠f (i+1)
 ·exact⟨_,ae ⟨h,rfl⟩⟩
 ·have key:∀L:List Nat,¬(∀o∈L,f o≠f (i+1))->∃O1 d D,L=O1++d::D/\f d=f (i+1)/\∀o∈O1,f o≠f (i+1):=by
   intro L;induction L with
   |nil=>intro k;exact absurd (fun o ho=>by simp at ho) k
   |cons x L ih=>
    intro k;by_cases hx:f x=f (i+1)
    ·exact⟨[],x,L,rfl,hx,by simp⟩
    ·obtain⟨O1,d,D,e,e1,e2⟩:=ih (fun w=>k fun o ho=>by
      rcases aP.1 ho with q|q
      ·rw[q];exact hx
      ·exact w o q)
     exact⟨x::O1,d,D,by rw[e];rfl,e1,fun o ho=>by
      rcases aP.1 ho with q|q
      ·rw[q];exact hx
      ·exact e2 o q⟩
  obtain⟨O1,d,D,e,e1,e2⟩:=key _ h;exact⟨_,af ⟨O1,d,D,e,e1,e2,rfl⟩⟩
theorem afT(f:Nat->ν):∃st:Nat->List Nat×List (List Nat),st 0=([],[])/\∀i,vU f i (st i) (st (i+1)):=by
 obtain⟨F,hF⟩:=Classical.axiomOfChoice (r:=fun(p:Nat×(List Nat×List (List Nat))) b=>vU f p.1 p.2 b) fun p=>afS f p.1 p.2
 exact⟨fun i=>Nat.rec ([],[]) (fun i s=>F (i,s)) i,rfl,fun i=>hF (i,_)⟩
end
section
variable{S:List Sg}{nx:Sg->Sg}
theorem Wd.afU(h:Wd S nx){s:Sg}(hs:s∈S){m:Nat}(hc:AL nx s m){i:Nat}(hi:i<m):∃R,iU S nx R/\it nx i s∈R/\∀u∈R,∃j,j<m/\u=it nx j s:=by
 obtain⟨st,h0,hst⟩:=afT (fun i=>(it nx i s).1)
 obtain⟨_,hp,hg⟩:=parted (h.nc hs hc) (fun j hj e=>by
  rw[h.sx hs] at e;exact h.ne _ (h.mh hs j) e) (by show(it nx m s).1=s.1;rw[hc.per]) st h0 (fun i _=>hst i)
 have:i∈(st m).2.flatten:=hp.mem_iff.2 (oW.2 hi);obtain⟨D,hD,hiD⟩:=xQ.1 this;obtain⟨d,hd⟩:=hg D hD;refine⟨D.map fun j=>it nx j s,hd.ring h hs hc,bp.2 ⟨i,hiD,rfl⟩,fun u hu=>?_⟩
 obtain⟨j,hj,rfl⟩:=bp.1 hu;exact⟨j,hd.lt j hj,rfl⟩
theorem afW{A B:List Sg}{u:Sg}:u∈B++A↔u∈A++B:=by simp[or_comm]
theorem Wd.afX(h:Wd S nx){s:Sg}(hs:s∈S){m:Nat}(hc:AL nx s m)(hl:∀i,i<m->ge s.1 (it nx i s).1)(hno:∀R,LR S nx R->(∃i,i<m/\it nx i s∈R)->¬shl R){es:List Sg}(hcl:Cl es)(hi:In S es):Lf es s=PP es (n1 s.1):=by
 have hm:=hc.pos;obtain⟨z0,hz0,hT,hmax⟩:=LS (lt:=fun x y=>nz (dr (it nx x s))&&nz (dr (it nx y s))&&ak (neg (dr (it nx y s))) (neg (dr (it nx x s)))) (fun x y z h1 h2=>by
   simp only[oU] at h1 h2⊢;have k:∀d,nz d=true->neg d≠(0,0):=fun d q=>ji (by unfold nz at q;simpa using q)
   exact⟨⟨h1.1.1,h2.1.2⟩,gf (k _ h2.1.2) (k _ h1.1.2) (k _ h1.1.1) h2.2 h1.2⟩) (fun x=>by rw[oY];simp) (fun i=>decide ((it nx i s).2=s.1)) (List.range m) _ (m-1) (oW.2 (by omega)) (by
   refine gD ?_;rw[<-h.sx hs,show m-1+1=m by omega,hc.per]) (ax _)
 have alD:=oW.1 hz0;have hb2:(it nx z0 s).2=s.1:=fO hT;have ve:=h.mh hs z0;have low:∀i,i<m->(it nx i s).2=s.1->ak (neg (dr (it nx i s))) (neg (dr (it nx z0 s)))=false:=fun i hi e=>by
  have:=hmax i (oW.2 hi) (gD e);rw[ym (h.gh ve),ym (h.gh (h.mh hs i))] at this;simpa using this
 generalize hb:it nx z0 s=b at*;obtain⟨C9,ha1⟩:=h.yj b ve;have VI:=h.gh C9;have Ms:=ji (h.gh ve);have hsm:=h.two _ C9 _ ve ha1;have hwrap:ak (neg (dr b)) (dr (nx b))=true:=by
  apply lD;intro hk;have hab:ak (dr (nx b)) (neg (dr b))=true:=by
   have t:=gZ VI Ms;rw[hsm] at t;cases q1:ak (dr (nx b)) (neg (dr b))<;>cases q2:ak (neg (dr b)) (dr (nx b))<;>rw[q1,q2] at t<;>simp[bb] at t
   ·exact absurd q2 hk
  have hnb:∃i,i<m/\it nx i s=nx b:=by
   by_cases e:z0+1<m
   ·exact⟨z0+1,e,by show nx (it nx z0 s)=_;rw[hb]⟩
   ·refine⟨0,hm,?_⟩;have:it nx (z0+1) s=s:=by rw[show z0+1=m by omega];exact hc.per
    have w:nx (it nx z0 s)=s:=this;rw[hb] at w;exact w.symm
  obtain⟨i,him,hia⟩:=hnb;obtain⟨R,hR,xm,VJ⟩:=h.afU hs hc him;obtain⟨A,B,e,mL⟩:=hR.PX;have hmem:∀u,u∈B++A↔u∈R:=fun u=>by rw[e];exact afW
  obtain⟨a,z,xn,Mt⟩:=kN mL.ring.ne;have hai:a∈B++A:=by
   cases hq:B++A with
   |nil=>rw[hq] at xn;cases xn
   |cons c T=>rw[hq] at xn;rw[<-lG xn];simp
  have VK:a=nx b:=by
   have m1:nx b∈B++A:=(hmem _).2 (by rw[<-hia];exact xm)
   have g1:=mL.least a xn _ m1;obtain⟨j,hj,ej⟩:=VJ a ((hmem a).1 hai);have g2:=hl j hj;rw[<-ej] at g2;rw[ha1,hb2] at g1;have ef:a.1=(nx b).1:=by rw[ha1,hb2];exact(EL g2 g1).symm
   apply lD;intro hne;obtain⟨x,hx,ex⟩:=jL.1 hai;obtain⟨y,hy,ey⟩:=jL.1 m1;have pw:=lF.1 mL.ring.oa;rcases Ej x y with q|q|q
   ·have:=pw x y hx hy q;rw[ex,ey] at this;exact this ef
   ·subst q;exact hne (ex.symm.trans ey)
   ·have:=pw y x hy hx q;rw[ex,ey] at this;exact this ef.symm
  obtain⟨M,hg⟩:=mL.rg h xn Mt;refine hno (B++A) mL ⟨i,him,(hmem _).2 xm⟩ ⟨a,z,xn,Mt,?_⟩;have Da:z∈B++A:=rS Mt;obtain⟨j,hj,ej⟩:=VJ z ((hmem z).1 Da);have hz2:z.2=s.1:=by rw[hg.z2,VK,ha1,hb2]
  have oM:=low j hj (by rw[<-ej];exact hz2)
  rw[<-ej] at oM;have VL:=ji (h.gh hg.mz);have dm:ak (dr a) (neg (dr z))=true:=by
   rw[VK];have t:=gZ VL Ms;rw[oM] at t;cases q1:ay (neg (dr z)) (neg (dr b))
   ·cases q2:ak (neg (dr b)) (neg (dr z))
    ·rw[q1,q2] at t;simp[bb] at t
    ·exact gf VI Ms VL hab q2
   ·rw[G6 q1];exact hab
  have EP:=hg.JT h;have vT:=hg.JU h;rw[mg] at dm;rcases dm with⟨_,q⟩|⟨_,q⟩
  ·exact absurd vT q
  ·rw[fh,bV] at q;omega
 have Mu:Lf es s=Lf es b:=by
  rw[<-hb];exact(h.along hcl hi hs (EX nx s z0)).symm
 rw[Mu,(h.at_end hcl hi ve).1,hb2];unfold cV;have z1:Ga.AS es (n1 s.1) (fun z=>nz z&&ak z (neg (dr b)))=0:=by
  rw[yh (Q':=fun _=>false) (by simp[nz]) (fun z hz=>?_),JL]
  have hz':=hz;rw[<-hb2] at hz';obtain⟨u,hu,k⟩:=h.arm hi ve hz';cases q:ak z (neg (dr b))
  ·simp
  ·exfalso;have hcw:cw (neg (dr b)) z (dr (nx b))=true:=kK.2 (af (ae ⟨q,hwrap⟩));rcases k with⟨k1,rfl⟩|⟨k1,rfl⟩
   ·rw[h.w1 b ve u hu k1] at hcw;cases hcw
   ·rw[h.w2 b ve u hu k1] at hcw;cases hcw
 rw[z1];omega
end
end Go.Proofs.YtkjhhooecopolaaGreatDoor.Gb
namespace Go.Proofs.YtkjhhooecopolaaGreatDoor
open Go.RowKit
structure Mo(S:List Nat)(w w':World):Prop where
 os:w'.os=w.os
 tape:w'.tape=w.tape
 output:w'.output=w.output
 size:w.heap.size<=w'.heap.size
 block:∀k,k<w.heap.size->k∉S->w'.heap[k]?=w.heap[k]?
theorem Mo.refl(S:List Nat)(w:World):Mo S w w:=⟨rfl,rfl,rfl,ax _,fun _ _ _=>rfl⟩
theorem Mo.trans{S:List Nat}{a b c:World}(h:Mo S a b)(k:Mo S b c):Mo S a c:=
 ⟨k.os.trans h.os,k.tape.trans h.tape,k.output.trans h.output,dY h.size k.size,fun i hi hn=>(k.block i (aZ hi h.size) hn).trans (h.block i hi hn)⟩
theorem Mo.of(S:List Nat){w w':World}(h:Below w.heap.size w w'):Mo S w w':=⟨h.os,h.tape,h.output,h.size,fun k hk _=>h.block k hk⟩
theorem Mo.below{S T:List Nat}{w w1 w2:World}(h:Mo S w w1)(k:Mo T w1 w2)(hT:∀i,i<w.heap.size->i∈T->i∈S):Mo S w w2:=
 ⟨k.os.trans h.os,k.tape.trans h.tape,k.output.trans h.output,dY h.size k.size,fun i hi hn=>(k.block i (aZ hi h.size) fun h'=>hn (hT i hi h')).trans (h.block i hi hn)⟩
theorem Mo.cell{S:List Nat}{w w':World}(h:Mo S w w'){p:Addr}(hp:p.block<w.heap.size)(hn:p.block∉S):w'.cell? p=w.cell? p:=World.cell?_of_block (w:=w) (h.block p.block hp hn)
theorem Mo.grown{S:List Nat}{w w':World}{row:Option Nat}(hg:w.grownBy w' row)(hr:∀k,row=some k->k∈S):Mo S w w':=
 ⟨hg.os,hg.tape,hg.output,hg.size,fun k hk hn=>hg.block k hk (fun e=>hn (hr k e.symm))⟩
theorem Mo.setCell(S:List Nat)(w:World){p:Addr}(hp:p.block∈S)(u:Value):Mo S w (w.setCell p u):=
 ⟨rfl,rfl,rfl,by simp[World.setCell],fun k _ hn=>Below.heap_setCell _ _ _ _ (fun e=>hn (e▸hp))⟩
theorem Mo.alloc(S:List Nat)(w:World)(o:Obj):Mo S w (w.alloc o):=Mo.of S ((Below.refl _ _).alloc (ax _) o)
theorem setCell_new{w:World}{b i:Nat}{cur:Array Value}{t:TypeId}{fr:Nat×Nat}(hg:w.heap[b]?=some (.cells cur t fr))(v:Value):(w.setCell ⟨b,i,none⟩ v).heap[b]?=some (.cells (cur.setIfInBounds i v) t fr):=by
 rw[setCell_eq_setRow w b i cur t fr v hg];unfold World.setRow;simp[Array.getElem?_modify,hg]
structure SW(g:Nat)(bs:List Nat)(Xs:List PB)(mk:Nat->Bool)(ow:Nat->Option Nat)(w:World):Prop where
 len:bs.length=Xs.length
 nd:bs.Nodup
 ng:g∉bs
 row:∀i,i<bs.length->w.cell? ⟨g,i,none⟩=some (.pointer (some ⟨bx bs i,0,none⟩))
 side:∀i,i<bs.length->w.heap[bx bs i]?=some (.cells (uT (xi Xs i) (mk i) ((ow i).map fun o=>⟨o,0,none⟩)) 177 (0,0))
theorem SW.rb{g:Nat}{bs:List Nat}{Xs:List PB}{mk:Nat->Bool}{ow:Nat->Option Nat}{w:World}(h:SW g bs Xs mk ow w):RB w g bs Xs:=by
 refine⟨h.len,fun i b hb=>?_,fun i b x hb hx=>?_⟩
 ·have:=h.row i (bU.1 hb).1;rw[C4 hb] at this;exact this
 ·have:=h.side i (bU.1 hb).1;rw[C4 hb,tH hx] at this;exact ig.of this
theorem Mv{bs:List Nat}(hn:bs.Nodup){i j:Nat}(hi:i<bs.length)(hj:j<bs.length)(h:bx bs i=bx bs j):i=j:=by
 rw[<-kZ hn hi,<-kZ hn hj,h]
theorem SW.lt{g:Nat}{bs:List Nat}{Xs:List PB}{mk:Nat->Bool}{ow:Nat->Option Nat}{w:World}(h:SW g bs Xs mk ow w){b:Nat}(hb:b∈bs):b<w.heap.size:=by
 obtain⟨i,hi,rfl⟩:=jL.1 hb;have:=h.side i hi;rw[C4 (aD hi)] at this;exact lt_of_heap this
theorem SW.keep{g:Nat}{bs:List Nat}{Xs:List PB}{mk:Nat->Bool}{ow:Nat->Option Nat}{w w':World}{S:List Nat}(h:SW g bs Xs mk ow w)(hm:Mo S w w')(hg:g∉S)(hb:∀b∈bs,b∉S):SW g bs Xs mk ow w':=
 ⟨h.len,h.nd,h.ng,fun i hi=>(hm.cell (lt_of_cell (h.row i hi)) hg).trans (h.row i hi),fun i hi=>(hm.block _ (h.lt (oL hi)) (hb _ (oL hi))).trans (h.side i hi)⟩
theorem SW.below{g:Nat}{bs:List Nat}{Xs:List PB}{mk:Nat->Bool}{ow:Nat->Option Nat}{w w':World}(h:SW g bs Xs mk ow w)(hm:Below w.heap.size w w'):SW g bs Xs mk ow w':=
 h.keep (Mo.of [] hm) (by simp) (by simp)
theorem SW.congr{g:Nat}{bs:List Nat}{Xs:List PB}{mk mk':Nat->Bool}{ow VM:Nat->Option Nat}{w:World}(h:SW g bs Xs mk ow w)(hm:∀i,i<bs.length->mk' i=mk i)(ho:∀i,i<bs.length->VM i=ow i):SW g bs Xs mk' VM w:=
 ⟨h.len,h.nd,h.ng,h.row,fun i hi=>by rw[hm i hi,ho i hi];exact h.side i hi⟩
theorem SW.mark{g:Nat}{bs:List Nat}{Xs:List PB}{mk:Nat->Bool}{ow:Nat->Option Nat}{w:World}(h:SW g bs Xs mk ow w){i:Nat}(hi:i<bs.length):SW g bs Xs (fun j=>mk j||j == i) ow (w.setCell ⟨bx bs i,6,none⟩ (.bool true)):=by
 refine⟨h.len,h.nd,h.ng,fun j hj=>?_,fun j hj=>?_⟩
 ·exact(World.cell?_of_block (w:=w) (Below.heap_setCell _ _ _ _ (fun e=>h.ng (by have e':g=bx bs i:=e;rw[e'];exact oL hi)))).trans (h.row j hj)
 ·by_cases e:j=i
  ·subst e;rw[setCell_new (h.side j hj)];simp;rfl
  ·rw[Below.heap_setCell _ _ _ _ (fun e'=>e (Mv h.nd hj hi e')),h.side j hj]
   have:(j == i)=false:=by simpa using e
   simp only[this,Ew]
theorem SW.own{g:Nat}{bs:List Nat}{Xs:List PB}{mk:Nat->Bool}{ow:Nat->Option Nat}{w:World}(h:SW g bs Xs mk ow w){i:Nat}(hi:i<bs.length)(o:Nat):SW g bs Xs mk (fun j=>if j=i then some o else ow j) (w.setCell ⟨bx bs i,7,none⟩ (.pointer (some ⟨o,0,none⟩))):=by
 refine⟨h.len,h.nd,h.ng,fun j hj=>?_,fun j hj=>?_⟩
 ·exact(World.cell?_of_block (w:=w) (Below.heap_setCell _ _ _ _ (fun e=>h.ng (by have e':g=bx bs i:=e;rw[e'];exact oL hi)))).trans (h.row j hj)
 ·by_cases e:j=i
  ·subst e;rw[setCell_new (h.side j hj)];simp;rfl
  ·rw[Below.heap_setCell _ _ _ _ (fun e'=>e (Mv h.nd hj hi e')),h.side j hj,aa e]
def iP(nx:Nat->Nat)(mk:Nat->Bool):Nat->List Nat->Nat->List Nat
 |0,A,_=>A
 |m+1,A,i=>if mk i||A.contains i then A else iP nx mk m (A++[i]) (nx i)
theorem VO{p q:Nat->Bool}:∀(l:List Nat),(∀x∈l,q x=true->p x=true)->(∃x∈l,p x=true/\q x=false)->l.countP q<l.countP p
 |[],_,h=>by obtain⟨x,hx,_⟩:=h;simp at hx
 |a::l,h1,h2=>by
  obtain⟨x,hx,hp,hq⟩:=h2;have hle:l.countP q<=l.countP p:=akc fun y hy=>h1 y (bo _ hy)
  rcases aP.1 hx with e|hx
  ·subst e;rw[akd hp,ake (by simp[hq])]
   omega
  ·have ih:=VO l (fun y hy=>h1 y (bo _ hy)) ⟨x,hx,hp,hq⟩
   rw[OH,OH];by_cases ha:q a=true
   ·rw[ah ha,ah (h1 a (by simp) ha)];omega
   ·rw[aa ha];omega
def iA(n:Nat)(mk:Nat->Bool)(A:List Nat):Nat:=(List.range n).countP fun j=> !(mk j||A.contains j)
theorem HZ{n:Nat}{mk:Nat->Bool}{A:List Nat}{i:Nat}(hi:i<n)(h:(mk i||A.contains i)=false):iA n mk (A++[i])<iA n mk A:=by
 refine VO _ (fun x _ hx=>?_) ⟨i,oW.2 hi,by rw[h];rfl,by simp⟩
 simp at hx⊢;exact⟨hx.1,hx.2.1⟩
theorem tM(n:Nat)(mk:Nat->Bool)(A:List Nat):iA n mk A<=n:=by
 have:=List.countP_le_length (p:=fun j=> !(mk j||A.contains j)) (l:=List.range n)
 rw[ZN] at this;exact this
structure WS(w:World)(g:Nat)(bs:List Nat)(Xs:List PB)(mk:Nat->Bool)(ow:Nat->Option Nat)(lv:Value)(A:List Nat)(wr:World):Prop where
 own:wr.ownsRow w.heap.size 175 1 lv A.length (aK (A.map (bx bs)))
 sw:SW g bs Xs (fun j=>mk j||A.contains j) ow wr
 mo:Mo bs w wr
theorem WS.step{w:World}{g:Nat}{bs:List Nat}{Xs:List PB}{mk:Nat->Bool}{ow:Nat->Option Nat}{lv:Value}{A:List Nat}{wr:World}(h:WS w g bs Xs mk ow lv A wr)(ov:∀b∈bs,b<w.heap.size)(VQ:g<w.heap.size){i:Nat}(hi:i<bs.length)(o:Obj){g' cap:Nat}{w8:World}
  (bf:((wr.setCell ⟨bx bs i,6,none⟩ (.bool true)).alloc o).grownBy w8 lv.ownBlock)
  (cD:w8.ownsRow w.heap.size 175 1 (.slice (some ⟨g',0,none⟩) (A.length+1) cap) (A.length+1) (aK (A.map (bx bs))++[.pointer (some ⟨bx bs i,0,none⟩)])):
  WS w g bs Xs mk ow (.slice (some ⟨g',0,none⟩) (A.length+1) cap) (A++[i]) w8:=by
 have hown:∀k,lv.ownBlock=some k->w.heap.size<=k:=fun k hk=>(aB h.own k hk).1
 have m1:Mo bs wr (wr.setCell ⟨bx bs i,6,none⟩ (.bool true)):=Mo.setCell _ _ (oL hi) _;have m2:=Mo.alloc [] (wr.setCell ⟨bx bs i,6,none⟩ (.bool true)) o;have m3:Mo (lv.ownBlock.toList) _ w8:=Mo.grown bf (fun k hk=>by rw[hk];simp)
 have hd:∀k,k∈lv.ownBlock.toList->w.heap.size<=k:=fun k hk=>hown k (by simpa using hk)
 refine⟨?_,?_,?_⟩
 ·rw[iD,aT];have e:aK (A.map (bx bs)++[i].map (bx bs))=aK (A.map (bx bs))++[.pointer (some ⟨bx bs i,0,none⟩)]:=by simp[aK]
  rw[e];exact cD
 ·have k1:=((h.sw.mark hi).keep m2 (by simp) (by simp)).keep m3 (fun hk=>by have:=hd _ hk;omega) (fun b hb hk=>by have:=hd _ hk;have:=ov b hb;omega)
  refine k1.congr (fun j hj=>?_) fun _ _=>rfl
  simp only[List.contains_eq_mem,bT,bI,Bool.decide_or,Bool.or_assoc];congr 2
 ·exact(h.mo.trans m1).below ((Mo.alloc lv.ownBlock.toList _ o).trans m3) fun k hk hk'=>by have:=hd k hk';omega
theorem WS.below{w:World}{g:Nat}{bs:List Nat}{Xs:List PB}{mk:Nat->Bool}{ow:Nat->Option Nat}{lv:Value}{A:List Nat}{wr w':World}(h:WS w g bs Xs mk ow lv A wr)(hb:Below wr.heap.size wr w'):WS w g bs Xs mk ow lv A w':=
 ⟨aO h.own fun k hk=>hb.block k (aB h.own k hk).2,h.sw.below hb,h.mo.trans (Mo.of _ hb)⟩
theorem afZ(bs:List Nat)(Xs:List PB)(hB:BD Xs)(g cap i:Nat)(mk:Nat->Bool)(ow:Nat->Option Nat)(w:World)(hW:SW g bs Xs mk ow w)(VQ:g<w.heap.size)(hi:i<bs.length)(hbc:bs.length<=cap)
  (HN:Hid (∀i,i<Xs.length->∃x∈Xs,x.f=(xi Xs i).t)):
  Calls Tryz.prog 110 #[.slice (some ⟨g,0,none⟩) bs.length cap,.pointer (some ⟨bx bs i,0,none⟩)] w fun e w'=>∃lv,e=.returned lv/\WS w g bs Xs mk ow lv (iP (bZ Xs) mk bs.length [] i) w':=by
 obtain⟨i0,hi0,hz0,hz1,hz2⟩:=info_parts xe;have HL:Hid (bs.length=Xs.length):=hW.len;have H0:Hid (∀b∈bs,b<w.heap.size):=fun b hb=>hW.lt hb
 have hbl:bs.length<=85000000:=by rw[hW.len];exact hB.len
 have bW:Hid (∀j,j<bs.length->∀w',RB w' g bs Xs->bZ Xs j<bs.length/\Calls Tryz.prog 165 #[.slice (some ⟨g,0,none⟩) bs.length cap,.pointer (some ⟨bx bs j,0,none⟩)] w' fun e w''=>e=.returned (.pointer (some ⟨bx bs (bZ Xs j),0,none⟩))/\Below w'.heap.size w' w''):=fun j hj w' hR=>by
  have hj':j<Xs.length:=by rw[<-hR.len];exact hj
  have hne:=HN.out j hj';refine⟨?_,afy bs Xs hB hW.nd g cap j hj' w' hR hbc hne⟩;have:=(Vn (Mk hB (hB.v _ (fN hj')).ct hne)).2;have h2:=Mj Xs (xi Xs j).t;rw[hR.len];omega
 have bH:Hid (WS w g bs Xs mk ow (.slice none 0 0) [] w/\iP (bZ Xs) mk bs.length [] i=iP (bZ Xs) mk bs.length [] i/\iA bs.length mk []<=bs.length):=⟨⟨World.ownsRow_nil _ _ _ _,hW.congr (by simp) (by simp),Mo.refl _ _⟩,rfl,tM _ _ _⟩
 generalize VS:iP (bZ Xs) mk bs.length [] i=L at*;have HLd:Hid (iP (bZ Xs) mk bs.length [] i=L):=VS;clear VS hW HN
 go_enter Tryz.func110,Tryz.ntmps110
 go_wp2_with fail
 go_loopg [5,6] bs.length (fun m lv sv wr=>∃A j,j<bs.length/\A.length+m=bs.length/\sv=.pointer (some ⟨bx bs j,0,none⟩)/\Hid (WS w g bs Xs mk ow lv A wr/\iP (bZ Xs) mk m A j=L/\iA bs.length mk A<=m))
 case atStart=>exact⟨[],i,hi,by simp,rfl,by have:=bH.out;rw[HLd.out];exact⟨this.1,rfl,this.2.2⟩⟩
 case round=>
  obtain⟨A,j,hj,hAm,rfl,HE⟩:=hrel;clear bH;obtain⟨pV,hwk,H4⟩:=HE.out;have hs:=pV.sw.side j hj;have s6:wr.cell? ⟨bx bs j,6,none⟩=some (.bool (mk j||A.contains j)):=cell_of hs 6
  have f6:wr.frozen? ⟨bx bs j,6,none⟩=false:=aX hs 6;have Db:Hid (WS w g bs Xs mk ow u5 A wr):=pV;by_cases hm:(mk j||A.contains j)=true
  ·rw[hm] at s6;have HLA:Hid (A=L):=by
    rw[<-hwk];cases gk with
    |zero=>rfl
    |succ m=>show A=if _ then A else _;rw[ah hm]
   clear hs hwk H4 hm HE pV
   go_wp2_with fail
   go_ret
   exact⟨_,rfl,by rw[<-HLA.out];exact Db.out⟩
  ·have hm':(mk j||A.contains j)=false:=by simpa using hm
   rw[hm'] at s6;have hst:=HZ hj hm';have HST:Hid (iP (bZ Xs) mk (gk-1) (A++[j]) (bZ Xs j)=L/\iA bs.length mk (A++[j])<=gk-1):=by
    refine⟨?_,by omega⟩
    rw[<-hwk];cases gk with
    |zero=>omega
    |succ m=>show _=if _ then A else _;rw[aa hm];rfl
   have uw:1<=gk:=by omega
   have jY:=Db.out.own;have hwz:=Db.out.mo.size;have VT:bx bs j<w.heap.size:=H0.out _ (oL hj);have hnb:((wr.setCell ⟨bx bs j,6,none⟩ (.bool true)).alloc (.cells #[.pointer (some ⟨bx bs j,0,none⟩)] 175)).heap[wr.heap.size]?=some (.cells #[.pointer (some ⟨bx bs j,0,none⟩)] 175 (0,0)):=by
    have:=heap_alloc_new (wr.setCell ⟨bx bs j,6,none⟩ (.bool true)) (.cells #[.pointer (some ⟨bx bs j,0,none⟩)] 175);simpa[World.setCell] using this
   have hsz:(wr.setCell ⟨bx bs j,6,none⟩ (.bool true)).heap.size=wr.heap.size:=by simp[World.setCell]
   have mM:((wr.setCell ⟨bx bs j,6,none⟩ (.bool true)).alloc (.cells #[.pointer (some ⟨bx bs j,0,none⟩)] 175)).ownsRow w.heap.size 175 1 u5 A.length (aK (A.map (bx bs))):=
    aO jY fun k hk=>by
     have h1:=(aB jY k hk).1;have h2:=(aB jY k hk).2;exact(Below.heap_alloc _ _ _ (by rw[hsz];exact h2)).trans (Below.heap_setCell _ _ _ _ (by show k≠bx bs j;omega))
   clear hs hwk H4 hm hm' HE pV hst jY
   go_wp2_with (at_builtin;refine wpList_append_lies _ rfl (.tmp 19) (.tmp 21) 132 rfl w.heap.size 175 i0 _ 1 8 Tryz.underlying132 hi0 hz0 hz1 hz2 rfl (by decide) u5 A.length (aK (A.map (bx bs))) rfl mM ⟨wr.heap.size,0,none⟩ 1 1 [.pointer (some ⟨bx bs j,0,none⟩)] rfl rfl (World.news_of_block (cs:= #[.pointer (some ⟨bx bs j,0,none⟩)]) (t:=175) (fr:=(0,0)) hnb) (by simp[Value.oneCell']) (by decide) (by unfold maxLen;omega) (by omega) (by simp[World.setCell];omega) (wr.heap.size+1) (by simp[World.setCell]) ?_;intro g' cap' w8 cD bf fU oF)
   have Mw:=Db.out.step H0.out VQ hj _ bf cD;obtain⟨hnj,hnc⟩:=bW.out j hj w8 Mw.sw.rb;have VU:Hid (WS w g bs Xs mk ow (.slice (some ⟨g',0,none⟩) (A.length+1) cap') (A++[j]) w8):=Mw;have VV:Hid (Calls Tryz.prog 165 #[.slice (some ⟨g,0,none⟩) bs.length cap,.pointer (some ⟨bx bs j,0,none⟩)] w8 fun e w''=>e=.returned (.pointer (some ⟨bx bs (bZ Xs j),0,none⟩))/\Below w8.heap.size w8 w''):=hnc
   clear bf cD fU hnb mM Mw hnc Db bW s6
   go_wp2_with fail
   refine VV.out.mono ?_;rintro e w9 ⟨rfl,lh⟩;have HW9:Hid (WS w g bs Xs mk ow (.slice (some ⟨g',0,none⟩) (A.length+1) cap') (A++[j]) w9):=VU.out.below lh;clear VU VV lh
   go_wp2_with fail
   go_roundg (gk-1)
   case measure=>omega
   case rel=>exact⟨A++[j],bZ Xs j,hnj,by rw[aT];simp;omega,rfl,HW9.out,HST.out.1,HST.out.2⟩
theorem af4(x y:PB)(hx:cK x)(hy:cK y)(b c:Nat)(w:World)(h1:ig w b x)(h2:ig w c y):
  Calls Tryz.prog 167 #[.pointer (some ⟨b,0,none⟩),.pointer (some ⟨c,0,none⟩)] w fun e w'=>e=.returned (.bool (decide (x.t=y.f)))/\Below w.heap.size w w':=by
 have hop:∀w,(binOp .eql 83 (.agg #[.complex .f64 (floatOfInt .f64 x.t.1) (floatOfInt .f64 x.t.2.1),.int .i64 x.t.2.2]) (.agg #[.complex .f64 (floatOfInt .f64 y.f.1) (floatOfInt .f64 y.f.2.1),.int .i64 y.f.2.2])).run Tryz.prog w=.ok (.bool (decide (x.t=y.f))) w:=fun w=>Ci x.t y.f hx.t.aF hy.f.aF w
 have a4:=h1.c4;have a5:=h1.c5;have b2:=h2.c2;have b3:=h2.c3;have hb0:=Below.refl w.heap.size w;generalize floatOfInt .f64 x.t.1=X1 at*;generalize floatOfInt .f64 x.t.2.1=X2 at*;generalize floatOfInt .f64 y.f.1=Y1 at*;generalize floatOfInt .f64 y.f.2.1=Y2 at*;generalize decide (x.t=y.f)=B at*;generalize x.t.2.2=X3 at*;generalize y.f.2.2=Y3 at*;clear h1 h2 hx hy
 go_enter Tryz.func167,Tryz.ntmps167
 go_wp2_with fail
 go_quiet (fail)
 go_wp2_with fail
 go_ret
 exact⟨rfl,yH hb0 _⟩
def eW(P:Nat->Bool):List Nat->Nat->Int
 |[],_=> -1
 |b::r,k=>if P b then(k:Int) else eW P r (k+1)
def fA(P:Nat->Bool)(l:List Nat):Int:=eW P l 0
theorem tN{α:Type}{l:List α}{k:Nat}{b:α}(h:l[k]?=some b):l.drop k=b::l.drop (k+1):=by
 obtain⟨hk,e⟩:=bU.1 h;rw[OO hk,e]
theorem af5(P:Nat->Bool)(bl:List Nat)(g lo cap s:Nat)(w:World)(hn:bl.length<=85000000)
  (HV:Hid (∀(i:Nat) b,bl[i]?=some b->w.cell? ⟨g,lo+i,none⟩=some (.pointer (some ⟨b,0,none⟩))))
  (HC:Hid (∀b∈bl,∀w',Below w.heap.size w w'->Calls Tryz.prog 167 #[.pointer (some ⟨s,0,none⟩),.pointer (some ⟨b,0,none⟩)] w' fun r w''=>r=.returned (.bool (P b))/\Below w'.heap.size w' w'')):
  Calls Tryz.prog 166 #[.slice (some ⟨g,lo,none⟩) bl.length cap,.func (.func 167) #[.pointer (some ⟨s,0,none⟩)] #[]] w fun e w'=>e=.returned (.int .i64 (fA P bl))/\Below w.heap.size w w':=by
 go_enter Tryz.func166,Tryz.ntmps166
 have HS:Hid (eW P (bl.drop 0) 0=fA P bl):=rfl
 go_wp2_with fail
 go_loopg [8] bl.length (fun m iv wr=>∃k:Nat,k+m=bl.length/\iv=.int .i64 k/\Hid (Below w.heap.size w wr/\eW P (bl.drop k) k=fA P bl))
 case atStart=>exact⟨0,by omega,rfl,Below.refl _ _,HS.out⟩
 case round=>
  obtain⟨k,hkn,rfl,HB⟩:=hrel;clear HS;by_cases hlt:k<bl.length
  ·obtain⟨b,hb⟩:∃b,bl[k]?=some b:=⟨_,aD hlt⟩;have c0:=HV.out k b hb;have dh:g<w.heap.size:=lt_of_cell c0;have c1:=(HB.out.1.cell (p:=⟨g,lo+k,none⟩) dh).trans c0;have gP:Hid (Calls Tryz.prog 167 #[.pointer (some ⟨s,0,none⟩),.pointer (some ⟨b,0,none⟩)] wr fun r' w''=>r'=.returned (.bool (P b))/\Below wr.heap.size wr w''):=HC.out b (bh hb) wr HB.out.1
   have fX:Hid ((if P b then(k:Int) else eW P (bl.drop (k+1)) (k+1))=fA P bl):=by
    have:=HB.out.2;rw[tN hb] at this;exact this
   have ez:(k:Int)<(bl.length:Int):=by omega
   clear c0 hb
   go_wp2_with fail
   refine gP.out.mono ?_;rintro e w5 ⟨rfl,az⟩;have eT:Hid (Below w.heap.size w w5):=HB.out.1.trans (az.mono HB.out.1.size);clear gP az c1;generalize P b=B at*;cases B
   ·have HM:Hid (eW P (bl.drop (k+1)) (k+1)=fA P bl):=fX.out;clear fX
    go_wp2_with fail
    go_roundg (gk-1)
    case measure=>omega
    case rel=>exact⟨k+1,by omega,by go_num,eT.out,HM.out⟩
   ·have HM:Hid ((k:Int)=fA P bl):=fX.out;clear fX
    go_wp2_with fail
    go_ret
    exact⟨by rw[<-HM.out];rfl,eT.out⟩
  ·have hk:k=bl.length:=by omega
   subst hk;have HM:Hid ((-1:Int)=fA P bl):=by
    have:=HB.out.2;rw[O5] at this;exact this
   clear HC HV
   go_wp2_with fail
   go_ret
   exact⟨by rw[<-HM.out];rfl,HB.out.1⟩
theorem af6(x y:PB){l m:Ge.Ln}(hx:LD x l)(hy:LD y m)(w:World):
  Calls Tryz.prog 179 #[.agg #[.complex .f64 x.wa x.wb,.float .f64 x.sh],.agg #[.complex .f64 y.wa y.wb,.float .f64 y.sh]] w fun r w'=>r=.returned (.bool (decide (dX x y=0)))/\Below w.heap.size w w':=by
 obtain⟨im,f1,hl⟩:=CZ hx hy;have HL:Hid (∀w,Calls Tryz.prog 101 #[.complex .f64 x.wa x.wb,.complex .f64 y.wa y.wb] w fun e w'=>e=.returned (.float .f64 im)/\w'=w):=hl
 have q:=qG f1 jU;have hc:decide (dX x y=0)=(FloatKind.f64.format.order im 0 == some .eq):=by
  rw[q,<-CW hx hy];exact decide_eq_decide.2 ud
 rw[hc];clear hl q hc f1 hx hy;generalize x.wa=wa at*;generalize x.wb=wb at*;generalize x.sh=sh at*;generalize y.wa=iJ at*;generalize y.wb=iK at*;generalize y.sh=sh' at*;have hb0:Below w.heap.size w ((w.alloc (.cells #[.complex .f64 wa wb,.float .f64 sh] 122)).alloc (.cells #[.complex .f64 iJ iK,.float .f64 sh'] 122)):=((Below.refl _ _).alloc (ax _) _).alloc (by simp) _
 go_enter Tryz.func179,Tryz.ntmps179
 go_wp2_with fail
 refine(HL.out _).mono ?_;rintro e w1 ⟨rfl,rfl⟩
 go_wp2_with fail
 go_ret
 exact⟨rfl,hb0⟩
theorem af7(cf:Nat->Nat->Int)(a:Nat)(r:List Nat)(g lo cap:Nat)(w:World)(hn:r.length<=85000000)
  (HV:Hid (∀(i:Nat) b,(a::r)[i]?=some b->w.cell? ⟨g,lo+i,none⟩=some (.pointer (some ⟨b,0,none⟩))))
  (HC:Hid (∀b∈a::r,∀c∈a::r,∀w',Below w.heap.size w w'->Calls Tryz.prog 109 #[.pointer (some ⟨b,0,none⟩),.pointer (some ⟨c,0,none⟩)] w' fun r w''=>r=.returned (.int .i64 (cf b c))/\Below w'.heap.size w' w'')):
  Calls Tryz.prog 213 #[.slice (some ⟨g,lo,none⟩) (r.length+1) cap,.func (.func 109) #[] #[]] w fun e w'=>e=.returned (.pointer (some ⟨bw cf r a,0,none⟩))/\Below w.heap.size w w':=by
 have c0:=HV.out 0 a rfl;rw[oV] at c0;have dh:g<w.heap.size:=lt_of_cell c0
 go_enter Tryz.func213,Tryz.ntmps213
 go_wp2_with fail
 go_loopg [5,6] r.length (fun m mv iv wr=>∃k:Nat,k+m=r.length/\iv=.int .i64 (k+1:Nat)/\mv=.pointer (some ⟨bw cf (r.take k) a,0,none⟩)/\Hid (Below w.heap.size w wr))
 case atStart=>exact⟨0,by omega,rfl,rfl,Below.refl _ _⟩
 case round=>
  obtain⟨k,hkn,rfl,rfl,HB⟩:=hrel;by_cases hlt:k<r.length
  ·obtain⟨b,hb⟩:∃b,r[k]?=some b:=⟨_,aD hlt⟩;have c1:=(HB.out.cell (p:=⟨g,lo+(k+1),none⟩) dh).trans (HV.out (k+1) b (by simpa using hb))
   have jm:b∈a::r:=bo _ (bh hb);have hmm:bw cf (r.take k) a∈a::r:=by
    rcases uX cf (r.take k) a with h|h
    ·rw[h];simp
    ·exact bo _ (rU h)
   have gP:Hid (Calls Tryz.prog 109 #[.pointer (some ⟨b,0,none⟩),.pointer (some ⟨bw cf (r.take k) a,0,none⟩)] wr fun r' w''=>r'=.returned (.int .i64 (cf b (bw cf (r.take k) a)))/\Below wr.heap.size wr w''):=HC.out b jm _ hmm wr HB.out
   have fX:Hid (bw cf (r.take (k+1)) a=if cf b (bw cf (r.take k) a)<0 then b else bw cf (r.take k) a):=by
    have htk:r.take (k+1)=r.take k++[b]:=by rw[jh,hb];rfl
    show bw cf (r.take (k+1)) a=_;rw[htk,Hp]
   have ez:((k:Int)+1)<((r.length:Int)+1):=by omega
   have hgr:g<wr.heap.size:=aZ dh HB.out.size;clear c0 hb jm hmm;generalize bw cf (r.take k) a=M at*
   go_wp2_with fail
   refine gP.out.mono ?_;rintro e w5 ⟨rfl,az⟩;have eT:Hid (Below w.heap.size w w5):=HB.out.trans (az.mono HB.out.size);have c5:=(az.cell (p:=⟨g,lo+(k+1),none⟩) hgr).trans c1;clear gP az c1;generalize cf b M=V at*;by_cases hV:V<0
   ·have HM:Hid (bw cf (r.take (k+1)) a=b):=by rw[fX.out,ah hV];rfl
    go_wp2_with fail
    go_roundg (gk-1)
    case measure=>omega
    case rel=>exact⟨k+1,by omega,by go_num,by rw[HM.out],eT⟩
   ·have HM:Hid (bw cf (r.take (k+1)) a=M):=by rw[fX.out,aa hV];rfl
    have Me:decide (V<0)=false:=kH hV
    go_wp2_with fail
    go_roundg (gk-1)
    case measure=>omega
    case rel=>exact⟨k+1,by omega,by go_num,by rw[HM.out],eT⟩
  ·have hk:k=r.length:=by omega
   subst hk;rw[fg];clear HC HV
   go_wp2_with fail
   go_ret
   exact⟨rfl,HB.out⟩
theorem af8:(Tryz.prog.info? 177).map (fun i=>i.size)=some 8:=by kernel_rfl
theorem af9{w:World}{a b:Nat}(ha:∃c,w.heap[a]?=some (.cells c 177 (0,0)))(hb:∃c,w.heap[b]?=some (.cells c 177 (0,0))):
  (binOp .eql 175 (.pointer (some ⟨a,0,none⟩)) (.pointer (some ⟨b,0,none⟩))).run Tryz.prog w=.ok (.bool (b == a)) w:=by
 obtain⟨j,hj,hs⟩:=nZ.1 af8;by_cases h:a=b
 ·subst h;rw[run_eql_ptr_same w _ Tryz.underlying175 hj];simp
 ·obtain⟨ca,ha⟩:=ha;obtain⟨cb,hb⟩:=hb;rw[run_eql_ptr_other w Tryz.underlying175 hj (by rw[hs];decide) (fun e=>h (aw Addr.block e)) ha hb]
  have:(b == a)=false:=by simpa using fun e=>h e.symm
  rw[this]
theorem aga(v:Nat)(bl:List Nat)(g lo cap:Nat)(w:World)(hn:bl.length<=85000000)
  (HV:Hid (∀(i:Nat) b,bl[i]?=some b->w.cell? ⟨g,lo+i,none⟩=some (.pointer (some ⟨b,0,none⟩))))
  (HK:Hid (∀b,b=v\/b∈bl->∃c,w.heap[b]?=some (.cells c 177 (0,0)))):
  Calls Tryz.prog 212 #[.slice (some ⟨g,lo,none⟩) bl.length cap,.pointer (some ⟨v,0,none⟩)] w fun e w'=>e=.returned (.int .i64 (fA (fun b=>b == v) bl))/\Below w.heap.size w w':=by
 go_enter Tryz.func212,Tryz.ntmps212
 have HS:Hid (eW (fun b=>b == v) (bl.drop 0) 0=fA (fun b=>b == v) bl):=rfl
 go_wp2_with fail
 go_loopg [8] bl.length (fun m iv wr=>∃k:Nat,k+m=bl.length/\iv=.int .i64 k/\Hid (Below w.heap.size w wr/\eW (fun b=>b == v) (bl.drop k) k=fA (fun b=>b == v) bl))
 case atStart=>exact⟨0,by omega,rfl,Below.refl _ _,HS.out⟩
 case round=>
  obtain⟨k,hkn,rfl,HB⟩:=hrel;clear HS;by_cases hlt:k<bl.length
  ·obtain⟨b,hb⟩:∃b,bl[k]?=some b:=⟨_,aD hlt⟩;have c0:=HV.out k b hb;have dh:g<w.heap.size:=lt_of_cell c0;have c1:=(HB.out.1.cell (p:=⟨g,lo+k,none⟩) dh).trans c0;have fX:Hid ((if b == v then(k:Int) else eW (fun b=>b == v) (bl.drop (k+1)) (k+1))=fA (fun b=>b == v) bl):=by
    have:=HB.out.2;rw[tN hb] at this;exact this
   have ez:(k:Int)<(bl.length:Int):=by omega
   have hop:(binOp .eql 175 (.pointer (some ⟨v,0,none⟩)) (.pointer (some ⟨b,0,none⟩))).run Tryz.prog wr=.ok (.bool (b == v)) wr:=by
    obtain⟨cv,hcv⟩:=HK.out v (ae rfl);obtain⟨cb,hcb⟩:=HK.out b (af (bh hb));exact af9 ⟨cv,(HB.out.1.block v (lt_of_heap hcv)).trans hcv⟩ ⟨cb,(HB.out.1.block b (lt_of_heap hcb)).trans hcb⟩
   clear c0 hb;generalize(b == v)=B at*;cases B
   ·have HM:Hid (eW (fun b=>b == v) (bl.drop (k+1)) (k+1)=fA (fun b=>b == v) bl):=fX.out
    clear fX
    go_wp2_with (simp only[hop])
    go_roundg (gk-1)
    case measure=>omega
    case rel=>exact⟨k+1,by omega,by go_num,HB.out.1,HM.out⟩
   ·have HM:Hid ((k:Int)=fA (fun b=>b == v) bl):=fX.out
    clear fX
    go_wp2_with (simp only[hop])
    go_ret
    exact⟨by rw[<-HM.out];rfl,HB.out.1⟩
  ·have hk:k=bl.length:=by omega
   subst hk;have HM:Hid ((-1:Int)=fA (fun b=>b == v) bl):=by
    have:=HB.out.2;rw[O5] at this;exact this
   clear HV
   go_wp2_with fail
   go_ret
   exact⟨by rw[<-HM.out];rfl,HB.out.1⟩
theorem agb(n:Nat)(hn:0<n)(hn':n<=85000000)(w:World):
  Calls Tryz.prog 257 #[.slice none 0 0,.int .i64 n] w fun e w'=>∃cap,e=.returned (.slice (some ⟨w.heap.size,0,none⟩) 0 cap)/\w'.ownsRow w.heap.size 175 1 (.slice (some ⟨w.heap.size,0,none⟩) 0 cap) 0 []/\Below w.heap.size w w':=by
 obtain⟨i0,hi0,hz0,hz1,hz2⟩:=info_parts xe;have vT:∀ty,(Builtin.append_ #[185,3] ty #[.slice none 0 0,.int .i64 n]).run Tryz.prog w=.ok (.slice (some ⟨w.heap.size,0,none⟩) n (grownCap w n 0 175)) (w.drew.alloc (.cells (#[]++Builtin.zeroCells (Value.pointer none).cells n++Builtin.zeroCells (Value.pointer none).cells (grownCap w n 0 175-n)) 175)):=fun ty=>by
  have h:=Lib.run_append_grow_zeros w 185 3 ty 175 i0 (Value.pointer none) .i64 .i64 Tryz.underlying185 Tryz.underlying3 hi0 hz0 none 0 0 [] (run_firstCells_none w.drew i0.size 0 0 0) n hn (by omega) (by omega) (by omega) (by rw[hz2];omega) (by rw[hz2,js];exact growslice_fits (by omega) (by omega))
  simpa using h
 go_enter Tryz.func257,Tryz.ntmps257
 go_wp2_with (at_builtin;refine Lib.wpList_append_run _ rfl _ _ _ _ rfl _ _ rfl rfl _ _ (vT _) ?_)
 go_ret
 have hcap:n<=grownCap w n 0 175:=grownCap_ge w _ _ _;have hcl:=grownCap_le_maxLen w n 0 175 (by unfold maxLen;omega)
 refine⟨_,rfl,⟨rfl,af ⟨w.heap.size,grownCap w n 0 175,_,rfl,ax _,heap_alloc_new _ _,iq _,hcl,?_,?_⟩⟩,((Below.refl _ _).alloc (ax _) _).drew⟩
 ·simp[size_zeroCells];omega
 ·simp
abbrev It:=Nat×Nat×List Nat
def fZ(its:List It):List Nat:=its.flatMap (·.2.2)
def Dc(g:Nat)(it:It):Value:=.slice (some ⟨g,it.1,none⟩) it.2.2.length it.2.1
theorem agc(its:List It)(g sb sc:Nat)(w:World)(hN:0<(fZ its).length)(hN':(fZ its).length<=85000000)(hl:its.length<=100)
  (HS:Hid (∀(k:Nat) it,its[k]?=some it->w.cell? ⟨sb,k,none⟩=some (Dc g it)))
  (HV:Hid (∀it∈its,∀(i:Nat) b,it.2.2[i]?=some b->w.cell? ⟨g,it.1+i,none⟩=some (.pointer (some ⟨b,0,none⟩)))):
  Calls Tryz.prog 214 #[.slice (some ⟨sb,0,none⟩) its.length sc] w fun e w'=>∃lv,e=.returned lv/\w'.ownsRow w.heap.size 175 1 lv (fZ its).length (aK (fZ its))/\Below w.heap.size w w':=by
 obtain⟨i0,hi0,hz0,hz1,hz2⟩:=info_parts xe;have HG:Hid (∀(n:Nat),0<n->n<=85000000->∀w,Calls Tryz.prog 257 #[.slice none 0 0,.int .i64 n] w fun e w'=>∃cap,e=.returned (.slice (some ⟨w.heap.size,0,none⟩) 0 cap)/\w'.ownsRow w.heap.size 175 1 (.slice (some ⟨w.heap.size,0,none⟩) 0 cap) 0 []/\Below w.heap.size w w'):=agb
 have HT:Hid (∀(k:Nat)(it:It),its[k]?=some it->fZ (its.take (k+1))=fZ (its.take k)++it.2.2):=fun k it h=>by
  have htk:its.take (k+1)=its.take k++[it]:=by rw[jh,h];rfl
  show(its.take (k+1)).flatMap (·.2.2)=(its.take k).flatMap (·.2.2)++it.2.2
  rw[htk,ZL,vw,Y9,qg]
 have Mx:Hid (∀k,(fZ (its.take k)).length<=(fZ its).length):=fun k=>by
  show((its.take k).flatMap (·.2.2)).length<=(its.flatMap (·.2.2)).length
  conv=>rhs;rw[<-OY k its,ZL,aT]
  omega
 go_enter Tryz.func214,Tryz.ntmps214
 go_wp2_with fail
 go_loopg [3,11] its.length (fun m sv iv wr=>∃k:Nat,k+m=its.length/\iv=.int .i64 k/\sv=.int .i64 (fZ (its.take k)).length/\w=wr)
 case atStart=>exact⟨0,by omega,rfl,rfl,rfl⟩
 case round=>
  obtain⟨k,hkn,rfl,rfl,rfl⟩:=hrel;by_cases hlt:k<its.length
  ·obtain⟨it,hit⟩:∃it,its[k]?=some it:=⟨_,aD hlt⟩;have c0:=HS.out k it hit;have hT:=HT.out k it hit;have hle:=Mx.out (k+1);rw[hT,aT] at hle;obtain⟨o,c,bl⟩:=it;unfold Dc at c0;simp only at c0 hT hle;have ez:(k:Int)<(its.length:Int):=by omega
   have My:Hid ((fZ (its.take (k+1))).length=(fZ (its.take k)).length+bl.length):=by
    show _=_;rw[hT,aT]
   clear hT hit;generalize(fZ (its.take k)).length=A at*;have hA:wrap64 ((A:Int)+(bl.length:Int))=((A+bl.length:Nat):Int):=by unfold wrap64;omega
   have PQ:¬(((A+bl.length:Nat):Int)<0):=by omega
   go_wp2_with fail
   go_roundg (gk-1)
   case measure=>omega
   case rel=>exact⟨k+1,by omega,by go_num,by rw[My.out];simp,rfl⟩
  ·have hk:k=its.length:=by omega
   subst hk;rw[fg];generalize VW:(fZ its).length=N at*;have VX:Hid ((fZ its).length=N):=VW;clear VW
   go_wp2_with fail
   refine(HG.out N hN hN' _).mono ?_;rintro e w1 ⟨cap,rfl,zE,hb1⟩;have bH:Hid (w1.ownsRow w.heap.size 175 1 (.slice (some ⟨w.heap.size,0,none⟩) 0 cap) (fZ (its.take 0)).length (aK (fZ (its.take 0)))/\Below w.heap.size w w1):=⟨zE,hb1⟩;clear zE hb1 HG
   go_wp2_with fail
   go_loopg [6,27] its.length (fun m lv iv wr=>∃k:Nat,k+m=its.length/\iv=.int .i64 k/\Hid (wr.ownsRow w.heap.size 175 1 lv (fZ (its.take k)).length (aK (fZ (its.take k)))/\Below w.heap.size w wr))
   case atStart=>exact⟨0,by omega,rfl,bH.out⟩
   case round=>
    obtain⟨k,hkn,rfl,HO⟩:=hrel;clear bH;by_cases hlt:k<its.length
    ·obtain⟨it,hit⟩:∃it,its[k]?=some it:=⟨_,aD hlt⟩;have c0:=HS.out k it hit;have hT:=HT.out k it hit;have hle:=Mx.out (k+1);rw[hT,aT] at hle;have hV:=HV.out it (bh hit);obtain⟨o,c,bl⟩:=it;unfold Dc at c0;simp only at c0 hT hle hV;have c1:=(HO.out.2.cell (p:=⟨sb,k,none⟩) (lt_of_cell c0)).trans c0;have ez:(k:Int)<(its.length:Int):=by omega
     obtain⟨iM,hb2⟩:=HO.out;have hbz:=hb2.size;have kf:Hid (fZ (its.take (k+1))=fZ (its.take k)++bl):=hT;have Mz:Hid (∀(i:Nat) b,bl[i]?=some b->wr.cell? ⟨g,o+i,none⟩=some (.pointer (some ⟨b,0,none⟩))):=fun i b hb=>(hb2.cell (p:=⟨g,o+i,none⟩) (lt_of_cell (hV i b hb))).trans (hV i b hb)
     clear hT hit c0 hV HO;generalize fZ (its.take k)=A at*;cases bl with
     |nil=>
      have bW:Hid (wr.ownsRow w.heap.size 175 1 u6 (fZ (its.take (k+1))).length (aK (fZ (its.take (k+1))))/\Below w.heap.size w wr):=by
       show _/\_;rw[kf.out,qg];exact⟨iM,hb2⟩
      clear kf Mz
      go_wp2_with (at_builtin;refine TY rfl (.tmp 31) (.tmp 32) 185 rfl w.heap.size 175 i0 1 Tryz.underlying185 hi0 u6 A.length (aK A) rfl iM (some ⟨g,o,none⟩) c rfl ?_)
      go_roundg (gk-1)
      case measure=>omega
      case rel=>exact⟨k+1,by omega,by go_num,bW.out⟩
     |cons b0 br=>
      rw[cG] at hle;have VY:∀(j:Nat)(u:Value),(aK (b0::br))[j]?=some u->wr.cell? (Addr.add ⟨g,o,none⟩ j)=some u:=fun j u hj=>by
       unfold aK at hj;rw[fR] at hj;obtain⟨b',h1,h2⟩:=nZ.1 hj;rw[<-h2];have e:Addr.add ⟨g,o,none⟩ j=⟨g,o+j,none⟩:=by simp[Addr.add]
       rw[e];exact Mz.out j b' h1
      have hone:∀u∈aK (b0::br),u.oneCell'=true:=by unfold aK;simp[Value.oneCell']
      have hpl:(aK (b0::br)).length=(br.length+1)*1:=by simp[aK]
      have HNW:Hid (∀(j:Nat)(u:Value),(aK (b0::br))[j]?=some u->wr.cell? (Addr.add ⟨g,o,none⟩ j)=some u):=VY;have HON:Hid (∀u∈aK (b0::br),u.oneCell'=true):=hone;have zj:Hid ((aK (b0::br)).length=(br.length+1)*1):=hpl;clear VY hone hpl Mz
      go_wp2_with (at_builtin;go_loud (refine wpList_append_lies _ rfl (.tmp 31) (.tmp 32) 185 rfl w.heap.size 175 i0 _ 1 8 Tryz.underlying185 hi0 hz0 hz1 hz2 rfl (by decide) u6 A.length (aK A) rfl iM ⟨g,o,none⟩ (br.length+1) c (aK (b0::br)) rfl zj.out HNW.out HON.out (by omega) (by unfold maxLen;omega) (by omega) hbz wr.heap.size rfl ?_);intro g' cap' w8 cD bf fU oF)
      have bW:Hid (w8.ownsRow w.heap.size 175 1 (.slice (some ⟨g',0,none⟩) (A.length+(br.length+1)) cap') (fZ (its.take (k+1))).length (aK (fZ (its.take (k+1))))/\Below w.heap.size w w8):=by
       show _/\_;rw[kf.out,aT];refine⟨?_,hb2.grown bf hbz (fun k hk=>(aB iM k hk).1)⟩
       have e:aK (A++b0::br)=aK A++aK (b0::br):=by simp[aK]
       rw[e];exact cD
      clear kf cD bf fU
      go_wp2_with fail
      go_roundg (gk-1)
      case measure=>omega
      case rel=>exact⟨k+1,by omega,by go_num,bW.out⟩
    ·have hk:k=its.length:=by omega
     subst hk;have HF:=HO.out;rw[fg,VX.out] at HF;have HFF:Hid (wr.ownsRow w.heap.size 175 1 u6 N (aK (fZ its))/\Below w.heap.size w wr):=HF;clear HO HF HS HV HT Mx
     go_wp2_with fail
     go_ret
     exact⟨u6,rfl,by rw[VX.out];exact HFF.out⟩
end Go.Proofs.YtkjhhooecopolaaGreatDoor

import Derived.Test.YtkjhhooecopolaaGreatDoorRz09
set_option maxRecDepth 100000
set_option maxHeartbeats 4000000
namespace Go.Proofs.YtkjhhooecopolaaGreatDoor
open Tryz
open Value renaming int->az,complex->aA,float->aB,agg->aC,bool->aD,string->aF,slice->aG,pointer->aH,tuple->aI
open IntKind renaming i64->aJ
open FloatKind renaming f64->aK
open Ending renaming returned->aL
open Go renaming World->aM,Value->aN,floatOfInt->aO
namespace Gb
open Ge Ga
section
variable{ν:Type}{f:Nat->ν}{m:Nat}
theorem amA(f:Nat->ν)(i:Nat)(a:List Nat×List (List Nat)):∃b,AL f i a b:=by
 by_cases h:∀o∈a.1++[i],f o≠f (i+1)
 .exact⟨_,aU ⟨h,rfl⟩⟩
 .have key:∀L:List Nat,¬(∀o∈L,f o≠f (i+1))->∃O1 d D,L=O1++d::D/\f d=f (i+1)/\∀o∈O1,f o≠f (i+1):=by
   intro L;induction L with
   |nil=>intro k;exact absurd (λo ho=>by simp at ho) k
   |cons x L ih=>
    intro k;by_cases hx:f x=f (i+1)
    .exact⟨[],x,L,rfl,hx,af⟩
    .obtain⟨O1,d,D,e,e1,e2⟩:=ih (λw=>k λo ho=>by
      rcases bU.1 ho with q|q
      .rw[q];exact hx
      .exact w o q)
     exact⟨x::O1,d,D,by rw[e];rfl,e1,λo ho=>by
      rcases bU.1 ho with q|q
      .rw[q];exact hx
      .exact e2 o q⟩
  obtain⟨O1,d,D,e,e1,e2⟩:=key _ h;exact⟨_,aT ⟨O1,d,D,e,e1,e2,rfl⟩⟩
theorem amB(f:Nat->ν):∃st:Nat->List Nat×List (List Nat),st 0=([],[])/\∀i,AL f i (st i) (st (i+1)):=by
 obtain⟨F,hF⟩:=Classical.axiomOfChoice (r:=λ(p:Nat×(List Nat×List (List Nat))) b=>AL f p.1 p.2 b) λp=>amA f p.1 p.2
 exact⟨λi=>Nat.rec ([],[]) (λi s=>F (i,s)) i,rfl,λi=>hF (i,_)⟩
end
section
variable{S:List Sg}{nx:Sg->Sg}
theorem Wd.amC(h:Wd S nx){s:Sg}(hs:s∈S){m:Nat}(hc:FZ nx s m){i:Nat}(hi:i<m):∃R,iW S nx R/\it nx i s∈R/\∀u∈R,∃j,j<m/\u=it nx j s:=by
 obtain⟨st,h0,hst⟩:=amB (λi=>(it nx i s).1)
 obtain⟨_,hp,hg⟩:=parted (h.nc hs hc) (λj hj e=>by
  rw[h.wN hs] at e;exact h.ne _ (h.pM hs j) e) (by show(it nx m s).1=s.1;rw[hc.per]) st h0 (λi _=>hst i)
 have:i∈(st m).2.flatten:=hp.mem_iff.2 (sU.2 hi);obtain⟨D,hD,hiD⟩:=C4.1 this;obtain⟨d,hd⟩:=hg D hD;refine⟨D.map λj=>it nx j s,hd.ring h hs hc,bQ.2 ⟨i,hiD,rfl⟩,λu hu=>?_⟩
 obtain⟨j,hj,rfl⟩:=bQ.1 hu;exact⟨j,hd.lt j hj,rfl⟩
theorem amE{A B:List Sg}{u:Sg}:u∈B++A↔u∈A++B:=by simp[or_comm]
theorem Wd.amF(h:Wd S nx){s:Sg}(hs:s∈S){m:Nat}(hc:FZ nx s m)(hl:∀i,i<m->ge s.1 (it nx i s).1)(hno:∀R,LR S nx R->(∃i,i<m/\it nx i s∈R)->¬shl R){es:List Sg}(hcl:Cl es)(hi:In S es):Lf es s=PP es (n1 s.1):=by
 have hm:=hc.pos;obtain⟨z0,hz0,hT,hmax⟩:=Mt (lt:=λx y=>nz (dr (it nx x s))&&nz (dr (it nx y s))&&bf (neg (dr (it nx y s))) (neg (dr (it nx x s)))) (λx y z h1 h2=>by
   simp only[qs] at h1 h2⊢;have k:∀d,nz d=true->neg d≠(0,0):=λd q=>kR (by unfold nz at q;simpa using q)
   exact⟨⟨h1.1.1,h2.1.2⟩,iV (k _ h2.1.2) (k _ h1.1.2) (k _ h1.1.1) h2.2 h1.2⟩) (λx=>by rw[tA];simp) (λi=>decide ((it nx i s).2=s.1)) (List.range m) _ (m-1) (sU.2 aa) (by
   refine dO ?_;rw[<-h.wN hs,show m-1+1=m by omega,hc.per]) (aY _)
 have atH:=sU.1 hz0;have hb2:(it nx z0 s).2=s.1:=fV hT;have zO:=h.pM hs z0;have low:∀i,i<m->(it nx i s).2=s.1->bf (neg (dr (it nx i s))) (neg (dr (it nx z0 s)))=false:=λi hi e=>by
  have:=hmax i (sU.2 hi) (dO e);rw[Dl (h.iK zO),Dl (h.iK (h.pM hs i))] at this;simpa using this
 generalize hb:it nx z0 s=b at*;obtain⟨Iq,ha1⟩:=h.Dj b zO;have jL:=h.iK Iq;have Ir:=kR (h.iK zO);have hsm:=h.two _ Iq _ zO ha1;have hwrap:bf (neg (dr b)) (dr (nx b))=true:=by
  apply mj;intro hk;have hab:bf (dr (nx b)) (neg (dr b))=true:=by
   have t:=js jL Ir;rw[hsm] at t;cases q1:bf (dr (nx b)) (neg (dr b))<;>cases q2:bf (neg (dr b)) (dr (nx b))<;>rw[q1,q2] at t<;>simp[bb] at t
   .exact absurd q2 hk
  have hnb:∃i,i<m/\it nx i s=nx b:=by
   by_cases e:z0+1<m
   .exact⟨z0+1,e,by show nx (it nx z0 s)=_;rw[hb]⟩
   .refine⟨0,hm,?_⟩;have:it nx (z0+1) s=s:=by rw[show z0+1=m by omega];exact hc.per
    have w:nx (it nx z0 s)=s:=this;rw[hb] at w;exact w.symm
  obtain⟨i,him,hia⟩:=hnb;obtain⟨R,hR,BZ,hRw⟩:=h.amC hs hc him;obtain⟨A,B,e,qd⟩:=hR.WN;have hmem:∀u,u∈B++A↔u∈R:=λu=>by rw[e];exact amE
  obtain⟨a,z,Ca,SY⟩:=nS qd.ring.ne;have hai:a∈B++A:=by
   cases hq:B++A with
   |nil=>rw[hq] at Ca;cases Ca
   |cons c T=>rw[hq] at Ca;rw[<-mO Ca];simp
  have abY:a=nx b:=by
   have m1:nx b∈B++A:=(hmem _).2 (by rw[<-hia];exact BZ)
   have g1:=qd.least a Ca _ m1;obtain⟨j,hj,ej⟩:=hRw a ((hmem a).1 hai);have g2:=hl j hj;rw[<-ej] at g2;rw[ha1,hb2] at g1;have ef:a.1=(nx b).1:=by rw[ha1,hb2];exact(Kg g2 g1).symm
   apply mj;intro hne;obtain⟨x,hx,ex⟩:=kO.1 hai;obtain⟨y,hy,ey⟩:=kO.1 m1;have pw:=mn.1 qd.ring.qB;rcases CS x y with q|q|q
   .have:=pw x y hx hy q;rw[ex,ey] at this;exact this ef
   .subst q;exact hne (ex.symm.trans ey)
   .have:=pw y x hy hx q;rw[ex,ey] at this;exact this ef.symm
  obtain⟨M,hg⟩:=qd.rg h Ca SY;refine hno (B++A) qd ⟨i,him,(hmem _).2 BZ⟩ ⟨a,z,Ca,SY,?_⟩;have Iu:z∈B++A:=sK SY;obtain⟨j,hj,ej⟩:=hRw z ((hmem z).1 Iu);have hz2:z.2=s.1:=by rw[hg.z2,abY,ha1,hb2]
  have se:=low j hj (by rw[<-ej];exact hz2)
  rw[<-ej] at se;have hdz:=kR (h.iK hg.mz);have eO:bf (dr a) (neg (dr z))=true:=by
   rw[abY];have t:=js hdz Ir;rw[se] at t;cases q1:bh (neg (dr z)) (neg (dr b))
   .cases q2:bf (neg (dr b)) (neg (dr z))
    .rw[q1,q2] at t;simp[bb] at t
    .exact iV jL Ir hdz hab q2
   .rw[Ml q1];exact hab
  have Km:=hg.Kk h;have AK:=hg.Kl h;rw[pL] at eO;rcases eO with⟨_,q⟩|⟨_,q⟩
  .exact absurd AK q
  .rw[gF,di] at q;omega
 have SZ:Lf es s=Lf es b:=by
  rw[<-hb];exact(h.along hcl hi hs (Ks nx s z0)).symm
 rw[SZ,(h.at_end hcl hi zO).1,hb2];unfold eD;have z1:Ga.AS es (n1 s.1) (λz=>nz z&&bf z (neg (dr b)))=0:=by
  rw[Dh (Q':=λ_=>false) (by simp[nz]) (λz hz=>?_),Ph]
  have hz':=hz;rw[<-hb2] at hz';obtain⟨u,hu,k⟩:=h.arm hi zO hz';cases q:bf z (neg (dr b))
  .simp
  .exfalso;have hcw:cw (neg (dr b)) z (dr (nx b))=true:=nR.2 (aT (aU ⟨q,hwrap⟩));rcases k with⟨k1,rfl⟩|⟨k1,rfl⟩
   .rw[h.w1 b zO u hu k1] at hcw;cases hcw
   .rw[h.w2 b zO u hu k1] at hcw;cases hcw
 rw[z1];omega
end
end Gb
section
open Go.RowKit
variable{S T bs A O:List Nat}{Xs:List PB}{b i g n g' cap k base cap':Nat}{mk:Nat->Bool}{ow:Nat->Option Nat}{w w' wr w8:aM}{lv v lo lr:aN}
structure Mo(S:List Nat)(w w':aM):Prop where
 os:w'.os=w.os
 tape:w'.tape=w.tape
 output:w'.output=w.output
 size:w.heap.size<=w'.heap.size
 block:∀k,k<w.heap.size->k∉S->w'.heap[k]?=w.heap[k]?
theorem Mo.refl(S:List Nat)(w:aM):Mo S w w:=⟨rfl,rfl,rfl,aY _,λ_ _ _=>rfl⟩
theorem Mo.trans{a b c:aM}(h:Mo S a b)(k:Mo S b c):Mo S a c:=
 ⟨k.os.trans h.os,k.tape.trans h.tape,k.output.trans h.output,fN h.size k.size,λi hi hn=>(k.block i (bW hi h.size) hn).trans (h.block i hi hn)⟩
theorem Mo.of(S:List Nat)(h:aj w w'):Mo S w w':=⟨h.os,h.tape,h.output,h.size,λk hk _=>h.block k hk⟩
theorem Mo.below{w1 w2:aM}(h:Mo S w w1)(k:Mo T w1 w2)(hT:∀i,i<w.heap.size->i∈T->i∈S):Mo S w w2:=
 ⟨k.os.trans h.os,k.tape.trans h.tape,k.output.trans h.output,fN h.size k.size,λi hi hn=>(k.block i (bW hi h.size) λh'=>hn (hT i hi h')).trans (h.block i hi hn)⟩
theorem Mo.cell(h:Mo S w w'){p:Addr}(hp:p.block<w.heap.size)(hn:p.block∉S):w'.cell? p=w.cell? p:=World.cell?_of_block (w:=w) (h.block p.block hp hn)
theorem Mo.grown{row:Option Nat}(hg:w.grownBy w' row)(hr:∀k,row=some k->k∈S):Mo S w w':=
 ⟨hg.os,hg.tape,hg.output,hg.size,λk hk hn=>hg.block k hk (λe=>hn (hr k e.symm))⟩
theorem Mo.setCell(S:List Nat)(w:aM){p:Addr}(hp:p.block∈S)(u:aN):Mo S w (w.setCell p u):=
 ⟨rfl,rfl,rfl,by simp[World.setCell],λk _ hn=>Below.heap_setCell _ _ _ _ (λe=>hn (e▸hp))⟩
theorem Mo.alloc(S:List Nat)(w:aM)(o:Obj):Mo S w (w.alloc o):=Mo.of S ((Below.refl _ _).alloc (aY _) o)
theorem setCell_new{cur:Array aN}{t:TypeId}{fr:Nat×Nat}(hg:w.heap[b]?=some (.cells cur t fr))(v:aN):(w.setCell ⟨b,i,none⟩ v).heap[b]?=some (.cells (cur.setIfInBounds i v) t fr):=by
 rw[setCell_eq_setRow w b i cur t fr v hg];unfold World.setRow;simp[Array.getElem?_modify,hg]
structure SW(g:Nat)(bs:List Nat)(Xs:List PB)(mk:Nat->Bool)(ow:Nat->Option Nat)(w:aM):Prop where
 len:bs.length=Xs.length
 nd:bs.Nodup
 ng:g∉bs
 row:∀i,i<bs.length->w.cell? ⟨g,i,none⟩=some (aH (some ⟨bx bs i,0,none⟩))
 side:∀i,i<bs.length->w.heap[bx bs i]?=some (.cells (zC (xi Xs i) (mk i) ((ow i).map λo=>⟨o,0,none⟩)) 177 (0,0))
theorem SW.rb(h:SW g bs Xs mk ow w):RB w g bs Xs:=by
 refine⟨h.len,λi b hb=>?_,λi b x hb hx=>?_⟩
 .have:=h.row i (cG.1 hb).1;rw[Ig hb] at this;exact this
 .have:=h.side i (cG.1 hb).1;rw[Ig hb,vB hx] at this;exact jy.of this
theorem S3(hn:bs.Nodup){j:Nat}(hi:i<bs.length)(hj:j<bs.length)(h:bx bs i=bx bs j):i=j:=by
 rw[<-og hn hi,<-og hn hj,h]
theorem SW.lt(h:SW g bs Xs mk ow w)(hb:b∈bs):b<w.heap.size:=by
 obtain⟨i,hi,rfl⟩:=kO.1 hb;have:=h.side i hi;rw[Ig (bo hi)] at this;exact lt_of_heap this
theorem SW.keep(h:SW g bs Xs mk ow w)(hm:Mo S w w')(hg:g∉S)(hb:∀b∈bs,b∉S):SW g bs Xs mk ow w':=
 ⟨h.len,h.nd,h.ng,λi hi=>(hm.cell (lt_of_cell (h.row i hi)) hg).trans (h.row i hi),λi hi=>(hm.block _ (h.lt (rZ hi)) (hb _ (rZ hi))).trans (h.side i hi)⟩
theorem SW.below(h:SW g bs Xs mk ow w)(hm:aj w w'):SW g bs Xs mk ow w':=
 h.keep (Mo.of [] hm) af af
theorem SW.congr{mk':Nat->Bool}{ow':Nat->Option Nat}(h:SW g bs Xs mk ow w)(hm:∀i,i<bs.length->mk' i=mk i)(ho:∀i,i<bs.length->ow' i=ow i):SW g bs Xs mk' ow' w:=
 ⟨h.len,h.nd,h.ng,h.row,λi hi=>by rw[hm i hi,ho i hi];exact h.side i hi⟩
theorem SW.mark(h:SW g bs Xs mk ow w)(hi:i<bs.length):SW g bs Xs (λj=>mk j||j == i) ow (w.setCell ⟨bx bs i,6,none⟩ (aD true)):=by
 refine⟨h.len,h.nd,h.ng,λj hj=>?_,λj hj=>?_⟩
 .exact(World.cell?_of_block (w:=w) (Below.heap_setCell _ _ _ _ (λe=>h.ng (by have e':g=bx bs i:=e;rw[e'];exact rZ hi)))).trans (h.row j hj)
 .by_cases e:j=i
  .subst e;rw[setCell_new (h.side j hj)];simp;rfl
  .rw[Below.heap_setCell _ _ _ _ (λe'=>e (S3 h.nd hj hi e')),h.side j hj]
   have:(j == i)=false:=by simpa using e
   simp only[this,JW]
theorem SW.own(h:SW g bs Xs mk ow w)(hi:i<bs.length)(o:Nat):SW g bs Xs mk (λj=>if j=i then some o else ow j) (w.setCell ⟨bx bs i,7,none⟩ (aH (some ⟨o,0,none⟩))):=by
 refine⟨h.len,h.nd,h.ng,λj hj=>?_,λj hj=>?_⟩
 .exact(World.cell?_of_block (w:=w) (Below.heap_setCell _ _ _ _ (λe=>h.ng (by have e':g=bx bs i:=e;rw[e'];exact rZ hi)))).trans (h.row j hj)
 .by_cases e:j=i
  .subst e;rw[setCell_new (h.side j hj)];simp;rfl
  .rw[Below.heap_setCell _ _ _ _ (λe'=>e (S3 h.nd hj hi e')),h.side j hj,aQ e]
def j4(nx:Nat->Nat)(mk:Nat->Bool):Nat->List Nat->Nat->List Nat
 |0,A,_=>A
 |m+1,A,i=>if mk i||A.contains i then A else j4 nx mk m (A++[i]) (nx i)
theorem ab1{p q:Nat->Bool}:∀(l:List Nat),(∀x∈l,q x=true->p x=true)->(∃x∈l,p x=true/\q x=false)->l.countP q<l.countP p
 |[],_,h=>by obtain⟨x,hx,_⟩:=h;simp at hx
 |a::l,h1,h2=>by
  obtain⟨x,hx,hp,hq⟩:=h2;have hle:l.countP q<=l.countP p:=asp λy hy=>h1 y (bX _ hy)
  rcases bU.1 hx with e|hx
  .subst e;rw[asq hp,asr (by simp[hq])]
   omega
  .have ih:=ab1 l (λy hy=>h1 y (bX _ hy)) ⟨x,hx,hp,hq⟩
   rw[Vz,Vz];by_cases ha:q a=true
   .rw[aV ha,aV (h1 a af ha)];omega
   .rw[aQ ha];omega
def jM(n:Nat)(mk:Nat->Bool)(A:List Nat):Nat:=(List.range n).countP λj=> !(mk j||A.contains j)
theorem MR(hi:i<n)(h:(mk i||A.contains i)=false):jM n mk (A++[i])<jM n mk A:=by
 refine ab1 _ (λx _ hx=>?_) ⟨i,sU.2 hi,by rw[h];rfl,af⟩
 simp at hx⊢;exact⟨hx.1,hx.2.1⟩
theorem xE(n:Nat)(mk:Nat->Bool)(A:List Nat):jM n mk A<=n:=by
 have:=List.countP_le_length (p:=λj=> !(mk j||A.contains j)) (l:=List.range n)
 rw[agQ] at this;exact this
structure WS(w:aM)(g:Nat)(bs:List Nat)(Xs:List PB)(mk:Nat->Bool)(ow:Nat->Option Nat)(lv:aN)(A:List Nat)(wr:aM):Prop where
 own:wr.ownsRow w.heap.size 175 1 lv A.length (bA (A.map (bx bs)))
 sw:SW g bs Xs (λj=>mk j||A.contains j) ow wr
 mo:Mo bs w wr
theorem WS.step(h:WS w g bs Xs mk ow lv A wr)(rK:∀b∈bs,b<w.heap.size)(hgw:g<w.heap.size)(hi:i<bs.length)(o:Obj)
  (cI:((wr.setCell ⟨bx bs i,6,none⟩ (aD true)).alloc o).grownBy w8 lv.ownBlock)
  (dM:w8.ownsRow w.heap.size 175 1 (aG (some ⟨g',0,none⟩) (A.length+1) cap) (A.length+1) (bA (A.map (bx bs))++[aH (some ⟨bx bs i,0,none⟩)])):
  WS w g bs Xs mk ow (aG (some ⟨g',0,none⟩) (A.length+1) cap) (A++[i]) w8:=by
 have hown:∀k,lv.ownBlock=some k->w.heap.size<=k:=λk hk=>(bn h.own k hk).1
 have m1:Mo bs wr (wr.setCell ⟨bx bs i,6,none⟩ (aD true)):=Mo.setCell _ _ (rZ hi) _;have m2:=Mo.alloc [] (wr.setCell ⟨bx bs i,6,none⟩ (aD true)) o;have m3:Mo (lv.ownBlock.toList) _ w8:=Mo.grown cI (λk hk=>by rw[hk];simp)
 have hd:∀k,k∈lv.ownBlock.toList->w.heap.size<=k:=λk hk=>hown k (by simpa using hk)
 refine⟨?_,?_,?_⟩
 .rw[jC,bY];have e:bA (A.map (bx bs)++[i].map (bx bs))=bA (A.map (bx bs))++[aH (some ⟨bx bs i,0,none⟩)]:=by simp[bA]
  rw[e];exact dM
 .have k1:=((h.sw.mark hi).keep m2 af af).keep m3 (λhk=>by have:=hd _ hk;omega) (λb hb hk=>by have:=hd _ hk;have:=rK b hb;omega)
  refine k1.congr (λj hj=>?_) λ_ _=>rfl
  simp only[List.contains_eq_mem,dv,dh,Bool.decide_or,Bool.or_assoc];congr 2
 .exact(h.mo.trans m1).below ((Mo.alloc lv.ownBlock.toList _ o).trans m3) λk hk hk'=>by have:=hd k hk';omega
theorem WS.below(h:WS w g bs Xs mk ow lv A wr)(hb:aj wr w'):WS w g bs Xs mk ow lv A w':=
 ⟨bB h.own λk hk=>hb.block k (bn h.own k hk).2,h.sw.below hb,h.mo.trans (Mo.of _ hb)⟩
theorem amG(bs:List Nat)(Xs:List PB)(hB:BD Xs)(g cap i:Nat)(mk:Nat->Bool)(ow:Nat->Option Nat)(w:aM)(hW:SW g bs Xs mk ow w)(hgw:g<w.heap.size)(hi:i<bs.length)(hbc:bs.length<=cap)
  (HN:Hid (∀i,i<Xs.length->∃x∈Xs,x.f=(xi Xs i).t)):
  ak 110 #[aG (some ⟨g,0,none⟩) bs.length cap,aH (some ⟨bx bs i,0,none⟩)] w λe w'=>∃lv,e=aL lv/\WS w g bs Xs mk ow lv (j4 (dC Xs) mk bs.length [] i) w':=by
 obtain⟨i0,hi0,hz0,hz1,hz2⟩:=info_parts BO;have HL:Hid (bs.length=Xs.length):=hW.len;have MS:Hid (∀b∈bs,b<w.heap.size):=λb hb=>hW.lt hb
 have hbl:bs.length<=85000000:=by rw[hW.len];exact hB.len
 have cV:Hid (∀j,j<bs.length->∀w',RB w' g bs Xs->dC Xs j<bs.length/\ak 165 #[aG (some ⟨g,0,none⟩) bs.length cap,aH (some ⟨bx bs j,0,none⟩)] w' λe w''=>e=aL (aH (some ⟨bx bs (dC Xs j),0,none⟩))/\aj w' w''):=λj hj w' hR=>by
  have hj':j<Xs.length:=by rw[<-hR.len];exact hj
  have hne:=HN.out j hj';refine⟨?_,ami bs Xs hB hW.nd g cap j hj' w' hR hbc hne⟩;have:=(abK (SJ hB (hB.v _ (iH hj')).ct hne)).2;have h2:=SH Xs (xi Xs j).t;rw[hR.len];omega
 have cK:Hid (WS w g bs Xs mk ow (aG none 0 0) [] w/\j4 (dC Xs) mk bs.length [] i=j4 (dC Xs) mk bs.length [] i/\jM bs.length mk []<=bs.length):=⟨⟨World.ownsRow_nil _ _ _ _,hW.congr af af,Mo.refl _ _⟩,rfl,xE _ _ _⟩
 generalize hLd:j4 (dC Xs) mk bs.length [] i=L at*;have HLd:Hid (j4 (dC Xs) mk bs.length [] i=L):=hLd;clear hLd hW HN
 go_enter func110,ntmps110
 go_wp2_with fail
 go_loopg [5,6] bs.length (λm lv sv wr=>∃A j,j<bs.length/\A.length+m=bs.length/\sv=aH (some ⟨bx bs j,0,none⟩)/\Hid (WS w g bs Xs mk ow lv A wr/\j4 (dC Xs) mk m A j=L/\jM bs.length mk A<=m))
 case atStart=>exact⟨[],i,hi,af,rfl,by have:=cK.out;rw[HLd.out];exact⟨this.1,rfl,this.2.2⟩⟩
 case round=>
  obtain⟨A,j,hj,hAm,rfl,HE⟩:=hrel;clear cK;obtain⟨uh,hwk,MT⟩:=HE.out;have hs:=uh.sw.side j hj;have s6:=FC hs;have f6:=bK hs 6;have Iw:Hid (WS w g bs Xs mk ow u5 A wr):=uh;by_cases hm:(mk j||A.contains j)=true
  .rw[hm] at s6;have HLA:Hid (A=L):=by
    rw[<-hwk];cases gk with
    |zero=>rfl
    |succ m=>show A=if _ then A else _;rw[aV hm]
   clear hs hwk MT hm HE uh
   go_wp2_with fail
   go_ret
   exact⟨_,rfl,by rw[<-HLA.out];exact Iw.out⟩
  .have hm':(mk j||A.contains j)=false:=by simpa using hm
   rw[hm'] at s6;have hst:=MR hj hm';have HST:Hid (j4 (dC Xs) mk (gk-1) (A++[j]) (dC Xs j)=L/\jM bs.length mk (A++[j])<=gk-1):=by
    refine⟨?_,aa⟩
    rw[<-hwk];cases gk with
    |zero=>omega
    |succ m=>show _=if _ then A else _;rw[aQ hm];rfl
   have l8:1<=gk:=aa
   have mK:=Iw.out.own;have hwz:=Iw.out.mo.size;have hbj:bx bs j<w.heap.size:=MS.out _ (rZ hj);have hnb:((wr.setCell ⟨bx bs j,6,none⟩ (aD true)).alloc (.cells #[aH (some ⟨bx bs j,0,none⟩)] 175)).heap[wr.heap.size]?=some (.cells #[aH (some ⟨bx bs j,0,none⟩)] 175 (0,0)):=by
    have:=heap_alloc_new (wr.setCell ⟨bx bs j,6,none⟩ (aD true)) (.cells #[aH (some ⟨bx bs j,0,none⟩)] 175);simpa[World.setCell] using this
   have hsz:(wr.setCell ⟨bx bs j,6,none⟩ (aD true)).heap.size=wr.heap.size:=by simp[World.setCell]
   have mL:((wr.setCell ⟨bx bs j,6,none⟩ (aD true)).alloc (.cells #[aH (some ⟨bx bs j,0,none⟩)] 175)).ownsRow w.heap.size 175 1 u5 A.length (bA (A.map (bx bs))):=
    bB mK λk hk=>by
     have h1:=(bn mK k hk).1;have h2:=(bn mK k hk).2;exact(Below.heap_alloc _ _ _ (by rw[hsz];exact h2)).trans (Below.heap_setCell _ _ _ _ (by show k≠bx bs j;omega))
   clear hs hwk MT hm hm' HE uh hst mK
   go_wp2_with (at_builtin;refine wpList_append_lies _ rfl (.tmp 19) (.tmp 21) 132 rfl w.heap.size 175 i0 _ 1 8 underlying132 hi0 hz0 hz1 hz2 rfl ah u5 A.length (bA (A.map (bx bs))) rfl mL ⟨wr.heap.size,0,none⟩ 1 1 [aH (some ⟨bx bs j,0,none⟩)] rfl rfl (World.news_of_block (cs:= #[aH (some ⟨bx bs j,0,none⟩)]) (t:=175) (fr:=(0,0)) hnb) (by simp[Value.oneCell']) ah (by unfold maxLen;omega) aa (by simp[World.setCell];omega) (wr.heap.size+1) (by simp[World.setCell]) ?_;intro g' cap' w8 dM cI iN rN)
   have S4:=Iw.out.step MS.out hgw hj _ cI dM;obtain⟨hnj,hnc⟩:=cV.out j hj w8 S4.sw.rb;have HW8:Hid (WS w g bs Xs mk ow (aG (some ⟨g',0,none⟩) (A.length+1) cap') (A++[j]) w8):=S4;have HNC:Hid (ak 165 #[aG (some ⟨g,0,none⟩) bs.length cap,aH (some ⟨bx bs j,0,none⟩)] w8 λe w''=>e=aL (aH (some ⟨bx bs (dC Xs j),0,none⟩))/\aj w8 w''):=hnc
   clear cI dM iN hnb mL S4 hnc Iw cV s6
   go_wp2_with fail
   refine HNC.out.mono ?_;rintro e w9 ⟨rfl,ou⟩;have HW9:Hid (WS w g bs Xs mk ow (aG (some ⟨g',0,none⟩) (A.length+1) cap') (A++[j]) w9):=HW8.out.below ou;clear HW8 HNC ou
   go_wp2_with fail
   go_roundg (gk-1)
   case measure=>omega
   case rel=>exact⟨A++[j],dC Xs j,hnj,by rw[bY];simp;omega,rfl,HW9.out,HST.out.1,HST.out.2⟩
theorem amL(x y:PB)(hx:dX x)(hy:dX y)(b c:Nat)(w:aM)(h1:jy w b x)(h2:jy w c y):
  ak 167 #[aH (some ⟨b,0,none⟩),aH (some ⟨c,0,none⟩)] w λe w'=>e=aL (aD (decide (x.t=y.f)))/\aj w w':=by
 have hop:∀w,(binOp .eql 83 (aC #[aA aK (aO aK x.t.1) (aO aK x.t.2.1),az aJ x.t.2.2]) (aC #[aA aK (aO aK y.f.1) (aO aK y.f.2.1),az aJ y.f.2.2])).run prog w=.ok (aD (decide (x.t=y.f))) w:=λw=>Hd x.t y.f hx.t.bu hy.f.bu w
 have a4:=h1.c4;have a5:=h1.c5;have b2:=h2.c2;have b3:=h2.c3;have hb0:=Below.refl w.heap.size w;generalize aO aK x.t.1=X1 at*;generalize aO aK x.t.2.1=X2 at*;generalize aO aK y.f.1=Y1 at*;generalize aO aK y.f.2.1=Y2 at*;generalize decide (x.t=y.f)=B at*;generalize x.t.2.2=X3 at*;generalize y.f.2.2=Y3 at*;clear h1 h2 hx hy
 go_enter func167,ntmps167
 go_wp2_with fail
 go_quiet (fail)
 go_wp2_with fail
 go_ret
 exact⟨rfl,DR hb0 _⟩
def gK(P:Nat->Bool):List Nat->Nat->Int
 |[],_=> -1
 |b::r,k=>if P b then(k:Int) else gK P r (k+1)
def ib(P:Nat->Bool)(l:List Nat):Int:=gK P l 0
theorem xG{α:Type}{l:List α}{b:α}(h:l[k]?=some b):l.drop k=b::l.drop (k+1):=by
 obtain⟨hk,e⟩:=cG.1 h;rw[uC hk,e]
theorem amM(P:Nat->Bool)(bl:List Nat)(g lo cap s:Nat)(w:aM)(hn:bl.length<=85000000)
  (HV:Hid (∀(i:Nat) b,bl[i]?=some b->w.cell? ⟨g,lo+i,none⟩=some (aH (some ⟨b,0,none⟩))))
  (HC:Hid (∀b∈bl,∀w',aj w w'->ak 167 #[aH (some ⟨s,0,none⟩),aH (some ⟨b,0,none⟩)] w' λr w''=>r=aL (aD (P b))/\aj w' w'')):
  ak 166 #[aG (some ⟨g,lo,none⟩) bl.length cap,.func (.func 167) #[aH (some ⟨s,0,none⟩)] #[]] w λe w'=>e=aL (az aJ (ib P bl))/\aj w w':=by
 go_enter func166,ntmps166
 have HS:Hid (gK P (bl.drop 0) 0=ib P bl):=rfl
 go_wp2_with fail
 go_loopg [8] bl.length (λm iv wr=>∃k:Nat,k+m=bl.length/\iv=az aJ k/\Hid (aj w wr/\gK P (bl.drop k) k=ib P bl))
 case atStart=>exact⟨0,aa,rfl,Below.refl _ _,HS.out⟩
 case round=>
  obtain⟨k,hkn,rfl,HB⟩:=hrel;clear HS;by_cases hlt:k<bl.length
  .obtain⟨b,hb⟩:∃b,bl[k]?=some b:=⟨_,bo hlt⟩;have c0:=HV.out k b hb;have eK:g<w.heap.size:=lt_of_cell c0;have c1:=aS HB.out.1 c0 eK;have jm:Hid (ak 167 #[aH (some ⟨s,0,none⟩),aH (some ⟨b,0,none⟩)] wr λr' w''=>r'=aL (aD (P b))/\aj wr w''):=HC.out b (bT hb) wr HB.out.1
   have iQ:Hid ((if P b then(k:Int) else gK P (bl.drop (k+1)) (k+1))=ib P bl):=by
    have:=HB.out.2;rw[xG hb] at this;exact this
   have gH:(k:Int)<(bl.length:Int):=aa
   clear c0 hb
   go_wp2_with fail
   refine jm.out.mono ?_;rintro e w5 ⟨rfl,bg⟩;have gJ:Hid (aj w w5):=HB.out.1.trans (bg.mono HB.out.1.size);clear jm bg c1;generalize P b=B at*;cases B
   .have HM:Hid (gK P (bl.drop (k+1)) (k+1)=ib P bl):=iQ.out;clear iQ
    go_wp2_with fail
    go_roundg (gk-1)
    case measure=>omega
    case rel=>exact⟨k+1,aa,ai,gJ.out,HM.out⟩
   .have HM:Hid ((k:Int)=ib P bl):=iQ.out;clear iQ
    go_wp2_with fail
    go_ret
    exact⟨by rw[<-HM.out];rfl,gJ.out⟩
  .have hk:k=bl.length:=aa
   subst hk;have HM:Hid ((-1:Int)=ib P bl):=by
    have:=HB.out.2;rw[Fz] at this;exact this
   clear HC HV
   go_wp2_with fail
   go_ret
   exact⟨by rw[<-HM.out];rfl,HB.out.1⟩
theorem amN(x y:PB){l m:Ge.Ln}(hx:LD x l)(hy:LD y m)(w:aM):
  ak 179 #[aC #[aA aK x.wa x.wb,aB aK x.sh],aC #[aA aK y.wa y.wb,aB aK y.sh]] w λr w'=>r=aL (aD (decide (gq x y=0)))/\aj w w':=by
 obtain⟨im,f1,hl⟩:=Ib hx hy;have HL:Hid (∀w,ak 101 #[aA aK x.wa x.wb,aA aK y.wa y.wb] w λe w'=>e=aL (aB aK im)/\w'=w):=hl
 have q:=uO f1 mF;have hc:decide (gq x y=0)=(FloatKind.f64.format.order im 0 == some .eq):=by
  rw[q,<-Ia hx hy];exact decide_eq_decide.2 yC
 rw[hc];clear hl q hc f1 hx hy;generalize x.wa=wa at*;generalize x.wb=wb at*;generalize x.sh=sh at*;generalize y.wa=kq at*;generalize y.wb=kz at*;generalize y.sh=sh' at*;have hb0:aj w ((w.alloc (.cells #[aA aK wa wb,aB aK sh] 122)).alloc (.cells #[aA aK kq kz,aB aK sh'] 122)):=(aw _ _).alloc af _
 go_enter func179,ntmps179
 go_wp2_with fail
 refine(HL.out _).mono ?_;rintro e w1 ⟨rfl,rfl⟩
 go_wp2_with fail
 go_ret
 exact⟨rfl,hb0⟩
theorem amO(cf:Nat->Nat->Int)(a:Nat)(r:List Nat)(g lo cap:Nat)(w:aM)(hn:r.length<=85000000)
  (HV:Hid (∀(i:Nat) b,(a::r)[i]?=some b->w.cell? ⟨g,lo+i,none⟩=some (aH (some ⟨b,0,none⟩))))
  (HC:Hid (∀b∈a::r,∀c∈a::r,∀w',aj w w'->ak 109 #[aH (some ⟨b,0,none⟩),aH (some ⟨c,0,none⟩)] w' λr w''=>r=aL (az aJ (cf b c))/\aj w' w'')):
  ak 213 #[aG (some ⟨g,lo,none⟩) (r.length+1) cap,.func (.func 109) #[] #[]] w λe w'=>e=aL (aH (some ⟨cL cf r a,0,none⟩))/\aj w w':=by
 have c0:=HV.out 0 a rfl;rw[rA] at c0;have eK:g<w.heap.size:=lt_of_cell c0
 go_enter func213,ntmps213
 go_wp2_with fail
 go_loopg [5,6] r.length (λm mv iv wr=>∃k:Nat,k+m=r.length/\iv=az aJ (k+1:Nat)/\mv=aH (some ⟨cL cf (r.take k) a,0,none⟩)/\Hid (aj w wr))
 case atStart=>exact⟨0,aa,rfl,rfl,Below.refl _ _⟩
 case round=>
  obtain⟨k,hkn,rfl,rfl,HB⟩:=hrel;by_cases hlt:k<r.length
  .obtain⟨b,hb⟩:∃b,r[k]?=some b:=⟨_,bo hlt⟩;have c1:=(HB.out.cell (p:=⟨g,lo+(k+1),none⟩) eK).trans (HV.out (k+1) b (by simpa using hb))
   have kU:b∈a::r:=bX _ (bT hb);have hmm:cL cf (r.take k) a∈a::r:=by
    rcases zG cf (r.take k) a with h|h
    .rw[h];simp
    .exact bX _ (rB h)
   have jm:Hid (ak 109 #[aH (some ⟨b,0,none⟩),aH (some ⟨cL cf (r.take k) a,0,none⟩)] wr λr' w''=>r'=aL (az aJ (cf b (cL cf (r.take k) a)))/\aj wr w''):=HC.out b kU _ hmm wr HB.out
   have iQ:Hid (cL cf (r.take (k+1)) a=if cf b (cL cf (r.take k) a)<0 then b else cL cf (r.take k) a):=by
    have htk:r.take (k+1)=r.take k++[b]:=by rw[jF,hb];rfl
    show cL cf (r.take (k+1)) a=_;rw[htk,ME]
   have gH:((k:Int)+1)<((r.length:Int)+1):=aa
   have hgr:g<wr.heap.size:=bW eK HB.out.size;clear c0 hb kU hmm;generalize cL cf (r.take k) a=M at*
   go_wp2_with fail
   refine jm.out.mono ?_;rintro e w5 ⟨rfl,bg⟩;have gJ:Hid (aj w w5):=HB.out.trans (bg.mono HB.out.size);have c5:=aS bg c1 hgr;clear jm bg c1;generalize cf b M=V at*;by_cases hV:V<0
   .have HM:Hid (cL cf (r.take (k+1)) a=b):=by rw[iQ.out,aV hV];rfl
    go_wp2_with fail
    go_roundg (gk-1)
    case measure=>omega
    case rel=>exact⟨k+1,aa,ai,by rw[HM.out],gJ⟩
   .have HM:Hid (cL cf (r.take (k+1)) a=M):=by rw[iQ.out,aQ hV];rfl
    have SC:decide (V<0)=false:=fY hV
    go_wp2_with fail
    go_roundg (gk-1)
    case measure=>omega
    case rel=>exact⟨k+1,aa,ai,by rw[HM.out],gJ⟩
  .have hk:k=r.length:=aa
   subst hk;rw[fO];clear HC HV
   go_wp2_with fail
   go_ret
   exact⟨rfl,HB.out⟩
theorem amP:(Tryz.prog.info? 177).map (λi=>i.size)=some 8:=ag
theorem amQ{a:Nat}(ha:∃c,w.heap[a]?=some (.cells c 177 (0,0)))(hb:∃c,w.heap[b]?=some (.cells c 177 (0,0))):
  (binOp .eql 175 (aH (some ⟨a,0,none⟩)) (aH (some ⟨b,0,none⟩))).run prog w=.ok (aD (b == a)) w:=by
 obtain⟨j,hj,hs⟩:=rp.1 amP;by_cases h:a=b
 .subst h;rw[run_eql_ptr_same w _ underlying175 hj];simp
 .obtain⟨ca,ha⟩:=ha;obtain⟨cb,hb⟩:=hb;rw[run_eql_ptr_other w underlying175 hj (by rw[hs];decide) (λe=>h (aZ Addr.block e)) ha hb]
  have:(b == a)=false:=by simpa using λe=>h e.symm
  rw[this]
theorem amR(v:Nat)(bl:List Nat)(g lo cap:Nat)(w:aM)(hn:bl.length<=85000000)
  (HV:Hid (∀(i:Nat) b,bl[i]?=some b->w.cell? ⟨g,lo+i,none⟩=some (aH (some ⟨b,0,none⟩))))
  (HK:Hid (∀b,b=v\/b∈bl->∃c,w.heap[b]?=some (.cells c 177 (0,0)))):
  ak 212 #[aG (some ⟨g,lo,none⟩) bl.length cap,aH (some ⟨v,0,none⟩)] w λe w'=>e=aL (az aJ (ib (λb=>b == v) bl))/\aj w w':=by
 go_enter func212,ntmps212
 have HS:Hid (gK (λb=>b == v) (bl.drop 0) 0=ib (λb=>b == v) bl):=rfl
 go_wp2_with fail
 go_loopg [8] bl.length (λm iv wr=>∃k:Nat,k+m=bl.length/\iv=az aJ k/\Hid (aj w wr/\gK (λb=>b == v) (bl.drop k) k=ib (λb=>b == v) bl))
 case atStart=>exact⟨0,aa,rfl,Below.refl _ _,HS.out⟩
 case round=>
  obtain⟨k,hkn,rfl,HB⟩:=hrel;clear HS;by_cases hlt:k<bl.length
  .obtain⟨b,hb⟩:∃b,bl[k]?=some b:=⟨_,bo hlt⟩;have c0:=HV.out k b hb;have eK:g<w.heap.size:=lt_of_cell c0;have c1:=aS HB.out.1 c0 eK;have iQ:Hid ((if b == v then(k:Int) else gK (λb=>b == v) (bl.drop (k+1)) (k+1))=ib (λb=>b == v) bl):=by
    have:=HB.out.2;rw[xG hb] at this;exact this
   have gH:(k:Int)<(bl.length:Int):=aa
   have hop:(binOp .eql 175 (aH (some ⟨v,0,none⟩)) (aH (some ⟨b,0,none⟩))).run prog wr=.ok (aD (b == v)) wr:=by
    obtain⟨cv,hcv⟩:=HK.out v (aU rfl);obtain⟨cb,hcb⟩:=HK.out b (aT (bT hb));exact amQ ⟨cv,(HB.out.1.block v (lt_of_heap hcv)).trans hcv⟩ ⟨cb,(HB.out.1.block b (lt_of_heap hcb)).trans hcb⟩
   clear c0 hb;generalize(b == v)=B at*;cases B
   .have HM:Hid (gK (λb=>b == v) (bl.drop (k+1)) (k+1)=ib (λb=>b == v) bl):=iQ.out
    clear iQ
    go_wp2_with (simp only[hop])
    go_roundg (gk-1)
    case measure=>omega
    case rel=>exact⟨k+1,aa,ai,HB.out.1,HM.out⟩
   .have HM:Hid ((k:Int)=ib (λb=>b == v) bl):=iQ.out
    clear iQ
    go_wp2_with (simp only[hop])
    go_ret
    exact⟨by rw[<-HM.out];rfl,HB.out.1⟩
  .have hk:k=bl.length:=aa
   subst hk;have HM:Hid ((-1:Int)=ib (λb=>b == v) bl):=by
    have:=HB.out.2;rw[Fz] at this;exact this
   clear HV
   go_wp2_with fail
   go_ret
   exact⟨by rw[<-HM.out];rfl,HB.out.1⟩
theorem amS(n:Nat)(hn:0<n)(hn':n<=85000000)(w:aM):
  ak 257 #[aG none 0 0,az aJ n] w λe w'=>∃cap,e=aL (aG (some ⟨w.heap.size,0,none⟩) 0 cap)/\w'.ownsRow w.heap.size 175 1 (aG (some ⟨w.heap.size,0,none⟩) 0 cap) 0 []/\aj w w':=by
 obtain⟨i0,hi0,hz0,hz1,hz2⟩:=info_parts BO;have AK:∀ty,(Builtin.append_ #[185,3] ty #[aG none 0 0,az aJ n]).run prog w=.ok (aG (some ⟨w.heap.size,0,none⟩) n (grownCap w n 0 175)) (w.drew.alloc (.cells (#[]++Builtin.zeroCells (Value.pointer none).cells n++Builtin.zeroCells (Value.pointer none).cells (grownCap w n 0 175-n)) 175)):=λty=>by
  have h:=Lib.run_append_grow_zeros w 185 3 ty 175 i0 (Value.pointer none) aJ aJ underlying185 underlying3 hi0 hz0 none 0 0 [] (run_firstCells_none w.drew i0.size 0 0 0) n hn aa aa aa (by rw[hz2];omega) (by rw[hz2,jD];exact growslice_fits aa aa)
  simpa using h
 go_enter func257,ntmps257
 go_wp2_with (at_builtin;refine Lib.wpList_append_run _ rfl _ _ _ _ rfl _ _ rfl rfl _ _ (AK _) ?_)
 go_ret
 have hcap:n<=grownCap w n 0 175:=grownCap_ge w _ _ _;have hcl:=grownCap_le_maxLen w n 0 175 (by unfold maxLen;omega)
 refine⟨_,rfl,⟨rfl,aT ⟨w.heap.size,grownCap w n 0 175,_,rfl,aY _,heap_alloc_new _ _,iA _,hcl,?_,?_⟩⟩,(aw _ _).drew⟩
 .simp[size_zeroCells];omega
 .simp
abbrev It:=Nat×Nat×List Nat
def iR(its:List It):List Nat:=its.flatMap (·.2.2)
def Ix(g:Nat)(it:It):aN:=aG (some ⟨g,it.1,none⟩) it.2.2.length it.2.1
theorem amT(its:List It)(g sb sc:Nat)(w:aM)(hN:0<(iR its).length)(hN':(iR its).length<=85000000)(hl:its.length<=100)
  (HS:Hid (∀(k:Nat) it,its[k]?=some it->w.cell? ⟨sb,k,none⟩=some (Ix g it)))
  (HV:Hid (∀it∈its,∀(i:Nat) b,it.2.2[i]?=some b->w.cell? ⟨g,it.1+i,none⟩=some (aH (some ⟨b,0,none⟩)))):
  ak 214 #[aG (some ⟨sb,0,none⟩) its.length sc] w λe w'=>∃lv,e=aL lv/\w'.ownsRow w.heap.size 175 1 lv (iR its).length (bA (iR its))/\aj w w':=by
 obtain⟨i0,hi0,hz0,hz1,hz2⟩:=info_parts BO;have HG:Hid (∀(n:Nat),0<n->n<=85000000->∀w,ak 257 #[aG none 0 0,az aJ n] w λe w'=>∃cap,e=aL (aG (some ⟨w.heap.size,0,none⟩) 0 cap)/\w'.ownsRow w.heap.size 175 1 (aG (some ⟨w.heap.size,0,none⟩) 0 cap) 0 []/\aj w w'):=amS
 have HT:Hid (∀(k:Nat)(it:It),its[k]?=some it->iR (its.take (k+1))=iR (its.take k)++it.2.2):=λk it h=>by
  have htk:its.take (k+1)=its.take k++[it]:=by rw[jF,h];rfl
  show(its.take (k+1)).flatMap (·.2.2)=(its.take k).flatMap (·.2.2)++it.2.2
  rw[htk,agO,nI,agf,qu]
 have ui:Hid (∀k,(iR (its.take k)).length<=(iR its).length):=λk=>by
  show((its.take k).flatMap (·.2.2)).length<=(its.flatMap (·.2.2)).length
  conv=>rhs;rw[<-Fw k its,agO,bY]
  omega
 go_enter func214,ntmps214
 go_wp2_with fail
 go_loopg [3,11] its.length (λm sv iv wr=>∃k:Nat,k+m=its.length/\iv=az aJ k/\sv=az aJ (iR (its.take k)).length/\w=wr)
 case atStart=>exact⟨0,aa,rfl,rfl,rfl⟩
 case round=>
  obtain⟨k,hkn,rfl,rfl,rfl⟩:=hrel;by_cases hlt:k<its.length
  .obtain⟨it,hit⟩:∃it,its[k]?=some it:=⟨_,bo hlt⟩;have c0:=HS.out k it hit;have hT:=HT.out k it hit;have hle:=ui.out (k+1);rw[hT,bY] at hle;obtain⟨o,c,bl⟩:=it;unfold Ix at c0;simp only at c0 hT hle;have gH:(k:Int)<(its.length:Int):=aa
   have S5:Hid ((iR (its.take (k+1))).length=(iR (its.take k)).length+bl.length):=by
    show _=_;rw[hT,bY]
   clear hT hit;generalize(iR (its.take k)).length=A at*;have hA:wrap64 ((A:Int)+(bl.length:Int))=((A+bl.length:Nat):Int):=by unfold wrap64;omega
   have lJ:¬(((A+bl.length:Nat):Int)<0):=aa
   go_wp2_with fail
   go_roundg (gk-1)
   case measure=>omega
   case rel=>exact⟨k+1,aa,ai,by rw[S5.out];simp,rfl⟩
  .have hk:k=its.length:=aa
   subst hk;rw[fO];generalize hNN:(iR its).length=N at*;have HNN:Hid ((iR its).length=N):=hNN;clear hNN
   go_wp2_with fail
   refine(HG.out N hN hN' _).mono ?_;rintro e w1 ⟨cap,rfl,EI,hb1⟩;have cK:Hid (w1.ownsRow w.heap.size 175 1 (aG (some ⟨w.heap.size,0,none⟩) 0 cap) (iR (its.take 0)).length (bA (iR (its.take 0)))/\aj w w1):=⟨EI,hb1⟩;clear EI hb1 HG
   go_wp2_with fail
   go_loopg [6,27] its.length (λm lv iv wr=>∃k:Nat,k+m=its.length/\iv=az aJ k/\Hid (wr.ownsRow w.heap.size 175 1 lv (iR (its.take k)).length (bA (iR (its.take k)))/\aj w wr))
   case atStart=>exact⟨0,aa,rfl,cK.out⟩
   case round=>
    obtain⟨k,hkn,rfl,HO⟩:=hrel;clear cK;by_cases hlt:k<its.length
    .obtain⟨it,hit⟩:∃it,its[k]?=some it:=⟨_,bo hlt⟩;have c0:=HS.out k it hit;have hT:=HT.out k it hit;have hle:=ui.out (k+1);rw[hT,bY] at hle;have hV:=HV.out it (bT hit);obtain⟨o,c,bl⟩:=it;unfold Ix at c0;simp only at c0 hT hle hV;have c1:=aS HO.out.2 c0 (lt_of_cell c0);have gH:(k:Int)<(its.length:Int):=aa
     obtain⟨jW,hb2⟩:=HO.out;have hbz:=hb2.size;have mS:Hid (iR (its.take (k+1))=iR (its.take k)++bl):=hT;have Cb:Hid (∀(i:Nat) b,bl[i]?=some b->wr.cell? ⟨g,o+i,none⟩=some (aH (some ⟨b,0,none⟩))):=λi b hb=>(hb2.cell (p:=⟨g,o+i,none⟩) (lt_of_cell (hV i b hb))).trans (hV i b hb)
     clear hT hit c0 hV HO;generalize iR (its.take k)=A at*;cases bl with
     |nil=>
      have cV:Hid (wr.ownsRow w.heap.size 175 1 u6 (iR (its.take (k+1))).length (bA (iR (its.take (k+1))))/\aj w wr):=by
       show _/\_;rw[mS.out,qu];exact⟨jW,hb2⟩
      clear mS Cb
      go_wp2_with (at_builtin;refine aat rfl (.tmp 31) (.tmp 32) 185 rfl w.heap.size 175 i0 1 underlying185 hi0 u6 A.length (bA A) rfl jW (some ⟨g,o,none⟩) c rfl ?_)
      go_roundg (gk-1)
      case measure=>omega
      case rel=>exact⟨k+1,aa,ai,cV.out⟩
     |cons b0 br=>
      rw[dw] at hle;have hnw:∀(j:Nat)(u:aN),(bA (b0::br))[j]?=some u->wr.cell? (Addr.add ⟨g,o,none⟩ j)=some u:=λj u hj=>by
       unfold bA at hj;rw[iI] at hj;obtain⟨b',h1,h2⟩:=rp.1 hj;rw[<-h2];have e:Addr.add ⟨g,o,none⟩ j=⟨g,o+j,none⟩:=by simp[Addr.add]
       rw[e];exact Cb.out j b' h1
      have hone:∀u∈bA (b0::br),u.oneCell'=true:=by unfold bA;simp[Value.oneCell']
      have hpl:(bA (b0::br)).length=(br.length+1)*1:=by simp[bA]
      have HNW:Hid (∀(j:Nat)(u:aN),(bA (b0::br))[j]?=some u->wr.cell? (Addr.add ⟨g,o,none⟩ j)=some u):=hnw;have HON:Hid (∀u∈bA (b0::br),u.oneCell'=true):=hone;have Er:Hid ((bA (b0::br)).length=(br.length+1)*1):=hpl;clear hnw hone hpl Cb
      go_wp2_with (at_builtin;go_loud (refine wpList_append_lies _ rfl (.tmp 31) (.tmp 32) 185 rfl w.heap.size 175 i0 _ 1 8 underlying185 hi0 hz0 hz1 hz2 rfl ah u6 A.length (bA A) rfl jW ⟨g,o,none⟩ (br.length+1) c (bA (b0::br)) rfl Er.out HNW.out HON.out aa (by unfold maxLen;omega) aa hbz wr.heap.size rfl ?_);intro g' cap' w8 dM cI iN rN)
      have cV:Hid (w8.ownsRow w.heap.size 175 1 (aG (some ⟨g',0,none⟩) (A.length+(br.length+1)) cap') (iR (its.take (k+1))).length (bA (iR (its.take (k+1))))/\aj w w8):=by
       show _/\_;rw[mS.out,bY];refine⟨?_,hb2.grown cI hbz (λk hk=>(bn jW k hk).1)⟩
       have e:bA (A++b0::br)=bA A++bA (b0::br):=by simp[bA]
       rw[e];exact dM
      clear mS dM cI iN
      go_wp2_with fail
      go_roundg (gk-1)
      case measure=>omega
      case rel=>exact⟨k+1,aa,ai,cV.out⟩
    .have hk:k=its.length:=aa
     subst hk;have HF:=HO.out;rw[fO,HNN.out] at HF;have HFF:Hid (wr.ownsRow w.heap.size 175 1 u6 N (bA (iR its))/\aj w wr):=HF;clear HO HF HS HV HT ui
     go_wp2_with fail
     go_ret
     exact⟨u6,rfl,by rw[HNN.out];exact HFF.out⟩
def tI(Xs:List PB):Nat->List Nat->List Nat
 |_,[]=>[]
 |b,s::r=>(if gq (xi Xs s) (xi Xs b)=0 then[] else[s])++tI Xs s r
theorem aca(Xs:List PB):∀(l:List Nat)(b s:Nat),tI Xs b (l++[s])=tI Xs b l++(if gq (xi Xs s) (xi Xs (l.getLastD b))=0 then[] else[s])
 |[],b,s=>by simp[tI]
 |a::l,b,s=>by
  show _++tI Xs a (l++[s])=(_++tI Xs a l)++_;rw[aca Xs l a s,fH];cases l<;>rfl
theorem EJ(Xs:List PB):∀(l:List Nat)(b:Nat),∀s∈tI Xs b l,s∈l
 |[],_,s,h=>by simp[tI] at h
 |a::l,b,s,h=>by
  rcases dv.1 h with h|h
  .split at h
   .simp at h
   .have:s=a:=by simpa using h
    rw[this];simp
  .exact bX _ (EJ Xs l a s h)
theorem S6(Xs:List PB):∀(l:List Nat)(b:Nat),(tI Xs b l).length<=l.length
 |[],_=>by simp[tI]
 |a::l,b=>by
  have:=S6 Xs l a;show(_++tI Xs a l).length<=_;rw[bY,dw];split<;>simp<;>omega
def eo(Xs:List PB)(A:List Nat):List Nat:=tI Xs (A.getLastD 0) A
def lQ(Xs:List PB)(T:List Nat):Nat:=cL (λi j=>cE (xi Xs i).f (xi Xs j).f) T.tail (T.headD 0)
def vG(Xs:List PB)(T:List Nat):Nat:=(ib (λj=>j == lQ Xs T) T).toNat
def ez(Xs:List PB)(A:List Nat):List Nat:=(eo Xs A).drop (vG Xs (eo Xs A))++(eo Xs A).take (vG Xs (eo Xs A))
theorem MU{P Q:Nat->Bool}{f:Nat->Nat}:∀(l:List Nat)(k:Nat),(∀x∈l,P (f x)=Q x)->gK P (l.map f) k=gK Q l k
 |[],_,_=>rfl
 |a::l,k,h=>by
  show(if P (f a) then(k:Int) else gK P (l.map f) (k+1))=if Q a then(k:Int) else gK Q l (k+1)
  rw[h a af,MU l (k+1) λx hx=>h x (bX _ hx)]
theorem acb{P:Nat->Bool}:∀(l:List Nat)(k:Nat),(∃x∈l,P x=true)->(k:Int)<=gK P l k/\gK P l k<(k:Int)+l.length
 |[],_,h=>by obtain⟨x,hx,_⟩:=h;simp at hx
 |a::l,k,h=>by
  show(k:Int)<=(if P a then(k:Int) else gK P l (k+1))/\(if P a then(k:Int) else gK P l (k+1))<(k:Int)+(a::l).length
  by_cases ha:P a=true
  .rw[aV ha,dw];omega
  .rw[aQ ha,dw];obtain⟨x,hx,hp⟩:=h;have:=acb l (k+1) ⟨x,(bU.1 hx).resolve_left (λe=>ha (e▸hp)),hp⟩
   omega
theorem o6{e:TypeId}{bl:List Nat}(h:w.ownsRow base e 1 v n (bA bl))(hne:bl≠[]):
  ∃gT cT,v=aG (some ⟨gT,0,none⟩) n cT/\base<=gT/\gT<w.heap.size/\n<=cT/\cT<=maxLen/\n=bl.length/\∀(i b:Nat),bl[i]?=some b->w.cell? ⟨gT,0+i,none⟩=some (aH (some ⟨b,0,none⟩)):=by
 obtain⟨h1,h2⟩:=h;have hl:(bA bl).length=bl.length:=by simp[bA]
 rcases h2 with⟨_,h0⟩|⟨g,cap,cur,hv,hg,hb,hc,hm,hs,ht⟩
 .rw[h0,wq,hl] at h1;exact absurd (iU.1 h1) hne
 .refine⟨g,cap,hv,hg,lt_of_heap hb,hc,hm,aa,λi b hi=>?_⟩
  have hp:(bA bl)[i]?=some (aH (some ⟨b,0,none⟩)):=by unfold bA;rw[iI,hi];rfl
  rw[<-ht,kQ] at hp;split at hp
  .rw[jD];unfold World.cell?;rw[hb];simpa using hp
  .cases hp
theorem amX(bs:List Nat)(Xs:List PB)(hB:BD Xs)(g:Nat)(mk:Nat->Bool)(ow:Nat->Option Nat)(w:aM)(hW:SW g bs Xs mk ow w)(A:List Nat)(Iy:0<A.length)(ny:A.length<=85000000)(hA:∀a∈A,a<bs.length)(g0 lo cap:Nat)
  (HV:Hid (∀(i:Nat) a,A[i]?=some a->w.cell? ⟨g0,lo+i,none⟩=some (aH (some ⟨bx bs a,0,none⟩))))(hT:eo Xs A≠[])(T:List Nat)(bM R:Nat)(S7:eo Xs A=T)(xD:R<T.length)(lR:T.length<=85000000)(qO:Hid (ez Xs A=T.drop R++T.take R))
  (HM:Hid (∀gT cT wr,wr.ownsRow w.heap.size 175 1 (aG (some ⟨gT,0,none⟩) T.length cT) T.length (bA (T.map (bx bs)))->aj w wr->ak 213 #[aG (some ⟨gT,0,none⟩) T.length cT,.func (.func 109) #[] #[]] wr λe w''=>e=aL (aH (some ⟨bM,0,none⟩))/\aj wr w''))
  (HX:Hid (∀gT cT wr,wr.ownsRow w.heap.size 175 1 (aG (some ⟨gT,0,none⟩) T.length cT) T.length (bA (T.map (bx bs)))->aj w wr->ak 212 #[aG (some ⟨gT,0,none⟩) T.length cT,aH (some ⟨bM,0,none⟩)] wr λe w''=>e=aL (az aJ R)/\aj wr w'')):
  ak 168 #[aG (some ⟨g0,lo,none⟩) A.length cap] w λe w'=>∃lv,e=aL lv/\w'.ownsRow w.heap.size 175 1 lv (ez Xs A).length (bA ((ez Xs A).map (bx bs)))/\aj w w':=by
 obtain⟨i0,hi0,hz0,hz1,hz2⟩:=info_parts BO;have hlen:=hW.len;have S8:Hid (∀a∈A,jy w (bx bs a) (xi Xs a)):=λa ha=>hW.rb.at (by rw[<-hlen];exact hA a ha)
 have S9:Hid (∀a∈A,∃l,LD (xi Xs a) l):=λa ha=>hB.ld _ (iH (by rw[<-hlen];exact hA a ha))
 obtain⟨z,hz⟩:∃z,A[A.length-1]?=some z:=⟨_,bo aa⟩
 have hzl:A.getLastD 0=z:=by
  rw[nK,pG,hz];rfl
 have c0:=HV.out _ z hz;have hzA:z∈A:=bT hz;have hw1:IntKind.i64.wrap ((A.length:Int)-1)=((A.length-1:Nat):Int):=by rw[IntKind.wrap_i64];omega
 have cK:Hid (w.ownsRow w.heap.size 175 1 (aG none 0 0) (tI Xs z (A.take 0)).length (bA ((tI Xs z (A.take 0)).map (bx bs)))/\aj w w):=⟨World.ownsRow_nil _ _ _ _,Below.refl _ _⟩
 go_enter func168,ntmps168
 go_wp2_with fail
 go_loopg [3,4,16] A.length (λm lv pv iv wr=>∃k:Nat,k+m=A.length/\iv=az aJ k/\pv=aH (some ⟨bx bs ((A.take k).getLastD z),0,none⟩)/\Hid (wr.ownsRow w.heap.size 175 1 lv (tI Xs z (A.take k)).length (bA ((tI Xs z (A.take k)).map (bx bs)))/\aj w wr))
 case atStart=>exact⟨0,aa,rfl,rfl,cK.out⟩
 case round=>
  obtain⟨k,hkn,rfl,rfl,HO⟩:=hrel;clear cK;by_cases hlt:k<A.length
  .obtain⟨s,hs⟩:∃s,A[k]?=some s:=⟨_,bo hlt⟩;obtain⟨jW,hb2⟩:=HO.out;have hsA:s∈A:=bT hs;have hpA:(A.take k).getLastD z∈A:=by
    rw[nK];cases hh:(A.take k).getLast? with
    |none=>exact hzA
    |some y=>exact rB (sK hh)
   have c1:=(hb2.cell (p:=⟨g0,lo+k,none⟩) (lt_of_cell (HV.out k s hs))).trans (HV.out k s hs);have hS:=(S8.out s hsA).below hb2;have hP:=(S8.out _ hpA).below hb2;have s0:=hS.c0;have s1:=hS.c1;have p0:=hP.c0;have p1:=hP.c1;obtain⟨l1,Bc⟩:=S9.out s hsA;obtain⟨l2,hl2⟩:=S9.out _ hpA;have Hl:Hid (∀w',ak 179 #[aC #[aA aK (xi Xs s).wa (xi Xs s).wb,aB aK (xi Xs s).sh],aC #[aA aK (xi Xs ((A.take k).getLastD z)).wa (xi Xs ((A.take k).getLastD z)).wb,aB aK (xi Xs ((A.take k).getLastD z)).sh]] w' λr w''=>r=aL (aD (decide (gq (xi Xs s) (xi Xs ((A.take k).getLastD z))=0)))/\aj w' w''):=λw'=>amN _ _ Bc hl2 w'
   have htk:A.take (k+1)=A.take k++[s]:=by rw[jF,hs];rfl
   have HLL:Hid ((A.take (k+1)).getLastD z=s):=by
    show(A.take (k+1)).getLastD z=s;rw[htk];simp
   have mS:Hid (tI Xs z (A.take (k+1))=tI Xs z (A.take k)++(if decide (gq (xi Xs s) (xi Xs ((A.take k).getLastD z))=0)=true then[] else[s])):=by
    show tI Xs z (A.take (k+1))=_;rw[htk,aca];simp only[yF]
   have lR:=S6 Xs (A.take k) z;rw[iB] at lR;have hbz:=hb2.size;have gH:(k:Int)<(A.length:Int):=aa
   have hsz:bx bs s<wr.heap.size:=lt_of_cell s0;have nj:bx bs ((A.take k).getLastD z)<wr.heap.size:=lt_of_cell p0;have qW:aj wr wr.drew:=(Below.refl _ _).drew;have uj:Hid (wr.ownsRow w.heap.size 175 1 u3 (tI Xs z (A.take k)).length (bA ((tI Xs z (A.take k)).map (bx bs)))):=jW;have jx:Hid (aj w wr):=hb2;clear hS hP Bc hl2 htk hs HO jW hb2 c0 hz hw1;generalize hbb:bx bs s=bS at*;generalize bx bs ((A.take k).getLastD z)=bP at*;generalize decide (gq (xi Xs s) (xi Xs ((A.take k).getLastD z))=0)=B at*;generalize(xi Xs s).wa=X1 at*;generalize(xi Xs s).wb=X2 at*;generalize(xi Xs s).sh=X3 at*;generalize(xi Xs ((A.take k).getLastD z)).wa=Y1 at*;generalize(xi Xs ((A.take k).getLastD z)).wb=Y2 at*;generalize(xi Xs ((A.take k).getLastD z)).sh=Y3 at*;generalize tI Xs z (A.take k)=T at*
   go_wp2_with fail
   go_region_held3 (λw'=>w'.cell? ⟨bS,0,none⟩=some (aA aK X1 X2)/\w'.cell? ⟨bS,1,none⟩=some (aB aK X3)/\w'.cell? ⟨bP,0,none⟩=some (aA aK Y1 Y2)/\w'.cell? ⟨bP,1,none⟩=some (aB aK Y3)) (go_keep) ((go_at_call 179;refine(Hl.out _).mono ?_;rintro e w5 ⟨rfl,bg⟩;have oa:aj wr w5:=qW.trans bg;have e0:=aS oa s0 hsz;have e1:=aS oa s1 hsz;have e2:=aS oa p0 nj;have e3:=(aS oa p1 nj)))
   all_goals
    have gJ:Hid (aj w w5):=jx.out.trans (oa.mono hbz);have eT:w5.ownsRow w.heap.size 175 1 u3 T.length (bA (T.map (bx bs))):=bB uj.out λk hk=>oa.block k (bn uj.out k hk).2
    have Em:=gJ.out.size;clear e0 e1 e2 e3 s0 s1 p0 p1 qW oa uj jx Hl;cases B
    .have zP:Hid (tI Xs z (A.take (k+1))=T++[s]):=mS.out;have hnb:(w5.alloc (.cells #[aH (some ⟨bS,0,none⟩)] 175)).heap[w5.heap.size]?=some (.cells #[aH (some ⟨bS,0,none⟩)] 175 (0,0)):=heap_alloc_new _ _;have iw:(w5.alloc (.cells #[aH (some ⟨bS,0,none⟩)] 175)).ownsRow w.heap.size 175 1 u3 T.length (bA (T.map (bx bs))):=bB eT λk hk=>Below.heap_alloc _ _ _ (bn eT k hk).2
     have rF:=eT;clear mS eT
     go_wp2_with (at_builtin;refine wpList_append_lies _ rfl (.tmp 32) (.tmp 34) 185 rfl w.heap.size 175 i0 _ 1 8 underlying185 hi0 hz0 hz1 hz2 rfl ah u3 T.length (bA (T.map (bx bs))) rfl iw ⟨w5.heap.size,0,none⟩ 1 1 [aH (some ⟨bS,0,none⟩)] rfl rfl (World.news_of_block (cs:= #[aH (some ⟨bS,0,none⟩)]) (t:=175) (fr:=(0,0)) hnb) (by simp[Value.oneCell']) ah (by unfold maxLen;omega) aa (by simp;omega) (w5.heap.size+1) af ?_;intro g' cap' w8 dM cI iN rN)
     have cV:Hid (w8.ownsRow w.heap.size 175 1 (aG (some ⟨g',0,none⟩) (T.length+1) cap') (tI Xs z (A.take (k+1))).length (bA ((tI Xs z (A.take (k+1))).map (bx bs)))/\aj w w8):=by
      show _/\_;rw[zP.out,bY,jC];refine⟨?_,(gJ.out.alloc Em _).grown cI (by simp;omega) (λk hk=>(bn rF k hk).1)⟩
      have e:bA (T.map (bx bs)++[s].map (bx bs))=bA (T.map (bx bs))++[aH (some ⟨bS,0,none⟩)]:=by simp[bA,hbb]
      rw[e];exact dM
     have qf:Hid (bx bs s=bS):=hbb;clear dM cI iN hnb iw rF zP hbb
     go_wp2_with fail
     go_roundg (gk-1)
     case measure=>omega
     case rel=>exact⟨k+1,aa,ai,by rw[HLL.out,qf.out],cV.out⟩
    .have zP:Hid (tI Xs z (A.take (k+1))=T):=by
      have:=mS.out;rw[aV rfl,qu] at this;exact this
     have cV:Hid (w5.ownsRow w.heap.size 175 1 u3 (tI Xs z (A.take (k+1))).length (bA ((tI Xs z (A.take (k+1))).map (bx bs)))/\aj w w5):=by
      show _/\_;rw[zP.out];exact⟨eT,gJ.out⟩
     have qf:Hid (bx bs s=bS):=hbb;clear mS eT hbb zP
     go_wp2_with fail
     go_roundg (gk-1)
     case measure=>omega
     case rel=>exact⟨k+1,aa,ai,by rw[HLL.out,qf.out],cV.out⟩
  .have hk:k=A.length:=aa
   subst hk;have jW:=HO.out.1;have jx:Hid (aj w wr):=HO.out.2;rw[fO] at jW;have hTd:tI Xs z A=T:=by rw[<-S7];unfold eo;rw[hzl]
   rw[hTd] at jW;obtain⟨gT,cT,rfl,hgT,eK,hcT,hcm,hd1,hd2⟩:=o6 jW (by rw[<-S7];simpa using hT)
   clear hd1 hd2;have uj:Hid (wr.ownsRow w.heap.size 175 1 (aG (some ⟨gT,0,none⟩) T.length cT) T.length (bA (T.map (bx bs)))):=jW;have atL:cT<=9223372036854775807:=by unfold maxLen at hcm;omega
   have hMc:=HM.out gT cT wr uj.out jx.out;have Iz:Hid (ak 213 #[aG (some ⟨gT,0,none⟩) T.length cT,.func (.func 109) #[] #[]] wr λe w''=>e=aL (aH (some ⟨bM,0,none⟩))/\aj wr w''):=hMc
   clear HM hMc jW HO S8 S9 HV hW hB hTd S7 hcm c0 hz hw1 hT hA hzA hzl
   go_wp2_with fail
   refine Iz.out.mono ?_;rintro e w1 ⟨rfl,hb1⟩;have EI:w1.ownsRow w.heap.size 175 1 (aG (some ⟨gT,0,none⟩) T.length cT) T.length (bA (T.map (bx bs))):=bB uj.out λk hk=>hb1.block k (bn uj.out k hk).2
   have za:aj w w1:=jx.out.trans (hb1.mono jx.out.size);have HXc:Hid (ak 212 #[aG (some ⟨gT,0,none⟩) T.length cT,aH (some ⟨bM,0,none⟩)] w1 λe w''=>e=aL (az aJ R)/\aj w1 w''):=HX.out gT cT w1 EI za
   have Ta:Hid (w1.ownsRow w.heap.size 175 1 (aG (some ⟨gT,0,none⟩) T.length cT) T.length (bA (T.map (bx bs)))):=EI;have zH:Hid (aj w w1):=za;clear HX Iz EI za uj jx hb1
   go_wp2_with fail
   refine HXc.out.mono ?_;rintro e w2 ⟨rfl,hb2⟩;have uj:Hid (w2.ownsRow w.heap.size 175 1 (aG (some ⟨gT,0,none⟩) T.length cT) T.length (bA (T.map (bx bs)))):=bB Ta.out λk hk=>hb2.block k (bn Ta.out k hk).2
   have jx:Hid (aj w w2):=zH.out.trans (hb2.mono zH.out.size);clear HXc Ta zH hb2;have HCo:Hid (∀w' sb,aj w2 w'->w'.cell? ⟨sb,0,none⟩=some (aG (some ⟨gT,R,none⟩) (T.length-R) (cT-R))->w'.cell? ⟨sb,1,none⟩=some (aG (some ⟨gT,0,none⟩) R cT)->ak 214 #[aG (some ⟨sb,0,none⟩) 2 2] w' λe w''=>∃lv,e=aL lv/\w''.ownsRow w'.heap.size 175 1 lv (ez Xs A).length (bA ((ez Xs A).map (bx bs)))/\aj w' w''):=λw' sb hb c0 c1=>by
    obtain⟨o8,lS,hv,_,Y5,_,_,_,hcell⟩:=o6 uj.out (by intro h;have:=aZ List.length h;simp at this;rw[this] at xD;simp at xD)
    have hgg:o8=gT/\lS=cT:=by
     injection hv with h1 _ h3;injection h1 with h1;injection h1 with h1;exact⟨h1.symm,h3.symm⟩
    obtain⟨rfl,rfl⟩:=hgg;have Tb:iR [(R,lS-R,(T.drop R).map (bx bs)),(0,lS,(T.take R).map (bx bs))]=(ez Xs A).map (bx bs):=by
     rw[qO.out,jC];simp[iR]
    have Bc:((T.drop R).map (bx bs)).length=T.length-R:=af
    have hl2:((T.take R).map (bx bs)).length=R:=by simp;omega
    have hcl:((ez Xs A).map (bx bs)).length=T.length:=by
     rw[qO.out,ia,bY];simp;omega
    have hk:=amT [(R,lS-R,(T.drop R).map (bx bs)),(0,lS,(T.take R).map (bx bs))] o8 sb 2 w' (by rw[Tb,hcl];omega) (by rw[Tb,hcl];exact lR) af
     (λk it hk=>by
      rcases k with _|_|k
      .have e:it=(R,lS-R,(T.drop R).map (bx bs)):=by simpa using hk.symm
       rw[e];unfold Ix;simp only[Bc];exact c0
      .have e:it=(0,lS,(T.take R).map (bx bs)):=by simpa using hk.symm
       rw[e];unfold Ix;simp only[hl2];exact c1
      .simp at hk)
     (λit hit i b hi=>by
      have hgl:o8<w2.heap.size:=Y5;rcases bU.1 hit with e|hit
      .rw[e] at hi⊢;simp only at hi⊢;have h2:=hcell (R+i) b (by rw[<-hi,List.map_drop,OW])
       rw[jD] at h2;exact(aS hb h2 hgl)
      .have e:it=(0,lS,(T.take R).map (bx bs)):=by simpa using hit
       rw[e] at hi⊢;simp only at hi⊢;have h2:=hcell i b (by
        rw[VX,kQ] at hi;split at hi
        .exact hi
        .cases hi)
       exact(aS hb h2 hgl))
    rw[Tb,ia] at hk;exact hk
   have Cc:(0:Int)<=(R:Int):=aa
   have hRi:(R:Int)<=(T.length:Int):=aa
   have xH:(T.length:Int)<=(cT:Int):=aa
   have hRc:(R:Int)<=(cT:Int):=aa
   have hcR:¬cT=R:=aa
   have MS:Hid (∀o,aj w2 (w2.alloc o).drew):=λo=>((Below.refl _ _).alloc (aY _) o).drew
   have HBD:Hid (aj w2 w2.drew):=(Below.refl _ _).drew;have Tc:aj w2 (w2.alloc (.cells #[aG (some ⟨gT,R,none⟩) (T.length-R) (cT-R),aG (some ⟨gT,0,none⟩) R cT] 185)).drew:=(aw _ _).drew;have hcc:=HCo.out _ w2.heap.size Tc (cell_of (w:=(w2.alloc (.cells #[aG (some ⟨gT,R,none⟩) (T.length-R) (cT-R),aG (some ⟨gT,0,none⟩) R cT] 185)).drew) (heap_alloc_new _ _) 0) (cell_of (w:=(w2.alloc (.cells #[aG (some ⟨gT,R,none⟩) (T.length-R) (cT-R),aG (some ⟨gT,0,none⟩) R cT] 185)).drew) (heap_alloc_new _ _) 1);have am1:=jx.out.size;have vv:Hid (ak 214 #[aG (some ⟨w2.heap.size,0,none⟩) 2 2] (w2.alloc (.cells #[aG (some ⟨gT,R,none⟩) (T.length-R) (cT-R),aG (some ⟨gT,0,none⟩) R cT] 185)).drew λe w''=>∃lv,e=aL lv/\w''.ownsRow w.heap.size 175 1 lv (ez Xs A).length (bA ((ez Xs A).map (bx bs)))/\aj w w''):=by
    refine hcc.mono ?_;rintro e w9 ⟨MV,rfl,Bt,ou⟩;exact⟨MV,rfl,xk Bt (by simp[World.drew];omega),jx.out.trans ((Tc.trans (ou.mono (by simp[World.drew]))).mono am1)⟩
   clear uj qO HCo hcc Tc MS HBD
   go_wp2_with fail
   go_region_held3 (λ_=>True) (go_keep) ((go_at_call 214;refine vv.out.mono ?_;rintro e w9 ⟨MV,rfl,Bt,ou⟩))
   all_goals
    have HF:Hid (w9.ownsRow w.heap.size 175 1 MV (ez Xs A).length (bA ((ez Xs A).map (bx bs)))/\aj w w9):=⟨Bt,ou⟩;clear Bt ou jx vv
    go_wp2_with fail
    go_ret
    exact⟨MV,rfl,HF.out⟩
theorem ack(Xs:List PB)(hT:T≠[]):lQ Xs T∈T:=by
 cases T with
 |nil=>exact absurd rfl hT
 |cons t0 tr=>
  unfold lQ;rcases zG (λi j=>cE (xi Xs i).f (xi Xs j).f) tr t0 with e|e
  .rw[show(t0::tr).tail=tr from rfl,show(t0::tr).headD 0=t0 from rfl,e];simp
  .exact bX _ e
theorem am2(Xs:List PB)(hT:T≠[]):ib (λj=>j == lQ Xs T) T=(vG Xs T:Int)/\vG Xs T<T.length:=by
 have Gy:=acb (P:=λj=>j == lQ Xs T) T 0 ⟨_,ack Xs hT,af⟩
 have e2:ib (λj=>j == lQ Xs T) T=gK (λj=>j == lQ Xs T) T 0:=rfl
 have e3:vG Xs T=(gK (λj=>j == lQ Xs T) T 0).toNat:=rfl
 rw[e2,e3];omega
theorem Td(Xs:List PB)(A:List Nat):∀j∈eo Xs A,j∈A:=λj hj=>EJ Xs A _ j hj
theorem Te(Xs:List PB)(A:List Nat):(eo Xs A).length<=A.length:=S6 Xs A _
theorem am3(bs:List Nat)(Xs:List PB)(hB:BD Xs)(g:Nat)(mk:Nat->Bool)(ow:Nat->Option Nat)(w:aM)(hW:SW g bs Xs mk ow w)(A:List Nat)(Iy:0<A.length)(ny:A.length<=85000000)(hA:∀a∈A,a<bs.length)(g0 lo cap:Nat)
  (HV:∀(i:Nat) a,A[i]?=some a->w.cell? ⟨g0,lo+i,none⟩=some (aH (some ⟨bx bs a,0,none⟩)))(hT:eo Xs A≠[]):
  ak 168 #[aG (some ⟨g0,lo,none⟩) A.length cap] w λe w'=>∃lv,e=aL lv/\w'.ownsRow w.heap.size 175 1 lv (ez Xs A).length (bA ((ez Xs A).map (bx bs)))/\aj w w':=by
 have hlen:=hW.len;have qH:∀j∈eo Xs A,j<bs.length:=λj hj=>hA j (Td Xs A j hj)
 have lR:(eo Xs A).length<=85000000:=fN (Te Xs A) ny;have hlm:=ack Xs hT;obtain⟨hr1,hr2⟩:=am2 Xs hT;refine amX bs Xs hB g mk ow w hW A Iy ny hA g0 lo cap HV hT (eo Xs A) (bx bs (lQ Xs (eo Xs A))) (vG Xs (eo Xs A)) rfl hr2 lR rfl ?_ ?_
 .intro gT cT wr ho hb;generalize eo Xs A=T at*;obtain⟨o8,lS,hv,_,eK,_,_,_,hcell⟩:=o6 ho (by intro h;exact hT (uA.1 h))
  have hgg:o8=gT/\lS=cT:=by
   injection hv with h1 _ h3;injection h1 with h1;injection h1 with h1;exact⟨h1.symm,h3.symm⟩
  obtain⟨rfl,rfl⟩:=hgg;obtain⟨t0,tr,rfl⟩:∃t0 tr,T=t0::tr:=by
   cases T with
   |nil=>exact absurd rfl hT
   |cons a r=>exact⟨a,r,rfl⟩
  have hR:=hW.rb.below hb;have hm:=amO (λb b'=>cE (xi Xs (bs.idxOf b)).f (xi Xs (bs.idxOf b')).f) (bx bs t0) (tr.map (bx bs)) o8 0 lS wr (by rw[ia];simp only[dw] at lR;omega)
   (λi b hi=>hcell i b hi)
   (λb h1 c h2 w'' hw=>by
    have key:∀b,b∈bx bs t0::tr.map (bx bs)->∃j,j<bs.length/\b=bx bs j:=λb hb=>by
     have hb2:b∈(t0::tr).map (bx bs):=hb;obtain⟨j,hj,rfl⟩:=bQ.1 hb2;exact⟨j,qH j hj,rfl⟩
    obtain⟨j1,q1,rfl⟩:=key b h1;obtain⟨j2,q2,rfl⟩:=key c h2;have ED:=hR.below hw;rw[og hW.nd q1,og hW.nd q2];refine(Sv _ _ (hB.v _ (iH (by rw[<-hlen];exact q1))) (hB.v _ (iH (by rw[<-hlen];exact q2))) _ _ w'' (ED.at (by rw[<-hlen];exact q1)) (ED.at (by rw[<-hlen];exact q2))).mono ?_
    rintro e w3 ⟨rfl,hb3,_⟩;exact⟨rfl,hb3⟩)
  have e1:cL (λb b'=>cE (xi Xs (bs.idxOf b)).f (xi Xs (bs.idxOf b')).f) (tr.map (bx bs)) (bx bs t0)=bx bs (lQ Xs (t0::tr)):=by
   unfold lQ;refine Ih _ _ λj hj k hk=>?_
   simp only[og hW.nd (qH j hj),og hW.nd (qH k hk)]
  rw[e1,ia] at hm;exact hm
 .intro gT cT wr ho hb;generalize eo Xs A=T at*;obtain⟨o8,lS,hv,_,eK,_,_,_,hcell⟩:=o6 ho (by intro h;exact hT (uA.1 h))
  have hgg:o8=gT/\lS=cT:=by
   injection hv with h1 _ h3;injection h1 with h1;injection h1 with h1;exact⟨h1.symm,h3.symm⟩
  obtain⟨rfl,rfl⟩:=hgg;have hm:=amR (bx bs (lQ Xs T)) (T.map (bx bs)) o8 0 lS wr (by rw[ia];exact lR) (λi b hi=>hcell i b hi) (λb hb'=>by
   have hbj:∃j,j<bs.length/\b=bx bs j:=by
    rcases hb' with rfl|hb'
    .exact⟨_,qH _ hlm,rfl⟩
    .obtain⟨j,hj,rfl⟩:=bQ.1 hb';exact⟨j,qH j hj,rfl⟩
   obtain⟨j,hj,rfl⟩:=hbj;exact⟨_,(hb.block _ (hW.lt (rZ hj))).trans (hW.side j hj)⟩)
  have e1:ib (λb=>b == bx bs (lQ Xs T)) (T.map (bx bs))=ib (λj=>j == lQ Xs T) T:=MU _ _ λx hx=>by
   by_cases e:x=lQ Xs T
   .rw[e];simp
   .have h1:(x == lQ Xs T)=false:=by simpa using e
    have h2:(bx bs x == bx bs (lQ Xs T))=false:=by simpa using λh=>e (S3 hW.nd (qH x hx) (qH _ hlm) h)
    rw[h1,h2]
  rw[e1,hr1,ia] at hm;exact hm
def kJ(Xs:List PB)(s j:Nat):Bool:=decide ((xi Xs s).t=(xi Xs j).f)
def jd(Xs:List PB)(O:List Nat)(s:Nat):Int:=ib (kJ Xs s) O
def j5(Xs:List PB)(p:List Nat×List (List Nat))(s:Nat):List Nat×List (List Nat):=
 if 0<=jd Xs (p.1++[s]) s then((p.1++[s]).take (jd Xs (p.1++[s]) s).toNat,p.2++[ez Xs ((p.1++[s]).drop (jd Xs (p.1++[s]) s).toNat)]) else(p.1++[s],p.2)
def cP(Xs:List PB)(W:List Nat):List Nat×List (List Nat):=W.foldl (j5 Xs) ([],[])
def cJ(Xs:List PB)(W:List Nat):List (List Nat):=(cP Xs W).2
theorem zQ(Xs:List PB)(W:List Nat)(s:Nat):cP Xs (W++[s])=j5 Xs (cP Xs W) s:=by unfold cP;rw[JX];rfl
theorem acm:(Tryz.prog.info? 185).map (λi=>(i.zero,i.size,i.bytes))=some (some (aG none 0 0),1,24):=ag
structure RI(bs:List Nat)(w:aM)(lo lr:aN)(O:List Nat)(Rs:List (List Nat))(rv:List aN)(wr:aM):Prop where
 oo:wr.ownsRow w.heap.size 175 1 lo O.length (bA (O.map (bx bs)))
 ro:wr.ownsRow w.heap.size 185 1 lr rv.length rv
 len:rv.length=Rs.length
 ring:∀(i:Nat) v r,rv[i]?=some v->Rs[i]?=some r->wr.ownsRow w.heap.size 175 1 v r.length (bA (r.map (bx bs)))/\∀k,v.ownBlock=some k->lo.ownBlock≠some k/\lr.ownBlock≠some k
 ne:∀k,lo.ownBlock=some k->lr.ownBlock≠some k
 below:aj w wr
theorem RI.keep{Rs:List (List Nat)}{rv:List aN}(h:RI bs w lo lr O Rs rv wr)(hb:aj wr w'):RI bs w lo lr O Rs rv w':=
 ⟨bB h.oo λk hk=>hb.block k (bn h.oo k hk).2,bB h.ro λk hk=>hb.block k (bn h.ro k hk).2,h.len,λi v r h1 h2=>⟨bB (h.ring i v r h1 h2).1 λk hk=>hb.block k (bn (h.ring i v r h1 h2).1 k hk).2,(h.ring i v r h1 h2).2⟩,h.ne,h.below.trans (hb.mono h.below.size)⟩
theorem RI.am4{Rs:List (List Nat)}{rv:List aN}(h:RI bs w lo lr O Rs rv wr)(s:Nat)(o:Obj)(cI:(wr.alloc o).grownBy w8 lo.ownBlock)
  (dM:w8.ownsRow w.heap.size 175 1 (aG (some ⟨g',0,none⟩) (O.length+1) cap') (O.length+1) (bA (O.map (bx bs))++[aH (some ⟨bx bs s,0,none⟩)]))(hat:lo.ownBlock=some g'\/g'=wr.heap.size+1):
  RI bs w (aG (some ⟨g',0,none⟩) (O.length+1) cap') lr (O++[s]) Rs rv w8:=by
 have hold:∀k,k<wr.heap.size->lo.ownBlock≠some k->w8.heap[k]?=wr.heap[k]?:=λk hk hne=>(cI.block k (by simp;omega) (λe=>hne e.symm)).trans (Below.heap_alloc _ _ _ hk)
 refine⟨?_,bB h.ro λk hk=>hold k (bn h.ro k hk).2 (λe=>h.ne k e hk),h.len,λi v r h1 h2=>?_,λk hk=>?_,?_⟩
 .rw[jC,bY];have e:bA (O.map (bx bs)++[s].map (bx bs))=bA (O.map (bx bs))++[aH (some ⟨bx bs s,0,none⟩)]:=by simp[bA]
  rw[e];exact dM
 .obtain⟨k1,k2⟩:=h.ring i v r h1 h2;refine⟨bB k1 λk hk=>hold k (bn k1 k hk).2 (k2 k hk).1,λk hk=>⟨λe=>?_,(k2 k hk).2⟩⟩
  have e':g'=k:=by simpa[Value.ownBlock] using e
  subst e';rcases hat with hat|hat
  .exact(k2 _ hk).1 hat
  .have:=(bn k1 _ hk).2;omega
 .have e':g'=k:=by simpa[Value.ownBlock] using hk
  subst e';intro hr;rcases hat with hat|hat
  .exact h.ne _ hat hr
  .have:=(bn h.ro _ hr).2;omega
 .exact(h.below.alloc h.below.size _).grown cI (by have:=h.below.size;simp;omega) (λk hk=>(bn h.oo k hk).1)
theorem RI.am5{Rs:List (List Nat)}{rv:List aN}(h:RI bs w lo lr O Rs rv wr){r:List Nat}{B:Nat}(hv:wr.ownsRow B 175 1 v r.length (bA (r.map (bx bs))))(hB:w.heap.size<=B)(hlB:∀k,lo.ownBlock=some k\/lr.ownBlock=some k->k<B)(o:Obj)(cI:(wr.alloc o).grownBy w8 lr.ownBlock)
  (dM:w8.ownsRow w.heap.size 185 1 (aG (some ⟨g',0,none⟩) (rv.length+1) cap') (rv.length+1) (rv++[v]))(hat:lr.ownBlock=some g'\/g'=wr.heap.size+1):
  RI bs w lo (aG (some ⟨g',0,none⟩) (rv.length+1) cap') O (Rs++[r]) (rv++[v]) w8:=by
 have hold:∀k,k<wr.heap.size->lr.ownBlock≠some k->w8.heap[k]?=wr.heap[k]?:=λk hk hne=>(cI.block k (by simp;omega) (λe=>hne e.symm)).trans (Below.heap_alloc _ _ _ hk)
 have hvk:∀k,v.ownBlock=some k->B<=k/\k<wr.heap.size:=λk hk=>bn hv k hk
 refine⟨bB h.oo λk hk=>hold k (bn h.oo k hk).2 (h.ne k hk),?_,by rw[bY,bY,h.len];rfl,λi u q h1 h2=>?_,λk hk e=>?_,?_⟩
 .rw[bY];exact dM
 .by_cases hi:i<rv.length
  .rw[fI hi] at h1;rw[fI (by rw[<-h.len];exact hi)] at h2
   obtain⟨k1,k2⟩:=h.ring i u q h1 h2;refine⟨bB k1 λk hk=>hold k (bn k1 k hk).2 (k2 k hk).2,λk hk=>⟨(k2 k hk).1,λe=>?_⟩⟩
   have e':g'=k:=by simpa[Value.ownBlock] using e
   subst e';rcases hat with hat|hat
   .exact(k2 _ hk).2 hat
   .have:=(bn k1 _ hk).2;omega
  .have hi2:i=rv.length:=by
    have:=(cG.1 h1).1;simp at this;omega
   subst hi2;have e1:u=v:=by simpa using h1.symm
   have e2:q=r:=by rw[h.len] at h2;simpa using h2.symm
   subst e1 e2;refine⟨xk (bB hv λk hk=>hold k (hvk k hk).2 (λe=>by have:=hlB k (aT e);have:=(hvk k hk).1;omega)) hB,λk hk=>⟨λe=>by have:=hlB k (aU e);have:=(hvk k hk).1;omega,λe=>?_⟩⟩
   have e':g'=k:=by simpa[Value.ownBlock] using e
   subst e';rcases hat with hat|hat
   .have:=hlB _ (aT hat);have:=(hvk _ hk).1;omega
   .have:=(hvk _ hk).2;omega
 .have e':g'=k:=by simpa[Value.ownBlock] using e
  subst e';rcases hat with hat|hat
  .exact h.ne _ hk hat
  .have:=(bn h.oo _ hk).2;omega
 .exact(h.below.alloc h.below.size _).grown cI (by have:=h.below.size;simp;omega) (λk hk=>(bn h.ro k hk).1)
theorem am6{e:TypeId}{xs:List aN}(h:w.ownsRow base e 1 (aG (some ⟨g,0,none⟩) n cap) n xs)(hk:k<=n):w.ownsRow base e 1 (aG (some ⟨g,0,none⟩) k cap) k (xs.take k):=by
 obtain⟨h1,h2⟩:=h;rcases h2 with⟨h0,_⟩|⟨g1,c1,cur,hv,hg,hb,hc,hm,hs,ht⟩
 .cases h0
 .refine⟨by rw[iB,h1];omega,aT ⟨g1,c1,cur,?_,hg,hb,aa,hm,hs,?_⟩⟩
  .injection hv with a1 _ a3;rw[a1,a3]
  .rw[<-ht,Av];congr 1;omega
theorem RI.am7{Rs:List (List Nat)}{rv:List aN}(h:RI bs w (aG (some ⟨g,0,none⟩) n cap) lr O Rs rv wr)(hk:k<=O.length)(hn:n=O.length):RI bs w (aG (some ⟨g,0,none⟩) k cap) lr (O.take k) Rs rv wr:=by
 subst hn;refine⟨?_,h.ro,h.len,h.ring,h.ne,h.below⟩;have:=am6 h.oo hk;have e:(bA (O.map (bx bs))).take k=bA ((O.take k).map (bx bs)):=by unfold bA;rw[VX,VX]
 rw[e] at this;have hl:(O.take k).length=k:=by rw[iB];omega
 rw[hl];exact this
theorem am8(Xs:List PB)(p:List Nat×List (List Nat))(s:Nat):∀j∈(j5 Xs p s).1,j∈p.1\/j=s:=by
 intro j hj;unfold j5 at hj;split at hj
 .have:=rB hj;simpa using this
 .simpa using hj
theorem MW(Xs:List PB)(A:List Nat):∀k,∀j∈(cP Xs (A.take k)).1,j∈A:=by
 intro k;induction k with
 |zero=>intro j hj;simp[cP] at hj
 |succ k ih=>
  intro j hj;by_cases hk:k<A.length
  .have htk:A.take (k+1)=A.take k++[A[k]]:=by rw[jF,bo hk];rfl
   rw[htk,zQ] at hj;rcases am8 Xs _ _ j hj with h|h
   .exact ih j h
   .rw[h];exact gZ hk
  .rw[qw aa] at hj
   rw[qw aa] at ih
   exact ih j hj
theorem am9(Xs:List PB)(p:List Nat×List (List Nat))(s:Nat):(j5 Xs p s).1.length<=p.1.length+1/\(j5 Xs p s).2.length<=p.2.length+1:=by
 unfold j5;split
 .simp;omega
 .simp
theorem IA(Xs:List PB)(A:List Nat):∀k,(cP Xs (A.take k)).1.length<=k/\(cP Xs (A.take k)).2.length<=k:=by
 intro k;induction k with
 |zero=>simp[cP]
 |succ k ih=>
  by_cases hk:k<A.length
  .have htk:A.take (k+1)=A.take k++[A[k]]:=by rw[jF,bo hk];rfl
   rw[htk,zQ];have:=am9 Xs (cP Xs (A.take k)) A[k];omega
  .rw[qw aa]
   rw[qw aa] at ih
   omega
theorem acn{P:Nat->Bool}:∀(l:List Nat)(k:Nat),gK P l k= -1\/((k:Int)<=gK P l k/\gK P l k<(k:Int)+l.length)
 |[],_=>aU rfl
 |a::l,k=>by
  show(if P a then(k:Int) else gK P l (k+1))= -1\/((k:Int)<=(if P a then(k:Int) else gK P l (k+1))/\(if P a then(k:Int) else gK P l (k+1))<(k:Int)+(a::l).length)
  rw[dw];by_cases ha:P a=true
  .rw[aV ha];omega
  .rw[aQ ha];have:=acn (P:=P) l (k+1);omega
theorem ana(Xs:List PB)(O:List Nat)(s:Nat)(h:0<=jd Xs O s):(jd Xs O s).toNat<O.length:=by
 have:=acn (P:=kJ Xs s) O 0;have e:jd Xs O s=gK (kJ Xs s) O 0:=rfl;rw[e] at h⊢;omega
theorem anb(bs:List Nat)(Xs:List PB)(hB:BD Xs)(g:Nat)(mk:Nat->Bool)(ow:Nat->Option Nat)(w:aM)(hW:SW g bs Xs mk ow w)(O:List Nat)(s gO cO:Nat)(w':aM)(ho:w'.ownsRow w.heap.size 175 1 (aG (some ⟨gO,0,none⟩) O.length cO) O.length (bA (O.map (bx bs))))(hb:aj w w')(hO:∀j∈O,j<bs.length)(hs:s<bs.length)(hne:O≠[])(hl:O.length<=85000000):
  ak 166 #[aG (some ⟨gO,0,none⟩) O.length cO,.func (.func 167) #[aH (some ⟨bx bs s,0,none⟩)] #[]] w' λe w''=>e=aL (az aJ (jd Xs O s))/\aj w' w'':=by
 have hlen:=hW.len;obtain⟨o8,lS,hv,_,eK,_,_,_,hcell⟩:=o6 ho (by intro h;exact hne (uA.1 h))
 have hgg:o8=gO/\lS=cO:=by
  injection hv with h1 _ h3;injection h1 with h1;injection h1 with h1;exact⟨h1.symm,h3.symm⟩
 obtain⟨rfl,rfl⟩:=hgg;have hm:=amM (λb=>decide ((xi Xs s).t=(xi Xs (bs.idxOf b)).f)) (O.map (bx bs)) o8 0 lS (bx bs s) w' (by rw[ia];exact hl) (λi b hi=>hcell i b hi) (λb hb' w'' hw=>by
  obtain⟨j,hj,rfl⟩:=bQ.1 hb';have hjl:=hO j hj;have hR:=(hW.rb.below hb).below hw;rw[og hW.nd hjl];exact amL _ _ (hB.v _ (iH (by rw[<-hlen];exact hs))) (hB.v _ (iH (by rw[<-hlen];exact hjl))) _ _ w'' (hR.at (by rw[<-hlen];exact hs)) (hR.at (by rw[<-hlen];exact hjl)))
 have e1:ib (λb=>decide ((xi Xs s).t=(xi Xs (bs.idxOf b)).f)) (O.map (bx bs))=jd Xs O s:=MU _ _ λx hx=>by
  simp only[og hW.nd (hO x hx)];rfl
 rw[e1,ia] at hm;exact hm
theorem anc(bs:List Nat)(Xs:List PB)(hB:BD Xs)(g:Nat)(mk:Nat->Bool)(ow:Nat->Option Nat)(w:aM)(hW:SW g bs Xs mk ow w)(O:List Nat)(R gO cO:Nat)(w':aM)(ho:w'.ownsRow w.heap.size 175 1 (aG (some ⟨gO,0,none⟩) O.length cO) O.length (bA (O.map (bx bs))))(hb:aj w w')(hO:∀j∈O,j<bs.length)(hR:R<O.length)(hl:O.length<=85000000)(hT:eo Xs (O.drop R)≠[]):
  ak 168 #[aG (some ⟨gO,R,none⟩) (O.length-R) (cO-R)] w' λe w''=>∃lv,e=aL lv/\w''.ownsRow w'.heap.size 175 1 lv (ez Xs (O.drop R)).length (bA ((ez Xs (O.drop R)).map (bx bs)))/\aj w' w'':=by
 have hne:O≠[]:=by intro h;rw[h] at hR;simp at hR
 obtain⟨o8,lS,hv,_,eK,_,_,_,hcell⟩:=o6 ho (by intro h;exact hne (uA.1 h))
 have hgg:o8=gO/\lS=cO:=by
  injection hv with h1 _ h3;injection h1 with h1;injection h1 with h1;exact⟨h1.symm,h3.symm⟩
 obtain⟨rfl,rfl⟩:=hgg;have hm:=am3 bs Xs hB g mk ow w' (hW.below hb) (O.drop R) (by rw[uB];omega) (by rw[uB];omega) (λa ha=>hO a (VY ha)) o8 R (lS-R) (λi a hi=>by
  rw[OW] at hi;have h2:=hcell (R+i) (bx bs a) (by rw[iI,hi];rfl)
  rw[jD] at h2;exact h2) hT
 rw[uB] at hm;exact hm
theorem ane(bs:List Nat)(Xs:List PB)(hB:BD Xs)(g:Nat)(mk:Nat->Bool)(ow:Nat->Option Nat)(w:aM)(hW:SW g bs Xs mk ow w)(A:List Nat)(ny:A.length<=85000000)(hA:∀a∈A,a<bs.length)(g0 cap:Nat)
  (HV:Hid (∀(i:Nat) a,A[i]?=some a->w.cell? ⟨g0,0+i,none⟩=some (aH (some ⟨bx bs a,0,none⟩))))
  (MX:Hid (∀(k:Nat) s,A[k]?=some s->0<=jd Xs ((cP Xs (A.take k)).1++[s]) s->eo Xs (((cP Xs (A.take k)).1++[s]).drop (jd Xs ((cP Xs (A.take k)).1++[s]) s).toNat)≠[])):
  ak 111 #[aG (some ⟨g0,0,none⟩) A.length cap] w λe w'=>∃lv lo O rv,e=aL lv/\RI bs w lo lv O (cJ Xs A) rv w':=by
 obtain⟨i0,hi0,hz0,hz1,hz2⟩:=info_parts BO;obtain⟨j0,Ce,hy0,hy1,hy2⟩:=info_parts acm;have Tf:Hid (∀(O:List Nat)(s gO cO:Nat)(w':aM),w'.ownsRow w.heap.size 175 1 (aG (some ⟨gO,0,none⟩) O.length cO) O.length (bA (O.map (bx bs)))->aj w w'->(∀j∈O,j<bs.length)->s<bs.length->O≠[]->O.length<=85000000->ak 166 #[aG (some ⟨gO,0,none⟩) O.length cO,.func (.func 167) #[aH (some ⟨bx bs s,0,none⟩)] #[]] w' λe w''=>e=aL (az aJ (jd Xs O s))/\aj w' w''):=λO s gO cO w'=>anb bs Xs hB g mk ow w hW O s gO cO w'
 have Th:Hid (∀(O:List Nat)(R gO cO:Nat)(w':aM),w'.ownsRow w.heap.size 175 1 (aG (some ⟨gO,0,none⟩) O.length cO) O.length (bA (O.map (bx bs)))->aj w w'->(∀j∈O,j<bs.length)->R<O.length->O.length<=85000000->eo Xs (O.drop R)≠[]->ak 168 #[aG (some ⟨gO,R,none⟩) (O.length-R) (cO-R)] w' λe w''=>∃lv,e=aL lv/\w''.ownsRow w'.heap.size 175 1 lv (ez Xs (O.drop R)).length (bA ((ez Xs (O.drop R)).map (bx bs)))/\aj w' w''):=λO R gO cO w'=>anc bs Xs hB g mk ow w hW O R gO cO w'
 have HA:Hid (∀a∈A,a<bs.length):=hA;have cK:Hid (RI bs w (aG none 0 0) (aG none 0 0) (cP Xs (A.take 0)).1 (cP Xs (A.take 0)).2 [] w):=⟨World.ownsRow_nil _ _ _ _,World.ownsRow_nil _ _ _ _,rfl,λi v r h=>by simp at h,λk h=>by simp[Value.ownBlock] at h,Below.refl _ _⟩
 clear hA hW hB
 go_enter func111,ntmps111
 go_wp2_with fail
 go_loopg [3,4,10] A.length (λm lr lo iv wr=>∃k:Nat,k+m=A.length/\iv=az aJ k/\Hid (∃rv,RI bs w lo lr (cP Xs (A.take k)).1 (cP Xs (A.take k)).2 rv wr))
 case atStart=>exact⟨0,aa,rfl,[],cK.out⟩
 case round=>
  obtain⟨k,hkn,rfl,HE⟩:=hrel;clear cK;by_cases hlt:k<A.length
  .obtain⟨s,hs⟩:∃s,A[k]?=some s:=⟨_,bo hlt⟩;obtain⟨rv,qg⟩:=HE.out;have Hg:Hid (RI bs w u4 u3 (cP Xs (A.take k)).1 (cP Xs (A.take k)).2 rv wr):=qg;have c1:=(qg.below.cell (p:=⟨g0,0+k,none⟩) (lt_of_cell (HV.out k s hs))).trans (HV.out k s hs);rw[jD] at c1;have hsl:s<bs.length:=HA.out s (bT hs);have Ti:=MX.out k s hs;have htk:A.take (k+1)=A.take k++[s]:=by rw[jF,hs];rfl
   have hfl:=IA Xs A k;have Tj:Hid (∀j∈(cP Xs (A.take k)).1++[s],j<bs.length):=λj hj=>by
    rcases dv.1 hj with h|h
    .exact HA.out j (MW Xs A k j h)
    .rw[dh.1 h];exact hsl
   have HST:Hid (cP Xs (A.take (k+1))=j5 Xs (cP Xs (A.take k)) s):=by
    show cP Xs (A.take (k+1))=_;rw[htk,zQ]
   have oz:Hid (0<=jd Xs ((cP Xs (A.take k)).1++[s]) s->eo Xs (((cP Xs (A.take k)).1++[s]).drop (jd Xs ((cP Xs (A.take k)).1++[s]) s).toNat)≠[]):=Ti;have gH:(k:Int)<(A.length:Int):=aa
   have hrl:rv.length<=k:=by rw[qg.len];exact hfl.2
   have hol:=hfl.1;have mK:=qg.oo;have hbz:=qg.below.size;clear qg HE Ti htk hs hfl;generalize cP Xs (A.take k)=st at*;obtain⟨O,Rs⟩:=st;simp only at*;have hnb:(wr.alloc (.cells #[aH (some ⟨bx bs s,0,none⟩)] 175)).heap[wr.heap.size]?=some (.cells #[aH (some ⟨bx bs s,0,none⟩)] 175 (0,0)):=heap_alloc_new _ _;have mL:(wr.alloc (.cells #[aH (some ⟨bx bs s,0,none⟩)] 175)).ownsRow w.heap.size 175 1 u4 O.length (bA (O.map (bx bs))):=bB mK λk hk=>Below.heap_alloc _ _ _ (bn mK k hk).2
   clear mK
   go_wp2_with (at_builtin;refine wpList_append_lies _ rfl (.tmp 14) (.tmp 16) 132 rfl w.heap.size 175 i0 _ 1 8 underlying132 hi0 hz0 hz1 hz2 rfl ah u4 O.length (bA (O.map (bx bs))) rfl mL ⟨wr.heap.size,0,none⟩ 1 1 [aH (some ⟨bx bs s,0,none⟩)] rfl rfl (World.news_of_block (cs:= #[aH (some ⟨bx bs s,0,none⟩)]) (t:=175) (fr:=(0,0)) hnb) (by simp[Value.oneCell']) ah (by unfold maxLen;omega) aa (by simp;omega) (wr.heap.size+1) af ?_;intro g' cap' w8 dM cI iN rN)
   have IB:=Hg.out.am4 s _ cI dM iN;have hel:(O++[s]).length=O.length+1:=af
   have HI8:Hid (RI bs w (aG (some ⟨g',0,none⟩) (O.length+1) cap') u3 (O++[s]) Rs rv w8):=IB;obtain⟨gX,cX,hvX,_,_,hcX,hcm,hd1,hd2⟩:=o6 IB.oo af
   have hcap:O.length+1<=cap'/\cap'<=9223372036854775807:=by
    injection hvX with _ _ h3;unfold maxLen at hcm;omega
   have Tm:=Tf.out (O++[s]) s g' cap' w8 (by rw[hel];have:=IB.oo;rw[hel] at this;exact this) IB.below Tj.out hsl af aa
   rw[hel] at Tm;have HIc:Hid (ak 166 #[aG (some ⟨g',0,none⟩) (O.length+1) cap',.func (.func 167) #[aH (some ⟨bx bs s,0,none⟩)] #[]] w8 λe w''=>e=aL (az aJ (jd Xs (O++[s]) s))/\aj w8 w''):=Tm
   clear hvX hcX hcm hd1 hd2 Tm IB dM cI iN hnb mL Hg c1;refine HIc.out.mono ?_;rintro e w9 ⟨rfl,ou⟩;have xI:Hid (RI bs w (aG (some ⟨g',0,none⟩) (O.length+1) cap') u3 (O++[s]) Rs rv w9):=HI8.out.keep ou;clear HI8 HIc ou;by_cases hS:0<=jd Xs (O++[s]) s
   .have xD:=ana Xs (O++[s]) s hS;have rJ:=oz.out hS;obtain⟨R,hRe⟩:=ass hS;have IC:Hid (cP Xs (A.take (k+1))=((O++[s]).take R,Rs++[ez Xs ((O++[s]).drop R)])):=by
     show cP Xs (A.take (k+1))=_;rw[HST.out];unfold j5;simp only;rw[aV hS,hRe];rfl
    rw[hRe,JM] at xD rJ;rw[hel] at xD;have Tn:=Th.out (O++[s]) R g' cap' w9 (by rw[hel];have:=xI.out.oo;rw[hel] at this;exact this) xI.out.below Tj.out aa aa rJ
    rw[hel] at Tn;have acr:Hid (ak 168 #[aG (some ⟨g',R,none⟩) (O.length+1-R) (cap'-R)] w9 λe w''=>∃lv,e=aL lv/\w''.ownsRow w9.heap.size 175 1 lv (ez Xs ((O++[s]).drop R)).length (bA ((ez Xs ((O++[s]).drop R)).map (bx bs)))/\aj w9 w''):=Tn
    rw[hRe];have Cc:(R:Int)≥0:=aa
    have hRi:(R:Int)<=((O.length+1:Nat):Int):=aa
    have atM:(R:Int)<=(O.length:Int)+1:=aa
    have xH:(O.length:Int)+1<=(cap':Int):=aa
    have hRc:(R:Int)<=(cap':Int):=aa
    have hcR:¬cap'=R:=aa
    clear Tn rJ oz HST hS hRe
    go_wp2_with fail
    refine acr.out.mono ?_;rintro e wA ⟨lv,rfl,Tp,Ee⟩;have Ef:Hid (RI bs w (aG (some ⟨g',0,none⟩) (O.length+1) cap') u3 (O++[s]) Rs rv wA):=xI.out.keep Ee;obtain⟨so,ln,lc,rfl⟩:∃so ln lc,lv=aG so ln lc:=by
     rcases Tp.2 with⟨h,_⟩|⟨_,_,_,h,_⟩
     .exact⟨_,_,_,h⟩
     .exact⟨_,_,_,h⟩
    have hro:=Ef.out.ro;have atN:=Ef.out.below.size;have hB9:=xI.out.below.size;have hlB:∀k,(Value.slice (some ⟨g',0,none⟩) (O.length+1) cap').ownBlock=some k\/u3.ownBlock=some k->k<w9.heap.size:=λk hk=>by
     rcases hk with hk|hk
     .exact(bn xI.out.oo k hk).2
     .exact(bn xI.out.ro k hk).2
    have HLB:Hid (∀k,(Value.slice (some ⟨g',0,none⟩) (O.length+1) cap').ownBlock=some k\/u3.ownBlock=some k->k<w9.heap.size):=hlB;have HOA:Hid (wA.ownsRow w9.heap.size 175 1 (aG so ln lc) (ez Xs ((O++[s]).drop R)).length (bA ((ez Xs ((O++[s]).drop R)).map (bx bs)))):=Tp;have hnb:(wA.alloc (.cells #[aG so ln lc] 185)).heap[wA.heap.size]?=some (.cells #[aG so ln lc] 185 (0,0)):=heap_alloc_new _ _;have mL:(wA.alloc (.cells #[aG so ln lc] 185)).ownsRow w.heap.size 185 1 u3 rv.length rv:=bB hro λk hk=>Below.heap_alloc _ _ _ (bn hro k hk).2
    clear Tp Ee acr xI hro hlB
    go_wp2_with (at_builtin;refine wpList_append_lies _ rfl (.tmp 24) (.tmp 29) 183 rfl w.heap.size 185 j0 _ 1 24 underlying183 Ce hy0 hy1 hy2 rfl ah u3 rv.length rv rfl mL ⟨wA.heap.size,0,none⟩ 1 1 [aG so ln lc] rfl rfl (World.news_of_block (cs:= #[aG so ln lc]) (t:=185) (fr:=(0,0)) hnb) (by simp[Value.oneCell']) ah (by unfold maxLen;omega) aa (by simp;omega) (wA.heap.size+1) af ?_;intro gB acv wB hoB hgB acy ZN)
    have HIB:Hid (RI bs w (aG (some ⟨g',0,none⟩) R cap') (aG (some ⟨gB,0,none⟩) (rv.length+1) acv) ((O++[s]).take R) (Rs++[ez Xs ((O++[s]).drop R)]) (rv++[aG so ln lc]) wB):=
     (Ef.out.am5 HOA.out hB9 HLB.out _ hgB hoB acy).am7 (by rw[hel];omega) hel.symm
    have cV:Hid (∃rv',RI bs w (aG (some ⟨g',0,none⟩) R cap') (aG (some ⟨gB,0,none⟩) (rv.length+1) acv) (cP Xs (A.take (k+1))).1 (cP Xs (A.take (k+1))).2 rv' wB):=by
     show ∃rv',_;rw[IC.out];exact⟨_,HIB.out⟩
    clear Ef HOA HLB hoB hgB acy hnb mL HIB IC
    go_wp2_with fail
    go_roundg (gk-1)
    case measure=>omega
    case rel=>exact⟨k+1,aa,ai,cV.out⟩
   .have IC:Hid (cP Xs (A.take (k+1))=(O++[s],Rs)):=by
     show cP Xs (A.take (k+1))=_;rw[HST.out];unfold j5;simp only;rw[aQ hS]
    have cV:Hid (∃rv,RI bs w (aG (some ⟨g',0,none⟩) (O.length+1) cap') u3 (cP Xs (A.take (k+1))).1 (cP Xs (A.take (k+1))).2 rv w9):=by
     show ∃rv,_;rw[IC.out];exact⟨rv,xI.out⟩
    have hSd:¬jd Xs (O++[s]) s≥0:=hS;clear xI IC HST oz Tj Th Tf;generalize jd Xs (O++[s]) s=S at*
    go_wp2_with fail
    go_roundg (gk-1)
    case measure=>omega
    case rel=>exact⟨k+1,aa,ai,cV.out⟩
  .have hk:k=A.length:=aa
   subst hk;obtain⟨rv,qg⟩:=HE.out;rw[fO] at qg;have HF:Hid (RI bs w u4 u3 (cP Xs A).1 (cJ Xs A) rv wr):=qg;clear qg HE HV MX Tf Th HA
   go_wp2_with fail
   go_ret
   exact⟨u3,u4,_,rv,rfl,HF.out⟩
def dm(Xs:List PB)(r:List Nat):Bool:=decide (0<gq (xi Xs (r.getLastD 0)) (xi Xs (r.headD 0)))
theorem ani(X1 X2 Y1 Y2 im:Nat)(B:Bool)(g n cap bL bF:Nat)(w:aM)(hn:0<n)(hn':n<=85000000)(cl:w.cell? ⟨g,n-1,none⟩=some (aH (some ⟨bL,0,none⟩)))(cf:w.cell? ⟨g,0,none⟩=some (aH (some ⟨bF,0,none⟩)))(l0:w.cell? ⟨bL,0,none⟩=some (aA aK X1 X2))(f0:w.cell? ⟨bF,0,none⟩=some (aA aK Y1 Y2))
  (HL:Hid (∀w,ak 101 #[aA aK X1 X2,aA aK Y1 Y2] w λe w'=>e=aL (aB aK im)/\w'=w))(hB:(FloatKind.f64.format.order im 0 == some .gt)=B):
  ak 113 #[aG (some ⟨g,0,none⟩) n cap] w λe w'=>e=aL (aD B)/\aj w w':=by
 have hw1:IntKind.i64.wrap ((n:Int)-1)=((n-1:Nat):Int):=by rw[IntKind.wrap_i64];omega
 have hi:((n-1:Nat):Int)<(n:Int):=aa
 have h0:(0:Int)<(n:Int):=aa
 subst hB
 go_enter func113,ntmps113
 go_wp2_with fail
 go_region_held3 (λw'=>w'.cell? ⟨g,n-1,none⟩=some (aH (some ⟨bL,0,none⟩))/\w'.cell? ⟨g,0,none⟩=some (aH (some ⟨bF,0,none⟩))/\w'.cell? ⟨bL,0,none⟩=some (aA aK X1 X2)/\w'.cell? ⟨bF,0,none⟩=some (aA aK Y1 Y2)) (go_keep) ((go_at_call 101;refine(HL.out _).mono ?_;rintro e w5 ⟨rfl,rG⟩;subst rG))
 all_goals
  go_wp2_with fail
  go_ret
  exact⟨rfl,(Below.refl _ _).drew⟩
theorem anj(bs:List Nat)(Xs:List PB)(hB:BD Xs)(g:Nat)(mk:Nat->Bool)(ow:Nat->Option Nat)(w:aM)(hW:SW g bs Xs mk ow w)(r:List Nat)(hr:r≠[])(hrl:r.length<=85000000)(hr':∀a∈r,a<bs.length)(base:Nat)(v:aN)(ho:w.ownsRow base 175 1 v r.length (bA (r.map (bx bs)))):
  ak 113 #[v] w λe w'=>e=aL (aD (dm Xs r))/\aj w w':=by
 have hlen:=hW.len;obtain⟨gT,cT,rfl,_,eK,_,_,_,hcell⟩:=o6 ho (by intro h;exact hr (uA.1 h))
 have hl0:0<r.length:=jE.2 hr;have hlast:r[r.length-1]?=some (r.getLastD 0):=by
  rw[nK,pG,bo aa];rfl
 have acB:r[0]?=some (r.headD 0):=by
  cases r with
  |nil=>exact absurd rfl hr
  |cons a l=>rfl
 have hLm:r.getLastD 0<bs.length:=hr' _ (bT hlast);have hFm:r.headD 0<bs.length:=hr' _ (bT acB);have hL:=hW.rb.at (by rw[<-hlen];exact hLm)
 have hF:=hW.rb.at (by rw[<-hlen];exact hFm)
 obtain⟨l1,d1⟩:=hB.ld _ (iH (by rw[<-hlen];exact hLm))
 obtain⟨l2,d2⟩:=hB.ld _ (iH (by rw[<-hlen];exact hFm))
 obtain⟨im,f1,hl⟩:=Ib d1 d2;have q:=KM f1 mF;have c1:=hcell (r.length-1) (bx bs (r.getLastD 0)) (by rw[iI,hlast];rfl)
 have c2:=hcell 0 (bx bs (r.headD 0)) (by rw[iI,acB];rfl)
 rw[jD] at c1 c2;refine ani _ _ _ _ im (dm Xs r) gT r.length cT _ _ w hl0 hrl c1 c2 hL.c0 hF.c0 hl ?_;rw[q];unfold dm;rw[<-Ia d1 d2];refine decide_eq_decide.2 ?_;have:=Ga.sg (l1.1*l2.2.1-l1.2.1*l2.1);omega
def qh(P:List Nat->Bool):List (List Nat)->Nat->Int
 |[],_=> -1
 |b::r,k=>if P b then(k:Int) else qh P r (k+1)
theorem ank(P:List Nat->Bool)(Rs:List (List Nat))(rv:List aN)(hlen:rv.length=Rs.length)(g cap:Nat)(w:aM)(hn:rv.length<=85000000)
  (HV:Hid (∀(i:Nat) v,rv[i]?=some v->w.cell? ⟨g,i,none⟩=some v/\∃so n c,v=aG so n c))
  (HC:Hid (∀(i:Nat) v r,rv[i]?=some v->Rs[i]?=some r->∀w',aj w w'->ak 113 #[v] w' λe w''=>e=aL (aD (P r))/\aj w' w'')):
  ak 169 #[aG (some ⟨g,0,none⟩) rv.length cap,.func (.func 113) #[] #[]] w λe w'=>e=aL (az aJ (qh P Rs 0))/\aj w w':=by
 go_enter func169,ntmps169
 have HS:Hid (qh P (Rs.drop 0) 0=qh P Rs 0):=rfl;have Tq:Hid (rv.length=Rs.length):=hlen;clear hlen
 go_wp2_with fail
 go_loopg [8] rv.length (λm iv wr=>∃k:Nat,k+m=rv.length/\iv=az aJ k/\Hid (aj w wr/\qh P (Rs.drop k) k=qh P Rs 0))
 case atStart=>exact⟨0,aa,rfl,Below.refl _ _,HS.out⟩
 case round=>
  obtain⟨k,hkn,rfl,HB⟩:=hrel;clear HS;by_cases hlt:k<rv.length
  .obtain⟨v,hb⟩:∃v,rv[k]?=some v:=⟨_,bo hlt⟩;obtain⟨r,hr⟩:∃r,Rs[k]?=some r:=⟨_,bo (by rw[<-Tq.out];exact hlt)⟩
   obtain⟨c0,so,sn,sc,rfl⟩:=HV.out k v hb;have eK:g<w.heap.size:=lt_of_cell c0;have c1:=aS HB.out.1 c0 eK;have jm:Hid (ak 113 #[aG so sn sc] wr λr' w''=>r'=aL (aD (P r))/\aj wr w''):=HC.out k _ r hb hr wr HB.out.1
   have iQ:Hid ((if P r then(k:Int) else qh P (Rs.drop (k+1)) (k+1))=qh P Rs 0):=by
    have:=HB.out.2;rw[xG hr] at this;exact this
   have gH:(k:Int)<(rv.length:Int):=aa
   clear c0 hb hr
   go_wp2_with fail
   refine jm.out.mono ?_;rintro e w5 ⟨rfl,bg⟩;have gJ:Hid (aj w w5):=HB.out.1.trans (bg.mono HB.out.1.size);clear jm bg c1;generalize P r=B at*;cases B
   .have HM:Hid (qh P (Rs.drop (k+1)) (k+1)=qh P Rs 0):=iQ.out;clear iQ
    go_wp2_with fail
    go_roundg (gk-1)
    case measure=>omega
    case rel=>exact⟨k+1,aa,ai,gJ.out,HM.out⟩
   .have HM:Hid ((k:Int)=qh P Rs 0):=iQ.out;clear iQ
    go_wp2_with fail
    go_ret
    exact⟨by rw[<-HM.out];rfl,gJ.out⟩
  .have hk:k=rv.length:=aa
   subst hk;have HM:Hid ((-1:Int)=qh P Rs 0):=by
    have:=HB.out.2;rw[Tq.out,Fz] at this;exact this
   clear HC HV Tq
   go_wp2_with fail
   go_ret
   exact⟨by rw[<-HM.out];rfl,HB.out.1⟩
theorem acE{P:List Nat->Bool}:∀(l:List (List Nat))(k:Nat),decide (0<=qh P l k)=l.any P
 |[],_=>rfl
 |a::l,k=>by
  show decide (0<=(if P a then(k:Int) else qh P l (k+1)))=(P a||l.any P)
  by_cases ha:P a=true
  .rw[aV ha,ha];simp
  .rw[aQ ha,acE l (k+1)];have:P a=false:=by simpa using ha
   rw[this];rfl
theorem anl(S:Int)(g n cap:Nat)(w:aM)
  (HI:Hid (ak 169 #[aG (some ⟨g,0,none⟩) n cap,.func (.func 113) #[] #[]] w λe w'=>e=aL (az aJ S)/\aj w w')):
  ak 112 #[aG (some ⟨g,0,none⟩) n cap,.func (.func 113) #[] #[]] w λe w'=>e=aL (aD (decide (0<=S)))/\aj w w':=by
 go_enter func112,ntmps112
 go_wp2_with fail
 refine HI.out.mono ?_;rintro e w1 ⟨rfl,hb⟩
 go_wp2_with fail
 go_ret
 exact⟨rfl,hb⟩
theorem anm(X1 X2 X3 F1 F2 T1 T2 N1 N2 r:Nat)(F3 T3 N3:Int)(FA TA GB:Bool)(b:Nat)(w:aM)
  (a0:w.cell? ⟨b,0,none⟩=some (aA aK X1 X2))(a1:w.cell? ⟨b,1,none⟩=some (aB aK X3))(a2:w.cell? ⟨b,2,none⟩=some (aA aK F1 F2))(a3:w.cell? ⟨b,3,none⟩=some (az aJ F3))(a4:w.cell? ⟨b,4,none⟩=some (aA aK T1 T2))(a5:w.cell? ⟨b,5,none⟩=some (az aJ T3))
  (HF:Hid (∀w,ak 100 #[aC #[aA aK N1 N2,az aJ N3],aC #[aA aK F1 F2,az aJ F3]] w λe w'=>e=aL (aD FA)/\Below w.heap.size w w'))
  (HT:Hid (∀w,ak 100 #[aC #[aA aK N1 N2,az aJ N3],aC #[aA aK T1 T2,az aJ T3]] w λe w'=>e=aL (aD TA)/\Below w.heap.size w w'))
  (HL:Hid (∀w,ak 97 #[aC #[aA aK X1 X2,aB aK X3],aC #[aA aK N1 N2,az aJ N3]] w λe w'=>e=aL (aB aK r)/\Below w.heap.size w w'))
  (hr:(FloatKind.f64.format.order r 0 == some .gt)=GB):
  ak 170 #[aH (some ⟨b,0,none⟩),aC #[aA aK N1 N2,az aJ N3]] w λe w'=>e=aL (aD (!FA&&TA&&GB))/\Below w.heap.size w w':=by
 have hbz:b<w.heap.size:=lt_of_cell a0;have hb0:Below w.heap.size w (w.alloc (.cells #[aA aK N1 N2,az aJ N3] 83)):=(Below.refl _ _).alloc (aY _) _;have hE:=heap_alloc_new w (.cells #[aA aK N1 N2,az aJ N3] 83);have hz:w.heap.size<(w.alloc (.cells #[aA aK N1 N2,az aJ N3] 83)).heap.size:=af
 go_enter func170,ntmps170
 go_wp2_with fail
 have z0:(w.alloc (.cells #[aA aK N1 N2,az aJ N3] 83)).cell? ⟨w.heap.size,0,none⟩=some (aA aK N1 N2):=cell_of hE 0;have z1:(w.alloc (.cells #[aA aK N1 N2,az aJ N3] 83)).cell? ⟨w.heap.size,1,none⟩=some (az aJ N3):=cell_of hE 1;have z2:=aS hb0 a0 hbz;have z3:=aS hb0 a1 hbz;have z4:=aS hb0 a2 hbz;have z5:=aS hb0 a3 hbz;have z6:=aS hb0 a4 hbz;have z7:=aS hb0 a5 hbz;generalize w.alloc (.cells #[aA aK N1 N2,az aJ N3] 83)=W at*;generalize tS:w.heap.size=B at*;have jw:B<W.heap.size:=aa
 have lj:b<W.heap.size:=aa
 have Tt:Below B w W:=hb0;have ID:∀w5,Below W.heap.size W.drew w5->Below B w w5:=λw5 h=>(Tt.drew).trans (h.mono (fh jw))
 clear hE hz a0 a1 a2 a3 a4 a5 hb0;cases FA
 .cases TA
  ·
   refine wp_region_held_drew (S:=(λw'=>w'.cell? ⟨B,0,none⟩=some (aA aK N1 N2)/\w'.cell? ⟨B,1,none⟩=some (az aJ N3)/\w'.cell? ⟨b,0,none⟩=some (aA aK X1 X2)/\w'.cell? ⟨b,1,none⟩=some (aB aK X3)/\w'.cell? ⟨b,2,none⟩=some (aA aK F1 F2)/\w'.cell? ⟨b,3,none⟩=some (az aJ F3)/\w'.cell? ⟨b,4,none⟩=some (aA aK T1 T2)/\w'.cell? ⟨b,5,none⟩=some (az aJ T3))) ag ⟨z0,z1,z2,z3,z4,z5,z6,z7⟩ (λhHeld=>?_)
   iterate 6
    (
     refine lV (oi:={dst:=_,op:=_,type:=_,pos:=_,after:=_,guard:=_}) (v:=?_) rfl rfl (by rfl) hHeld ?_ ?_
     rotate_left
     .intro w' bZ;obtain⟨s0,s1,s2,s3,s4,s5,s6,s7⟩:=bZ
      go_simp
      try with_reducible rfl
     simp only[Act.put,dR,dS,dD])
   refine wpAnyH_ready (rs:=[6]) ag af ?_
   refine AllReadyH.cons rfl (λK hK=>?_) AllReadyH.nil
   go_simp
   refine(HF.out _).mono ?_;rintro e w5 ⟨rfl,fF⟩;have o9:B<w5.heap.size:=bW jw fF.size;have oC:b<w5.heap.size:=bW lj fF.size;have l0:=aS fF z0 jw;have l1:=aS fF z1 jw;have l2:=aS fF z2 lj;have l3:=aS fF z3 lj;have l4:=aS fF z4 lj;have l5:=aS fF z5 lj;have l6:=aS fF z6 lj;have l7:=aS fF z7 lj
   go_wp2_with fail
   refine hK.out _ _ ⟨l0,l1,l2,l3,l4,l5,l6,l7⟩ (λhHeld=>?_)
   clear hK K
   try simp only[Act.put,dR,dS,dD]
   iterate 8
    (
     refine lV (oi:={dst:=_,op:=_,type:=_,pos:=_,after:=_,guard:=_}) (v:=?_) rfl rfl (by rfl) hHeld ?_ ?_
     rotate_left
     .intro w' bZ;obtain⟨s0,s1,s2,s3,s4,s5,s6,s7⟩:=bZ
      go_simp
      try with_reducible rfl
     simp only[Act.put,dR,dS,dD])
   refine wpAnyH_ready (rs:=[15]) ag af ?_
   refine AllReadyH.cons rfl (λK hK=>?_) AllReadyH.nil
   go_simp
   refine(HT.out _).mono ?_;rintro e w6 ⟨rfl,je⟩;have vH:B<w6.heap.size:=bW o9 je.size;have zR:b<w6.heap.size:=bW oC je.size;have m0:=aS je l0 o9;have m1:=aS je l1 o9;have m2:=aS je l2 oC;have m3:=aS je l3 oC;have m4:=aS je l4 oC;have m5:=aS je l5 oC;have m6:=aS je l6 oC;have m7:=aS je l7 oC
   go_wp2_with fail
   refine hK.out _ _ ⟨m0,m1,m2,m3,m4,m5,m6,m7⟩ (λhHeld=>?_)
   clear hK K
   try simp only[Act.put,dR,dS,dD]
   iterate 2
    (
     refine lV (oi:={dst:=_,op:=_,type:=_,pos:=_,after:=_,guard:=_}) (v:=?_) rfl rfl (by rfl) hHeld ?_ ?_
     rotate_left
     .intro w' bZ;obtain⟨s0,s1,s2,s3,s4,s5,s6,s7⟩:=bZ
      go_simp
      try with_reducible rfl
     simp only[Act.put,dR,dS,dD])
   iterate 8
    (
     refine C7 (oi:={dst:=_,op:=_,type:=_,pos:=_,after:=_,guard:=_}) rfl rfl hHeld ?_;simp only[Act.put,dR,dS,dD])
   iterate 2
    (
     refine lV (oi:={dst:=_,op:=_,type:=_,pos:=_,after:=_,guard:=_}) (v:=?_) rfl rfl (by rfl) hHeld ?_ ?_
     rotate_left
     .intro w' bZ;obtain⟨s0,s1,s2,s3,s4,s5,s6,s7⟩:=bZ
      go_simp
      try with_reducible rfl
     simp only[Act.put,dR,dS,dD])
   refine wpAnyH_done ag ?_ _
   go_wp2_with fail
   go_ret
   exact⟨rfl,by rw[tS];exact(ID _ fF).trans (je.mono (fh o9))⟩
  ·
   go_region_held3 (λw'=>w'.cell? ⟨B,0,none⟩=some (aA aK N1 N2)/\w'.cell? ⟨B,1,none⟩=some (az aJ N3)/\w'.cell? ⟨b,0,none⟩=some (aA aK X1 X2)/\w'.cell? ⟨b,1,none⟩=some (aB aK X3)/\w'.cell? ⟨b,2,none⟩=some (aA aK F1 F2)/\w'.cell? ⟨b,3,none⟩=some (az aJ F3)/\w'.cell? ⟨b,4,none⟩=some (aA aK T1 T2)/\w'.cell? ⟨b,5,none⟩=some (az aJ T3)) (go_keep) (first
    |(go_at_call_of 100 (Value.agg #[Value.complex FloatKind.f64 F1 F2,Value.int IntKind.i64 F3]);refine(HF.out _).mono ?_;rintro e w5 ⟨rfl,fF⟩;have o9:B<w5.heap.size:=bW jw fF.size;have oC:b<w5.heap.size:=bW lj fF.size;have l0:=aS fF z0 jw;have l1:=aS fF z1 jw;have l2:=aS fF z2 lj;have l3:=aS fF z3 lj;have l4:=aS fF z4 lj;have l5:=aS fF z5 lj;have l6:=aS fF z6 lj;have l7:=(aS fF z7 lj))
    |(go_at_call_of 100 (Value.agg #[Value.complex FloatKind.f64 T1 T2,Value.int IntKind.i64 T3]);refine(HT.out _).mono ?_;rintro e w6 ⟨rfl,je⟩;have vH:B<w6.heap.size:=bW o9 je.size;have zR:b<w6.heap.size:=bW oC je.size;have m0:=aS je l0 o9;have m1:=aS je l1 o9;have m2:=aS je l2 oC;have m3:=aS je l3 oC;have m4:=aS je l4 oC;have m5:=aS je l5 oC;have m6:=aS je l6 oC;have m7:=(aS je l7 oC))
    |(go_at_call 97;refine(HL.out _).mono ?_;rintro e w7 ⟨rfl,uk⟩;have atP:B<w7.heap.size:=bW vH uk.size;have atQ:b<w7.heap.size:=bW zR uk.size;have q0:=aS uk m0 vH;have q1:=aS uk m1 vH;have q2:=aS uk m2 zR;have q3:=aS uk m3 zR;have q4:=aS uk m4 zR;have q5:=aS uk m5 zR;have q6:=aS uk m6 zR;have q7:=(aS uk m7 zR)))
   all_goals
    go_wp2_with fail
    go_ret
    exact⟨af,by rw[tS];exact((ID _ fF).trans (je.mono (fh o9))).trans (uk.mono (fh vH))⟩
 ·
  refine wp_region_held_drew (S:=(λw'=>w'.cell? ⟨B,0,none⟩=some (aA aK N1 N2)/\w'.cell? ⟨B,1,none⟩=some (az aJ N3)/\w'.cell? ⟨b,0,none⟩=some (aA aK X1 X2)/\w'.cell? ⟨b,1,none⟩=some (aB aK X3)/\w'.cell? ⟨b,2,none⟩=some (aA aK F1 F2)/\w'.cell? ⟨b,3,none⟩=some (az aJ F3)/\w'.cell? ⟨b,4,none⟩=some (aA aK T1 T2)/\w'.cell? ⟨b,5,none⟩=some (az aJ T3))) ag ⟨z0,z1,z2,z3,z4,z5,z6,z7⟩ (λhHeld=>?_)
  iterate 6
   (
    refine lV (oi:={dst:=_,op:=_,type:=_,pos:=_,after:=_,guard:=_}) (v:=?_) rfl rfl (by rfl) hHeld ?_ ?_
    rotate_left
    .intro w' bZ;obtain⟨s0,s1,s2,s3,s4,s5,s6,s7⟩:=bZ
     go_simp
     try with_reducible rfl
    simp only[Act.put,dR,dS,dD])
  refine wpAnyH_ready (rs:=[6]) ag af ?_
  refine AllReadyH.cons rfl (λK hK=>?_) AllReadyH.nil
  go_simp
  refine(HF.out _).mono ?_;rintro e w5 ⟨rfl,fF⟩;have o9:B<w5.heap.size:=bW jw fF.size;have oC:b<w5.heap.size:=bW lj fF.size;have l0:=aS fF z0 jw;have l1:=aS fF z1 jw;have l2:=aS fF z2 lj;have l3:=aS fF z3 lj;have l4:=aS fF z4 lj;have l5:=aS fF z5 lj;have l6:=aS fF z6 lj;have l7:=aS fF z7 lj
  go_wp2_with fail
  refine hK.out _ _ ⟨l0,l1,l2,l3,l4,l5,l6,l7⟩ (λhHeld=>?_)
  clear hK K
  try simp only[Act.put,dR,dS,dD]
  iterate 2
   (
    refine lV (oi:={dst:=_,op:=_,type:=_,pos:=_,after:=_,guard:=_}) (v:=?_) rfl rfl (by rfl) hHeld ?_ ?_
    rotate_left
    .intro w' bZ;obtain⟨s0,s1,s2,s3,s4,s5,s6,s7⟩:=bZ
     go_simp
     try with_reducible rfl
    simp only[Act.put,dR,dS,dD])
  iterate 7
   (
    refine C7 (oi:={dst:=_,op:=_,type:=_,pos:=_,after:=_,guard:=_}) rfl rfl hHeld ?_;simp only[Act.put,dR,dS,dD])
  iterate 2
   (
    refine lV (oi:={dst:=_,op:=_,type:=_,pos:=_,after:=_,guard:=_}) (v:=?_) rfl rfl (by rfl) hHeld ?_ ?_
    rotate_left
    .intro w' bZ;obtain⟨s0,s1,s2,s3,s4,s5,s6,s7⟩:=bZ
     go_simp
     try with_reducible rfl
    simp only[Act.put,dR,dS,dD])
  iterate 8
   (
    refine C7 (oi:={dst:=_,op:=_,type:=_,pos:=_,after:=_,guard:=_}) rfl rfl hHeld ?_;simp only[Act.put,dR,dS,dD])
  iterate 2
   (
    refine lV (oi:={dst:=_,op:=_,type:=_,pos:=_,after:=_,guard:=_}) (v:=?_) rfl rfl (by rfl) hHeld ?_ ?_
    rotate_left
    .intro w' bZ;obtain⟨s0,s1,s2,s3,s4,s5,s6,s7⟩:=bZ
     go_simp
     try with_reducible rfl
    simp only[Act.put,dR,dS,dD])
  refine wpAnyH_done ag ?_ _
  go_wp2_with fail
  go_ret
  exact⟨rfl,by rw[tS];exact ID _ fF⟩
end
end Go.Proofs.YtkjhhooecopolaaGreatDoor

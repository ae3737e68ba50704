import Derived.Test.YtkjhhooecopolaaGreatDoorSz01
set_option maxRecDepth 100000
set_option maxHeartbeats 4000000
namespace Go.Proofs.YtkjhhooecopolaaGreatDoor
open Tryz
open Value renaming int->az,complex->aA,float->aB,agg->aC,bool->aD,string->aF,slice->aG,pointer->aH,tuple->aI
open IntKind renaming i64->aJ
open FloatKind renaming f64->aK
open Ending renaming returned->aL
open Go renaming World->aM,Value->aN,floatOfInt->aO
section
open Go.RowKit
theorem vh{w:aM}{base:Nat}{e:TypeId}{size:Nat}{v:aN}{n:Nat}{xs:List aN}(h:w.ownsRow base e size v n xs){k:Nat}(hk:v.ownBlock=some k):
  ∃cur,w.heap[k]?=some (.cells cur e (0,0)):=by
 rcases h.2 with⟨ha,_⟩|⟨g,cap,cur,hv,hg,hh,r⟩
 .rw[ha] at hk;cases hk
 .rw[hv] at hk;have:g=k:=by simpa[Value.ownBlock] using hk
  subst this;exact⟨cur,hh⟩
theorem tW.push{rb:Nat}{rv:aN}{gP:List (List (Int×Int))}{q:List (Int×Int)}{w:aM}(h:tW rb rv (gP++[q]) w):
  ∃gr cap qv,rv=aG (some ⟨gr,0,none⟩) (gP.length+1) cap/\rb<gr/\(∃cur,w.heap[gr]?=some (.cells cur 127 (0,0))/\cur[gP.length]?=some qv)/\
   w.ownsRow (rb+1) 81 1 qv q.length (rT q)/\
   ∀(w5:aM)(g cap':Nat)(o:Obj)(p:Int×Int),(w.alloc o).drew.grownBy w5 qv.ownBlock->
    w5.ownsRow (rb+1) 81 1 (aG (some ⟨g,0,none⟩) (q.length+1) cap') (q.length+1) (rT q++[Bj p])->
    (qv.ownBlock=some g\/g=w.heap.size+1)->
    tW rb rv (gP++[q++[p]]) (w5.setCell ⟨gr,gP.length,none⟩ (aG (some ⟨g,0,none⟩) (q.length+1) cap')):=by
 obtain⟨vs,h1,h2,h3,h4⟩:=h;simp only[bX,dG,ib,jH] at h1 h2;obtain⟨hl,h2'⟩:=id h2;rcases h2' with⟨_,h0⟩|⟨gr,cap,cur,hv,hg,hh,hnc,hcm,hcs,htake⟩
 .omega
 have hn:gP.length<vs.length:=aa
 obtain⟨qv,xk⟩:∃qv,vs[gP.length]?=some qv:=⟨_,bo hn⟩;have hq:w.ownsRow (rb+1) 81 1 qv q.length (rT q):=h3 gP.length qv q xk af
 have fX:cur[gP.length]?=some qv:=by
  rw[<-htake] at xk;rw[lH] at xk;simp only[Pc] at xk;rw[aV aa] at xk
  simpa using xk
 refine⟨gr,cap,qv,hv,hg,⟨cur,hh,fX⟩,hq,?_⟩;intro w5 g cap' o p hgrow rV hat;have aiu:=lt_of_heap hh;have hne:qv.ownBlock≠some gr:=tY hq hh ah
 have XM:w5.heap[gr]?=some (.cells cur 127 (0,0)):=(tX hgrow gr aiu hne).trans hh;have atN:g≠gr:=λe=>by
  obtain⟨c5,DN⟩:=vh rV (k:=g) rfl;rw[e,XM] at DN;injection DN with DN;injection DN with _ DN _;cases DN
 refine⟨vs.set gP.length (aG (some ⟨g,0,none⟩) (q.length+1) cap'),by simp[h1],?_,?_,?_⟩
 .simp only[bX,dG,ib,jH];refine⟨by simpa using hl,aR ⟨gr,cap,cur.setIfInBounds gP.length (aG (some ⟨g,0,none⟩) (q.length+1) cap'),hv,hg,heap_set XM _,hnc,hcm,by simpa using hcs,?_⟩⟩
  rw[<-htake];simp[List.take_set]
 .intro i v g' hi hg';by_cases hin:i=gP.length
  .subst hin;rw[tK hn] at hi;injection hi with hi;subst hi;have e:g'=q++[p]:=by simpa using hg'.symm
   subst e;have e2:rT (q++[p])=rT q++[Bj p]:=by simp[rT]
   rw[e2];simp only[bX,dG,ib,jH];refine bG rV λk hk=>dS ?_ _
   have:g=k:=by simpa[Value.ownBlock] using hk
   omega
  .rw[wP (λe=>hin e.symm)] at hi
   have XO:i<gP.length:=by
    have:=(cG.1 hi).1;omega
   have hg2:(gP++[q])[i]?=some g':=by
    rw[fM XO] at hg'⊢;exact hg'
   have ho:=h3 i v g' hi hg2;refine bG ho λk hk=>?_
   obtain⟨c,hc⟩:=vh ho hk;have aiv:k≠gr:=λe=>by
    rw[e,hh] at hc;injection hc with hc;injection hc with _ hc _;cases hc
   rw[dS aiv];refine tX hgrow k (bn ho k hk).2 λe=>?_
   exact hin (h4 i gP.length v qv k hi xk hk e)
 .intro i j v u k hi hj hv' hu';by_cases hin:i=gP.length
  .by_cases hjn:j=gP.length
   .omega
   .subst hin;rw[tK hn] at hi;injection hi with hi;subst hi;rw[wP (λe=>hjn e.symm)] at hj
    have mH:g=k:=by simpa[Value.ownBlock] using hv'
    rcases hat with h|h
    .exact(h4 j gP.length u qv k hj xk hu' (by rw[h,mH])).symm
    .have atO:j<gP.length:=by
      have:=(cG.1 hj).1;omega
     obtain⟨gj,XP⟩:∃gj,(gP++[q])[j]?=some gj:=⟨_,bo (by simp;omega)⟩
     have:=(bn (h3 j u gj hj XP) k hu').2;omega
  .rw[wP (λe=>hin e.symm)] at hi
   by_cases hjn:j=gP.length
   .subst hjn;rw[tK hn] at hj;injection hj with hj;subst hj;have mH:g=k:=by simpa[Value.ownBlock] using hu'
    rcases hat with h|h
    .exact h4 i gP.length v qv k hi xk hv' (by rw[h,mH])
    .have XO:i<gP.length:=by
      have:=(cG.1 hi).1;omega
     obtain⟨gi,hgi⟩:∃gi,(gP++[q])[i]?=some gi:=⟨_,bo (by simp;omega)⟩
     have:=(bn (h3 i v gi hi hgi) k hv').2;omega
   .rw[wP (λe=>hjn e.symm)] at hj
    exact h4 i j v u k hi hj hv' hu'
end
section
section
variable{P:Program}{ops:Array Oper}{Q:Exit->Act->aM->Prop}{md:Region.Mode}{S:aM->Prop}{n:Nat}
def Till(P:Program)(md:Region.Mode)(ops:Array Oper)(Q:Exit->Act->aM->Prop)(S:aM->Prop)(n:Nat):Nat->Array Bool->Act->aM->Prop
 |0,l,a,w=>Region.ready md ops l=[]/\Q .normal a w
 |f+1,l,a,w=>(Region.ready md ops l=[]->Q .normal a w)/\
   ∀i∈Region.ready md ops l,wpOp P ops Q i (λa' w'=>(i≠n->S w')/\Till P md ops Q S n f (l.setIfInBounds i true) a' w') a w
theorem Till.any:∀(f:Nat)(l:Array Bool)(a:Act)(w:aM),Till P md ops Q S n f l a w->wpAny P md ops Q f l a w
 |0,_,_,_,h=>h
 |f+1,_,_,_,h=>⟨h.1,λi hi=>wpOp_mono (λa' w' h'=>Till.any f _ a' w' h'.2) (h.2 i hi)⟩
theorem Till.start{id:Nat}{a:Act}{w:aM}(hm:P.follows .mixedOrders=true)
  (h:Till P .any ops Q S n ops.size (Array.replicate ops.size false) a w.drew):(Code.region id ops true).wp P Q a w:=
 wp_region_any hm (Till.any _ _ _ _ h)
theorem Till.done{l:Array Bool}{a:Act}{w:aM}(hr:Region.ready md ops l=[])(h:Q .normal a w)(f:Nat):Till P md ops Q S n f l a w:=by
 cases f with
 |zero=>exact⟨hr,h⟩
 |succ f=>exact⟨λ_=>h,by rw[hr];simp⟩
theorem Till.one{i f:Nat}{o:Oper}{l:Array Bool}{a:Act}{w:aM}(ho:ops[i]?=some o)(hr:Region.ready md ops l=[i])
  (h:∀K:Act->aM->Prop,(∀a' w',(i≠n->S w')->Till P md ops Q S n f (l.setIfInBounds i true) a' w'->K a' w')->if Region.wanted o (yielded ops a.tmps)=true then Oper.wp P o a w K Q else K (a.put o.dst undef) w):
  Till P md ops Q S n (f+1) l a w:=by
 refine⟨λh0=>?_,λj hj=>?_⟩
 .rw[hr] at h0;cases h0
 .rw[hr,dB] at hj;subst hj;exact wpOp_step ho (λK hK=>h K (λa' w' h1 h2=>hK a' w' ⟨h1,h2⟩))
theorem Till.first{i:Nat}{oi:Oper}{v:aN}(hi:ops[i]?=some oi)(QB:∀(j:Nat)(o:Oper) cs b,ops[j]?=some o->o.op≠.select cs b)
  (hQ:∀c a w,Q (.panic c) (a.put oi.dst v) w->Q (.panic c) a w)
  (hin:i≠n)(hn:∀o,ops[n]?=some o->∃e∈o.after,Region.binds md e=true/\e.on=i):
  ∀(f:Nat)(l:Array Bool)(a:Act)(w:aM),
   (∀j oj,ops[j]?=some oj->j≠i->l.getD j true=false->(∀e∈oj.after,Region.binds md e=true->e.on≠i)->oi.apart ops oj=true)->
   i∈Region.ready md ops l->YieldsIf P ops S oi v a->S w->
   Till P md ops Q S n f (l.setIfInBounds i true) (a.put oi.dst v) w->Till P md ops Q S n (f+1) l a w
 |0,l,a,w,_,hr,hy,hS,H=>by
  refine⟨λh=>(by rw[h] at hr;cases hr),λj hj=>?_⟩
  rcases Nat.decEq j i with hne|rfl
  .have:=ready_mono hj hne;rw[H.1] at this;cases this
  .exact hy.wpOp hi hS ⟨λ_=>hS,H⟩
 |f+1,l,a,w,hfree,hr,hy,hS,H=>by
  refine⟨λh=>(by rw[h] at hr;cases hr),λj hj=>?_⟩
  rcases Nat.decEq j i with hne|rfl
  .obtain⟨XR,oj,KY,hall⟩:=mem_ready.1 hj;have hir:i∈Region.ready md ops (l.setIfInBounds j true):=ready_mono hr (Ne.symm hne);have XS:∀e∈oj.after,Region.binds md e=true->e.on≠i:=λe he hb heq=>by
    have h1:=hall e he hb;rw[heq] at h1;have h0:=(mem_ready.1 hr).1;rcases nW i l.size with q|q
    .simp[q] at h0 h1;rw[h0] at h1;cases h1
    .simp[Array.getElem?_eq_none q] at h1
   have hjn:j≠n:=λe=>by
    subst e;obtain⟨e,he,hb,tQ⟩:=hn oj KY;exact XS e he hb tQ
   refine wpOp_mono (λa' w' h3=>?_) (wpOp_putIf KY (hfree j oj KY hne XR XS) (λcs b=>QB i oi cs b hi) (λcs b=>QB j oj cs b KY) hQ hy (H.2 j (ready_mono hj hne)))
   obtain⟨hy',h4,h5⟩:=h3;have bY:S w':=h4 hjn;refine⟨λ_=>bY,Till.first hi QB hQ hin hn f (l.setIfInBounds j true) a' w' ?_ hir hy' bY ?_⟩
   .intro k ok hk ij hun hno;refine hfree k ok hk ij ?_ hno;rcases Nat.decEq j k with hjk|rfl
    .rw[getD_set_ne true hjk] at hun;exact hun
    .exact XR
   .rw[Array.setIfInBounds_comm _ _ hne];exact h5
  .exact hy.wpOp hi hS ⟨λ_=>hS,H⟩
def waits(md:Region.Mode)(ops:Array Oper)(n i:Nat):Bool:=
 match ops[n]? with
 |some o=>(n != i)&&o.after.any λe=>Region.binds md e&&e.on == i
 |none=>false
theorem Till.take{i:Nat}{oi:Oper}{v:aN}{f:Nat}{l:Array Bool}{a:Act}{w:aM}(hi:ops[i]?=some oi)
  (hs:Region.noSelect ops=true)(hf:Region.free md ops l i=true)(hr:(Region.ready md ops l).contains i=true)(hw:waits md ops n i=true)
  (hQ:∀c a w,Q (.panic c) (a.put oi.dst v) w->Q (.panic c) a w)(hy:YieldsIf P ops S oi v a)(hS:S w)
  (h:Till P md ops Q S n f (l.setIfInBounds i true) (a.put oi.dst v) w):Till P md ops Q S n (f+1) l a w:=by
 unfold waits at hw;split at hw
 .rename_i o ho
  simp only[tH,Az,ne_eq,Array.any_eq_true',Wf] at hw;obtain⟨h1,e,he,h2,h3⟩:=hw;refine Till.first hi (Region.noSelect_spec hs) hQ (λq=>h1 q.symm) (λo' ho'=>?_) f l a w (Region.free_spec hi hf) (by simpa using hr) hy hS h
  rw[ho] at ho';injection ho' with ho';subst ho';exact⟨e,he,h2,h3⟩
 .cases hw
end
end
section
open Go.RowKit
theorem KZ(x y:Int)(w:aM):
  ak 38 #[az aJ x,az aJ y] w λe w'=>e=aL (aA aK (aO aK x) (aO aK y))/\w'=w:=by
 go_enter func38,ntmps38
 go_wp2
 go_ret
 exact⟨rfl,rfl⟩
theorem aix:(Tryz.prog.info? 81).map (λi=>(i.zero,i.size,i.bytes))=some (some (aA aK 0 0),1,16):=ag
theorem aiy(hO:qM)(rb:Nat)(s:ByteArray)(A r:List Pl.Tk)(x y:Pl.Tk)(rg:List (List (Int×Int)))(q:List (Int×Int))(w:aM)(cx:Cx rb s A)(hR:RD rb s A (x::y::r) (rg++[q]) w)(hG:Gl w)
  (hx:x.k=110)(hy:y.k=110)(hq:q.length<=1000)(hrg:rg.length<=1000):
  ak 196 #[aH (some ⟨rb,0,none⟩)] w λe w'=>e=aL (aD true)/\RD rb s A r (rg++[q++[(x.n,y.n)]]) w'/\Below rb w w':=by
 obtain⟨i0,hi,hz0,hz1,hz2⟩:=info_parts aix;have hlt:=hR.lt;obtain⟨t',r',hl,c0,c1,c2,c3,c4⟩:=hR.cells;injection hl with h1 h2;subst h1 h2
 go_enter func196,ntmps196
 go_wp2_with fail
 refine(QA hO rb s A (y::r) x _ _ cx (hR.alloc _) (hG.alloc _) hx).mono ?_;rintro e w1 ⟨rfl,gQ,hb1,hk1⟩;clear c0 c1 c2 c3 c4;have zi:=hk1 w.heap.size _ aa ((hR.nt w.heap.size (aY _)).below hlt (aw _ _)) (heap_alloc_new w _)
 obtain⟨t',r',hl,c0,c1,c2,c3,c4⟩:=gQ.cells;injection hl with h1 h2;subst h1 h2;have dv:Gl w1:=(hG.alloc _).below hb1 cx.rb
 go_wp2_with fail
 refine(QA hO rb s A r y _ _ cx (gQ.alloc _) (dv.alloc _) hy).mono ?_;rintro e w2 ⟨rfl,fJ,hb2,hk2⟩;clear c0 c1 c2 c3 c4;have y9:=gQ.lt;have hby:=hk2 w1.heap.size _ aa ((gQ.nt w1.heap.size (aY _)).below y9 (aw _ _)) (heap_alloc_new w1 _)
 have jJ:=hk2 w.heap.size _ aa (zi.2.below y9 (aw _ _)) ((Below.heap_alloc _ _ _ (lt_of_heap zi.1)).trans zi.1)
 have QC:=eN jJ.1;have QD:=eN hby.1;obtain⟨c,t,r0,tv,rv,hc,hl,hbk,hown,QE⟩:=id fJ;obtain⟨gr,cap,qv,rfl,hgr,⟨cur,fX,XT⟩,zj,hfin⟩:=QE.push;have c6:=FX hbk;have ce:w2.cell? ⟨gr,rg.length,none⟩=some qv:=(cell_of fX rg.length).trans XT;have ik:=fJ.lt;have hnc:(rg.length:Int)<(rg.length:Int)+1:=aa
 go_wp2_with fail
 refine Till.start (S:=λw'=>w'.cell? ⟨rb,6,none⟩=some (aG (some ⟨gr,0,none⟩) (rg.length+1) cap)/\w'.cell? ⟨gr,rg.length,none⟩=some qv/\w'.cell? ⟨w.heap.size,2,none⟩=some (az aJ x.n)/\w'.cell? ⟨w1.heap.size,2,none⟩=some (az aJ y.n)) (n:=20) ag ?_
 have hS:w2.drew.cell? ⟨rb,6,none⟩=some (aG (some ⟨gr,0,none⟩) (rg.length+1) cap)/\w2.drew.cell? ⟨gr,rg.length,none⟩=some qv/\w2.drew.cell? ⟨w.heap.size,2,none⟩=some (az aJ x.n)/\w2.drew.cell? ⟨w1.heap.size,2,none⟩=some (az aJ y.n):=⟨c6,ce,QC,QD⟩;refine Till.take (i:=0) (v:=?_) rfl ag ag ag ag (λ_ _ _ h=>h) (aS ⟨by rfl,?_⟩) hS ?_
 rotate_left
 .intro w' bY;obtain⟨s1,s2,s3,s4⟩:=bY
  go_simp
  try with_reducible rfl
 simp only[Act.put,dY];refine Till.take (i:=1) (v:=?_) rfl ag ag ag ag (λ_ _ _ h=>h) (aS ⟨by rfl,?_⟩) hS ?_
 rotate_left
 .intro w' bY;obtain⟨s1,s2,s3,s4⟩:=bY
  go_simp
  try with_reducible rfl
 simp only[Act.put];refine Till.take (i:=2) (v:=?_) rfl ag ag ag ag (λ_ _ _ h=>h) (aS ⟨by rfl,?_⟩) hS ?_
 rotate_left
 .intro w' bY;obtain⟨s1,s2,s3,s4⟩:=bY
  go_simp
  try with_reducible rfl
 simp only[Act.put];refine Till.take (i:=3) (v:=?_) rfl ag ag ag ag (λ_ _ _ h=>h) (aS ⟨by rfl,?_⟩) hS ?_
 rotate_left
 .intro w' bY;obtain⟨s1,s2,s3,s4⟩:=bY
  go_simp
  try with_reducible rfl
 simp only[Act.put];refine Till.take (i:=4) (v:=?_) rfl ag ag ag ag (λ_ _ _ h=>h) (aS ⟨by rfl,?_⟩) hS ?_
 rotate_left
 .intro w' bY;obtain⟨s1,s2,s3,s4⟩:=bY
  go_simp
  try with_reducible rfl
 simp only[Act.put];refine Till.take (i:=5) (v:=?_) rfl ag ag ag ag (λ_ _ _ h=>h) (aS ⟨by rfl,?_⟩) hS ?_
 rotate_left
 .intro w' bY;obtain⟨s1,s2,s3,s4⟩:=bY
  go_simp
  try with_reducible rfl
 simp only[Act.put];refine Till.take (i:=6) (v:=?_) rfl ag ag ag ag (λ_ _ _ h=>h) (aS ⟨by rfl,?_⟩) hS ?_
 rotate_left
 .intro w' bY;obtain⟨s1,s2,s3,s4⟩:=bY
  go_simp
  try with_reducible rfl
 simp only[Act.put];refine Till.take (i:=7) (v:=?_) rfl ag ag ag ag (λ_ _ _ h=>h) (aS ⟨by rfl,?_⟩) hS ?_
 rotate_left
 .intro w' bY;obtain⟨s1,s2,s3,s4⟩:=bY
  go_simp
  try with_reducible rfl
 simp only[Act.put];refine Till.take (i:=8) (v:=?_) rfl ag ag ag ag (λ_ _ _ h=>h) (aS ⟨by rfl,?_⟩) hS ?_
 rotate_left
 .intro w' bY;obtain⟨s1,s2,s3,s4⟩:=bY
  go_simp
  try with_reducible rfl
 simp only[Act.put];refine Till.take (i:=9) (v:=?_) rfl ag ag ag ag (λ_ _ _ h=>h) (aS ⟨by rfl,?_⟩) hS ?_
 rotate_left
 .intro w' bY;obtain⟨s1,s2,s3,s4⟩:=bY
  go_simp
  try with_reducible rfl
 simp only[Act.put];refine Till.take (i:=10) (v:=?_) rfl ag ag ag ag (λ_ _ _ h=>h) (aS ⟨by rfl,?_⟩) hS ?_
 rotate_left
 .intro w' bY;obtain⟨s1,s2,s3,s4⟩:=bY
  go_simp
  try with_reducible rfl
 simp only[Act.put];refine Till.take (i:=11) (v:=?_) rfl ag ag ag ag (λ_ _ _ h=>h) (aS ⟨by rfl,?_⟩) hS ?_
 rotate_left
 .intro w' bY;obtain⟨s1,s2,s3,s4⟩:=bY
  go_simp
  try with_reducible rfl
 simp only[Act.put];refine Till.take (i:=12) (v:=?_) rfl ag ag ag ag (λ_ _ _ h=>h) (aS ⟨by rfl,?_⟩) hS ?_
 rotate_left
 .intro w' bY;obtain⟨s1,s2,s3,s4⟩:=bY
  go_simp
  try with_reducible rfl
 simp only[Act.put];refine Till.take (i:=13) (v:=?_) rfl ag ag ag ag (λ_ _ _ h=>h) (aS ⟨by rfl,?_⟩) hS ?_
 rotate_left
 .intro w' bY;obtain⟨s1,s2,s3,s4⟩:=bY
  go_simp
  try with_reducible rfl
 simp only[Act.put];refine Till.take (i:=14) (v:=?_) rfl ag ag ag ag (λ_ _ _ h=>h) (aS ⟨by rfl,?_⟩) hS ?_
 rotate_left
 .intro w' bY;obtain⟨s1,s2,s3,s4⟩:=bY
  go_simp
  try with_reducible rfl
 simp only[Act.put];refine Till.take (i:=15) (v:=?_) rfl ag ag ag ag (λ_ _ _ h=>h) (aS ⟨by rfl,?_⟩) hS ?_
 rotate_left
 .intro w' bY;obtain⟨s1,s2,s3,s4⟩:=bY
  go_simp
  try with_reducible rfl
 simp only[Act.put];refine Till.one (i:=16) rfl ag (λK hK=>?_)
 go_simp
 refine(KZ _ _ _).mono ?_;rintro e w' ⟨rfl,rfl⟩
 go_wp2_with fail
 refine hK _ _ (λ_=>hS) ?_
 clear hK K
 try simp only[Act.put,dY,dZ,dL]
 refine Till.one (i:=17) rfl ag (λK hK=>?_)
 go_simp
 refine hK _ _ (λ_=>⟨(World.cell?_alloc_lt _ _ _ (World.block_lt_of_cell? _ _ c6)).trans c6,(World.cell?_alloc_lt _ _ _ (World.block_lt_of_cell? _ _ ce)).trans ce,(World.cell?_alloc_lt _ _ _ (World.block_lt_of_cell? _ _ QC)).trans QC,(World.cell?_alloc_lt _ _ _ (World.block_lt_of_cell? _ _ QD)).trans QD⟩) ?_
 clear hK K
 try simp only[Act.put,dY,dZ,dL]
 refine Till.one (i:=18) rfl ag (λK hK=>?_)
 refine step_append_lies _ rfl (.tmp 37) (.tmp 43) 127 rfl (rb+1) 81 i0 _ 1 16 underlying127 hi hz0 hz1 hz2 rfl ah qv q.length (rT q) rfl (bG zj (λk hk=>Below.heap_alloc _ _ _ (bn zj k hk).2)) ⟨w2.heap.size,0,none⟩ 1 1 [Bj (x.n,y.n)] rfl rfl (World.news_of_block (cs:= #[Bj (x.n,y.n)]) (t:=81) (fr:=(0,0)) (heap_alloc_new w2 _)) (by simp[Value.oneCell',Bj]) ah (by unfold maxLen;omega) aa (by show rb+1<=(w2.alloc _).heap.size;simp;omega) (w2.heap.size+1) (by show(w2.alloc _).heap.size=_;simp) ?_
 intro g cap' w5 ho hgrow hat atP;have k6:=(tX hgrow rb fJ.lt (rU zj rb aa)).trans hbk
 have kg:=(tX hgrow gr (lt_of_heap fX) (tY zj fX ah)).trans fX
 have kx:=(tX hgrow w.heap.size (lt_of_heap jJ.1) (tY zj jJ.1 ah)).trans jJ.1
 have ky:=(tX hgrow w1.heap.size (lt_of_heap hby.1) (tY zj hby.1 ah)).trans hby.1
 have d6:=FX k6;have de:w5.cell? ⟨gr,rg.length,none⟩=some qv:=(cell_of kg rg.length).trans XT;have dx:=eN kx;have dy:=eN ky;have fe:w5.frozen? ⟨gr,rg.length,none⟩=false:=bK kg _;refine hK _ _ (λ_=>⟨d6,de,dx,dy⟩) ?_
 clear hK K
 try simp only[Act.put,dY]
 refine Till.one (i:=19) rfl ag (λK hK=>?_)
 go_simp
 refine hK _ _ (λ_=>⟨d6,de,dx,dy⟩) ?_
 clear hK K
 try simp only[Act.put,dY,dZ,dL]
 refine Till.one (i:=20) rfl ag (λK hK=>?_)
 go_simp
 refine hK _ _ (λh=>absurd rfl h) ?_
 clear hK K;refine Till.done ag ?_ _
 go_wp2_with fail
 go_ret
 refine⟨rfl,⟨c,t,r0,tv,_,hc,hl,(dS aa _).trans k6,bG hown λk hk=>?_,hfin w5 g cap' _ _ hgrow ho hat⟩,?_⟩
 .obtain⟨c9,xm⟩:=vh hown hk;have hkg:k≠gr:=λe=>by
   rw[e,fX] at xm;injection xm with xm;injection xm with _ xm _;cases xm
  rw[dS hkg];exact tX hgrow k (bn hown k hk).2 (tY zj xm ah)
 .have e1:Below rb w w2:=(((((Below.refl rb w).alloc aa _).trans hb1).alloc aa _).trans hb2)
  have e2:Below rb w w5:=((e1.alloc (fF fJ.lt) _).drew).grown hgrow (by have:=fJ.lt;show rb<=(w2.alloc _).heap.size;simp;omega) (λk hk=>by have:=(bn zj k hk).1;omega)
  exact e2.setCell (by show rb<=gr;omega) _
end
section
open Ieee
variable{s t:Bool}{i n j x y u v:Int}{m c k a b N L:Nat}
def Dn(d:Datum)(n:Int):Prop:=∃s m i,d=.number s m i/\ -2148<=i/\signed s m (i+2148).toNat=n*2 ^ 2148
def D1(d:Datum)(n:Int):Prop:=∃s m i,d=.number s m i/\ -1074<=i/\signed s m (i+1074).toNat=n*2 ^ 1074
def Fl(b:Nat)(n:Int):Prop:=D1 (double.read b) n
theorem qN(s:Bool)(m k:Nat):signed s m k=(if s then -1 else 1)*((m*2 ^ k:Nat):Int):=by
 unfold signed;rw[ag2];cases s<;>simp
theorem DR(s:Bool)(m k j:Nat):signed s m (k+j)=signed s m k*2 ^ j:=by
 rw[qN,qN,tL,<-tM];generalize(if s=true then(-1:Int) else 1)=c
 rw[FM (m*2 ^ k),VZ]
 push_cast
 rfl
theorem XU(k:Nat)(hm:m≠0):(m*2 ^ k).log2=m.log2+k:=by
 have hp:=rL k;have hne:m*2 ^ k≠0:=nZ (FN (Wh hm) hp);rw[ag3 hne];have⟨h1,h2⟩:=(ag3 hm (k:=m.log2)).1 rfl;refine⟨?_,?_⟩
 .rw[tL];exact J7 _ h1
 .have:m.log2+k+1=(m.log2+1)+k:=aa
  rw[this,tL];exact ato h2 hp
theorem XV(s:Bool)(m k:Nat):(signed s m k).natAbs=m*2 ^ k:=by
 rw[qN];cases s<;>simp[Int.natAbs_mul,Int.natAbs_pow]
theorem Gy(k:Nat):(0:Int)<2 ^ k:=by
 have:=rL k;have h:((2 ^ k:Nat):Int)=(2:Int) ^ k:=by push_cast;rfl
 omega
theorem XW(P Z:Nat)(hi: -(P:Int)<=i)(QF:P<=Z)(h:signed s m (i+P).toNat=n*2 ^ P):
  signed s m (i+Z).toNat=n*2 ^ Z:=by
 have e:(i+Z).toNat=(i+P).toNat+(Z-P):=aa
 have e':Z=P+(Z-P):=aa
 rw[e,DR,h,VZ,<-Int.pow_add,<-e']
theorem aiz(s:Bool)(m k:Nat):signed (!s) m k= -signed s m k:=by
 cases s<;>simp[signed]
theorem D1.XX{d:Datum}(h:D1 d n):D1 d.opposite (-n):=by
 obtain⟨s,m,i,rfl,h2,h3⟩:=h;refine⟨!s,m,i,rfl,h2,?_⟩;rw[aiz,h3,js]
theorem XY(t:Int)(c:Bool)(k:Nat):signed (if t=0 then c else decide (t<0)) t.natAbs k=t*2 ^ k:=by
 rw[qN,FM,Int.natCast_pow];have e3:((2:Nat):Int)=2:=rfl;rw[e3,<-VZ];congr 1;by_cases h:t=0
 .simp[h]
 .rw[aP h];by_cases h2:t<0
  .simp only[h2,decide_true,lG];omega
  .simp only[h2,decide_false,mO,nY];omega
theorem aiA{c:Bool}(P Z:Nat)(hi: -(P:Int)<=i)(hj: -(P:Int)<=j)(QF:P<=Z)
  (hx:signed s m (i+P).toNat=x*2 ^ P)(hy:signed t k (j+P).toNat=y*2 ^ P):
  signed (if signed s m (i-min i j).toNat+signed t k (j-min i j).toNat=0 then c else decide (signed s m (i-min i j).toNat+signed t k (j-min i j).toNat<0))
   (signed s m (i-min i j).toNat+signed t k (j-min i j).toNat).natAbs (min i j+Z).toNat=(x+y)*2 ^ Z:=by
 rw[XY,Int.add_mul,<-DR,<-DR];have e1:(i-min i j).toNat+(min i j+Z).toNat=(i+Z).toNat:=aa
 have e2:(j-min i j).toNat+(min i j+Z).toNat=(j+Z).toNat:=aa
 rw[e1,e2,XW P Z hi QF hx,XW P Z hj QF hy,Int.add_mul]
theorem D1.sum{d e:Datum}(hd:D1 d x)(he:D1 e y):∃r,d.sum e=some r/\Dn r (x+y):=by
 obtain⟨s,m,i,rfl,hi,hx⟩:=hd;obtain⟨t,k,j,rfl,hj,hy⟩:=he;refine⟨_,rfl,_,_,_,rfl,aa,?_⟩
 exact aiA 1074 2148 hi hj ah hx hy
theorem aiB(s t:Bool)(m k a b:Nat):signed (s ^^ t) (m*k) (a+b)=signed s m a*signed t k b:=by
 rw[qN,qN,qN,tL];have e:m*k*(2 ^ a*2 ^ b)=(m*2 ^ a)*(k*2 ^ b):=by ac_rfl
 rw[e,FM (m*2 ^ a)];cases s<;>cases t<;>simp[Int.neg_mul,Int.mul_neg]
theorem aiC(P:Nat)(hi: -(P:Int)<=i)(hj: -(P:Int)<=j)
  (hx:signed s m (i+P).toNat=x*2 ^ P)(hy:signed t k (j+P).toNat=y*2 ^ P):signed (s ^^ t) (m*k) (i+j+(P+P:Nat)).toNat=x*y*2 ^ (P+P):=by
 have e:(i+j+(P+P:Nat)).toNat=(i+P).toNat+(j+P).toNat:=aa
 rw[e,aiB,hx,hy,Int.pow_add]
 ac_rfl
theorem D1.product{d e:Datum}(hd:D1 d x)(he:D1 e y):∃r,d.product e=some r/\Dn r (x*y):=by
 obtain⟨s,m,i,rfl,hi,hx⟩:=hd;obtain⟨t,k,j,rfl,hj,hy⟩:=he;refine⟨_,rfl,_,_,_,rfl,aa,?_⟩
 exact aiC 1074 hi hj hx hy
theorem XZ(a b p:Int)(hp:0<p):compare (a*p) (b*p)=compare a b:=by
 rcases gf a b with h|h|h
 .rw[Pd.2 h,Pd.2 (Wi h hp)]
 .subst h;rw[Pe.2 rfl,Pe.2 rfl]
 .rw[Ph.2 h,Ph.2 (Wi h hp)]
theorem aiD(P:Nat)(hi: -(P:Int)<=i)(hj: -(P:Int)<=j)
  (hx:signed s m (i+P).toNat=x*2 ^ P)(hy:signed t k (j+P).toNat=y*2 ^ P):
  compare (signed s m (i-min i j).toNat) (signed t k (j-min i j).toNat)=compare x y:=by
 rw[<-XZ _ _ (2 ^ (min i j+P).toNat) (Gy _),<-DR,<-DR];have e1:(i-min i j).toNat+(min i j+P).toNat=(i+P).toNat:=aa
 have e2:(j-min i j).toNat+(min i j+P).toNat=(j+P).toNat:=aa
 rw[e1,e2,hx,hy,XZ _ _ _ (Gy _)]
theorem Fl.order(ha:Fl a x)(hb:Fl b y):double.order a b=some (compare x y):=by
 unfold Format.order;obtain⟨s,m,i,e1,hi,hx⟩:=ha;obtain⟨t,k,j,e2,hj,hy⟩:=hb;rw[e1,e2];exact aZ some (aiD 1074 hi hj hx hy)
theorem aiE(neg:Bool)(n:Nat):Toward.even.cut neg n 0=n:=by
 simp[Toward.cut,Nat.mod_one]
theorem X5(way:Toward)(neg:Bool)(q drop:Nat)(hq:0<q):way.cut neg (q*2 ^ drop) drop=q:=by
 have hl:drop<=(q*2 ^ drop).log2:=by
  have hne:q*2 ^ drop≠0:=nZ (FN hq (rL _));rw[Nat.le_log2 hne];exact atp _ hq
 have hm:min drop ((q*2 ^ drop).log2+2)=drop:=aa
 have hp:=rL drop;cases way<;>simp[Toward.cut,hm,Nat.shiftLeft_eq,Nat.mul_div_cancel _ hp]
 all_goals omega
theorem aiF(Z:Nat)(s:Bool)(hL:L<=52)(hi: -(Z:Int)<=i)(h52:52<=Z)(hN:N≠0)
  (og:m*2 ^ (i+Z).toNat=N*2 ^ Z):
  Toward.even.cut s (m <<<(i-((L:Int)-52)).toNat) (((L:Int)-52)-i).toNat=N*2 ^ (52-L):=by
 rcases(show i<(L:Int)-52\/(L:Int)-52<=i by omega) with hc|hc
 .have e0:(i-((L:Int)-52)).toNat=0:=aa
  rw[e0,ag5];have e2:Z=(52-L)+((((L:Int)-52)-i).toNat+(i+Z).toNat):=aa
  have e3:N*2 ^ Z=N*2 ^ (52-L)*2 ^ (((L:Int)-52)-i).toNat*2 ^ (i+Z).toNat:=by
   rw[tM,tM,<-tL,<-tL,<-e2]
  rw[e3] at og;have e4:=ag6 (rL _) og;rw[e4];exact X5 _ _ _ _ (FN (Wh hN) (rL _))
 .have e0:(((L:Int)-52)-i).toNat=0:=aa
  rw[e0,aiE,ag2];have e1:(i+Z).toNat=(i-((L:Int)-52)).toNat+(Z-(52-L)):=aa
  have e2:(52-L)+(Z-(52-L))=Z:=aa
  rw[e1,tL,<-tM] at og;have e3:N*2 ^ Z=N*2 ^ (52-L)*2 ^ (Z-(52-L)):=by rw[tM,<-tL,e2]
  rw[e3] at og;exact ag6 (rL _) og
theorem aiG(s:Bool)(hL:L<=52)(hm:m≠0)(hl:i+m.log2=L)(hK2:N*2 ^ (52-L)<2 ^ 53)
  (hk:Toward.even.cut s (m <<<(i-((L:Int)-52)).toNat) (((L:Int)-52)-i).toNat=N*2 ^ (52-L)):
  double.nearest s m i=double.word s ((L+1022)*2 ^ 52+N*2 ^ (52-L)):=by
 have hlast:max (i+m.log2-52) (-1074)=(L:Int)-52:=aa
 unfold Format.nearest;rw[aP hm];have e1:double.leastPlace= -1074:=ah
 have e2:((double.fractionBits:Nat):Int)=52:=rfl;have e3:double.binade=2 ^ 52:=rfl;have e4:double.infRung=2047*2 ^ 52:=rfl;simp only[e1,e2,e3,e4,hlast,hk];have e5:((L:Int)-52- -1074).toNat=L+1022:=aa
 rw[e5];generalize N*2 ^ (52-L)=K at*;have e6:(L+1022)*2 ^ 52+K<=2047*2 ^ 52:=aa
 rw[Dc e6]
theorem aiH(s:Bool)(L K:Nat)(hL:L<=52)(X6:2 ^ 52<=K)(hK2:K<2 ^ 53):
  double.read (double.word s ((L+1022)*2 ^ 52+K))=.number s K ((L:Int)-52):=by
 unfold Format.read;have e1:double.leastPlace= -1074:=ah
 have e3:double.binade=2 ^ 52:=rfl;have e4:double.infRung=2047*2 ^ 52:=rfl;have e5:double.signWeight=2 ^ 63:=rfl;have r1:double.word s ((L+1022)*2 ^ 52+K)%2 ^ 63=(L+1022)*2 ^ 52+K:=by
  unfold Format.word;rw[e5];split<;>omega
 have r2:(double.word s ((L+1022)*2 ^ 52+K)/2 ^ 63%2 == 1)=s:=by
  unfold Format.word;rw[e5];cases s
  .simp only[mO,nY,tJ];omega
  .simp only[lG,Wf];omega
 simp only[e1,e3,e4,e5,r1,r2];rw[aP aa,aV aa]
 have q1:2 ^ 52+((L+1022)*2 ^ 52+K)%2 ^ 52=K:=aa
 have q2:((L+1022)*2 ^ 52+K)/2 ^ 52-1=L+1022:=aa
 rw[q1,q2];have q3:(-1074:Int)+((L+1022:Nat):Int)=(L:Int)-52:=aa
 rw[q3]
theorem Gz{q:Nat}{p:Int}(hp:0<p)(hq:0<q)(hv:(if s then -1 else 1)*(q:Int)=n*p):(s=true/\n<0)\/(s=false/\0<n):=by
 cases s
 .right;refine⟨rfl,?_⟩;simp only[mO,nY,wQ] at hv;rcases gf n 0 with h|h|h
  .have:=uR h hp;omega
  .subst h;rw[AA] at hv;omega
  .exact h
 .left;refine⟨rfl,?_⟩;simp only[lG] at hv;rcases gf n 0 with h|h|h
  .exact h
  .subst h;rw[AA] at hv;omega
  .have:=bJ h hp;omega
theorem value_of(P:Nat)(hP:P=1074)(hL:L<=52)(hN:n.natAbs=N)(hs:(s=true/\n<0)\/(s=false/\0<n)):
  signed s (N*2 ^ (52-L)) ((L:Int)-52+1074).toNat=n*2 ^ P:=by
 rw[qN];have e1:((L:Int)-52+1074).toNat=L+1022:=aa
 rw[e1,tM,<-tL];have e2:52-L+(L+1022)=P:=aa
 rw[e2,FM,Int.natCast_pow];have e3:((2:Nat):Int)=2:=rfl;rw[e3];rcases hs with⟨rfl,hs⟩|⟨rfl,hs⟩
 .have:(N:Int)= -n:=aa
  rw[this];simp only[lG];rw[js,wQ,js,Int.neg_neg]
 .have:(N:Int)=n:=aa
  rw[this];simp only[mO,nY,wQ]
theorem aiI(s:Bool)(i:Int):double.read (double.nearest s 0 i)=.number s 0 (-1074):=by
 have e:double.nearest s 0 i=double.word s 0:=by simp[Format.nearest]
 rw[e];cases s<;>decide
theorem aiJ(Z P:Nat)(hZ:Z=2148)(hP:P=1074)(hi: -(Z:Int)<=i)
  (hv:signed s m (i+Z).toNat=n*2 ^ Z)(hn:n.natAbs<2 ^ 53):
  ∃s' m' i',double.read (double.nearest s m i)=.number s' m' i'/\ -1074<=i'/\signed s' m' (i'+1074).toNat=n*2 ^ P:=by
 have og:m*2 ^ (i+Z).toNat=n.natAbs*2 ^ Z:=by
  have:=aZ Int.natAbs hv;rw[XV,oX,ag4] at this;exact this
 by_cases hm:m=0
 .subst hm;have hn0:n=0:=by
   rw[wR] at og;rcases Nat.mul_eq_zero.1 og.symm with h|h
   .exact Int.natAbs_eq_zero.1 h
   .exact absurd h (nZ (rL _))
  subst hn0;refine⟨s,0, -1074,aiI s i,Int.le_refl _,?_⟩;rw[qN,wR,AA];simp
 .have hN:n.natAbs≠0:=by
   intro h;rw[h,wR] at og;rcases Nat.mul_eq_zero.1 og with h|h
   .exact absurd h hm
   .exact absurd h (nZ (rL _))
  have hl:m.log2+(i+Z).toNat=n.natAbs.log2+Z:=by
   rw[<-XU (i+Z).toNat hm,<-XU Z hN,og]
  have hL:n.natAbs.log2<=52:=Nat.le_of_lt_succ ((Nat.log2_lt hN (k:=53)).2 hn);have⟨hlo,hhi⟩:=(ag3 hN (k:=n.natAbs.log2)).1 rfl;have hs:(s=true/\n<0)\/(s=false/\0<n):=by
   rw[qN] at hv;exact Gz (Gy Z) (FN (Wh hm) (rL _)) hv
  have hk:=aiF Z s hL hi aa hN og
  clear hv og;generalize QG:n.natAbs.log2=L at*;have X6:2 ^ 52<=n.natAbs*2 ^ (52-L):=by
   have:2 ^ 52=2 ^ L*2 ^ (52-L):=by rw[<-tL];congr 1;omega
   rw[this];exact J7 _ hlo
  have hK2:n.natAbs*2 ^ (52-L)<2 ^ 53:=by
   have:2 ^ 53=2 ^ (L+1)*2 ^ (52-L):=by rw[<-tL];congr 1;omega
   rw[this];exact ato hhi (rL _)
  rw[aiG s hL hm aa hK2 hk]
  exact⟨_,_,_,aiH s L _ hL X6 hK2,aa,value_of P hP hL rfl hs⟩
theorem K0{d:Datum}(h:Dn d n)(hn:n.natAbs<2 ^ 53):Fl (double.write d) n:=by
 obtain⟨s,m,i,rfl,hi,hv⟩:=h;exact aiJ 2148 1074 rfl rfl hi hv hn
theorem aiK(way:Toward)(neg:Bool)(n:Nat):way.cut neg n 0=n:=by
 cases way<;>simp[Toward.cut,Nat.mod_one]
theorem aiL(P:Nat)(hi: -(P:Int)<=i)(h:signed s m (i+P).toNat=n*2 ^ P):
  signed s (Toward.zero.cut s (m <<<i.toNat) (-i).toNat) 0=n:=by
 rcases(show 0<=i\/i<0 by omega) with hc|hc
 .have e0:(-i).toNat=0:=aa
  rw[e0,aiK];have e1:(i+P).toNat=i.toNat+P:=aa
  rw[e1,DR] at h;have h2:=Wj (ag7 (Gy P)) h;rw[<-h2];unfold signed;rw[ag5]
 .have e0:i.toNat=0:=aa
  rw[e0,ag5];have og:m*2 ^ (i+P).toNat=n.natAbs*2 ^ P:=by
   have:=aZ Int.natAbs h;rw[XV,oX,ag4] at this;exact this
  have e2:P=(-i).toNat+(i+P).toNat:=aa
  have e3:n.natAbs*2 ^ P=n.natAbs*2 ^ (-i).toNat*2 ^ (i+P).toNat:=by rw[tM,<-tL,<-e2]
  rw[e3] at og;have hm:=ag6 (rL _) og;by_cases hn:n=0
  .subst hn;have:m=0:=by rw[hm];simp
   subst this;have:Toward.zero.cut s 0 (-i).toNat=0:=by simp[Toward.cut]
   rw[this];cases s<;>rfl
  .have hN:0<n.natAbs:=Int.natAbs_pos.2 hn;rw[hm,X5 _ _ _ _ hN];have hmp:0<m:=by rw[hm];exact FN hN (rL _)
   rw[qN] at h;rcases Gz (Gy P) (FN hmp (rL _)) h with⟨rfl,hs⟩|⟨rfl,hs⟩
   .rw[qN];simp only[lG];omega
   .rw[qN];simp only[mO,nY];omega
theorem Fl.toInt(h:Fl b n):(double.read b).toInt .zero=some n:=by
 obtain⟨s,m,i,e,hi,hx⟩:=h;rw[e];exact aZ some (aiL 1074 hi hx)
theorem Fl.add(ha:Fl a x)(hb:Fl b y)(hn:(x+y).natAbs<2 ^ 53):∃r,floatBits .add aK a b=some r/\Fl r (x+y):=by
 obtain⟨r,h1,h2⟩:=D1.sum ha hb;refine⟨double.write r,?_,K0 h2 hn⟩;show(Datum.sum (double.read a) (double.read b)).map double.write=_;rw[h1];rfl
theorem Fl.sub(ha:Fl a x)(hb:Fl b y)(hn:(x-y).natAbs<2 ^ 53):∃r,floatBits .sub aK a b=some r/\Fl r (x-y):=by
 obtain⟨r,h1,h2⟩:=D1.sum ha (D1.XX hb);refine⟨double.write r,?_,K0 (n:=x-y) (by rw[Int.sub_eq_add_neg];exact h2) hn⟩
 show(Datum.sum (double.read a) (double.read b).opposite).map double.write=_;rw[h1];rfl
theorem Fl.mul(ha:Fl a x)(hb:Fl b y)(hn:(x*y).natAbs<2 ^ 53):∃r,floatBits .mul aK a b=some r/\Fl r (x*y):=by
 obtain⟨r,h1,h2⟩:=D1.product ha hb;refine⟨double.write r,?_,K0 h2 hn⟩;show(Datum.product (double.read a) (double.read b)).map double.write=_;rw[h1];rfl
theorem tZ(hn:n.natAbs<2 ^ 53):Fl (aO aK n) n:=by
 refine K0 (d:=.number (n<0) n.natAbs 0) ⟨_,_,_,rfl,ah,?_⟩ hn
 have h:=XY n false ((0:Int)+2148).toNat;have e:(if n=0 then false else decide (n<0))=decide (n<0):=by
  split
  .rename_i h;subst h;rfl
  .rfl
 rw[e] at h;exact h
theorem Fl.int(h:Fl b n)(h1: -9223372036854775808<=n)(h2:n<=9223372036854775807):floatToIntVal aK b aJ=some n:=by
 unfold floatToIntVal;have e:(FloatKind.decode aK b).toInt .zero=some n:=h.toInt;rw[e];have e1:IntKind.min aJ= -9223372036854775808:=ah
 have e2:IntKind.max aJ=9223372036854775807:=ah
 simp only[e1,e2,h1,h2,and_self,lG]
theorem aiM(b:Nat):double.read (Op.negFloat aK b)=(double.read b).opposite:=by
 have e:Op.negFloat aK b=b ^^^ 2 ^ 63:=rfl;have e1:double.signWeight=2 ^ 63:=rfl;have h1:(b ^^^ 2 ^ 63)%2 ^ 63=b%2 ^ 63:=by rw[Nat.xor_mod_two_pow];simp
 have h2:((b ^^^ 2 ^ 63)/2 ^ 63%2 == 1)= !(b/2 ^ 63%2 == 1):=by
  rw[Nat.xor_div_two_pow];have:(2:Nat) ^ 63/2 ^ 63=1:=ah
  rw[this];have h3:(b/2 ^ 63 ^^^ 1)%2=(b/2 ^ 63%2) ^^^ 1:=by
   have:=Nat.xor_mod_two_pow (a:=b/2 ^ 63) (b:=1) (n:=1);simpa using this
  rw[h3];rcases Nat.mod_two_eq_zero_or_one (b/2 ^ 63) with h|h<;>rw[h]<;>decide
 unfold Format.read;rw[e,e1];simp only[h1,h2];split
 .rfl
 .split
  .rfl
  .split<;>rfl
theorem Fl.neg(h:Fl b n):Fl (Op.negFloat aK b) (-n):=by
 unfold Fl;rw[aiM];exact D1.XX h
theorem aiN{d:Nat}(h1:Fl a x)(h2:Fl b y)(h3:Fl c u)(h4:Fl d v)(n1:(x+u).natAbs<2 ^ 53)(n2:(y+v).natAbs<2 ^ 53):
  ∃re im,cSumBits .add aK a b c d=some (re,im)/\Fl re (x+u)/\Fl im (y+v):=by
 obtain⟨r,e1,f1⟩:=h1.add h3 n1;obtain⟨i,e2,f2⟩:=h2.add h4 n2;exact⟨r,i,by simp[cSumBits,e1,e2],f1,f2⟩
theorem QH{d:Nat}(h1:Fl a x)(h2:Fl b y)(h3:Fl c u)(h4:Fl d v)(n1:(x-u).natAbs<2 ^ 53)(n2:(y-v).natAbs<2 ^ 53):
  ∃re im,cSumBits .sub aK a b c d=some (re,im)/\Fl re (x-u)/\Fl im (y-v):=by
 obtain⟨r,e1,f1⟩:=h1.sub h3 n1;obtain⟨i,e2,f2⟩:=h2.sub h4 n2;exact⟨r,i,by simp[cSumBits,e1,e2],f1,f2⟩
theorem QI{d:Nat}(h1:Fl a x)(h2:Fl b y)(h3:Fl c u)(h4:Fl d v)
  (n1:(x*u).natAbs<2 ^ 53)(n2:(y*v).natAbs<2 ^ 53)(n3:(x*u-y*v).natAbs<2 ^ 53)
  (n4:(x*v).natAbs<2 ^ 53)(n5:(y*u).natAbs<2 ^ 53)(n6:(x*v+y*u).natAbs<2 ^ 53):
  ∃re im,cMulBits a b c d=some (re,im)/\Fl re (x*u-y*v)/\Fl im (x*v+y*u):=by
 obtain⟨ac,e1,f1⟩:=h1.mul h3 n1;obtain⟨bd,e2,f2⟩:=h2.mul h4 n2;obtain⟨re,e3,f3⟩:=f1.sub f2 n3;obtain⟨ad,e4,f4⟩:=h1.mul h4 n4;obtain⟨bc,e5,f5⟩:=h2.mul h3 n5;obtain⟨im,e6,f6⟩:=f4.add f5 n6;exact⟨re,im,by simp[cMulBits,e1,e2,e3,e4,e5,e6],f3,f6⟩
end
namespace Ge
variable{p q:Pt}
theorem QJ{k z:Int}(hk:0<k):(k*z).sign=z.sign:=by
 rw[Wm,nV hk,wQ]
theorem QK(g:List Pt):(closing g).length=g.length:=by
 cases g with
 |nil=>rfl
 |cons a r=>simp[closing]
def rW(g:List Pt)(n:Nat):Option Pt:=if n+1<g.length then g[n+1]? else g[0]?
theorem GA{g:List Pt}{n:Nat}(hp:g[n]?=some p)(hq:rW g n=some q):(closing g)[n]?=some (p,q):=by
 cases g with
 |nil=>simp at hp
 |cons a r=>
  show((a::r).zip (r++[a]))[n]?=_;rw[Wn];refine⟨hp,?_⟩;unfold rW at hq;by_cases h:n+1<(a::r).length
  .rw[aV h] at hq;simp only[dG] at h;rw[fM aa]
   simpa using hq
  .rw[aP h] at hq;have hn:n<(a::r).length:=(cG.1 hp).1;simp only[dG] at h hn;have e:n=r.length:=aa
   rw[e,nE (aY _)];simpa using hq
def l9(g:List Pt)(n:Nat):List (Pt×Pt):=((closing g).take n).filter λe=>decide (e.1≠e.2)
theorem aiO(g:List Pt):l9 g 0=[]:=by simp[l9]
theorem QL(g:List Pt):l9 g g.length=lI g:=by
 unfold l9 lI;rw[<-QK g,gv]
theorem aiP{g:List Pt}{n:Nat}(hp:g[n]?=some p)(hq:rW g n=some q)(h:p=q):l9 g (n+1)=l9 g n:=by
 obtain⟨hlt,he⟩:=cG.1 (GA hp hq);unfold l9;rw[qD hlt,he,J8];simp[h]
theorem aiQ{g:List Pt}{n:Nat}(hp:g[n]?=some p)(hq:rW g n=some q)(h:p≠q):l9 g (n+1)=l9 g n++[(p,q)]:=by
 obtain⟨hlt,he⟩:=cG.1 (GA hp hq);unfold l9;rw[qD hlt,he,J8];simp[h]
theorem QM(g:List Pt)(n:Nat):(l9 g n).length<=g.length:=by
 unfold l9;refine fN (J9 _ _) ?_;rw[iE,QK];omega
theorem all_append(a b:List (List Pt)):aT (a++b)=aT a++aT b:=by simp[aT]
theorem aiR{p:List (List Pt)}{k:Nat}{g:List Pt}(h:p[k]?=some g):aT (p.take (k+1))=aT (p.take k)++lI g:=by
 obtain⟨hlt,he⟩:=cG.1 h;rw[qD hlt,he,all_append];simp[aT]
theorem QN(B:Nat):∀(p:List (List Pt)),(∀g∈p,g.length<=B)->(aT p).length<=p.length*B
 |[],_=>by simp[aT]
 |g::p,h=>by
  have e:aT (g::p)=lI g++aT p:=qB;have h1:=QN B p (λx hx=>h x (by simp[hx]))
  have h2:=h g af
  have h3:(lI g).length<=g.length:=by rw[<-QL];exact QM g _
  rw[e,bX,dG,FO];omega
theorem X7(B C:Nat):∀(ps:List (List (List Pt))),(∀p∈ps,p.length<=C/\∀g∈p,g.length<=B)->(aT ps.flatten).length<=ps.length*(C*B)
 |[],_=>by simp[aT]
 |p::ps,h=>by
  rw[Dd,all_append,bX,dG,FO];have h1:=X7 B C ps (λx hx=>h x (by simp[hx]))
  have h2:=h p af
  have h3:=QN B p h2.2;have h4:=J7 B h2.1;omega
theorem aiS{g:List Pt}{e:Pt×Pt}(h:e∈lI g):e.1∈g/\e.2∈g:=by
 unfold lI at h;have h1:=(jr.1 h).1;cases g with
 |nil=>simp[closing] at h1
 |cons a r=>
  obtain⟨x,y⟩:=e;have h2:=List.of_mem_zip h1;refine⟨h2.1,?_⟩;have:=h2.2;simp at this⊢;rcases this with h|h
  .exact aR h
  .exact aS h
theorem aiT{rg:List (List Pt)}{e:Pt×Pt}(h:e∈aT rg):∃g∈rg,e.1∈g/\e.2∈g:=by
 unfold aT at h;obtain⟨g,hg,he⟩:=oW.1 h;exact⟨g,hg,aiS he⟩
theorem K1{rg:List (List Pt)}{e:Pt×Pt}(h:e∈aT rg):e.1≠e.2:=by
 unfold aT at h;obtain⟨g,hg,he⟩:=oW.1 h;unfold lI at he;simpa using(jr.1 he).2
end Ge
section
open Go.RowKit
variable{x y u v n X Y D z:Int}{a b c d na nb k:Nat}{w:aM}
theorem iH(P:Program)(w:aM)(a:Addr)(k:FloatKind)(x y:Nat)(m:Mode):(store a (aA k x y) m).run P w=stored P w a (aA k x y) m:=run_store P w a _ m rfl
theorem qO(P:Program)(w:aM)(a:Addr)(k:FloatKind)(x:Nat)(m:Mode):(store a (aB k x) m).run P w=stored P w a (aB k x) m:=run_store P w a _ m rfl
def sm(z:Int):Prop:=z.natAbs<=33554432
theorem aiU(a b:Nat)(w:aM):
  ak 151 #[aA aK a b] w λe w'=>e=aL (aA aK a (Op.negFloat aK b))/\w'=w:=by
 have hop:∀w,(Op.unary .neg (aB aK b)).run prog w=.ok (aB aK (Op.negFloat aK b)) w:=λ_=>rfl
 go_enter func151,ntmps151
 go_wp2_with (simp only[hop])
 go_ret
 exact⟨rfl,rfl⟩
theorem qP(hx:sm x)(hy:sm y):(x*y).natAbs<=1125899906842624:=by
 rw[oX];exact De hx hy
theorem QO(h1:Fl a x)(h2:Fl b y)(h3:Fl c u)(h4:Fl d v)(b1:sm x)(b2:sm y)(b3:sm u)(b4:sm v):
  ∃re im,Fl re (x*u+y*v)/\Fl im (x*v-y*u)/\∀w,ak 98 #[aA aK a b,aA aK c d] w λe w'=>e=aL (aA aK re im)/\w'=w:=by
 have m1:=qP b1 b3;have m2:=qP b2 b4;have m3:=qP b1 b4;have m4:=qP b2 b3;have n2:(-y*v).natAbs<=1125899906842624:=by rw[js,Df];exact m2
 have n4:(-y*u).natAbs<=1125899906842624:=by rw[js,Df];exact m4
 obtain⟨re,im,e,f1,f2⟩:=QI h1 h2.neg h3 h4 aa aa aa aa aa aa
 refine⟨re,im,?_,?_,λw=>?_⟩
 .have:x*u+y*v=x*u- -y*v:=by rw[js];omega
  rw[this];exact f1
 .have:x*v-y*u=x*v+ -y*u:=by rw[js];omega
  rw[this];exact f2
 .have hop:=λt w=>run_complex_mul (P:=prog) w t a (Op.negFloat aK b) c d re im e
  have HM:Hid (∀w1,ak 151 #[aA aK a b] w1 λe w'=>e=aL (aA aK a (Op.negFloat aK b))/\w'=w1):=λw1=>aiU a b w1
  clear m1 m2 m3 m4 n2 n4 e f1 f2;generalize Op.negFloat aK b=nb at*
  go_enter func98,ntmps98
  go_wp2_with fail
  refine(HM.out _).mono ?_;rintro e w1 ⟨rfl,rfl⟩
  go_wp2_with (simp only)
  go_ret
  exact⟨rfl,rfl⟩
theorem GC(h1:Fl a x)(h2:Fl b y)(h3:Fl c u)(h4:Fl d v)(b1:sm x)(b2:sm y)(b3:sm u)(b4:sm v):
  ∃im,Fl im (x*v-y*u)/\∀w,ak 101 #[aA aK a b,aA aK c d] w λe w'=>e=aL (aB aK im)/\w'=w:=by
 obtain⟨re,im,_,f2,ht⟩:=QO h1 h2 h3 h4 b1 b2 b3 b4;refine⟨im,f2,λw=>?_⟩
 have HT:Hid (∀w,ak 98 #[aA aK a b,aA aK c d] w λe w'=>e=aL (aA aK re im)/\w'=w):=ht
 clear ht
 go_enter func101,ntmps101
 go_wp2_with fail
 refine(HT.out _).mono ?_;rintro e w1 ⟨rfl,rfl⟩
 go_wp2_with fail
 go_ret
 exact⟨rfl,rfl⟩
theorem aiV(h1:Fl a x)(h2:Fl b y)(h3:Fl c u)(h4:Fl d v)(b1:x.natAbs<=50)(b2:y.natAbs<=50)(b3:u.natAbs<=50)(b4:v.natAbs<=50):
  ∃wa wb sh,Fl wa (u-x)/\Fl wb (v-y)/\Fl sh ((u-x)*y-(v-y)*x)/\∀w,ak 64 #[aA aK a b,aA aK c d] w λe w'=>e=aL (aC #[aA aK wa wb,aB aK sh])/\aj w w':=by
 obtain⟨wa,wb,e,f1,f2⟩:=QH h3 h4 h1 h2 aa aa
 obtain⟨sh,f3,hl⟩:=GC f1 f2 h1 h2 (by unfold sm;omega) (by unfold sm;omega) (by unfold sm;omega) (by unfold sm;omega)
 refine⟨wa,wb,sh,f1,f2,f3,λw=>?_⟩
 have hop:=λt w=>run_complex_sum (P:=prog) w .sub (aR rfl) t aK c d a b wa wb e
 have HL:Hid (∀w,ak 101 #[aA aK wa wb,aA aK a b] w λe w'=>e=aL (aB aK sh)/\w'=w):=hl
 clear hl
 go_enter func64,ntmps64
 go_wp2_with (simp only[hop])
 have hE:=heap_alloc_new w (.cells #[aA aK 0 0,aB aK 0] 122);have hb0:aj w (w.alloc (.cells #[aA aK 0 0,aB aK 0] 122)):=aw _ _;generalize w.alloc (.cells #[aA aK 0 0,aB aK 0] 122)=W at*;refine(HL.out _).mono ?_;rintro e w1 ⟨rfl,rfl⟩;have e0:=cL hE;have e1:=cK hE;have z0:=bK hE 0;have z1:=bK hE 1
 go_wp2_with (simp only[iH,qO];go_simp)
 refine bodyPost_ret (v:=aC #[aA aK wa wb,aB aK sh]) (by simp[results,results64,go_sem,e0,e1]) rfl ⟨rfl,?_⟩
 exact(hb0.setCell (aY _) _).setCell (aY _) _
theorem qQ(h:sm n):Fl (aO aK n) n:=tZ (by unfold sm at h;omega)
theorem GF(na nb:Nat)(D:Int)(h1:Fl a x)(h2:Fl b y)(b1:sm x)(b2:sm y)(bD:sm D):
  ∃re im,Fl re (x*D)/\Fl im (y*D)/\∀w,ak 152 #[aC #[aA aK na nb,az aJ D],aA aK a b] w λe w'=>e=aL (aA aK re im)/\aj w w'/\w.drawn<=w'.drawn:=by
 have m1:=qP b1 bD;have m2:=qP b2 bD;have z0:sm 0:=by unfold sm;decide
 obtain⟨re,im,e,f1,f2⟩:=QI h1 h2 (qQ bD) (qQ z0) aa aa aa aa aa aa
 refine⟨re,im,?_,?_,λw=>?_⟩
 .have:x*D=x*D-y*0:=aa
  rw[this];exact f1
 .have:y*D=x*0+y*D:=aa
  rw[this];exact f2
 .have hop:=λt w=>run_complex_mul (P:=prog) w t a b (aO aK D) (aO aK 0) re im e
  have HP:Hid (∀w1,ak 38 #[az aJ D,az aJ 0] w1 λe w'=>e=aL (aA aK (aO aK D) (aO aK 0))/\w'=w1):=λw1=>KZ D 0 w1
  clear m1 m2 e f1 f2;generalize aO aK D=fd at*;generalize aO aK 0=fz at*;have hb0:aj w (w.alloc (.cells #[aA aK na nb,az aJ D] 83)):=aw _ _
  go_enter func152,ntmps152
  go_wp2_with fail
  refine(HP.out _).mono ?_;rintro e w1 ⟨rfl,rfl⟩
  go_wp2_with (simp only)
  go_ret
  exact⟨rfl,hb0,aY _⟩
theorem X8(g1:Fl na X)(g2:Fl nb Y)(h1:Fl a x)(h2:Fl b y)(b1:sm x)(b2:sm y)(bD:sm D)(c1:sm X)(c2:sm Y):
  ∃re im,Fl re (X-x*D)/\Fl im (Y-y*D)/\∀w,ak 99 #[aC #[aA aK na nb,az aJ D],aA aK a b] w λe w'=>e=aL (aA aK re im)/\Below w.heap.size w w':=by
 have m1:=qP b1 bD;have m2:=qP b2 bD;obtain⟨sa,sb,s1,s2,hs⟩:=GF na nb D h1 h2 b1 b2 bD;obtain⟨re,im,e,f1,f2⟩:=QH g1 g2 s1 s2 (by unfold sm at c1;omega) (by unfold sm at c2;omega)
 refine⟨re,im,f1,f2,λw=>?_⟩
 have hop:=λt w=>run_complex_sum (P:=prog) w .sub (aR rfl) t aK na nb sa sb re im e
 have HS:Hid (∀w,ak 152 #[aC #[aA aK na nb,az aJ D],aA aK a b] w λe w'=>e=aL (aA aK sa sb)/\Below w.heap.size w w'/\w.drawn<=w'.drawn):=hs
 clear hs m1 m2;have hE:=heap_alloc_new w (.cells #[aA aK na nb,az aJ D] 83);have hb0:Below w.heap.size w (w.alloc (.cells #[aA aK na nb,az aJ D] 83)):=(Below.refl _ _).alloc (aY _) _;have hz:w.heap.size<(w.alloc (.cells #[aA aK na nb,az aJ D] 83)).heap.size:=af
 go_enter func99,ntmps99
 go_wp2_with fail
 generalize w.alloc (.cells #[aA aK na nb,az aJ D] 83)=W at*;generalize hB:w.heap.size=B at*;have e0:=cL hE;have e1:=cK hE
 go_region_held3 (λw'=>w'.cell? ⟨B,0,none⟩=some (aA aK na nb)/\w'.cell? ⟨B,1,none⟩=some (az aJ D)) (go_keep) (first
  |(go_at_call 152;refine(HS.out _).mono ?_;rintro e w5 ⟨rfl,bh,_⟩;have q0:=aQ bh e0 hz;have q1:=(aQ bh e1 hz))
  |(simp only))
 go_wp2_with fail
 go_ret
 exact⟨rfl,by rw[hB];exact hb0.drew.trans (bh.mono (fF hz))⟩
theorem DT(ha:Fl a x)(hb:Fl b y):(FloatKind.f64.format.order a b == some .lt)=decide (x<y):=by
 have e:FloatKind.f64.format.order a b=some (compare x y):=ha.order hb;rw[e];rcases gf x y with h|h|h
 .rw[Pd.2 h];simp[h]
 .rw[Pe.2 h];simp[h]
 .rw[Ph.2 h];simp;omega
theorem K2(ha:Fl a x)(hb:Fl b y):(FloatKind.f64.format.order a b == some .gt)=decide (y<x):=by
 have e:FloatKind.f64.format.order a b=some (compare x y):=ha.order hb;rw[e];rcases gf x y with h|h|h
 .rw[Pd.2 h];simp;omega
 .rw[Pe.2 h];simp[h]
 .rw[Ph.2 h];simp[h]
theorem vk(ha:Fl a x)(hb:Fl b y):(FloatKind.f64.format.order a b == some .eq)=decide (x=y):=by
 have e:FloatKind.f64.format.order a b=some (compare x y):=ha.order hb;rw[e];rcases gf x y with h|h|h
 .rw[Pd.2 h];simp;omega
 .rw[Pe.2 h];simp[h]
 .rw[Ph.2 h];simp;omega
theorem mV:Fl 0 0:=by
 have h:=tZ (n:=0) ah
 have e:aO aK 0=0:=ah
 rwa[e] at h
theorem QP{wa wb sh:Nat}{wx wy s:Int}(h1:Fl wa wx)(h2:Fl wb wy)(h3:Fl sh s)(g1:Fl na X)(g2:Fl nb Y)(b1:sm wx)(b2:sm wy)(b3:sm s)(bD:sm D)(c1:sm X)(c2:sm Y):
  ∃r,Fl r (wx*Y-wy*X-s*D)/\∀w,ak 97 #[aC #[aA aK wa wb,aB aK sh],aC #[aA aK na nb,az aJ D]] w λe w'=>e=aL (aB aK r)/\Below w.heap.size w w':=by
 have m1:=qP b1 c2;have m2:=qP b2 c1;have m3:=qP b3 bD;obtain⟨im,f1,hl⟩:=GC h1 h2 g1 g2 b1 b2 c1 c2;obtain⟨p,e1,f2⟩:=h3.mul (qQ bD) aa
 obtain⟨r,e2,f3⟩:=f1.sub f2 aa
 refine⟨r,f3,λw=>?_⟩
 have GG:=λt w=>run_float_arith (P:=prog) w .mul t aK _ _ p e1
 have zk:=λt w=>run_float_arith (P:=prog) w .sub t aK _ _ r e2
 have HL:Hid (∀w,ak 101 #[aA aK wa wb,aA aK na nb] w λe w'=>e=aL (aB aK im)/\w'=w):=hl
 clear hl m1 m2 m3;have hE:((w.alloc (.cells #[aA aK wa wb,aB aK sh] 122)).alloc (.cells #[aA aK na nb,az aJ D] 83)).heap[w.heap.size]?=some (.cells #[aA aK wa wb,aB aK sh] 122 (0,0)):=by
  rw[Below.heap_alloc _ _ _ af];exact heap_alloc_new _ _
 have hP:((w.alloc (.cells #[aA aK wa wb,aB aK sh] 122)).alloc (.cells #[aA aK na nb,az aJ D] 83)).heap[w.heap.size+1]?=some (.cells #[aA aK na nb,az aJ D] 83 (0,0)):=by
  have:=heap_alloc_new (w.alloc (.cells #[aA aK wa wb,aB aK sh] 122)) (.cells #[aA aK na nb,az aJ D] 83);simpa using this
 have hb0:Below w.heap.size w ((w.alloc (.cells #[aA aK wa wb,aB aK sh] 122)).alloc (.cells #[aA aK na nb,az aJ D] 83)):=((Below.refl _ _).alloc (aY _) _).alloc af _
 go_enter func97,ntmps97
 go_wp2_with fail
 generalize(w.alloc (.cells #[aA aK wa wb,aB aK sh] 122)).alloc (.cells #[aA aK na nb,az aJ D] 83)=W at*;generalize hB:w.heap.size=B at*;have e0:=cL hE;have mF:=cK hE;have p0:=cL hP;have p1:=cK hP
 go_region_held3 (λw'=>w'.cell? ⟨B,0,none⟩=some (aA aK wa wb)/\w'.cell? ⟨B,1,none⟩=some (aB aK sh)/\w'.cell? ⟨B+1,0,none⟩=some (aA aK na nb)/\w'.cell? ⟨B+1,1,none⟩=some (az aJ D)) (go_keep) (first
  |(go_at_call 101;refine(HL.out _).mono ?_;rintro e w5 ⟨rfl,rY⟩;subst rY)
  |(simp only)
  |(simp only[zk]))
 go_wp2_with fail
 go_ret
 exact⟨rfl,by rw[hB];exact hb0.drew⟩
theorem aiW(h:0<z):z.sign=1:=nV h
theorem aiX(h:z<0):z.sign= -1:=yI h
theorem X9(a b c d x y:Int)(w:aM)(hx:a*d=x)(hy:c*b=y)(h1: -1000000000000000<=x/\x<=1000000000000000)(h2: -1000000000000000<=y/\y<=1000000000000000):
  ak 49 #[aC #[az aJ a,az aJ b],aC #[az aJ c,az aJ d]] w λe w'=>e=aL (az aJ (x-y).sign)/\aj w w':=by
 have hb:aj w ((w.alloc (.cells #[az aJ a,az aJ b] 97)).alloc (.cells #[az aJ c,az aJ d] 97)):=(aw _ _).alloc af _
 have hwx:IntKind.i64.wrap (a*d)=x:=by rw[hx,IntKind.wrap_i64];omega
 have hwy:IntKind.i64.wrap (c*b)=y:=by rw[hy,IntKind.wrap_i64];omega
 go_enter func49,ntmps49
 rcases gf x y with h|h|h
 .have e:=aiX (z:=x-y) aa
  rw[e]
  go_wp2_with fail
  go_ret
  exact⟨rfl,hb⟩
 .have e:(x-y).sign=0:=by rw[h,ag8];rfl
  rw[e]
  go_wp2_with fail
  go_ret
  exact⟨rfl,hb⟩
 .have e:=aiW (z:=x-y) aa
  rw[e]
  go_wp2_with fail
  go_ret
  exact⟨rfl,hb⟩
def small(z:Int):Prop:= -50<=z/\z<=50
structure aiY(XN XD YN YD:Int):Prop where
 xn: -10000000<=XN/\XN<=10000000
 xd:0<XD/\XD<=1000000
 yn: -10000000<=YN/\YN<=10000000
 yd:0<YD/\YD<=1000000
theorem qc{a b:Int}(hx: -a<=x/\x<=a)(hy: -b<=y/\y<=b): -(a*b)<=x*y/\x*y<=a*b:=by
 have h:(x*y).natAbs<=(a*b).natAbs:=by
  rw[oX,oX];exact De aa aa
 have hab:0<=a*b:=jF aa aa
 omega
theorem Ya{c:Array aN}{T:TypeId}(h:w.heap[b]?=some (.cells c T (0,0)))(o:Nat):w.cell? ⟨b,o,none⟩=c[o]?:=by
 simp[World.cell?,h]
def zm(n d:Int):Int:=n.tdiv (Int.gcd n d)
def vo(n d:Int):Int:=d.tdiv (Int.gcd n d)
theorem vp{d:Int}(hd:d≠0):0<Int.gcd n d:=ag9 _ hd
theorem K3(n d:Int):n=(Int.gcd n d:Int)*zm n d:=(AB (FP _ _)).symm
theorem GH(n d:Int):d=(Int.gcd n d:Int)*vo n d:=(AB (Dg _ _)).symm
theorem Yb{d:Int}(hd:0<d):0<vo n d:=by
 have h:=GH n d;have hg:=vp (n:=n) (d:=d) aa
 generalize vo n d=x at*;generalize Int.gcd n d=g at*;rcases gf x 0 with hx|hx|hx
 .have:=wK (show(0:Int)<g by omega) hx;omega
 .subst hx;omega
 .exact hx
theorem Yc{c:Array aN}{T:TypeId}(h:w.heap[b]?=some (.cells c T (0,0)))(o:Nat):w.frozen? ⟨b,o,none⟩=false:=by
 simp[World.frozen?,h]
theorem Yd(a b:Nat):Nat.gcd b (a%b)=Nat.gcd a b:=by
 rw[Nat.gcd_comm b,<-Nat.gcd_rec,Nat.gcd_comm]
structure gS(e:(Int×Int)×(Int×Int)):Prop where
 a:small e.1.1
 b:small e.1.2
 c:small e.2.1
 d:small e.2.2
abbrev Ed:=(Int×Int)×(Int×Int)
theorem DU{e:TypeId}{size:Nat}{v:aN}{n:Nat}{xs:List aN}(h:w.ownsRow 0 e size v n xs){o:Nat}{u:aN}(hu:xs[o]?=some u):
  ∃b cap,v=aG (some ⟨b,0,none⟩) n cap/\b<w.heap.size/\∀o' u',xs[o']?=some u'->w.cell? ⟨b,o',none⟩=some u':=by
 obtain⟨h1,h2⟩:=h;rcases h2 with⟨_,h0⟩|⟨b,cap,cur,hv,_,hb,_,_,_,ht⟩
 .rw[h0,wR] at h1;rw[iX.1 h1] at hu;simp at hu
 .refine⟨b,cap,hv,?_,λo' u' hu'=>?_⟩
  .rcases nW b w.heap.size with h1|h1
   .exact h1
   .rw[J6 h1] at hb;cases hb
  rw[Ya hb o',<-jW];rw[<-ht,lH] at hu';split at hu'
  .exact hu'
  .cases hu'
theorem Ye(f:Ge.Pt->Ge.Pt->Int){l:List Ed}{e:Ed}(he:l[k]?=some e):Ge.total f (l.take (k+1))=Ge.total f (l.take k)+f e.1 e.2:=by
 obtain⟨hlt,he'⟩:=cG.1 he;have e1:l.take (k+1)=l.take k++[e]:=by rw[qD hlt,he']
 rw[e1,Ge.PA,Ge.ic,Ge.yR];omega
theorem QQ(f:Ge.Pt->Ge.Pt->Int)(hf:∀a b, -1<=f a b/\f a b<=1):∀l:List Ed, -(l.length:Int)<=Ge.total f l/\Ge.total f l<=l.length
 |[]=>by simp[Ge.total]
 |e::l=>by
  have ih:=QQ f hf l;have h1:=hf e.1 e.2;rw[Ge.ic];simp only[dG];omega
theorem Yf(n:Ge.Pt)(d:Int)(a b:Ge.Pt): -1<=Ge.fr n d a b/\Ge.fr n d a b<=1:=by
 unfold Ge.fr Ge.right;split
 .decide
 .split<;>decide
structure EB where
 wa:Nat
 wb:Nat
 sh:Nat
 fa:Nat
 fb:Nat
 ta:Nat
 tb:Nat
def EB.cells(x:EB):Array aN:= #[aA aK x.wa x.wb,aB aK x.sh,aA aK x.fa x.fb,aA aK x.ta x.tb]
structure lK(x:EB)(e:Ed):Prop where
 wa:Fl x.wa (e.2.1-e.1.1)
 wb:Fl x.wb (e.2.2-e.1.2)
 sh:Fl x.sh ((e.2.1-e.1.1)*e.1.2-(e.2.2-e.1.2)*e.1.1)
 fa:Fl x.fa e.1.1
 fb:Fl x.fb e.1.2
 ta:Fl x.ta e.2.1
 tb:Fl x.tb e.2.2
structure fC(X Y D:Int):Prop where
 x:X.natAbs<=16000000
 y:Y.natAbs<=16000000
 d:0<D/\D<=300000
theorem zn(h:small z):sm z:=by unfold small at h;unfold sm;omega
theorem K4(hX:X.natAbs<=16000000)(hD:0<D/\D<=300000)(hx:small x):sm (X-x*D):=by
 have m: -15000000<=x*D/\x*D<=15000000:=qc (a:=50) (b:=300000) hx ⟨aa,hD.2⟩
 unfold sm;omega
theorem K5{e:Ed}(h:gS e):sm ((e.2.1-e.1.1)*e.1.2-(e.2.2-e.1.2)*e.1.1):=by
 obtain⟨a,b,c,d⟩:=h;unfold small at a b c d;have m1: -5000<=(e.2.1-e.1.1)*e.1.2/\(e.2.1-e.1.1)*e.1.2<=5000:=qc (a:=100) (b:=50) aa aa
 have m2: -5000<=(e.2.2-e.1.2)*e.1.1/\(e.2.2-e.1.2)*e.1.1<=5000:=qc (a:=100) (b:=50) aa aa
 unfold sm;omega
def lf(X Y D:Int)(e:Ed):Int:=(e.2.1-e.1.1)*Y-(e.2.2-e.1.2)*X-((e.2.1-e.1.1)*e.1.2-(e.2.2-e.1.2)*e.1.1)*D
theorem QR(X Y D:Int)(e:Ed):D*lf X Y D e=Ge.cr (Ge.rel (X,Y) D e.1) (Ge.rel (X,Y) D e.2):=by
 obtain⟨⟨a,b⟩,c,d⟩:=e;simp only[lf,Ge.cr,Ge.rel]
 grind
theorem K6(hD:0<D):(0<D*z↔0<z)/\(D*z<0↔z<0)/\(D*z=0↔z=0):=by
 rcases gf z 0 with h|h|h
 .have:=wK hD h;omega
 .subst h;omega
 .have:=bJ hD h;omega
theorem aiZ(X Y D:Int)(e:Ed):(X-e.1.1*D)*(X-e.2.1*D)+(Y-e.1.2*D)*(Y-e.2.2*D)=Ge.dt (Ge.rel (X,Y) D e.1) (Ge.rel (X,Y) D e.2):=by
 obtain⟨⟨a,b⟩,c,d⟩:=e;simp only[Ge.dt,Ge.rel]
 grind
theorem ai0(X Y D:Int)(e:Ed)(hD:0<D):(decide (lf X Y D e=0)&&decide ((X-e.1.1*D)*(X-e.2.1*D)+(Y-e.1.2*D)*(Y-e.2.2*D)<=0))=Ge.fo (X,Y) D e:=by
 unfold Ge.fo Ge.on;rw[aiZ,<-QR];congr 1;exact decide_eq_decide.2 (K6 hD).2.2.symm
theorem ai1(X Y D:Int)(e:Ed)(hD:0<D):Ge.fr (X,Y) D e.1 e.2=if ¬X*1<e.1.1*D/\X*1<e.2.1*D/\0<lf X Y D e then 1 else if X*1<e.1.1*D/\¬X*1<e.2.1*D/\lf X Y D e<0 then -1 else 0:=by
 unfold Ge.fr Ge.right;rw[<-QR];obtain⟨p1,p2,_⟩:=K6 (z:=lf X Y D e) hD;have h1:(Ge.rel (X,Y) D e.1).1=D*e.1.1-X:=rfl;have h2:(Ge.rel (X,Y) D e.2).1=D*e.2.1-X:=rfl;rw[h1,h2,gF D e.1.1,gF D e.2.1];generalize D*lf X Y D e=Z at*;generalize lf X Y D e=L at*;generalize e.1.1*D=U at*;generalize e.2.1*D=V at*
 repeat' split
 all_goals omega
theorem K7(xb:EB)(ed:Ed)(hx:lK xb ed)(hs:gS ed)(g1:Fl na X)(g2:Fl nb Y)(hn:fC X Y D)(w:aM):
  ak 62 #[aC xb.cells,aC #[aA aK na nb,az aJ D]] w λe w'=>e=aL (aD (Ge.fo (X,Y) D ed))/\Below w.heap.size w w':=by
 have sX:sm X:=by have:=hn.x;unfold sm;omega
 have sY:sm Y:=by have:=hn.y;unfold sm;omega
 have sD:sm D:=by have:=hn.d;unfold sm;omega
 have s1:sm (ed.2.1-ed.1.1):=by have:=hs.a;have:=hs.c;unfold small at*;unfold sm;omega
 have s2:sm (ed.2.2-ed.1.2):=by have:=hs.b;have:=hs.d;unfold small at*;unfold sm;omega
 obtain⟨r,fr,hL⟩:=QP hx.wa hx.wb hx.sh g1 g2 s1 s2 (K5 hs) sD sX sY;obtain⟨u1,u2,Yg,Yh,hU⟩:=X8 (D:=D) g1 g2 hx.fa hx.fb (zn hs.a) (zn hs.b) sD sX sY;obtain⟨v1,v2,Yi,Yj,hV⟩:=X8 (D:=D) g1 g2 hx.ta hx.tb (zn hs.c) (zn hs.d) sD sX sY;obtain⟨re,im,QS,_,hT⟩:=QO Yg Yh Yi Yj (K4 hn.x hn.d hs.a) (K4 hn.y hn.d hs.b) (K4 hn.x hn.d hs.c) (K4 hn.y hn.d hs.d);have HL:Hid (∀w,ak 97 #[aC #[aA aK xb.wa xb.wb,aB aK xb.sh],aC #[aA aK na nb,az aJ D]] w λe w'=>e=aL (aB aK r)/\Below w.heap.size w w'):=hL
 have HU:Hid (∀w,ak 99 #[aC #[aA aK na nb,az aJ D],aA aK xb.fa xb.fb] w λe w'=>e=aL (aA aK u1 u2)/\Below w.heap.size w w'):=hU
 have HV:Hid (∀w,ak 99 #[aC #[aA aK na nb,az aJ D],aA aK xb.ta xb.tb] w λe w'=>e=aL (aA aK v1 v2)/\Below w.heap.size w w'):=hV
 have HT:Hid (∀w,ak 98 #[aA aK u1 u2,aA aK v1 v2] w λe w'=>e=aL (aA aK re im)/\w'=w):=hT
 have q1:=vk fr mV;have q2:(FloatKind.f64.format.order re 0 == some .lt||FloatKind.f64.format.order re 0 == some .eq)=decide ((X-ed.1.1*D)*(X-ed.2.1*D)+(Y-ed.1.2*D)*(Y-ed.2.2*D)<=0):=by
  rw[DT QS mV,vk QS mV,<-Bool.decide_or];exact decide_eq_decide.2 aa
 have hfo:=ai0 X Y D ed hn.d.1;unfold lf at hfo;rw[<-q1,<-q2] at hfo;rw[<-hfo];clear hfo q1 q2 hL hU hV hT fr QS Yg Yh Yi Yj hx hs hn g1 g2 sX sY sD s1 s2;obtain⟨wa,wb,sh,fa,fb,ta,tb⟩:=xb;simp only[EB.cells] at*;generalize hO1:(FloatKind.f64.format.order r 0 == some Ordering.eq)=B1 at*;have hE:((w.alloc (.cells #[aA aK wa wb,aB aK sh,aA aK fa fb,aA aK ta tb] 124)).alloc (.cells #[aA aK na nb,az aJ D] 83)).heap[w.heap.size]?=some (.cells #[aA aK wa wb,aB aK sh,aA aK fa fb,aA aK ta tb] 124 (0,0)):=by
  rw[Below.heap_alloc _ _ _ af];exact heap_alloc_new _ _
 have hP:((w.alloc (.cells #[aA aK wa wb,aB aK sh,aA aK fa fb,aA aK ta tb] 124)).alloc (.cells #[aA aK na nb,az aJ D] 83)).heap[w.heap.size+1]?=some (.cells #[aA aK na nb,az aJ D] 83 (0,0)):=by
  have:=heap_alloc_new (w.alloc (.cells #[aA aK wa wb,aB aK sh,aA aK fa fb,aA aK ta tb] 124)) (.cells #[aA aK na nb,az aJ D] 83);simpa using this
 have hb0:Below w.heap.size w ((w.alloc (.cells #[aA aK wa wb,aB aK sh,aA aK fa fb,aA aK ta tb] 124)).alloc (.cells #[aA aK na nb,az aJ D] 83)):=((Below.refl _ _).alloc (aY _) _).alloc af _
 have hsz:w.heap.size+2=((w.alloc (.cells #[aA aK wa wb,aB aK sh,aA aK fa fb,aA aK ta tb] 124)).alloc (.cells #[aA aK na nb,az aJ D] 83)).heap.size:=af
 go_enter func62,ntmps62
 go_wp2_with fail
 generalize(w.alloc (.cells #[aA aK wa wb,aB aK sh,aA aK fa fb,aA aK ta tb] 124)).alloc (.cells #[aA aK na nb,az aJ D] 83)=W at*;generalize hB:w.heap.size=B at*;have ez:B<W.heap.size:=aa
 have hzb:B+1<W.heap.size:=aa
 have z0:=cL hE;have z1:=cK hE;have z2:=eN hE;have z3:=kA hE;have z4:=cL hP;have z5:=cK hP;cases B1
 .refine wp_region_held_drew (S:=(λw'=>w'.cell? ⟨B,0,none⟩=some (aA aK wa wb)/\w'.cell? ⟨B,1,none⟩=some (aB aK sh)/\w'.cell? ⟨B,2,none⟩=some (aA aK fa fb)/\w'.cell? ⟨B,3,none⟩=some (aA aK ta tb)/\w'.cell? ⟨B+1,0,none⟩=some (aA aK na nb)/\w'.cell? ⟨B+1,1,none⟩=some (az aJ D))) ag ⟨z0,z1,z2,z3,z4,z5⟩ (λhHeld=>?_)
  iterate 3
   (
    refine mB (oi:={dst:=_,op:=_,type:=_,pos:=_,after:=_,guard:=_}) (v:=?_) rfl rfl (by rfl) hHeld ?_ ?_
    rotate_left
    .intro w' bY;obtain⟨s0,s1,s2,s3,s4,s5⟩:=bY
     go_simp
     try with_reducible rfl
    simp only[Act.put,dY,dZ,dL])
  refine wpAnyH_ready (rs:=[3]) ag af ?_
  refine AllReadyH.cons rfl (λK hK=>?_) AllReadyH.nil
  go_simp
  refine(HL.out _).mono ?_;rintro e w5 ⟨rfl,bh⟩;have lJ:B<w5.heap.size:=bW ez bh.size;have hlb:B+1<w5.heap.size:=bW hzb bh.size;have l0:=aQ bh z0 ez;have l1:=aQ bh z1 ez;have l2:=aQ bh z2 ez;have l3:=aQ bh z3 ez;have l4:=aQ bh z4 hzb;have l5:=aQ bh z5 hzb
  go_wp2_with fail
  refine hK.out _ _ ⟨l0,l1,l2,l3,l4,l5⟩ (λhHeld=>?_)
  clear hK K
  try simp only[Act.put,dY,dZ,dL]
  iterate 2
   (
    refine mB (oi:={dst:=_,op:=_,type:=_,pos:=_,after:=_,guard:=_}) (v:=?_) rfl rfl (by rfl) hHeld ?_ ?_
    rotate_left
    .intro w' bY;obtain⟨s0,s1,s2,s3,s4,s5⟩:=bY
     go_simp
     try with_reducible rfl
    simp only[Act.put,dY,dZ,dL])
  iterate 11
   (
    refine Dl (oi:={dst:=_,op:=_,type:=_,pos:=_,after:=_,guard:=_}) rfl rfl hHeld ?_;simp only[Act.put,dY,dZ,dL])
  iterate 2
   (
    refine mB (oi:={dst:=_,op:=_,type:=_,pos:=_,after:=_,guard:=_}) (v:=?_) rfl rfl (by rfl) hHeld ?_ ?_
    rotate_left
    .intro w' bY;obtain⟨s0,s1,s2,s3,s4,s5⟩:=bY
     go_simp
     try with_reducible rfl
    simp only[Act.put,dY,dZ,dL])
  refine wpAnyH_done ag ?_ _
  go_wp2_with fail
  go_ret
  exact⟨rfl,by rw[hB];exact hb0.drew.trans (bh.mono (fF ez))⟩
 .go_region_held3 (λw'=>w'.cell? ⟨B,0,none⟩=some (aA aK wa wb)/\w'.cell? ⟨B,1,none⟩=some (aB aK sh)/\w'.cell? ⟨B,2,none⟩=some (aA aK fa fb)/\w'.cell? ⟨B,3,none⟩=some (aA aK ta tb)/\w'.cell? ⟨B+1,0,none⟩=some (aA aK na nb)/\w'.cell? ⟨B+1,1,none⟩=some (az aJ D)) (go_keep) (first
   |(go_at_call 97;refine(HL.out _).mono ?_;rintro e w5 ⟨rfl,bh⟩;have lJ:B<w5.heap.size:=bW ez bh.size;have hlb:B+1<w5.heap.size:=bW hzb bh.size;have l0:=aQ bh z0 ez;have l1:=aQ bh z1 ez;have l2:=aQ bh z2 ez;have l3:=aQ bh z3 ez;have l4:=aQ bh z4 hzb;have l5:=(aQ bh z5 hzb))
   |(go_at_call_of 99 (Value.complex FloatKind.f64 fa fb);refine(HU.out _).mono ?_;rintro e w6 ⟨rfl,bp⟩;have jK:B<w6.heap.size:=bW lJ bp.size;have mW:B+1<w6.heap.size:=bW hlb bp.size;have u0:=aQ bp l0 lJ;have u1:=aQ bp l1 lJ;have u2:=aQ bp l2 lJ;have u3:=aQ bp l3 lJ;have u4:=aQ bp l4 hlb;have u5:=(aQ bp l5 hlb))
   |(go_at_call_of 99 (Value.complex FloatKind.f64 ta tb);refine(HV.out _).mono ?_;rintro e w7 ⟨rfl,bu⟩;have rZ:B<w7.heap.size:=bW jK bu.size;have hvb:B+1<w7.heap.size:=bW mW bu.size;have v0:=aQ bu u0 jK;have v1:=aQ bu u1 jK;have v2:=aQ bu u2 jK;have v3:=aQ bu u3 jK;have v4:=aQ bu u4 mW;have v5:=(aQ bu u5 mW))
   |(go_at_call 98;refine(HT.out _).mono ?_;rintro e w8 ⟨rfl,ua⟩;subst ua))
  go_wp2_with fail
  go_ret
  refine⟨vg af,?_⟩
  rw[hB];exact((hb0.drew.trans (bh.mono (fF ez))).trans (bp.mono (fF lJ))).trans (bu.mono (fF jK))
theorem ai2(na nb a b pa pb qa qb:Nat)(D E:Int)(w:aM)
  (HA:Hid (∀w,ak 152 #[aC #[aA aK a b,az aJ E],aA aK na nb] w λe w'=>e=aL (aA aK pa pb)/\Below w.heap.size w w'/\w.drawn<=w'.drawn))
  (HC:Hid (∀w,ak 152 #[aC #[aA aK na nb,az aJ D],aA aK a b] w λe w'=>e=aL (aA aK qa qb)/\Below w.heap.size w w'/\w.drawn<=w'.drawn)):
  ak 100 #[aC #[aA aK na nb,az aJ D],aC #[aA aK a b,az aJ E]] w λe w'=>e=aL (aD (FloatKind.f64.format.order pa qa == some .lt))/\Below w.heap.size w w':=by
 have hE:((w.alloc (.cells #[aA aK na nb,az aJ D] 83)).alloc (.cells #[aA aK a b,az aJ E] 83)).heap[w.heap.size]?=some (.cells #[aA aK na nb,az aJ D] 83 (0,0)):=by
  rw[Below.heap_alloc _ _ _ af];exact heap_alloc_new _ _
 have hP:((w.alloc (.cells #[aA aK na nb,az aJ D] 83)).alloc (.cells #[aA aK a b,az aJ E] 83)).heap[w.heap.size+1]?=some (.cells #[aA aK a b,az aJ E] 83 (0,0)):=by
  have:=heap_alloc_new (w.alloc (.cells #[aA aK na nb,az aJ D] 83)) (.cells #[aA aK a b,az aJ E] 83);simpa using this
 have hb0:Below w.heap.size w ((w.alloc (.cells #[aA aK na nb,az aJ D] 83)).alloc (.cells #[aA aK a b,az aJ E] 83)):=((Below.refl _ _).alloc (aY _) _).alloc af _
 have hsz:w.heap.size+2=((w.alloc (.cells #[aA aK na nb,az aJ D] 83)).alloc (.cells #[aA aK a b,az aJ E] 83)).heap.size:=af
 go_enter func100,ntmps100
 go_wp2_with fail
 generalize(w.alloc (.cells #[aA aK na nb,az aJ D] 83)).alloc (.cells #[aA aK a b,az aJ E] 83)=W at*;generalize hB:w.heap.size=B at*;have ez:B<W.heap.size:=aa
 have hzb:B+1<W.heap.size:=aa
 have z0:=cL hE;have z1:=cK hE;have z2:=cL hP;have z3:=cK hP
 go_region_held3 (λw'=>w'.cell? ⟨B,0,none⟩=some (aA aK na nb)/\w'.cell? ⟨B,1,none⟩=some (az aJ D)/\w'.cell? ⟨B+1,0,none⟩=some (aA aK a b)/\w'.cell? ⟨B+1,1,none⟩=some (az aJ E)) (go_keep) (first
   |(go_at_call_of 152 (Value.complex FloatKind.f64 na nb);refine(HA.out _).mono ?_;rintro e w6 ⟨rfl,bp,_⟩;have jK:B<w6.heap.size:=bW ez bp.size;have mW:B+1<w6.heap.size:=bW hzb bp.size;have u0:=aQ bp z0 ez;have u1:=aQ bp z1 ez;have u2:=aQ bp z2 hzb;have u3:=(aQ bp z3 hzb))
   |(go_at_call_of 152 (Value.complex FloatKind.f64 a b);refine(HC.out _).mono ?_;rintro e w7 ⟨rfl,bu,_⟩;have v0:=aQ bu u0 jK;have v1:=aQ bu u1 jK;have v2:=aQ bu u2 mW;have v3:=(aQ bu u3 mW)))
 all_goals
  have aX:=(hb0.drew.trans (bp.mono (fF ez))).trans (bu.mono (fF jK));clear bp bu hb0
  go_wp2_with fail
  go_ret
  exact⟨rfl,by rw[hB];exact aX⟩
theorem K8{E:Int}(g1:Fl na X)(g2:Fl nb Y)(h1:Fl a x)(h2:Fl b y)(b1:sm x)(b2:sm y)(bD:sm D)(bE:sm E)(c1:sm X)(c2:sm Y)(w:aM):
  ak 100 #[aC #[aA aK na nb,az aJ D],aC #[aA aK a b,az aJ E]] w λe w'=>e=aL (aD (decide (X*E<x*D)))/\aj w w':=by
 obtain⟨pa,pb,f1,f2,hs1⟩:=GF a b E g1 g2 c1 c2 bE;obtain⟨qa,qb,k1,k2,hs2⟩:=GF na nb D h1 h2 b1 b2 bD;rw[<-DT f1 k1];exact ai2 na nb a b pa pb qa qb D E w hs1 hs2
theorem ai3(xb:EB)(ed:Ed)(hx:lK xb ed)(hs:gS ed)(g1:Fl na X)(g2:Fl nb Y)(hn:fC X Y D)(w:aM):
  ak 63 #[aC xb.cells,aC #[aA aK na nb,az aJ D]] w λe w'=>e=aL (az aJ (Ge.fr (X,Y) D ed.1 ed.2))/\Below w.heap.size w w':=by
 have sX:sm X:=by have:=hn.x;unfold sm;omega
 have sY:sm Y:=by have:=hn.y;unfold sm;omega
 have sD:sm D:=by have:=hn.d;unfold sm;omega
 have s1:sm (ed.2.1-ed.1.1):=by have:=hs.a;have:=hs.c;unfold small at*;unfold sm;omega
 have s2:sm (ed.2.2-ed.1.2):=by have:=hs.b;have:=hs.d;unfold small at*;unfold sm;omega
 obtain⟨r,fr,hL⟩:=QP hx.wa hx.wb hx.sh g1 g2 s1 s2 (K5 hs) sD sX sY;have HL:Hid (∀w,ak 97 #[aC #[aA aK xb.wa xb.wb,aB aK xb.sh],aC #[aA aK na nb,az aJ D]] w λe w'=>e=aL (aB aK r)/\Below w.heap.size w w'):=hL
 have s1':sm 1:=by unfold sm;decide
 have HU:Hid (∀w,ak 100 #[aC #[aA aK na nb,az aJ D],aC #[aA aK xb.fa xb.fb,az aJ 1]] w λe w'=>e=aL (aD (decide (X*1<ed.1.1*D)))/\Below w.heap.size w w'):=λw=>K8 g1 g2 hx.fa hx.fb (zn hs.a) (zn hs.b) sD s1' sX sY w
 have HV:Hid (∀w,ak 100 #[aC #[aA aK na nb,az aJ D],aC #[aA aK xb.ta xb.tb,az aJ 1]] w λe w'=>e=aL (aD (decide (X*1<ed.2.1*D)))/\Below w.heap.size w w'):=λw=>K8 g1 g2 hx.ta hx.tb (zn hs.c) (zn hs.d) sD s1' sX sY w
 have q1:=K2 fr mV;have q2:=DT fr mV;have iK:=ai1 X Y D ed hn.d.1;unfold lf at iK;rw[iK];generalize(ed.2.1-ed.1.1)*Y-(ed.2.2-ed.1.2)*X-((ed.2.1-ed.1.1)*ed.1.2-(ed.2.2-ed.1.2)*ed.1.1)*D=L at*;generalize Yk:decide (X*1<ed.1.1*D)=FA at*;generalize qR:decide (X*1<ed.2.1*D)=TA at*;have hval:(if ¬X*1<ed.1.1*D/\X*1<ed.2.1*D/\0<L then(1:Int) else if X*1<ed.1.1*D/\¬X*1<ed.2.1*D/\L<0 then -1 else 0)=(if FA=false/\TA=true/\0<L then 1 else if FA=true/\TA=false/\L<0 then -1 else 0):=by
  rw[<-Yk,<-qR];simp
 rw[hval];clear hval iK hL fr hx hs hn g1 g2 sX sY sD s1 s2 s1' Yk qR;obtain⟨wa,wb,sh,fa,fb,ta,tb⟩:=xb;simp only[EB.cells] at*;have hE:((w.alloc (.cells #[aA aK wa wb,aB aK sh,aA aK fa fb,aA aK ta tb] 124)).alloc (.cells #[aA aK na nb,az aJ D] 83)).heap[w.heap.size]?=some (.cells #[aA aK wa wb,aB aK sh,aA aK fa fb,aA aK ta tb] 124 (0,0)):=by
  rw[Below.heap_alloc _ _ _ af];exact heap_alloc_new _ _
 have hP:((w.alloc (.cells #[aA aK wa wb,aB aK sh,aA aK fa fb,aA aK ta tb] 124)).alloc (.cells #[aA aK na nb,az aJ D] 83)).heap[w.heap.size+1]?=some (.cells #[aA aK na nb,az aJ D] 83 (0,0)):=by
  have:=heap_alloc_new (w.alloc (.cells #[aA aK wa wb,aB aK sh,aA aK fa fb,aA aK ta tb] 124)) (.cells #[aA aK na nb,az aJ D] 83);simpa using this
 have hb0:Below w.heap.size w ((w.alloc (.cells #[aA aK wa wb,aB aK sh,aA aK fa fb,aA aK ta tb] 124)).alloc (.cells #[aA aK na nb,az aJ D] 83)):=((Below.refl _ _).alloc (aY _) _).alloc af _
 have hsz:w.heap.size+2=((w.alloc (.cells #[aA aK wa wb,aB aK sh,aA aK fa fb,aA aK ta tb] 124)).alloc (.cells #[aA aK na nb,az aJ D] 83)).heap.size:=af
 go_enter func63,ntmps63
 go_wp2_with fail
 generalize(w.alloc (.cells #[aA aK wa wb,aB aK sh,aA aK fa fb,aA aK ta tb] 124)).alloc (.cells #[aA aK na nb,az aJ D] 83)=W at*;generalize hB:w.heap.size=B at*;have ez:B<W.heap.size:=aa
 have hzb:B+1<W.heap.size:=aa
 have z0:=cL hE;have z1:=cK hE;have z2:=eN hE;have z3:=kA hE;have z4:=cL hP;have z5:=cK hP
 go_region_held3 (λw'=>w'.cell? ⟨B,0,none⟩=some (aA aK wa wb)/\w'.cell? ⟨B,1,none⟩=some (aB aK sh)/\w'.cell? ⟨B,2,none⟩=some (aA aK fa fb)/\w'.cell? ⟨B,3,none⟩=some (aA aK ta tb)/\w'.cell? ⟨B+1,0,none⟩=some (aA aK na nb)/\w'.cell? ⟨B+1,1,none⟩=some (az aJ D)) (go_keep) (first
   |(go_at_call_of 100 (Value.agg #[Value.complex FloatKind.f64 fa fb,Value.int IntKind.i64 1]);refine(HU.out _).mono ?_;rintro e w6 ⟨rfl,bp⟩;have jK:B<w6.heap.size:=bW ez bp.size;have mW:B+1<w6.heap.size:=bW hzb bp.size;have u0:=aQ bp z0 ez;have u1:=aQ bp z1 ez;have u2:=aQ bp z2 ez;have u3:=aQ bp z3 ez;have u4:=aQ bp z4 hzb;have u5:=(aQ bp z5 hzb))
   |(go_at_call_of 100 (Value.agg #[Value.complex FloatKind.f64 ta tb,Value.int IntKind.i64 1]);refine(HV.out _).mono ?_;rintro e w7 ⟨rfl,bu⟩;have rZ:B<w7.heap.size:=bW jK bu.size;have hvb:B+1<w7.heap.size:=bW mW bu.size;have v0:=aQ bu u0 jK;have v1:=aQ bu u1 jK;have v2:=aQ bu u2 jK;have v3:=aQ bu u3 jK;have v4:=aQ bu u4 mW;have v5:=(aQ bu u5 mW)))
 have aX:Below w.heap.size w w7:=by
  rw[hB];exact(hb0.drew.trans (bp.mono (fF ez))).trans (bu.mono (fF jK))
 clear bp bu hb0;cases FA<;>cases TA
 .go_wp2_with fail
  go_ret
  exact⟨rfl,by rw[hB] at aX;exact aX⟩
 .go_wp2_with fail
  refine(HL.out _).mono ?_;rintro e w8 ⟨rfl,kN⟩;have xp:=aX.trans (kN.mono (by rw[hB];exact fF rZ))
  by_cases hl:0<L
  .have hq:(FloatKind.f64.format.order r 0 == some Ordering.gt)=true:=by rw[q1];simp[hl]
   clear q1 q2
   go_wp2_with fail
   go_ret
   exact⟨rfl,by rw[hB] at xp;exact xp⟩
  .have hq:(FloatKind.f64.format.order r 0 == some Ordering.gt)=false:=by rw[q1];simp[hl]
   clear q1 q2
   go_wp2_with fail
   go_ret
   exact⟨rfl,by rw[hB] at xp;exact xp⟩
 .go_wp2_with fail
  refine(HL.out _).mono ?_;rintro e w8 ⟨rfl,kN⟩;have xp:=aX.trans (kN.mono (by rw[hB];exact fF rZ))
  by_cases hl:L<0
  .have hq:(FloatKind.f64.format.order r 0 == some Ordering.lt)=true:=by rw[q2];simp[hl]
   clear q1 q2
   go_wp2_with fail
   go_ret
   exact⟨rfl,by rw[hB] at xp;exact xp⟩
  .have hq:(FloatKind.f64.format.order r 0 == some Ordering.lt)=false:=by rw[q2];simp[hl]
   clear q1 q2
   go_wp2_with fail
   go_ret
   exact⟨rfl,by rw[hB] at xp;exact xp⟩
 .go_wp2_with fail
  go_ret
  exact⟨rfl,by rw[hB] at aX;exact aX⟩
def qd(l:List EB):List aN:=l.flatMap λx=>x.cells.toList
def jL(w:aM)(v:aN)(es:List Ed):Prop:=
 ∃xs:List EB,xs.length=es.length/\w.ownsRow 0 124 4 v es.length (qd xs)/\∀(i:Nat) x e,xs[i]?=some x->es[i]?=some e->lK x e
theorem Yl:∀(l:List EB)(k:Nat)(e:EB),l[k]?=some e->∀j,j<4->(qd l)[k*4+j]?=e.cells[j]?
 |[],_,_,h,_,_=>by simp at h
 |q::r,0,e,h,j,hj=>by
  simp at h;subst h;have e1:qd (q::r)=q.cells.toList++qd r:=by simp[qd]
  rw[e1,fM (by simp[EB.cells];omega)]
  simp
 |q::r,k+1,e,h,j,hj=>by
  have ih:=Yl r k e (by simpa using h) j hj
  have e1:qd (q::r)=q.cells.toList++qd r:=by simp[qd]
  rw[e1,nE (by simp[EB.cells];omega)]
  have e2:(k+1)*4+j-q.cells.toList.length=k*4+j:=by simp[EB.cells];omega
  rw[e2,ih]
theorem K9{v:aN}{l:List Ed}(h:jL w v l):∃so cap,v=aG so l.length cap:=by
 obtain⟨xs,_,h,_⟩:=h;rcases h.2 with⟨hv,h0⟩|⟨b,cap,cur,hv,_⟩
 .exact⟨none,0,by rw[hv,h0]⟩
 .exact⟨_,cap,hv⟩
theorem La{so:Option Addr}{n cap:Nat}{l:List Ed}(h:jL w (aG so n cap) l){e:Ed}(he:l[k]?=some e):
  ∃b x,so=some ⟨b,0,none⟩/\b<w.heap.size/\lK x e/\w.cell? ⟨b,k*4,none⟩=some (aA aK x.wa x.wb)/\w.cell? ⟨b,k*4+1,none⟩=some (aB aK x.sh)/\w.cell? ⟨b,k*4+2,none⟩=some (aA aK x.fa x.fb)/\w.cell? ⟨b,k*4+3,none⟩=some (aA aK x.ta x.tb):=by
 obtain⟨xs,hl,ho,hr⟩:=h;have hk:k<xs.length:=by rw[hl];exact(cG.1 he).1
 obtain⟨x,hx⟩:∃x,xs[k]?=some x:=⟨_,bo hk⟩;have g:=Yl xs k x hx;obtain⟨b,c,hv,hb,hc⟩:=DU ho (g 0 aa)
 injection hv with hv;exact⟨b,x,hv,hb,hr k x e hx he,hc _ _ (g 0 aa),hc _ _ (g 1 aa),hc _ _ (g 2 aa),hc _ _ (g 3 aa)⟩
theorem ai4(a b:Int):Int.gcd b (a.tmod b)=Int.gcd a b:=by
 unfold Int.gcd;rw[Int.natAbs_tmod];exact Yd _ _
theorem GI(x y:Int)(w:aM)(hx: -1000000000000<=x/\x<=1000000000000)(hy: -1000000000000<=y/\y<=1000000000000):
  ak 65 #[az aJ x,az aJ y] w λe w'=>e=aL (az aJ (Int.gcd x y:Int))/\aj w w':=by
 generalize hG:Int.gcd x y=G;have HG:Hid (Int.gcd x y=G):=hG;clear hG
 go_enter func65,ntmps65
 go_wp2_with fail
 go_loopg [0,1] y.natAbs (λm av bv wr=>∃a b:Int,av=az aJ a/\bv=az aJ b/\m=b.natAbs/\Int.gcd a b=G/\(-1000000000000<=a/\a<=1000000000000)/\(-1000000000000<=b/\b<=1000000000000)/\Hid (aj w wr))
 case atStart=>exact⟨x,y,rfl,rfl,rfl,HG.out,hx,hy,Below.refl _ _⟩
 case round=>
  obtain⟨a,b,rfl,rfl,rfl,hg,ha,hb,HB⟩:=hrel;clear HG;by_cases hz:b=0
  .subst hz;have hv:(G:Int)=max a (-a):=by
    rw[<-hg,Int.gcd_zero_right];omega
   have HV:Hid ((G:Int)=max a (-a)):=hv;clear hg hv;have hw:IntKind.i64.wrap (-a)= -a:=by rw[IntKind.wrap_i64];omega
   go_wp2_with fail
   go_ret
   exact⟨by rw[HV.out];rfl,HB.out⟩
  .have hgt:=ai4 a b;have hlt:(a.tmod b).natAbs<b.natAbs:=by rw[Int.natAbs_tmod];exact uU _ aa
   have dw:Hid (Int.gcd b (a.tmod b)=G/\(-1000000000000<=a.tmod b/\a.tmod b<=1000000000000)):=⟨hgt.trans hg,aa⟩
   have hbz:¬b=0:=hz;clear hg hgt;generalize hR:a.tmod b=R at*
   go_wp2_with fail
   go_region_held3 (λ_=>True) (trivial) (fail)
   go_wp2_with fail
   go_roundg R.natAbs
   case measure=>omega
   case rel=>exact⟨b,R,rfl,rfl,rfl,dw.out.1,hb,dw.out.2,HB.out.drew⟩
theorem ai5(D:Int)(h1:Fl a x)(h2:Fl b y)(hx: -16000000<=x/\x<=16000000)(hy: -16000000<=y/\y<=16000000)(hD:0<D/\D<=300000)(G:Nat)(hG:Int.gcd (Int.gcd x y:Nat) D=G)(w:aM):
  ak 37 #[aA aK a b,az aJ D] w λe w'=>e=aL (aC #[aA aK (aO aK (x.tdiv G)) (aO aK (y.tdiv G)),az aJ (D.tdiv G)])/\Below w.heap.size w w':=by
 have GJ:0<G:=by rw[<-hG];exact vp aa
 have ai6:Int.gcd x y<=16000000:=by
  by_cases hz:x=0
  .rw[hz,Int.gcd_zero_left];omega
  .have:=atq (b:=y) hz;omega
 have hGD:G<=300000:=by
  have:=atr (a:=(Int.gcd x y:Nat)) (b:=D) aa
  omega
 have c1:=h1.int aa aa
 have c2:=h2.int aa aa
 have hc1:∀w,(convert 120 3 (aB aK a)).run prog w=.ok (az aJ x) w:=λw=>run_convert_float_int w 120 3 aK aJ a x (by rw[underlying120];rfl) underlying3 c1
 have hc2:∀w,(convert 120 3 (aB aK b)).run prog w=.ok (az aJ y) w:=λw=>run_convert_float_int w 120 3 aK aJ b y (by rw[underlying120];rfl) underlying3 c2
 have QT:Hid (∀w1,ak 65 #[az aJ x,az aJ y] w1 λe w'=>e=aL (az aJ (Int.gcd x y:Nat))/\Below w1.heap.size w1 w'):=λw1=>GI x y w1 aa aa
 have QU:Hid (∀w1,ak 65 #[az aJ (Int.gcd x y:Nat),az aJ D] w1 λe w'=>e=aL (az aJ (G:Int))/\Below w1.heap.size w1 w'):=λw1=>by rw[<-hG];exact GI _ D w1 aa aa
 obtain⟨XQ,Bk⟩:∃q,q=x.tdiv (G:Int):=⟨_,rfl⟩;obtain⟨YQ,Bl⟩:∃q,q=y.tdiv (G:Int):=⟨_,rfl⟩;obtain⟨DQ,Bn⟩:∃q,q=D.tdiv (G:Int):=⟨_,rfl⟩;rw[<-Bk,<-Bl,<-Bn];have HP:Hid (∀w1,ak 38 #[az aJ XQ,az aJ YQ] w1 λe w'=>e=aL (aA aK (aO aK XQ) (aO aK YQ))/\w'=w1):=λw1=>KZ _ _ w1
 have hw1:IntKind.i64.wrap (x.tdiv (G:Int))=XQ:=by rw[Bk];exact IntWalk.i64_quo' _ _ ⟨aa,aa,aa⟩
 have hw2:IntKind.i64.wrap (y.tdiv (G:Int))=YQ:=by rw[Bl];exact IntWalk.i64_quo' _ _ ⟨aa,aa,aa⟩
 have hw3:IntKind.i64.wrap (D.tdiv (G:Int))=DQ:=by rw[Bn];exact IntWalk.i64_quo' _ _ ⟨aa,aa,aa⟩
 have hw4:IntKind.i64.wrap (D/(G:Int))=DQ:=by rw[<-hw3,Pj aa]
 clear Bk Bl Bn;have Ym:¬G=0:=aa
 have Yn:(0:Int)<G:=aa
 generalize Int.gcd x y=GXY at*;clear c1 c2 h1 h2 hG;have hE:=heap_alloc_new w (.cells #[aA aK 0 0,az aJ 0] 83);have hb0:Below w.heap.size w (w.alloc (.cells #[aA aK 0 0,az aJ 0] 83)):=(Below.refl _ _).alloc (aY _) _;have hz:w.heap.size<(w.alloc (.cells #[aA aK 0 0,az aJ 0] 83)).heap.size:=af
 go_enter func37,ntmps37
 go_wp2_with (first |(simp only[hc1])|(simp only[hc2]))
 generalize w.alloc (.cells #[aA aK 0 0,az aJ 0] 83)=W at*;generalize hB:w.heap.size=B at*;refine(QT.out _).mono ?_;rintro e w1 ⟨rfl,hb1⟩
 go_wp2_with fail
 refine(QU.out _).mono ?_;rintro e w2 ⟨rfl,hb2⟩;have hs1:=hb1.size;have fg:=(hb2.block _ (show B<w1.heap.size by omega)).trans ((hb1.block _ hz).trans hE)
 have aX:=(hb0.trans (hb1.mono (fF hz))).trans (hb2.mono aa)
 have e0:=cL fg;have e1:=cK fg;have z0:=bK fg 0;have z1:=bK fg 1;clear hE fg hb1 hb2 hb0
 go_wp2_with fail
 go_region_held3 (λw'=>w'.frozen? ⟨B,0,none⟩=false/\w'.frozen? ⟨B,1,none⟩=false) (go_keep) (first
  |(go_at_call 38;refine(HP.out _).mono ?_;rintro e w5 ⟨rfl,rY⟩;subst rY)
  |(simp only[iH];go_simp))
 go_wp2_with fail
 refine bodyPost_ret (v:=aC #[aA aK (aO aK XQ) (aO aK YQ),az aJ DQ]) (by simp[results,results37,go_sem,e0,e1]) rfl ⟨rfl,?_⟩
 rw[hB];exact((aX.setCell (aY _) _).setCell (aY _) _).drew
namespace Ge
abbrev Fr:=Int×Int
abbrev Qt:=Fr×Fr
def fc(a b:Fr):Int:=(a.1*b.2-b.1*a.2).sign
def pc(p q:Qt):Int:=if fc p.1 q.1=0 then fc p.2 q.2 else fc p.1 q.1
structure Bo(a:Fr):Prop where
 pos:0<a.2
 co:Int.gcd a.1 a.2=1
structure iL(p:Qt):Prop where
 x:Bo p.1
 y:Bo p.2
theorem Yo(a b:Fr):fc b a= -fc a b:=by
 unfold fc;rw[<-Wo];congr 1;omega
theorem QV{k m n:Int}(h:Int.gcd k m=1)(hd:k∣m*n):k∣n:=by
 have h1:=att.2 hd;rw[oX] at h1;exact att.1 (Nat.Coprime.dvd_of_dvd_mul_left h h1)
theorem QW{a b:Fr}(ha:Bo a)(hb:Bo b)(h:fc a b=0):a=b:=by
 unfold fc at h;have h':a.1*b.2=b.1*a.2:=by have:=yL.1 h;omega
 have d1:a.2∣b.2:=by
  have:a.2∣a.1*b.2:=by rw[h'];exact Int.dvd_mul_left _ _
  exact QV (by rw[aha];exact ha.co) this
 have d2:b.2∣a.2:=by
  have:b.2∣b.1*a.2:=by rw[<-h'];exact Int.dvd_mul_left _ _
  exact QV (by rw[aha];exact hb.co) this
 have e2:a.2=b.2:=Int.dvd_antisymm (fA ha.pos) (fA hb.pos) d1 d2;have e1:a.1=b.1:=by
  rw[e2] at h';exact Wj (ag7 hb.pos) h'
 exact dN e1 e2
theorem DV(a:Fr):fc a a=0:=by
 unfold fc;rw[show a.1*a.2-a.1*a.2=0 by omega]
 rfl
theorem Yp(z:Int):(z.sign= -1/\z<0)\/(z.sign=0/\z=0)\/(z.sign=1/\0<z):=by
 rcases gf z 0 with h|h|h
 .exact aS ⟨yI h,h⟩
 .exact aR (aS ⟨by rw[h];rfl,h⟩)
 .exact aR (aR ⟨nV h,h⟩)
theorem Yq{a b:Fr}:fc a b<0↔a.1*b.2<b.1*a.2:=by
 unfold fc;have:=Yp (a.1*b.2-b.1*a.2);omega
theorem Yr{a b:Fr}:fc a b=0↔a.1*b.2=b.1*a.2:=by
 unfold fc;have:=Yp (a.1*b.2-b.1*a.2);omega
theorem zo{a b c d e f:Int}(hb:0<b)(hd:0<d)(hf:0<f)(h1:a*d<c*b)(h2:c*f<=e*d):a*f<e*b:=by
 have k1:a*d*f<c*b*f:=Wi h1 hf;have k2:c*f*b<=e*d*b:=ahb h2 (fA hb);have k3:d*(a*f)<d*(e*b):=by
  have e1:d*(a*f)=a*d*f:=by ac_rfl
  have e2:d*(e*b)=e*d*b:=by ac_rfl
  have e3:c*b*f=c*f*b:=by ac_rfl
  rw[e1,e2];omega
 exact atu k3 (fA hd)
theorem QX{a b c d e f:Int}(hb:0<b)(hd:0<d)(hf:0<f)(h1:a*d<=c*b)(h2:c*f<e*d):a*f<e*b:=by
 have k1:a*d*f<=c*b*f:=ahb h1 (fA hf);have k2:c*f*b<e*d*b:=Wi h2 hb;have k3:d*(a*f)<d*(e*b):=by
  have e1:d*(a*f)=a*d*f:=by ac_rfl
  have e2:d*(e*b)=e*d*b:=by ac_rfl
  have e3:c*b*f=c*f*b:=by ac_rfl
  rw[e1,e2];omega
 exact atu k3 (fA hd)
theorem QY{a b c d e f:Int}(hd:0<d)(h1:a*d=c*b)(h2:c*f=e*d):a*f=e*b:=by
 have k3:d*(a*f)=d*(e*b):=by
  have e1:d*(a*f)=a*d*f:=by ac_rfl
  have e2:d*(e*b)=e*d*b:=by ac_rfl
  have e3:c*b*f=c*f*b:=by ac_rfl
  rw[e1,e2,h1,e3,h2]
 exact Dh (ag7 hd) k3
def lt(p q:Qt):Prop:=pc p q<0
theorem ai9{p q:Qt}:pc p q<0↔fc p.1 q.1<0\/(fc p.1 q.1=0/\fc p.2 q.2<0):=by
 unfold pc;split<;>omega
theorem Lb(p q:Qt):pc q p= -pc p q:=by
 unfold pc;rw[Yo p.1 q.1,Yo p.2 q.2];split<;>split<;>omega
theorem aja{p q:Qt}(hp:iL p)(hq:iL q)(h:pc p q=0):p=q:=by
 unfold pc at h;split at h
 .rename_i h1
  exact dN (QW hp.x hq.x h1) (QW hp.y hq.y h)
 .rename_i h1;exact absurd h h1
theorem Bp(p:Qt):pc p p=0:=by
 unfold pc;rw[DV,aV rfl,DV]
theorem lt_trans{p q r:Qt}(hp:iL p)(hq:iL q)(hr:iL r)(h1:lt p q)(h2:lt q r):lt p r:=by
 unfold lt at*;rw[ai9] at*;rw[Yq,Yr,Yq] at*;rcases h1 with h1|⟨h1,h1'⟩
 .rcases h2 with h2|⟨h2,_⟩
  .exact aS (zo hp.x.pos hq.x.pos hr.x.pos h1 (fA h2))
  .exact aS (zo hp.x.pos hq.x.pos hr.x.pos h1 (Pk h2))
 .rcases h2 with h2|⟨h2,h2'⟩
  .exact aS (QX hp.x.pos hq.x.pos hr.x.pos (Pk h1) h2)
  .exact aR ⟨QY hq.x.pos h1 h2,zo hp.y.pos hq.y.pos hr.y.pos h1' (fA h2')⟩
theorem lt_irrefl(p:Qt):¬lt p p:=by unfold lt;rw[Bp];decide
def vq(l:List Qt):Prop:=l.Pairwise lt
def ins(p:Qt):List Qt->List Qt
 |[]=>[p]
 |q::l=>if pc q p=0 then q::l else if pc q p<0 then q::ins p l else p::q::l
theorem vr{p:Qt}(hp:iL p):∀{l:List Qt},(∀q∈l,iL q)->∀r,r∈ins p l↔r=p\/r∈l
 |[],_,r=>by simp[ins]
 |q::l,hl,r=>by
  unfold ins;split
  .rename_i h
   have e:=aja (hl q af) hp h
   subst e;simp
  .split
   .have ih:=vr hp (l:=l) (λx hx=>hl x (by simp[hx])) r
    simp only[bU,ih];constructor
    .rintro(h|h|h)
     .exact aR (aS h)
     .exact aS h
     .exact aR (aR h)
    .rintro(h|h|h)
     .exact aR (aS h)
     .exact aS h
     .exact aR (aR h)
   .simp
theorem zq{p:Qt}(hp:iL p){l:List Qt}(hl:∀q∈l,iL q):∀q∈ins p l,iL q:=λq hq=>by
 rcases(vr hp hl q).1 hq with h|h
 .rw[h];exact hp
 .exact hl q h
theorem Yt{p:Qt}(hp:iL p):∀{l:List Qt},(∀q∈l,iL q)->vq l->vq (ins p l)
 |[],_,_=>by simp[ins,vq]
 |q::l,hl,ha=>by
  have ha':=gN.1 ha;unfold ins;split
  .exact ha
  .split
   .rename_i _ h
    refine gN.2 ⟨λr hr=>?_,Yt hp (λx hx=>hl x (by simp[hx])) ha'.2⟩
    rcases(vr hp (λx hx=>hl x (by simp[hx])) r).1 hr with e|e
    .rw[e];exact h
    .exact ha'.1 r e
   .rename_i h0 h1
    have mU:lt p q:=by unfold lt;have:=Lb q p;omega
    refine gN.2 ⟨λr hr=>?_,ha⟩
    rcases bU.1 hr with e|e
    .rw[e];exact mU
    .exact lt_trans hp (hl q af) (hl r (by simp[e])) mU (ha'.1 r e)
theorem Yu:∀{a b:List Qt},(∀q∈a,iL q)->(∀q∈b,iL q)->vq a->vq b->(∀q,q∈a↔q∈b)->a=b
 |[],[],_,_,_,_,_=>rfl
 |[],q::l,_,_,_,_,h=>by have:=(h q).2 af;simp at this
 |q::l,[],_,_,_,_,h=>by have:=(h q).1 af;simp at this
 |p::a,q::b,ra,rb,ha,hb,h=>by
  have ha':=gN.1 ha;have hb':=gN.1 hb;have e:p=q:=by
   rcases bU.1 ((h p).1 af) with e|e
   .exact e
   .rcases bU.1 ((h q).2 af) with e'|e'
    .exact e'.symm
    .have h1:=hb'.1 p e;have h2:=ha'.1 q e';exact absurd (lt_trans (ra p af) (rb q af) (ra p af) h2 h1) (lt_irrefl p)
  subst e;congr 1;refine Yu (λx hx=>ra x (by simp[hx])) (λx hx=>rb x (by simp[hx])) ha'.2 hb'.2 λr=>?_
  constructor
  .intro hr;rcases bU.1 ((h r).1 (by simp[hr])) with e|e
   .exact absurd (ha'.1 r hr) (by rw[e];exact lt_irrefl p)
   .exact e
  .intro hr;rcases bU.1 ((h r).2 (by simp[hr])) with e|e
   .exact absurd (hb'.1 r hr) (by rw[e];exact lt_irrefl p)
   .exact e
end Ge
namespace Ge
def bO(n d:Int):Fr:=if d<0 then(zm (-n) (-d),vo (-n) (-d)) else(zm n d,vo n d)
theorem Yv{n d g:Int}{a b:Int}(hg:(Int.gcd n d:Int)=g)(hp:0<g)(h1:n=g*a)(h2:d=g*b):Int.gcd a b=1:=by
 have e:Int.gcd (g*a) (g*b)=g.natAbs*Int.gcd a b:=Wp ..;rw[<-h1,<-h2] at e;have e2:(Int.gcd n d)=g.natAbs:=aa
 rw[e2] at e;have hpos:0<g.natAbs:=aa
 have e3:g.natAbs*1=g.natAbs*Int.gcd a b:=by rw[Pc];exact e
 exact(atv hpos e3).symm
theorem se{n d:Int}(hd:d≠0):Bo (bO n d):=by
 unfold bO;split
 .rename_i h
  exact⟨Yb aa,Yv rfl (by have:=vp (n:= -n) (d:= -d) aa;omega) (K3 (-n) (-d)) (GH (-n) (-d))⟩
 .exact⟨Yb aa,Yv rfl (by have:=vp (n:=n) hd;omega) (K3 n d) (GH n d)⟩
theorem vt{n d:Int}(hd:d≠0):∃g,g≠0/\n=g*(bO n d).1/\d=g*(bO n d).2/\(0<g↔0<d):=by
 unfold bO;split
 .rename_i h
  have hg:=vp (n:= -n) (d:= -d) aa
  have e1:=K3 (-n) (-d);have e2:=GH (-n) (-d);refine⟨-(Int.gcd (-n) (-d):Int),aa,?_,?_,aa⟩
  .simp only;rw[js,<-e1];omega
  .simp only;rw[js,<-e2];omega
 .have hg:=vp (n:=n) hd;exact⟨_,aa,K3 n d,GH n d,aa⟩
theorem Lc(n:Int):bO n 1=(n,1):=by
 unfold bO;rw[aP ah]
 unfold zm vo;rw[Wq];simp
theorem DW{n d m e:Int}(hd:d≠0)(he:e≠0)(h:n*e=m*d):bO n d=bO m e:=by
 obtain⟨g,g0,h1,h2,_⟩:=vt (n:=n) hd;obtain⟨k,k0,h3,h4,_⟩:=vt (n:=m) he;refine QW (se hd) (se he) (Yr.2 ?_);have e1:g*(bO n d).1*(k*(bO m e).2)=k*(bO m e).1*(g*(bO n d).2):=by rw[<-h1,<-h2,<-h3,<-h4];exact h
 have e2:(g*k)*((bO n d).1*(bO m e).2)=(g*k)*((bO m e).1*(bO n d).2):=by
  calc (g*k)*((bO n d).1*(bO m e).2)=g*(bO n d).1*(k*(bO m e).2):=by ac_rfl
   _=k*(bO m e).1*(g*(bO n d).2):=e1
   _=(g*k)*((bO m e).1*(bO n d).2):=by ac_rfl
 exact Dh (ahc g0 k0) e2
end Ge
theorem Yw(n d n0:Int)(D A:Nat)(w:aM)(hD:0<D)(uX:D<=1000000000000)(hA:A<=1000000000000)(hG:Nat.gcd A D=Int.gcd n0 D)
  (h1:(d<0/\IntKind.i64.wrap (-n)=n0/\IntKind.i64.wrap (-d)=(D:Int))\/(¬d<0/\n0=n/\(D:Int)=d))(h2:(n0<0/\IntKind.i64.wrap (-n0)=(A:Int))\/(¬n0<0/\n0=(A:Int)))(h3: -1000000000000<=n0/\n0<=1000000000000):
  ak 46 #[az aJ n,az aJ d] w λe w'=>e=aL (aC #[az aJ (zm n0 D),az aJ (vo n0 D)])/\Below w.heap.size w w':=by
 have mZ:0<Int.gcd n0 D:=vp aa
 have HN:Hid (zm n0 D=n0.tdiv (Int.gcd n0 D)):=rfl;have HD:Hid (vo n0 D=(D:Int).tdiv (Int.gcd n0 D)):=rfl;generalize Int.gcd n0 D=G at*;generalize zm n0 D=RN at*;generalize vo n0 D=RD at*;have hb0:Below w.heap.size w (w.alloc (.cells #[az aJ 0,az aJ 0] 97)):=(Below.refl _ _).alloc (aY _) _;have hE:=heap_alloc_new w (.cells #[az aJ 0,az aJ 0] 97);rcases h1 with⟨k1,k2,k3⟩|⟨k1,e2,e3⟩<;>rcases h2 with⟨k4,k5⟩|⟨k4,k5⟩
 all_goals
  try subst e2
  try subst e3
  go_enter func46,ntmps46
  go_wp2_with fail
  generalize w.alloc (.cells #[az aJ 0,az aJ 0] 97)=W at*;generalize hB:w.heap.size=B at*
  go_loopg [5,6] D (λm av bv wr=>∃a b:Nat,av=az aJ a/\bv=az aJ b/\m=b/\Nat.gcd a b=G/\a<=1000000000000/\b<=1000000000000/\wr=W)
  case atStart=>exact⟨A,D,by first |rfl|rw[k5],rfl,rfl,hG,hA,uX,rfl⟩
  case round=>
   obtain⟨a,b,rfl,rfl,rfl,hg,ha,hb,rfl⟩:=hrel;by_cases hz:gk=0
   .subst hz;rw[Nat.gcd_zero_right] at hg;subst hg;have e0:=cL hE;have e1:=cK hE;have z0:=Yc hE 0;have z1:=Yc hE 1;have hx:¬(a=0):=aa
    have hx1:(0:Int)<a:=aa
    have hw1:IntKind.i64.wrap (n0.tdiv (a:Int))=RN:=by rw[HN.out];exact IntWalk.i64_quo' _ _ ⟨aa,aa,aa⟩
    have hw3:IntKind.i64.wrap ((D:Int)/(a:Int))=RD:=by rw[HD.out,Pj aa,IntKind.wrap_i64];have:=IntWalk.tdiv_le (D:Int) a aa aa;omega
    have hw2:IntKind.i64.wrap ((D:Int).tdiv (a:Int))=RD:=by rw[HD.out];exact IntWalk.i64_quo' _ _ ⟨aa,aa,aa⟩
    have hw4:¬n0<0->IntKind.i64.wrap (n0/(a:Int))=RN:=λh=>by rw[<-hw1,Pj aa]
    try(have rY:IntKind.i64.wrap ((A:Int)/(a:Int))=RN:=by rw[<-k5];exact hw4 aa)
    clear hw4
    go_wp2_with fail
    go_region_held3 (λw'=>w'.frozen? ⟨B,0,none⟩=false/\w'.frozen? ⟨B,1,none⟩=false) (go_keep) (fail)
    go_wp2_with fail
    refine bodyPost_ret (v:=aC #[az aJ RN,az aJ RD]) (by first |(simp[results,results46,go_sem,e0,e1];done)|(simp[results,results46,go_sem,e0,e1];exact rY)) rfl ⟨rfl,?_⟩
    rw[hB];exact((hb0.setCell (aY _) _).setCell (aY _) _).drew
   .have hlt:=uU a (Wh hz);have vv:=Yd a gk
    go_wp2_with fail
    go_roundg (a%gk)
    case measure=>omega
    case rel=>exact⟨gk,a%gk,rfl,ai,rfl,by rw[vv,hg],hb,aa,rfl⟩
theorem ajb(n d:Int)(w:aM)(hd:d≠0)(hn: -1000000000000<=n/\n<=1000000000000)(hd2: -1000000000000<=d/\d<=1000000000000):
  ak 46 #[az aJ n,az aJ d] w λe w'=>e=aL (aC #[az aJ (Ge.bO n d).1,az aJ (Ge.bO n d).2])/\aj w w':=by
 unfold Ge.bO;by_cases hneg:d<0
 .rw[aV hneg];have h:=Yw n d (-n) (-d).toNat (-n).natAbs w aa aa aa (by unfold Int.gcd;rfl) (aS ⟨hneg,by rw[IntKind.wrap_i64];omega,by rw[IntKind.wrap_i64];omega⟩) (by
   by_cases hx: -n<0
   .exact aS ⟨hx,by rw[IntKind.wrap_i64];omega⟩
   .exact aR ⟨hx,aa⟩) aa
  have e:((-d).toNat:Int)= -d:=aa
  rw[e] at h;exact h
 .rw[aP hneg];have h:=Yw n d n d.toNat n.natAbs w aa aa aa (by unfold Int.gcd;rfl) (aR ⟨hneg,rfl,aa⟩) (by
   by_cases hx:n<0
   .exact aS ⟨hx,by rw[IntKind.wrap_i64];omega⟩
   .exact aR ⟨hx,aa⟩) aa
  have e:(d.toNat:Int)=d:=aa
  rw[e] at h;exact h
def qA(p:Ge.Qt):Array aN:= #[az aJ p.1.1,az aJ p.1.2,az aJ p.2.1,az aJ p.2.2]
def fY(p:Ge.Qt):Prop:=aiY p.1.1 p.1.2 p.2.1 p.2.2
theorem Ld{d:Int}(hn: -10000000<=n/\n<=10000000)(hd:0<d/\d<=1000000): -10000000000000<=n*d/\n*d<=10000000000000:=
 qc (a:=10000000) (b:=1000000) hn ⟨aa,hd.2⟩
theorem ajc(p q:Ge.Qt)(S1 S2:Int)(h1:Ge.fc p.1 q.1=S1)(h2:Ge.fc p.2 q.2=S2):Ge.pc p q=if S1=0 then S2 else S1:=by
 subst h1 h2;rfl
theorem QZ(p q:Ge.Qt)(w:aM)(hp:fY p)(hq:fY q):
  ak 47 #[aC (qA p),aC (qA q)] w λe w'=>e=aL (az aJ (Ge.pc p q))/\aj w w':=by
 obtain⟨⟨a,b⟩,c,d⟩:=p;obtain⟨⟨a',b'⟩,c',d'⟩:=q;have m1:=Ld hp.xn hq.xd;have m2:=Ld hq.xn hp.xd;have m3:=Ld hp.yn hq.yd;have m4:=Ld hq.yn hp.yd;simp only at m1 m2 m3 m4;have H1:Hid (∀w1,ak 49 #[aC #[az aJ a,az aJ b],aC #[az aJ a',az aJ b']] w1 λe w'=>e=aL (az aJ (a*b'-a'*b).sign)/\aj w1 w'):=λw1=>X9 a b a' b' _ _ w1 rfl rfl aa aa
 have H2:Hid (∀w1,ak 49 #[aC #[az aJ c,az aJ d],aC #[az aJ c',az aJ d']] w1 λe w'=>e=aL (az aJ (c*d'-c'*d).sign)/\aj w1 w'):=λw1=>X9 c d c' d' _ _ w1 rfl rfl aa aa
 obtain⟨S1,hS1⟩:∃S1,(a*b'-a'*b).sign=S1:=⟨_,rfl⟩;obtain⟨S2,Q5⟩:∃S2,(c*d'-c'*d).sign=S2:=⟨_,rfl⟩;rw[ajc ((a,b),(c,d)) ((a',b'),(c',d')) S1 S2 hS1 Q5];rw[hS1] at H1;rw[Q5] at H2;simp only[qA];clear hS1 Q5;clear m1 m2 m3 m4 hp hq;have hE:((w.alloc (.cells #[az aJ a,az aJ b,az aJ c,az aJ d] 100)).alloc (.cells #[az aJ a',az aJ b',az aJ c',az aJ d'] 100)).heap[w.heap.size]?=some (.cells #[az aJ a,az aJ b,az aJ c,az aJ d] 100 (0,0)):=by
  rw[Below.heap_alloc _ _ _ af];exact heap_alloc_new _ _
 have hP:((w.alloc (.cells #[az aJ a,az aJ b,az aJ c,az aJ d] 100)).alloc (.cells #[az aJ a',az aJ b',az aJ c',az aJ d'] 100)).heap[w.heap.size+1]?=some (.cells #[az aJ a',az aJ b',az aJ c',az aJ d'] 100 (0,0)):=by
  have:=heap_alloc_new (w.alloc (.cells #[az aJ a,az aJ b,az aJ c,az aJ d] 100)) (.cells #[az aJ a',az aJ b',az aJ c',az aJ d'] 100);simpa using this
 have hb0:aj w ((w.alloc (.cells #[az aJ a,az aJ b,az aJ c,az aJ d] 100)).alloc (.cells #[az aJ a',az aJ b',az aJ c',az aJ d'] 100)):=(aw _ _).alloc af _
 have hsz:w.heap.size+2=((w.alloc (.cells #[az aJ a,az aJ b,az aJ c,az aJ d] 100)).alloc (.cells #[az aJ a',az aJ b',az aJ c',az aJ d'] 100)).heap.size:=af
 go_enter func47,ntmps47
 go_wp2_with fail
 generalize(w.alloc (.cells #[az aJ a,az aJ b,az aJ c,az aJ d] 100)).alloc (.cells #[az aJ a',az aJ b',az aJ c',az aJ d'] 100)=W at*;refine(H1.out _).mono ?_;rintro e w1 ⟨rfl,hb1⟩;have mI:=(hb1.block _ (show w.heap.size<W.heap.size by omega)).trans hE
 have lL:=(hb1.block _ (show w.heap.size+1<W.heap.size by omega)).trans hP
 have x2:=eN mI;have x3:=kA mI;have p2:=eN lL;have p3:=kA lL;have iI:=hb0.trans (hb1.mono aa)
 clear hE hP mI lL hb0 hb1;by_cases hs:S1=0
 .subst hs
  go_wp2_with fail
  refine(H2.out _).mono ?_;rintro e w2 ⟨rfl,hb2⟩
  go_wp2_with fail
  go_ret
  exact⟨rfl,iI.trans (hb2.mono iI.size)⟩
 .go_wp2_with fail
  go_ret
  refine⟨?_,iI⟩
  first
   |rfl
   |(rw[aP hs];rfl)
theorem DX(c:UInt8)(w:aM):
  ak 85 #[az .u8 c.toNat] w λe w'=>e=aL (aD (Pl.isLet c))/\w'=w:=by
 go_enter func85,ntmps85
 go_wp2
 all_goals
  go_ret
  refine⟨vg ?_,rfl⟩;unfold Pl.isLet;rw[mP];simp;omega
theorem DY(c:UInt8)(w:aM):
  ak 86 #[az .u8 c.toNat] w λe w'=>e=aL (aD (Pl.bZ c))/\w'=w:=by
 go_enter func86,ntmps86
 go_wp2
 all_goals
  go_ret
  refine⟨vg ?_,rfl⟩;unfold Pl.bZ;rw[mP];simp;omega
def Pl.rS(t:Pl.Tk):List UInt8:=if t.k=110 then[] else t.raw
def ub(t:Pl.Tk):Array aN:= #[az .u8 t.k,aF ⟨(Pl.rS t).toArray⟩,az aJ t.n,az aJ t.pl]
theorem Q6{c:UInt8}(h:Pl.isLet c=true\/Pl.bZ c=true\/c.toNat=45\/¬(c.toNat=40\/c.toNat=41\/c.toNat=44\/c.toNat=47)):
  ((c.toNat:Int) == 40)=false/\((c.toNat:Int) == 41)=false/\((c.toNat:Int) == 44)=false/\((c.toNat:Int) == 47)=false:=by
 have h':¬(c.toNat=40\/c.toNat=41\/c.toNat=44\/c.toNat=47):=by
  rcases h with h|h|h|h
  .have:=ia h;omega
  .have:=ia h;omega
  .omega
  .exact h
 simp only[tJ];omega
theorem Le(l:List UInt8)(c:UInt8):Pl.fH (l++[c])=10*Pl.fH l+(c.toNat-48):=by simp[Pl.fH]
theorem Q7:∀(j:Nat)(l:List UInt8),(∀c∈l,Pl.bZ c=true)->Pl.fH (l.take j)<10 ^ j
 |0,l,_=>by simp[Pl.fH]
 |j+1,l,h=>by
  have ih:=Q7 j l h;by_cases hj:j<l.length
  .rw[qD hj,Le];have:=ia (h l[j] (iw hj));rw[yM];omega
  .have e:l.take (j+1)=l.take j:=by rw[qE aa,qE aa]
   rw[e,yM];omega
def eG(s:ByteArray)(d:Nat):List UInt8:=(s.data.toList.drop d).takeWhile Pl.bZ
theorem Yx(s:ByteArray)(d j:Nat)(hj:j<(eG s d).length):∃h:d+j<s.size,(eG s d)[j]=s[d+j]/\Pl.bZ s[d+j]=true:=by
 have hp:=(rI Pl.bZ (l:=s.data.toList.drop d));have hl:=hp.length_le;simp at hl;have hd:d+j<s.size:=by unfold eG at hj;omega
 have e:(eG s d)[j]=s[d+j]:=by
  have h1:=hp.getElem (i:=j) hj;unfold eG;rw[h1];simp;rfl
 refine⟨hd,e,?_⟩;rw[<-e];exact Gw _ _ (iw hj)
theorem Yy(s:ByteArray)(d:Nat)(h:d+(eG s d).length<s.size):Pl.bZ s[d+(eG s d).length]=false:=by
 have key:∀(l:List UInt8)(h:(l.takeWhile Pl.bZ).length<l.length),Pl.bZ l[(l.takeWhile Pl.bZ).length]=false:=by
  intro l;induction l with
  |nil=>intro h;simp at h
  |cons a r ih=>
   intro h;by_cases ha:Pl.bZ a=true
   .have e:((a::r).takeWhile Pl.bZ)=a::r.takeWhile Pl.bZ:=by simp[ha]
    simp only[e,dG] at h⊢;exact ih (by simpa using h)
   .have e:((a::r).takeWhile Pl.bZ)=[]:=by simp[ha]
    simp only[e,ib];simpa using ha
 have h2:=key (s.data.toList.drop d) (by simp;unfold eG at h;omega)
 unfold eG at h⊢;rw[List.getElem_drop] at h2;exact h2
end
end Go.Proofs.YtkjhhooecopolaaGreatDoor

import Derived.Test.YtkjhhooecopolaaGreatDoorRz01
set_option maxRecDepth 100000
set_option maxHeartbeats 4000000
namespace Go.Proofs.YtkjhhooecopolaaGreatDoor
open Tryz
open Value renaming int->az,complex->aA,float->aB,agg->aC,bool->aD,string->aF,slice->aG,pointer->aH,tuple->aI
open IntKind renaming i64->aJ
open FloatKind renaming f64->aK
open Ending renaming returned->aL
open Go renaming World->aM,Value->aN,floatOfInt->aO
section
open Go.RowKit
theorem uN{w:aM}{base:Nat}{e:TypeId}{size:Nat}{v:aN}{n:Nat}{xs:List aN}(h:w.ownsRow base e size v n xs){k:Nat}(hk:v.ownBlock=some k):
  ∃cur,w.heap[k]?=some (.cells cur e (0,0)):=by
 rcases h.2 with⟨ha,_⟩|⟨g,cap,cur,hv,hg,hh,r⟩
 .rw[ha] at hk;cases hk
 .rw[hv] at hk;have:g=k:=by simpa[Value.ownBlock] using hk
  subst this;exact⟨cur,hh⟩
theorem tE.push{rb:Nat}{rv:aN}{gG:List (List (Int×Int))}{q:List (Int×Int)}{w:aM}(h:tE rb rv (gG++[q]) w):
  ∃gr cap qv,rv=aG (some ⟨gr,0,none⟩) (gG.length+1) cap/\rb<gr/\(∃cur,w.heap[gr]?=some (.cells cur 127 (0,0))/\cur[gG.length]?=some qv)/\
   w.ownsRow (rb+1) 81 1 qv q.length (rE q)/\
   ∀(w5:aM)(g cap':Nat)(o:Obj)(p:Int×Int),(w.alloc o).drew.grownBy w5 qv.ownBlock->
    w5.ownsRow (rb+1) 81 1 (aG (some ⟨g,0,none⟩) (q.length+1) cap') (q.length+1) (rE q++[AR p])->
    (qv.ownBlock=some g\/g=w.heap.size+1)->
    tE rb rv (gG++[q++[p]]) (w5.setCell ⟨gr,gG.length,none⟩ (aG (some ⟨g,0,none⟩) (q.length+1) cap')):=by
 obtain⟨vs,h1,h2,h3,h4⟩:=h;simp only[bY,dw,iJ,jD] at h1 h2;obtain⟨hl,h2'⟩:=id h2;rcases h2' with⟨_,h0⟩|⟨gr,cap,cur,hv,hg,hh,hnc,hcm,hcs,htake⟩
 .omega
 have hn:gG.length<vs.length:=aa
 obtain⟨qv,wP⟩:∃qv,vs[gG.length]?=some qv:=⟨_,bo hn⟩;have hq:w.ownsRow (rb+1) 81 1 qv q.length (rE q):=h3 gG.length qv q wP af
 have fL:cur[gG.length]?=some qv:=by
  rw[<-htake] at wP;rw[kQ] at wP;simp only[OG] at wP;rw[aV aa] at wP
  simpa using wP
 refine⟨gr,cap,qv,hv,hg,⟨cur,hh,fL⟩,hq,?_⟩;intro w5 g cap' o p hgrow rF hat;have ahP:=lt_of_heap hh;have hne:qv.ownBlock≠some gr:=tF hq hh ah
 have Xm:w5.heap[gr]?=some (.cells cur 127 (0,0)):=(uK hgrow gr ahP hne).trans hh;have asN:g≠gr:=λe=>by
  obtain⟨c5,Dv⟩:=uN rF (k:=g) rfl;rw[e,Xm] at Dv;injection Dv with Dv;injection Dv with _ Dv _;cases Dv
 refine⟨vs.set gG.length (aG (some ⟨g,0,none⟩) (q.length+1) cap'),by simp[h1],?_,?_,?_⟩
 .simp only[bY,dw,iJ,jD];refine⟨by simpa using hl,aT ⟨gr,cap,cur.setIfInBounds gG.length (aG (some ⟨g,0,none⟩) (q.length+1) cap'),hv,hg,heap_set Xm _,hnc,hcm,by simpa using hcs,?_⟩⟩
  rw[<-htake];simp[List.take_set]
 .intro i v g' hi hg';by_cases hin:i=gG.length
  .subst hin;rw[sO hn] at hi;injection hi with hi;subst hi;have e:g'=q++[p]:=by simpa using hg'.symm
   subst e;have e2:rE (q++[p])=rE q++[AR p]:=by simp[rE]
   rw[e2];simp only[bY,dw,iJ,jD];refine bB rF λk hk=>dQ ?_ _
   have:g=k:=by simpa[Value.ownBlock] using hk
   omega
  .rw[wm (λe=>hin e.symm)] at hi
   have Xn:i<gG.length:=by
    have:=(cG.1 hi).1;omega
   have hg2:(gG++[q])[i]?=some g':=by
    rw[fI Xn] at hg'⊢;exact hg'
   have ho:=h3 i v g' hi hg2;refine bB ho λk hk=>?_
   obtain⟨c,hc⟩:=uN ho hk;have ahQ:k≠gr:=λe=>by
    rw[e,hh] at hc;injection hc with hc;injection hc with _ hc _;cases hc
   rw[dQ ahQ];refine uK hgrow k (bn ho k hk).2 λe=>?_
   exact hin (h4 i gG.length v qv k hi wP hk e)
 .intro i j v u k hi hj hv' hu';by_cases hin:i=gG.length
  .by_cases hjn:j=gG.length
   .omega
   .subst hin;rw[sO hn] at hi;injection hi with hi;subst hi;rw[wm (λe=>hjn e.symm)] at hj
    have l8:g=k:=by simpa[Value.ownBlock] using hv'
    rcases hat with h|h
    .exact(h4 j gG.length u qv k hj wP hu' (by rw[h,l8])).symm
    .have asO:j<gG.length:=by
      have:=(cG.1 hj).1;omega
     obtain⟨gj,Xo⟩:∃gj,(gG++[q])[j]?=some gj:=⟨_,bo (by simp;omega)⟩
     have:=(bn (h3 j u gj hj Xo) k hu').2;omega
  .rw[wm (λe=>hin e.symm)] at hi
   by_cases hjn:j=gG.length
   .subst hjn;rw[sO hn] at hj;injection hj with hj;subst hj;have l8:g=k:=by simpa[Value.ownBlock] using hu'
    rcases hat with h|h
    .exact h4 i gG.length v qv k hi wP hv' (by rw[h,l8])
    .have Xn:i<gG.length:=by
      have:=(cG.1 hi).1;omega
     obtain⟨gi,hgi⟩:∃gi,(gG++[q])[i]?=some gi:=⟨_,bo (by simp;omega)⟩
     have:=(bn (h3 i v gi hi hgi) k hv').2;omega
   .rw[wm (λe=>hjn e.symm)] at hj
    exact h4 i j v u k hi hj hv' hu'
end
section
section
variable{P:Program}{ops:Array Oper}{Q:Exit->Act->aM->Prop}{md:Region.Mode}{S:aM->Prop}{n:Nat}
def Till(P:Program)(md:Region.Mode)(ops:Array Oper)(Q:Exit->Act->aM->Prop)(S:aM->Prop)(n:Nat):Nat->Array Bool->Act->aM->Prop
 |0,l,a,w=>Region.ready md ops l=[]/\Q .normal a w
 |f+1,l,a,w=>(Region.ready md ops l=[]->Q .normal a w)/\
   ∀i∈Region.ready md ops l,wpOp P ops Q i (λa' w'=>(i≠n->S w')/\Till P md ops Q S n f (l.setIfInBounds i true) a' w') a w
theorem Till.any:∀(f:Nat)(l:Array Bool)(a:Act)(w:aM),Till P md ops Q S n f l a w->wpAny P md ops Q f l a w
 |0,_,_,_,h=>h
 |f+1,_,_,_,h=>⟨h.1,λi hi=>wpOp_mono (λa' w' h'=>Till.any f _ a' w' h'.2) (h.2 i hi)⟩
theorem Till.start{id:Nat}{a:Act}{w:aM}(hm:P.follows .mixedOrders=true)
  (h:Till P .any ops Q S n ops.size (Array.replicate ops.size false) a w.drew):(Code.region id ops true).wp P Q a w:=
 wp_region_any hm (Till.any _ _ _ _ h)
theorem Till.done{l:Array Bool}{a:Act}{w:aM}(hr:Region.ready md ops l=[])(h:Q .normal a w)(f:Nat):Till P md ops Q S n f l a w:=by
 cases f with
 |zero=>exact⟨hr,h⟩
 |succ f=>exact⟨λ_=>h,by rw[hr];simp⟩
theorem Till.one{i f:Nat}{o:Oper}{l:Array Bool}{a:Act}{w:aM}(ho:ops[i]?=some o)(hr:Region.ready md ops l=[i])
  (h:∀K:Act->aM->Prop,(∀a' w',(i≠n->S w')->Till P md ops Q S n f (l.setIfInBounds i true) a' w'->K a' w')->if Region.wanted o (yielded ops a.tmps)=true then Oper.wp P o a w K Q else K (a.put o.dst undef) w):
  Till P md ops Q S n (f+1) l a w:=by
 refine⟨λh0=>?_,λj hj=>?_⟩
 .rw[hr] at h0;cases h0
 .rw[hr,dh] at hj;subst hj;exact wpOp_step ho (λK hK=>h K (λa' w' h1 h2=>hK a' w' ⟨h1,h2⟩))
theorem Till.first{i:Nat}{oi:Oper}{v:aN}(hi:ops[i]?=some oi)(Qd:∀(j:Nat)(o:Oper) cs b,ops[j]?=some o->o.op≠.select cs b)
  (hQ:∀c a w,Q (.panic c) (a.put oi.dst v) w->Q (.panic c) a w)
  (hin:i≠n)(hn:∀o,ops[n]?=some o->∃e∈o.after,Region.binds md e=true/\e.on=i):
  ∀(f:Nat)(l:Array Bool)(a:Act)(w:aM),
   (∀j oj,ops[j]?=some oj->j≠i->l.getD j true=false->(∀e∈oj.after,Region.binds md e=true->e.on≠i)->oi.apart ops oj=true)->
   i∈Region.ready md ops l->YieldsIf P ops S oi v a->S w->
   Till P md ops Q S n f (l.setIfInBounds i true) (a.put oi.dst v) w->Till P md ops Q S n (f+1) l a w
 |0,l,a,w,_,hr,hy,hS,H=>by
  refine⟨λh=>(by rw[h] at hr;cases hr),λj hj=>?_⟩
  rcases Nat.decEq j i with hne|rfl
  .have:=ready_mono hj hne;rw[H.1] at this;cases this
  .exact hy.wpOp hi hS ⟨λ_=>hS,H⟩
 |f+1,l,a,w,hfree,hr,hy,hS,H=>by
  refine⟨λh=>(by rw[h] at hr;cases hr),λj hj=>?_⟩
  rcases Nat.decEq j i with hne|rfl
  .obtain⟨Xp,oj,KG,hall⟩:=mem_ready.1 hj;have hir:i∈Region.ready md ops (l.setIfInBounds j true):=ready_mono hr (Ne.symm hne);have Xq:∀e∈oj.after,Region.binds md e=true->e.on≠i:=λe he hb heq=>by
    have h1:=hall e he hb;rw[heq] at h1;have h0:=(mem_ready.1 hr).1;rcases oK i l.size with q|q
    .simp[q] at h0 h1;rw[h0] at h1;cases h1
    .simp[Array.getElem?_eq_none q] at h1
   have hjn:j≠n:=λe=>by
    subst e;obtain⟨e,he,hb,oN⟩:=hn oj KG;exact Xq e he hb oN
   refine wpOp_mono (λa' w' h3=>?_) (wpOp_putIf KG (hfree j oj KG hne Xp Xq) (λcs b=>Qd i oi cs b hi) (λcs b=>Qd j oj cs b KG) hQ hy (H.2 j (ready_mono hj hne)))
   obtain⟨hy',h4,h5⟩:=h3;have bZ:S w':=h4 hjn;refine⟨λ_=>bZ,Till.first hi Qd hQ hin hn f (l.setIfInBounds j true) a' w' ?_ hir hy' bZ ?_⟩
   .intro k ok hk gH hun hno;refine hfree k ok hk gH ?_ hno;rcases Nat.decEq j k with hjk|rfl
    .rw[getD_set_ne true hjk] at hun;exact hun
    .exact Xp
   .rw[Array.setIfInBounds_comm _ _ hne];exact h5
  .exact hy.wpOp hi hS ⟨λ_=>hS,H⟩
def waits(md:Region.Mode)(ops:Array Oper)(n i:Nat):Bool:=
 match ops[n]? with
 |some o=>(n != i)&&o.after.any λe=>Region.binds md e&&e.on == i
 |none=>false
theorem Till.take{i:Nat}{oi:Oper}{v:aN}{f:Nat}{l:Array Bool}{a:Act}{w:aM}(hi:ops[i]?=some oi)
  (hs:Region.noSelect ops=true)(hf:Region.free md ops l i=true)(hr:(Region.ready md ops l).contains i=true)(hw:waits md ops n i=true)
  (hQ:∀c a w,Q (.panic c) (a.put oi.dst v) w->Q (.panic c) a w)(hy:YieldsIf P ops S oi v a)(hS:S w)
  (h:Till P md ops Q S n f (l.setIfInBounds i true) (a.put oi.dst v) w):Till P md ops Q S n (f+1) l a w:=by
 unfold waits at hw;split at hw
 .rename_i o ho
  simp only[qs,yx,ne_eq,Array.any_eq_true',VE] at hw;obtain⟨h1,e,he,h2,h3⟩:=hw;refine Till.first hi (Region.noSelect_spec hs) hQ (λq=>h1 q.symm) (λo' ho'=>?_) f l a w (Region.free_spec hi hf) (by simpa using hr) hy hS h
  rw[ho] at ho';injection ho' with ho';subst ho';exact⟨e,he,h2,h3⟩
 .cases hw
end
end
section
open Go.RowKit
theorem Gf(x y:Int)(w:aM):
  ak 38 #[az aJ x,az aJ y] w λe w'=>e=aL (aA aK (aO aK x) (aO aK y))/\w'=w:=by
 go_enter func38,ntmps38
 go_wp2
 go_ret
 exact⟨rfl,rfl⟩
theorem ahS:(Tryz.prog.info? 81).map (λi=>(i.zero,i.size,i.bytes))=some (some (aA aK 0 0),1,16):=ag
theorem ahT(hO:qD)(rb:Nat)(s:ByteArray)(A r:List Pl.Tk)(x y:Pl.Tk)(rg:List (List (Int×Int)))(q:List (Int×Int))(w:aM)(cx:Cx rb s A)(hR:RD rb s A (x::y::r) (rg++[q]) w)(hG:Gl w)
  (hx:x.k=110)(hy:y.k=110)(hq:q.length<=1000)(hrg:rg.length<=1000):
  ak 196 #[aH (some ⟨rb,0,none⟩)] w λe w'=>e=aL (aD true)/\RD rb s A r (rg++[q++[(x.n,y.n)]]) w'/\Below rb w w':=by
 obtain⟨i0,hi,hz0,hz1,hz2⟩:=info_parts ahS;have hlt:=hR.lt;obtain⟨t',r',hl,c0,c1,c2,c3,c4⟩:=hR.cells;injection hl with h1 h2;subst h1 h2
 go_enter func196,ntmps196
 go_wp2_with fail
 refine(Qc hO rb s A (y::r) x _ _ cx (hR.alloc _) (hG.alloc _) hx).mono ?_;rintro e w1 ⟨rfl,gI,hb1,hk1⟩;clear c0 c1 c2 c3 c4;have yR:=hk1 w.heap.size _ aa ((hR.nt w.heap.size (aY _)).below hlt (aw _ _)) (heap_alloc_new w _)
 obtain⟨t',r',hl,c0,c1,c2,c3,c4⟩:=gI.cells;injection hl with h1 h2;subst h1 h2;have df:Gl w1:=(hG.alloc _).below hb1 cx.rb
 go_wp2_with fail
 refine(Qc hO rb s A r y _ _ cx (gI.alloc _) (df.alloc _) hy).mono ?_;rintro e w2 ⟨rfl,fB,hb2,hk2⟩;clear c0 c1 c2 c3 c4;have yN:=gI.lt;have hby:=hk2 w1.heap.size _ aa ((gI.nt w1.heap.size (aY _)).below yN (aw _ _)) (heap_alloc_new w1 _)
 have jH:=hk2 w.heap.size _ aa (yR.2.below yN (aw _ _)) ((Below.heap_alloc _ _ _ (lt_of_heap yR.1)).trans yR.1)
 have Qe:=dU jH.1;have Qf:=dU hby.1;obtain⟨c,t,r0,tv,rv,hc,hl,hbk,hown,Qg⟩:=id fB;obtain⟨gr,cap,qv,rfl,hgr,⟨cur,fL,Xr⟩,yS,hfin⟩:=Qg.push;have c6:=FC hbk;have ce:w2.cell? ⟨gr,rg.length,none⟩=some qv:=(cell_of fL rg.length).trans Xr;have ki:=fB.lt;have hnc:(rg.length:Int)<(rg.length:Int)+1:=aa
 go_wp2_with fail
 refine Till.start (S:=λw'=>w'.cell? ⟨rb,6,none⟩=some (aG (some ⟨gr,0,none⟩) (rg.length+1) cap)/\w'.cell? ⟨gr,rg.length,none⟩=some qv/\w'.cell? ⟨w.heap.size,2,none⟩=some (az aJ x.n)/\w'.cell? ⟨w1.heap.size,2,none⟩=some (az aJ y.n)) (n:=20) ag ?_
 have hS:w2.drew.cell? ⟨rb,6,none⟩=some (aG (some ⟨gr,0,none⟩) (rg.length+1) cap)/\w2.drew.cell? ⟨gr,rg.length,none⟩=some qv/\w2.drew.cell? ⟨w.heap.size,2,none⟩=some (az aJ x.n)/\w2.drew.cell? ⟨w1.heap.size,2,none⟩=some (az aJ y.n):=⟨c6,ce,Qe,Qf⟩;refine Till.take (i:=0) (v:=?_) rfl ag ag ag ag (λ_ _ _ h=>h) (aU ⟨by rfl,?_⟩) hS ?_
 rotate_left
 .intro w' bZ;obtain⟨s1,s2,s3,s4⟩:=bZ
  go_simp
  try with_reducible rfl
 simp only[Act.put,dR];refine Till.take (i:=1) (v:=?_) rfl ag ag ag ag (λ_ _ _ h=>h) (aU ⟨by rfl,?_⟩) hS ?_
 rotate_left
 .intro w' bZ;obtain⟨s1,s2,s3,s4⟩:=bZ
  go_simp
  try with_reducible rfl
 simp only[Act.put];refine Till.take (i:=2) (v:=?_) rfl ag ag ag ag (λ_ _ _ h=>h) (aU ⟨by rfl,?_⟩) hS ?_
 rotate_left
 .intro w' bZ;obtain⟨s1,s2,s3,s4⟩:=bZ
  go_simp
  try with_reducible rfl
 simp only[Act.put];refine Till.take (i:=3) (v:=?_) rfl ag ag ag ag (λ_ _ _ h=>h) (aU ⟨by rfl,?_⟩) hS ?_
 rotate_left
 .intro w' bZ;obtain⟨s1,s2,s3,s4⟩:=bZ
  go_simp
  try with_reducible rfl
 simp only[Act.put];refine Till.take (i:=4) (v:=?_) rfl ag ag ag ag (λ_ _ _ h=>h) (aU ⟨by rfl,?_⟩) hS ?_
 rotate_left
 .intro w' bZ;obtain⟨s1,s2,s3,s4⟩:=bZ
  go_simp
  try with_reducible rfl
 simp only[Act.put];refine Till.take (i:=5) (v:=?_) rfl ag ag ag ag (λ_ _ _ h=>h) (aU ⟨by rfl,?_⟩) hS ?_
 rotate_left
 .intro w' bZ;obtain⟨s1,s2,s3,s4⟩:=bZ
  go_simp
  try with_reducible rfl
 simp only[Act.put];refine Till.take (i:=6) (v:=?_) rfl ag ag ag ag (λ_ _ _ h=>h) (aU ⟨by rfl,?_⟩) hS ?_
 rotate_left
 .intro w' bZ;obtain⟨s1,s2,s3,s4⟩:=bZ
  go_simp
  try with_reducible rfl
 simp only[Act.put];refine Till.take (i:=7) (v:=?_) rfl ag ag ag ag (λ_ _ _ h=>h) (aU ⟨by rfl,?_⟩) hS ?_
 rotate_left
 .intro w' bZ;obtain⟨s1,s2,s3,s4⟩:=bZ
  go_simp
  try with_reducible rfl
 simp only[Act.put];refine Till.take (i:=8) (v:=?_) rfl ag ag ag ag (λ_ _ _ h=>h) (aU ⟨by rfl,?_⟩) hS ?_
 rotate_left
 .intro w' bZ;obtain⟨s1,s2,s3,s4⟩:=bZ
  go_simp
  try with_reducible rfl
 simp only[Act.put];refine Till.take (i:=9) (v:=?_) rfl ag ag ag ag (λ_ _ _ h=>h) (aU ⟨by rfl,?_⟩) hS ?_
 rotate_left
 .intro w' bZ;obtain⟨s1,s2,s3,s4⟩:=bZ
  go_simp
  try with_reducible rfl
 simp only[Act.put];refine Till.take (i:=10) (v:=?_) rfl ag ag ag ag (λ_ _ _ h=>h) (aU ⟨by rfl,?_⟩) hS ?_
 rotate_left
 .intro w' bZ;obtain⟨s1,s2,s3,s4⟩:=bZ
  go_simp
  try with_reducible rfl
 simp only[Act.put];refine Till.take (i:=11) (v:=?_) rfl ag ag ag ag (λ_ _ _ h=>h) (aU ⟨by rfl,?_⟩) hS ?_
 rotate_left
 .intro w' bZ;obtain⟨s1,s2,s3,s4⟩:=bZ
  go_simp
  try with_reducible rfl
 simp only[Act.put];refine Till.take (i:=12) (v:=?_) rfl ag ag ag ag (λ_ _ _ h=>h) (aU ⟨by rfl,?_⟩) hS ?_
 rotate_left
 .intro w' bZ;obtain⟨s1,s2,s3,s4⟩:=bZ
  go_simp
  try with_reducible rfl
 simp only[Act.put];refine Till.take (i:=13) (v:=?_) rfl ag ag ag ag (λ_ _ _ h=>h) (aU ⟨by rfl,?_⟩) hS ?_
 rotate_left
 .intro w' bZ;obtain⟨s1,s2,s3,s4⟩:=bZ
  go_simp
  try with_reducible rfl
 simp only[Act.put];refine Till.take (i:=14) (v:=?_) rfl ag ag ag ag (λ_ _ _ h=>h) (aU ⟨by rfl,?_⟩) hS ?_
 rotate_left
 .intro w' bZ;obtain⟨s1,s2,s3,s4⟩:=bZ
  go_simp
  try with_reducible rfl
 simp only[Act.put];refine Till.take (i:=15) (v:=?_) rfl ag ag ag ag (λ_ _ _ h=>h) (aU ⟨by rfl,?_⟩) hS ?_
 rotate_left
 .intro w' bZ;obtain⟨s1,s2,s3,s4⟩:=bZ
  go_simp
  try with_reducible rfl
 simp only[Act.put];refine Till.one (i:=16) rfl ag (λK hK=>?_)
 go_simp
 refine(Gf _ _ _).mono ?_;rintro e w' ⟨rfl,rfl⟩
 go_wp2_with fail
 refine hK _ _ (λ_=>hS) ?_
 clear hK K
 try simp only[Act.put,dR,dS,dD]
 refine Till.one (i:=17) rfl ag (λK hK=>?_)
 go_simp
 refine hK _ _ (λ_=>⟨(World.cell?_alloc_lt _ _ _ (World.block_lt_of_cell? _ _ c6)).trans c6,(World.cell?_alloc_lt _ _ _ (World.block_lt_of_cell? _ _ ce)).trans ce,(World.cell?_alloc_lt _ _ _ (World.block_lt_of_cell? _ _ Qe)).trans Qe,(World.cell?_alloc_lt _ _ _ (World.block_lt_of_cell? _ _ Qf)).trans Qf⟩) ?_
 clear hK K
 try simp only[Act.put,dR,dS,dD]
 refine Till.one (i:=18) rfl ag (λK hK=>?_)
 refine step_append_lies _ rfl (.tmp 37) (.tmp 43) 127 rfl (rb+1) 81 i0 _ 1 16 underlying127 hi hz0 hz1 hz2 rfl ah qv q.length (rE q) rfl (bB yS (λk hk=>Below.heap_alloc _ _ _ (bn yS k hk).2)) ⟨w2.heap.size,0,none⟩ 1 1 [AR (x.n,y.n)] rfl rfl (World.news_of_block (cs:= #[AR (x.n,y.n)]) (t:=81) (fr:=(0,0)) (heap_alloc_new w2 _)) (by simp[Value.oneCell',AR]) ah (by unfold maxLen;omega) aa (by show rb+1<=(w2.alloc _).heap.size;simp;omega) (w2.heap.size+1) (by show(w2.alloc _).heap.size=_;simp) ?_
 intro g cap' w5 ho hgrow hat asP;have k6:=(uK hgrow rb fB.lt (uL yS rb aa)).trans hbk
 have kg:=(uK hgrow gr (lt_of_heap fL) (tF yS fL ah)).trans fL
 have kx:=(uK hgrow w.heap.size (lt_of_heap jH.1) (tF yS jH.1 ah)).trans jH.1
 have ky:=(uK hgrow w1.heap.size (lt_of_heap hby.1) (tF yS hby.1 ah)).trans hby.1
 have d6:=FC k6;have de:w5.cell? ⟨gr,rg.length,none⟩=some qv:=(cell_of kg rg.length).trans Xr;have dx:=dU kx;have dy:=dU ky;have fe:w5.frozen? ⟨gr,rg.length,none⟩=false:=bK kg _;refine hK _ _ (λ_=>⟨d6,de,dx,dy⟩) ?_
 clear hK K
 try simp only[Act.put,dR]
 refine Till.one (i:=19) rfl ag (λK hK=>?_)
 go_simp
 refine hK _ _ (λ_=>⟨d6,de,dx,dy⟩) ?_
 clear hK K
 try simp only[Act.put,dR,dS,dD]
 refine Till.one (i:=20) rfl ag (λK hK=>?_)
 go_simp
 refine hK _ _ (λh=>absurd rfl h) ?_
 clear hK K;refine Till.done ag ?_ _
 go_wp2_with fail
 go_ret
 refine⟨rfl,⟨c,t,r0,tv,_,hc,hl,(dQ aa _).trans k6,bB hown λk hk=>?_,hfin w5 g cap' _ _ hgrow ho hat⟩,?_⟩
 .obtain⟨c9,wQ⟩:=uN hown hk;have hkg:k≠gr:=λe=>by
   rw[e,fL] at wQ;injection wQ with wQ;injection wQ with _ wQ _;cases wQ
  rw[dQ hkg];exact uK hgrow k (bn hown k hk).2 (tF yS wQ ah)
 .have e1:Below rb w w2:=(((((Below.refl rb w).alloc aa _).trans hb1).alloc aa _).trans hb2)
  have e2:Below rb w w5:=((e1.alloc (fh fB.lt) _).drew).grown hgrow (by have:=fB.lt;show rb<=(w2.alloc _).heap.size;simp;omega) (λk hk=>by have:=(bn yS k hk).1;omega)
  exact e2.setCell (by show rb<=gr;omega) _
end
section
open Ieee
variable{s t:Bool}{i n j x y u v:Int}{m c k a b N L:Nat}
def Dn(d:Datum)(n:Int):Prop:=∃s m i,d=.number s m i/\ -2148<=i/\signed s m (i+2148).toNat=n*2 ^ 2148
def D1(d:Datum)(n:Int):Prop:=∃s m i,d=.number s m i/\ -1074<=i/\signed s m (i+1074).toNat=n*2 ^ 1074
def Fl(b:Nat)(n:Int):Prop:=D1 (double.read b) n
theorem qE(s:Bool)(m k:Nat):signed s m k=(if s then -1 else 1)*((m*2 ^ k:Nat):Int):=by
 unfold signed;rw[agn];cases s<;>simp
theorem Dw(s:Bool)(m k j:Nat):signed s m (k+j)=signed s m k*2 ^ j:=by
 rw[qE,qE,sP,<-sQ];generalize(if s=true then(-1:Int) else 1)=c
 rw[Fm (m*2 ^ k),OB]
 push_cast
 rfl
theorem Xt(k:Nat)(hm:m≠0):(m*2 ^ k).log2=m.log2+k:=by
 have hp:=ru k;have hne:m*2 ^ k≠0:=oM (Fq (VF hm) hp);rw[ago hne];have⟨h1,h2⟩:=(ago hm (k:=m.log2)).1 rfl;refine⟨?_,?_⟩
 .rw[sP];exact JP _ h1
 .have:m.log2+k+1=(m.log2+1)+k:=aa
  rw[this,sP];exact asu h2 hp
theorem Xu(s:Bool)(m k:Nat):(signed s m k).natAbs=m*2 ^ k:=by
 rw[qE];cases s<;>simp[Int.natAbs_mul,Int.natAbs_pow]
theorem Gg(k:Nat):(0:Int)<2 ^ k:=by
 have:=ru k;have h:((2 ^ k:Nat):Int)=(2:Int) ^ k:=by push_cast;rfl
 omega
theorem Xv(P Z:Nat)(hi: -(P:Int)<=i)(Qh:P<=Z)(h:signed s m (i+P).toNat=n*2 ^ P):
  signed s m (i+Z).toNat=n*2 ^ Z:=by
 have e:(i+Z).toNat=(i+P).toNat+(Z-P):=aa
 have e':Z=P+(Z-P):=aa
 rw[e,Dw,h,OB,<-Int.pow_add,<-e']
theorem ahU(s:Bool)(m k:Nat):signed (!s) m k= -signed s m k:=by
 cases s<;>simp[signed]
theorem D1.Xw{d:Datum}(h:D1 d n):D1 d.opposite (-n):=by
 obtain⟨s,m,i,rfl,h2,h3⟩:=h;refine⟨!s,m,i,rfl,h2,?_⟩;rw[ahU,h3,jq]
theorem Xx(t:Int)(c:Bool)(k:Nat):signed (if t=0 then c else decide (t<0)) t.natAbs k=t*2 ^ k:=by
 rw[qE,Fm,Int.natCast_pow];have e3:((2:Nat):Int)=2:=rfl;rw[e3,<-OB];congr 1;by_cases h:t=0
 .simp[h]
 .rw[aQ h];by_cases h2:t<0
  .simp only[h2,decide_true,kP];omega
  .simp only[h2,decide_false,mi,nL];omega
theorem ahV{c:Bool}(P Z:Nat)(hi: -(P:Int)<=i)(hj: -(P:Int)<=j)(Qh:P<=Z)
  (hx:signed s m (i+P).toNat=x*2 ^ P)(hy:signed t k (j+P).toNat=y*2 ^ P):
  signed (if signed s m (i-min i j).toNat+signed t k (j-min i j).toNat=0 then c else decide (signed s m (i-min i j).toNat+signed t k (j-min i j).toNat<0))
   (signed s m (i-min i j).toNat+signed t k (j-min i j).toNat).natAbs (min i j+Z).toNat=(x+y)*2 ^ Z:=by
 rw[Xx,Int.add_mul,<-Dw,<-Dw];have e1:(i-min i j).toNat+(min i j+Z).toNat=(i+Z).toNat:=aa
 have e2:(j-min i j).toNat+(min i j+Z).toNat=(j+Z).toNat:=aa
 rw[e1,e2,Xv P Z hi Qh hx,Xv P Z hj Qh hy,Int.add_mul]
theorem D1.sum{d e:Datum}(hd:D1 d x)(he:D1 e y):∃r,d.sum e=some r/\Dn r (x+y):=by
 obtain⟨s,m,i,rfl,hi,hx⟩:=hd;obtain⟨t,k,j,rfl,hj,hy⟩:=he;refine⟨_,rfl,_,_,_,rfl,aa,?_⟩
 exact ahV 1074 2148 hi hj ah hx hy
theorem ahW(s t:Bool)(m k a b:Nat):signed (s ^^ t) (m*k) (a+b)=signed s m a*signed t k b:=by
 rw[qE,qE,qE,sP];have e:m*k*(2 ^ a*2 ^ b)=(m*2 ^ a)*(k*2 ^ b):=by ac_rfl
 rw[e,Fm (m*2 ^ a)];cases s<;>cases t<;>simp[Int.neg_mul,Int.mul_neg]
theorem ahX(P:Nat)(hi: -(P:Int)<=i)(hj: -(P:Int)<=j)
  (hx:signed s m (i+P).toNat=x*2 ^ P)(hy:signed t k (j+P).toNat=y*2 ^ P):signed (s ^^ t) (m*k) (i+j+(P+P:Nat)).toNat=x*y*2 ^ (P+P):=by
 have e:(i+j+(P+P:Nat)).toNat=(i+P).toNat+(j+P).toNat:=aa
 rw[e,ahW,hx,hy,Int.pow_add]
 ac_rfl
theorem D1.product{d e:Datum}(hd:D1 d x)(he:D1 e y):∃r,d.product e=some r/\Dn r (x*y):=by
 obtain⟨s,m,i,rfl,hi,hx⟩:=hd;obtain⟨t,k,j,rfl,hj,hy⟩:=he;refine⟨_,rfl,_,_,_,rfl,aa,?_⟩
 exact ahX 1074 hi hj hx hy
theorem Xy(a b p:Int)(hp:0<p):compare (a*p) (b*p)=compare a b:=by
 rcases fX a b with h|h|h
 .rw[OH.2 h,OH.2 (VG h hp)]
 .subst h;rw[OI.2 rfl,OI.2 rfl]
 .rw[OJ.2 h,OJ.2 (VG h hp)]
theorem ahY(P:Nat)(hi: -(P:Int)<=i)(hj: -(P:Int)<=j)
  (hx:signed s m (i+P).toNat=x*2 ^ P)(hy:signed t k (j+P).toNat=y*2 ^ P):
  compare (signed s m (i-min i j).toNat) (signed t k (j-min i j).toNat)=compare x y:=by
 rw[<-Xy _ _ (2 ^ (min i j+P).toNat) (Gg _),<-Dw,<-Dw];have e1:(i-min i j).toNat+(min i j+P).toNat=(i+P).toNat:=aa
 have e2:(j-min i j).toNat+(min i j+P).toNat=(j+P).toNat:=aa
 rw[e1,e2,hx,hy,Xy _ _ _ (Gg _)]
theorem Fl.order(ha:Fl a x)(hb:Fl b y):double.order a b=some (compare x y):=by
 unfold Format.order;obtain⟨s,m,i,e1,hi,hx⟩:=ha;obtain⟨t,k,j,e2,hj,hy⟩:=hb;rw[e1,e2];exact aZ some (ahY 1074 hi hj hx hy)
theorem ahZ(neg:Bool)(n:Nat):Toward.even.cut neg n 0=n:=by
 simp[Toward.cut,Nat.mod_one]
theorem Xz(way:Toward)(neg:Bool)(q drop:Nat)(hq:0<q):way.cut neg (q*2 ^ drop) drop=q:=by
 have hl:drop<=(q*2 ^ drop).log2:=by
  have hne:q*2 ^ drop≠0:=oM (Fq hq (ru _));rw[Nat.le_log2 hne];exact OL _ hq
 have hm:min drop ((q*2 ^ drop).log2+2)=drop:=aa
 have hp:=ru drop;cases way<;>simp[Toward.cut,hm,Nat.shiftLeft_eq,Nat.mul_div_cancel _ hp]
 all_goals omega
theorem ah0(Z:Nat)(s:Bool)(hL:L<=52)(hi: -(Z:Int)<=i)(h52:52<=Z)(hN:N≠0)
  (nU:m*2 ^ (i+Z).toNat=N*2 ^ Z):
  Toward.even.cut s (m <<<(i-((L:Int)-52)).toNat) (((L:Int)-52)-i).toNat=N*2 ^ (52-L):=by
 rcases(show i<(L:Int)-52\/(L:Int)-52<=i by omega) with hc|hc
 .have e0:(i-((L:Int)-52)).toNat=0:=aa
  rw[e0,agq];have e2:Z=(52-L)+((((L:Int)-52)-i).toNat+(i+Z).toNat):=aa
  have e3:N*2 ^ Z=N*2 ^ (52-L)*2 ^ (((L:Int)-52)-i).toNat*2 ^ (i+Z).toNat:=by
   rw[sQ,sQ,<-sP,<-sP,<-e2]
  rw[e3] at nU;have e4:=agr (ru _) nU;rw[e4];exact Xz _ _ _ _ (Fq (VF hN) (ru _))
 .have e0:(((L:Int)-52)-i).toNat=0:=aa
  rw[e0,ahZ,agn];have e1:(i+Z).toNat=(i-((L:Int)-52)).toNat+(Z-(52-L)):=aa
  have e2:(52-L)+(Z-(52-L))=Z:=aa
  rw[e1,sP,<-sQ] at nU;have e3:N*2 ^ Z=N*2 ^ (52-L)*2 ^ (Z-(52-L)):=by rw[sQ,<-sP,e2]
  rw[e3] at nU;exact agr (ru _) nU
theorem ah1(s:Bool)(hL:L<=52)(hm:m≠0)(hl:i+m.log2=L)(hK2:N*2 ^ (52-L)<2 ^ 53)
  (hk:Toward.even.cut s (m <<<(i-((L:Int)-52)).toNat) (((L:Int)-52)-i).toNat=N*2 ^ (52-L)):
  double.nearest s m i=double.word s ((L+1022)*2 ^ 52+N*2 ^ (52-L)):=by
 have hlast:max (i+m.log2-52) (-1074)=(L:Int)-52:=aa
 unfold Format.nearest;rw[aQ hm];have e1:double.leastPlace= -1074:=ah
 have e2:((double.fractionBits:Nat):Int)=52:=rfl;have e3:double.binade=2 ^ 52:=rfl;have e4:double.infRung=2047*2 ^ 52:=rfl;simp only[e1,e2,e3,e4,hlast,hk];have e5:((L:Int)-52- -1074).toNat=L+1022:=aa
 rw[e5];generalize N*2 ^ (52-L)=K at*;have e6:(L+1022)*2 ^ 52+K<=2047*2 ^ 52:=aa
 rw[CW e6]
theorem ah2(s:Bool)(L K:Nat)(hL:L<=52)(XA:2 ^ 52<=K)(hK2:K<2 ^ 53):
  double.read (double.word s ((L+1022)*2 ^ 52+K))=.number s K ((L:Int)-52):=by
 unfold Format.read;have e1:double.leastPlace= -1074:=ah
 have e3:double.binade=2 ^ 52:=rfl;have e4:double.infRung=2047*2 ^ 52:=rfl;have e5:double.signWeight=2 ^ 63:=rfl;have r1:double.word s ((L+1022)*2 ^ 52+K)%2 ^ 63=(L+1022)*2 ^ 52+K:=by
  unfold Format.word;rw[e5];split<;>omega
 have r2:(double.word s ((L+1022)*2 ^ 52+K)/2 ^ 63%2 == 1)=s:=by
  unfold Format.word;rw[e5];cases s
  .simp only[mi,nL,sM];omega
  .simp only[kP,VE];omega
 simp only[e1,e3,e4,e5,r1,r2];rw[aQ aa,aV aa]
 have q1:2 ^ 52+((L+1022)*2 ^ 52+K)%2 ^ 52=K:=aa
 have q2:((L+1022)*2 ^ 52+K)/2 ^ 52-1=L+1022:=aa
 rw[q1,q2];have q3:(-1074:Int)+((L+1022:Nat):Int)=(L:Int)-52:=aa
 rw[q3]
theorem Gh{q:Nat}{p:Int}(hp:0<p)(hq:0<q)(hv:(if s then -1 else 1)*(q:Int)=n*p):(s=true/\n<0)\/(s=false/\0<n):=by
 cases s
 .right;refine⟨rfl,?_⟩;simp only[mi,nL,Al] at hv;rcases fX n 0 with h|h|h
  .have:=OA h hp;omega
  .subst h;rw[Fs] at hv;omega
  .exact h
 .left;refine⟨rfl,?_⟩;simp only[kP] at hv;rcases fX n 0 with h|h|h
  .exact h
  .subst h;rw[Fs] at hv;omega
  .have:=bJ h hp;omega
theorem value_of(P:Nat)(hP:P=1074)(hL:L<=52)(hN:n.natAbs=N)(hs:(s=true/\n<0)\/(s=false/\0<n)):
  signed s (N*2 ^ (52-L)) ((L:Int)-52+1074).toNat=n*2 ^ P:=by
 rw[qE];have e1:((L:Int)-52+1074).toNat=L+1022:=aa
 rw[e1,sQ,<-sP];have e2:52-L+(L+1022)=P:=aa
 rw[e2,Fm,Int.natCast_pow];have e3:((2:Nat):Int)=2:=rfl;rw[e3];rcases hs with⟨rfl,hs⟩|⟨rfl,hs⟩
 .have:(N:Int)= -n:=aa
  rw[this];simp only[kP];rw[jq,Al,jq,Int.neg_neg]
 .have:(N:Int)=n:=aa
  rw[this];simp only[mi,nL,Al]
theorem ah3(s:Bool)(i:Int):double.read (double.nearest s 0 i)=.number s 0 (-1074):=by
 have e:double.nearest s 0 i=double.word s 0:=by simp[Format.nearest]
 rw[e];cases s<;>decide
theorem ah4(Z P:Nat)(hZ:Z=2148)(hP:P=1074)(hi: -(Z:Int)<=i)
  (hv:signed s m (i+Z).toNat=n*2 ^ Z)(hn:n.natAbs<2 ^ 53):
  ∃s' m' i',double.read (double.nearest s m i)=.number s' m' i'/\ -1074<=i'/\signed s' m' (i'+1074).toNat=n*2 ^ P:=by
 have nU:m*2 ^ (i+Z).toNat=n.natAbs*2 ^ Z:=by
  have:=aZ Int.natAbs hv;rw[Xu,mq,agp] at this;exact this
 by_cases hm:m=0
 .subst hm;have hn0:n=0:=by
   rw[wq] at nU;rcases Nat.mul_eq_zero.1 nU.symm with h|h
   .exact Int.natAbs_eq_zero.1 h
   .exact absurd h (oM (ru _))
  subst hn0;refine⟨s,0, -1074,ah3 s i,Int.le_refl _,?_⟩;rw[qE,wq,Fs];simp
 .have hN:n.natAbs≠0:=by
   intro h;rw[h,wq] at nU;rcases Nat.mul_eq_zero.1 nU with h|h
   .exact absurd h hm
   .exact absurd h (oM (ru _))
  have hl:m.log2+(i+Z).toNat=n.natAbs.log2+Z:=by
   rw[<-Xt (i+Z).toNat hm,<-Xt Z hN,nU]
  have hL:n.natAbs.log2<=52:=Nat.le_of_lt_succ ((Nat.log2_lt hN (k:=53)).2 hn);have⟨hlo,hhi⟩:=(ago hN (k:=n.natAbs.log2)).1 rfl;have hs:(s=true/\n<0)\/(s=false/\0<n):=by
   rw[qE] at hv;exact Gh (Gg Z) (Fq (VF hm) (ru _)) hv
  have hk:=ah0 Z s hL hi aa hN nU
  clear hv nU;generalize Qi:n.natAbs.log2=L at*;have XA:2 ^ 52<=n.natAbs*2 ^ (52-L):=by
   have:2 ^ 52=2 ^ L*2 ^ (52-L):=by rw[<-sP];congr 1;omega
   rw[this];exact JP _ hlo
  have hK2:n.natAbs*2 ^ (52-L)<2 ^ 53:=by
   have:2 ^ 53=2 ^ (L+1)*2 ^ (52-L):=by rw[<-sP];congr 1;omega
   rw[this];exact asu hhi (ru _)
  rw[ah1 s hL hm aa hK2 hk]
  exact⟨_,_,_,ah2 s L _ hL XA hK2,aa,value_of P hP hL rfl hs⟩
theorem KH{d:Datum}(h:Dn d n)(hn:n.natAbs<2 ^ 53):Fl (double.write d) n:=by
 obtain⟨s,m,i,rfl,hi,hv⟩:=h;exact ah4 2148 1074 rfl rfl hi hv hn
theorem ah5(way:Toward)(neg:Bool)(n:Nat):way.cut neg n 0=n:=by
 cases way<;>simp[Toward.cut,Nat.mod_one]
theorem ah6(P:Nat)(hi: -(P:Int)<=i)(h:signed s m (i+P).toNat=n*2 ^ P):
  signed s (Toward.zero.cut s (m <<<i.toNat) (-i).toNat) 0=n:=by
 rcases(show 0<=i\/i<0 by omega) with hc|hc
 .have e0:(-i).toNat=0:=aa
  rw[e0,ah5];have e1:(i+P).toNat=i.toNat+P:=aa
  rw[e1,Dw] at h;have h2:=VH (ags (Gg P)) h;rw[<-h2];unfold signed;rw[agq]
 .have e0:i.toNat=0:=aa
  rw[e0,agq];have nU:m*2 ^ (i+P).toNat=n.natAbs*2 ^ P:=by
   have:=aZ Int.natAbs h;rw[Xu,mq,agp] at this;exact this
  have e2:P=(-i).toNat+(i+P).toNat:=aa
  have e3:n.natAbs*2 ^ P=n.natAbs*2 ^ (-i).toNat*2 ^ (i+P).toNat:=by rw[sQ,<-sP,<-e2]
  rw[e3] at nU;have hm:=agr (ru _) nU;by_cases hn:n=0
  .subst hn;have:m=0:=by rw[hm];simp
   subst this;have:Toward.zero.cut s 0 (-i).toNat=0:=by simp[Toward.cut]
   rw[this];cases s<;>rfl
  .have hN:0<n.natAbs:=Int.natAbs_pos.2 hn;rw[hm,Xz _ _ _ _ hN];have hmp:0<m:=by rw[hm];exact Fq hN (ru _)
   rw[qE] at h;rcases Gh (Gg P) (Fq hmp (ru _)) h with⟨rfl,hs⟩|⟨rfl,hs⟩
   .rw[qE];simp only[kP];omega
   .rw[qE];simp only[mi,nL];omega
theorem Fl.toInt(h:Fl b n):(double.read b).toInt .zero=some n:=by
 obtain⟨s,m,i,e,hi,hx⟩:=h;rw[e];exact aZ some (ah6 1074 hi hx)
theorem Fl.add(ha:Fl a x)(hb:Fl b y)(hn:(x+y).natAbs<2 ^ 53):∃r,floatBits .add aK a b=some r/\Fl r (x+y):=by
 obtain⟨r,h1,h2⟩:=D1.sum ha hb;refine⟨double.write r,?_,KH h2 hn⟩;show(Datum.sum (double.read a) (double.read b)).map double.write=_;rw[h1];rfl
theorem Fl.sub(ha:Fl a x)(hb:Fl b y)(hn:(x-y).natAbs<2 ^ 53):∃r,floatBits .sub aK a b=some r/\Fl r (x-y):=by
 obtain⟨r,h1,h2⟩:=D1.sum ha (D1.Xw hb);refine⟨double.write r,?_,KH (n:=x-y) (by rw[Int.sub_eq_add_neg];exact h2) hn⟩
 show(Datum.sum (double.read a) (double.read b).opposite).map double.write=_;rw[h1];rfl
theorem Fl.mul(ha:Fl a x)(hb:Fl b y)(hn:(x*y).natAbs<2 ^ 53):∃r,floatBits .mul aK a b=some r/\Fl r (x*y):=by
 obtain⟨r,h1,h2⟩:=D1.product ha hb;refine⟨double.write r,?_,KH h2 hn⟩;show(Datum.product (double.read a) (double.read b)).map double.write=_;rw[h1];rfl
theorem oU(hn:n.natAbs<2 ^ 53):Fl (aO aK n) n:=by
 refine KH (d:=.number (n<0) n.natAbs 0) ⟨_,_,_,rfl,ah,?_⟩ hn
 have h:=Xx n false ((0:Int)+2148).toNat;have e:(if n=0 then false else decide (n<0))=decide (n<0):=by
  split
  .rename_i h;subst h;rfl
  .rfl
 rw[e] at h;exact h
theorem Fl.int(h:Fl b n)(h1: -9223372036854775808<=n)(h2:n<=9223372036854775807):floatToIntVal aK b aJ=some n:=by
 unfold floatToIntVal;have e:(FloatKind.decode aK b).toInt .zero=some n:=h.toInt;rw[e];have e1:IntKind.min aJ= -9223372036854775808:=ah
 have e2:IntKind.max aJ=9223372036854775807:=ah
 simp only[e1,e2,h1,h2,and_self,kP]
theorem ah7(b:Nat):double.read (Op.negFloat aK b)=(double.read b).opposite:=by
 have e:Op.negFloat aK b=b ^^^ 2 ^ 63:=rfl;have e1:double.signWeight=2 ^ 63:=rfl;have h1:(b ^^^ 2 ^ 63)%2 ^ 63=b%2 ^ 63:=by rw[Nat.xor_mod_two_pow];simp
 have h2:((b ^^^ 2 ^ 63)/2 ^ 63%2 == 1)= !(b/2 ^ 63%2 == 1):=by
  rw[Nat.xor_div_two_pow];have:(2:Nat) ^ 63/2 ^ 63=1:=ah
  rw[this];have h3:(b/2 ^ 63 ^^^ 1)%2=(b/2 ^ 63%2) ^^^ 1:=by
   have:=Nat.xor_mod_two_pow (a:=b/2 ^ 63) (b:=1) (n:=1);simpa using this
  rw[h3];rcases Nat.mod_two_eq_zero_or_one (b/2 ^ 63) with h|h<;>rw[h]<;>decide
 unfold Format.read;rw[e,e1];simp only[h1,h2];split
 .rfl
 .split
  .rfl
  .split<;>rfl
theorem Fl.neg(h:Fl b n):Fl (Op.negFloat aK b) (-n):=by
 unfold Fl;rw[ah7];exact D1.Xw h
theorem ah8{d:Nat}(h1:Fl a x)(h2:Fl b y)(h3:Fl c u)(h4:Fl d v)(n1:(x+u).natAbs<2 ^ 53)(n2:(y+v).natAbs<2 ^ 53):
  ∃re im,cSumBits .add aK a b c d=some (re,im)/\Fl re (x+u)/\Fl im (y+v):=by
 obtain⟨r,e1,f1⟩:=h1.add h3 n1;obtain⟨i,e2,f2⟩:=h2.add h4 n2;exact⟨r,i,by simp[cSumBits,e1,e2],f1,f2⟩
theorem Qj{d:Nat}(h1:Fl a x)(h2:Fl b y)(h3:Fl c u)(h4:Fl d v)(n1:(x-u).natAbs<2 ^ 53)(n2:(y-v).natAbs<2 ^ 53):
  ∃re im,cSumBits .sub aK a b c d=some (re,im)/\Fl re (x-u)/\Fl im (y-v):=by
 obtain⟨r,e1,f1⟩:=h1.sub h3 n1;obtain⟨i,e2,f2⟩:=h2.sub h4 n2;exact⟨r,i,by simp[cSumBits,e1,e2],f1,f2⟩
theorem Qk{d:Nat}(h1:Fl a x)(h2:Fl b y)(h3:Fl c u)(h4:Fl d v)
  (n1:(x*u).natAbs<2 ^ 53)(n2:(y*v).natAbs<2 ^ 53)(n3:(x*u-y*v).natAbs<2 ^ 53)
  (n4:(x*v).natAbs<2 ^ 53)(n5:(y*u).natAbs<2 ^ 53)(n6:(x*v+y*u).natAbs<2 ^ 53):
  ∃re im,cMulBits a b c d=some (re,im)/\Fl re (x*u-y*v)/\Fl im (x*v+y*u):=by
 obtain⟨ac,e1,f1⟩:=h1.mul h3 n1;obtain⟨bd,e2,f2⟩:=h2.mul h4 n2;obtain⟨re,e3,f3⟩:=f1.sub f2 n3;obtain⟨ad,e4,f4⟩:=h1.mul h4 n4;obtain⟨bc,e5,f5⟩:=h2.mul h3 n5;obtain⟨im,e6,f6⟩:=f4.add f5 n6;exact⟨re,im,by simp[cMulBits,e1,e2,e3,e4,e5,e6],f3,f6⟩
end
namespace Ge
variable{p q:Pt}
theorem Ql{k z:Int}(hk:0<k):(k*z).sign=z.sign:=by
 rw[VI,oJ hk,Al]
theorem XB(g:List Pt):(closing g).length=g.length:=by
 cases g with
 |nil=>rfl
 |cons a r=>simp[closing]
def yT(g:List Pt)(n:Nat):Option Pt:=if n+1<g.length then g[n+1]? else g[0]?
theorem XC{g:List Pt}{n:Nat}(hp:g[n]?=some p)(hq:yT g n=some q):(closing g)[n]?=some (p,q):=by
 cases g with
 |nil=>simp at hp
 |cons a r=>
  show((a::r).zip (r++[a]))[n]?=_;rw[VJ];refine⟨hp,?_⟩;unfold yT at hq;by_cases h:n+1<(a::r).length
  .rw[aV h] at hq;simp only[dw] at h;rw[fI aa]
   simpa using hq
  .rw[aQ h] at hq;have hn:n<(a::r).length:=(cG.1 hp).1;simp only[dw] at h hn;have e:n=r.length:=aa
   rw[e,nJ (aY _)];simpa using hq
def lL(g:List Pt)(n:Nat):List (Pt×Pt):=((closing g).take n).filter λe=>decide (e.1≠e.2)
theorem ah9(g:List Pt):lL g 0=[]:=by simp[lL]
theorem Qm(g:List Pt):lL g g.length=fZ g:=by
 unfold lL fZ;rw[<-XB g,fO]
theorem aia{g:List Pt}{n:Nat}(hp:g[n]?=some p)(hq:yT g n=some q)(h:p=q):lL g (n+1)=lL g n:=by
 obtain⟨hlt,he⟩:=cG.1 (XC hp hq);unfold lL;rw[pH hlt,he,JQ];simp[h]
theorem aib{g:List Pt}{n:Nat}(hp:g[n]?=some p)(hq:yT g n=some q)(h:p≠q):lL g (n+1)=lL g n++[(p,q)]:=by
 obtain⟨hlt,he⟩:=cG.1 (XC hp hq);unfold lL;rw[pH hlt,he,JQ];simp[h]
theorem Qn(g:List Pt)(n:Nat):(lL g n).length<=g.length:=by
 unfold lL;refine fN (JR _ _) ?_;rw[iB,XB];omega
theorem all_append(a b:List (List Pt)):aR (a++b)=aR a++aR b:=by simp[aR]
theorem aic{p:List (List Pt)}{k:Nat}{g:List Pt}(h:p[k]?=some g):aR (p.take (k+1))=aR (p.take k)++fZ g:=by
 obtain⟨hlt,he⟩:=cG.1 h;rw[pH hlt,he,all_append];simp[aR]
theorem Qo(B:Nat):∀(p:List (List Pt)),(∀g∈p,g.length<=B)->(aR p).length<=p.length*B
 |[],_=>by simp[aR]
 |g::p,h=>by
  have e:aR (g::p)=fZ g++aR p:=nI;have h1:=Qo B p (λx hx=>h x (by simp[hx]))
  have h2:=h g af
  have h3:(fZ g).length<=g.length:=by rw[<-Qm];exact Qn g _
  rw[e,bY,dw,Fu];omega
theorem XE(B C:Nat):∀(ps:List (List (List Pt))),(∀p∈ps,p.length<=C/\∀g∈p,g.length<=B)->(aR ps.flatten).length<=ps.length*(C*B)
 |[],_=>by simp[aR]
 |p::ps,h=>by
  rw[yz,all_append,bY,dw,Fu];have h1:=XE B C ps (λx hx=>h x (by simp[hx]))
  have h2:=h p af
  have h3:=Qo B p h2.2;have h4:=JP B h2.1;omega
theorem aid{g:List Pt}{e:Pt×Pt}(h:e∈fZ g):e.1∈g/\e.2∈g:=by
 unfold fZ at h;have h1:=(iz.1 h).1;cases g with
 |nil=>simp[closing] at h1
 |cons a r=>
  obtain⟨x,y⟩:=e;have h2:=List.of_mem_zip h1;refine⟨h2.1,?_⟩;have:=h2.2;simp at this⊢;rcases this with h|h
  .exact aT h
  .exact aU h
theorem aie{rg:List (List Pt)}{e:Pt×Pt}(h:e∈aR rg):∃g∈rg,e.1∈g/\e.2∈g:=by
 unfold aR at h;obtain⟨g,hg,he⟩:=qq.1 h;exact⟨g,hg,aid he⟩
theorem KJ{rg:List (List Pt)}{e:Pt×Pt}(h:e∈aR rg):e.1≠e.2:=by
 unfold aR at h;obtain⟨g,hg,he⟩:=qq.1 h;unfold fZ at he;simpa using(iz.1 he).2
end Ge
section
open Go.RowKit
variable{x y u v n X Y D z:Int}{a b c d na nb k:Nat}{w:aM}
theorem gN(P:Program)(w:aM)(a:Addr)(k:FloatKind)(x y:Nat)(m:Mode):(store a (aA k x y) m).run P w=stored P w a (aA k x y) m:=run_store P w a _ m rfl
theorem oV(P:Program)(w:aM)(a:Addr)(k:FloatKind)(x:Nat)(m:Mode):(store a (aB k x) m).run P w=stored P w a (aB k x) m:=run_store P w a _ m rfl
def sm(z:Int):Prop:=z.natAbs<=33554432
theorem aif(a b:Nat)(w:aM):
  ak 151 #[aA aK a b] w λe w'=>e=aL (aA aK a (Op.negFloat aK b))/\w'=w:=by
 have hop:∀w,(Op.unary .neg (aB aK b)).run prog w=.ok (aB aK (Op.negFloat aK b)) w:=λ_=>rfl
 go_enter func151,ntmps151
 go_wp2_with (simp only[hop])
 go_ret
 exact⟨rfl,rfl⟩
theorem qF(hx:sm x)(hy:sm y):(x*y).natAbs<=1125899906842624:=by
 rw[mq];exact CZ hx hy
theorem Qp(h1:Fl a x)(h2:Fl b y)(h3:Fl c u)(h4:Fl d v)(b1:sm x)(b2:sm y)(b3:sm u)(b4:sm v):
  ∃re im,Fl re (x*u+y*v)/\Fl im (x*v-y*u)/\∀w,ak 98 #[aA aK a b,aA aK c d] w λe w'=>e=aL (aA aK re im)/\w'=w:=by
 have m1:=qF b1 b3;have m2:=qF b2 b4;have m3:=qF b1 b4;have m4:=qF b2 b3;have n2:(-y*v).natAbs<=1125899906842624:=by rw[jq,C0];exact m2
 have n4:(-y*u).natAbs<=1125899906842624:=by rw[jq,C0];exact m4
 obtain⟨re,im,e,f1,f2⟩:=Qk h1 h2.neg h3 h4 aa aa aa aa aa aa
 refine⟨re,im,?_,?_,λw=>?_⟩
 .have:x*u+y*v=x*u- -y*v:=by rw[jq];omega
  rw[this];exact f1
 .have:x*v-y*u=x*v+ -y*u:=by rw[jq];omega
  rw[this];exact f2
 .have hop:=λt w=>run_complex_mul (P:=prog) w t a (Op.negFloat aK b) c d re im e
  have HM:Hid (∀w1,ak 151 #[aA aK a b] w1 λe w'=>e=aL (aA aK a (Op.negFloat aK b))/\w'=w1):=λw1=>aif a b w1
  clear m1 m2 m3 m4 n2 n4 e f1 f2;generalize Op.negFloat aK b=nb at*
  go_enter func98,ntmps98
  go_wp2_with fail
  refine(HM.out _).mono ?_;rintro e w1 ⟨rfl,rfl⟩
  go_wp2_with (simp only)
  go_ret
  exact⟨rfl,rfl⟩
theorem Gi(h1:Fl a x)(h2:Fl b y)(h3:Fl c u)(h4:Fl d v)(b1:sm x)(b2:sm y)(b3:sm u)(b4:sm v):
  ∃im,Fl im (x*v-y*u)/\∀w,ak 101 #[aA aK a b,aA aK c d] w λe w'=>e=aL (aB aK im)/\w'=w:=by
 obtain⟨re,im,_,f2,ht⟩:=Qp h1 h2 h3 h4 b1 b2 b3 b4;refine⟨im,f2,λw=>?_⟩
 have HT:Hid (∀w,ak 98 #[aA aK a b,aA aK c d] w λe w'=>e=aL (aA aK re im)/\w'=w):=ht
 clear ht
 go_enter func101,ntmps101
 go_wp2_with fail
 refine(HT.out _).mono ?_;rintro e w1 ⟨rfl,rfl⟩
 go_wp2_with fail
 go_ret
 exact⟨rfl,rfl⟩
theorem aih(h1:Fl a x)(h2:Fl b y)(h3:Fl c u)(h4:Fl d v)(b1:x.natAbs<=50)(b2:y.natAbs<=50)(b3:u.natAbs<=50)(b4:v.natAbs<=50):
  ∃wa wb sh,Fl wa (u-x)/\Fl wb (v-y)/\Fl sh ((u-x)*y-(v-y)*x)/\∀w,ak 64 #[aA aK a b,aA aK c d] w λe w'=>e=aL (aC #[aA aK wa wb,aB aK sh])/\aj w w':=by
 obtain⟨wa,wb,e,f1,f2⟩:=Qj h3 h4 h1 h2 aa aa
 obtain⟨sh,f3,hl⟩:=Gi f1 f2 h1 h2 (by unfold sm;omega) (by unfold sm;omega) (by unfold sm;omega) (by unfold sm;omega)
 refine⟨wa,wb,sh,f1,f2,f3,λw=>?_⟩
 have hop:=λt w=>run_complex_sum (P:=prog) w .sub (aT rfl) t aK c d a b wa wb e
 have HL:Hid (∀w,ak 101 #[aA aK wa wb,aA aK a b] w λe w'=>e=aL (aB aK sh)/\w'=w):=hl
 clear hl
 go_enter func64,ntmps64
 go_wp2_with (simp only[hop])
 have hE:=heap_alloc_new w (.cells #[aA aK 0 0,aB aK 0] 122);have hb0:aj w (w.alloc (.cells #[aA aK 0 0,aB aK 0] 122)):=aw _ _;generalize w.alloc (.cells #[aA aK 0 0,aB aK 0] 122)=W at*;refine(HL.out _).mono ?_;rintro e w1 ⟨rfl,rfl⟩;have e0:=cH hE;have e1:=cD hE;have z0:=bK hE 0;have z1:=bK hE 1
 go_wp2_with (simp only[gN,oV];go_simp)
 refine bodyPost_ret (v:=aC #[aA aK wa wb,aB aK sh]) (by simp[results,results64,go_sem,e0,e1]) rfl ⟨rfl,?_⟩
 exact(hb0.setCell (aY _) _).setCell (aY _) _
theorem qG(h:sm n):Fl (aO aK n) n:=oU (by unfold sm at h;omega)
theorem Gj(na nb:Nat)(D:Int)(h1:Fl a x)(h2:Fl b y)(b1:sm x)(b2:sm y)(bD:sm D):
  ∃re im,Fl re (x*D)/\Fl im (y*D)/\∀w,ak 152 #[aC #[aA aK na nb,az aJ D],aA aK a b] w λe w'=>e=aL (aA aK re im)/\aj w w'/\w.drawn<=w'.drawn:=by
 have m1:=qF b1 bD;have m2:=qF b2 bD;have z0:sm 0:=by unfold sm;decide
 obtain⟨re,im,e,f1,f2⟩:=Qk h1 h2 (qG bD) (qG z0) aa aa aa aa aa aa
 refine⟨re,im,?_,?_,λw=>?_⟩
 .have:x*D=x*D-y*0:=aa
  rw[this];exact f1
 .have:y*D=x*0+y*D:=aa
  rw[this];exact f2
 .have hop:=λt w=>run_complex_mul (P:=prog) w t a b (aO aK D) (aO aK 0) re im e
  have HP:Hid (∀w1,ak 38 #[az aJ D,az aJ 0] w1 λe w'=>e=aL (aA aK (aO aK D) (aO aK 0))/\w'=w1):=λw1=>Gf D 0 w1
  clear m1 m2 e f1 f2;generalize aO aK D=fd at*;generalize aO aK 0=fz at*;have hb0:aj w (w.alloc (.cells #[aA aK na nb,az aJ D] 83)):=aw _ _
  go_enter func152,ntmps152
  go_wp2_with fail
  refine(HP.out _).mono ?_;rintro e w1 ⟨rfl,rfl⟩
  go_wp2_with (simp only)
  go_ret
  exact⟨rfl,hb0,aY _⟩
theorem XG(g1:Fl na X)(g2:Fl nb Y)(h1:Fl a x)(h2:Fl b y)(b1:sm x)(b2:sm y)(bD:sm D)(c1:sm X)(c2:sm Y):
  ∃re im,Fl re (X-x*D)/\Fl im (Y-y*D)/\∀w,ak 99 #[aC #[aA aK na nb,az aJ D],aA aK a b] w λe w'=>e=aL (aA aK re im)/\Below w.heap.size w w':=by
 have m1:=qF b1 bD;have m2:=qF b2 bD;obtain⟨sa,sb,s1,s2,hs⟩:=Gj na nb D h1 h2 b1 b2 bD;obtain⟨re,im,e,f1,f2⟩:=Qj g1 g2 s1 s2 (by unfold sm at c1;omega) (by unfold sm at c2;omega)
 refine⟨re,im,f1,f2,λw=>?_⟩
 have hop:=λt w=>run_complex_sum (P:=prog) w .sub (aT rfl) t aK na nb sa sb re im e
 have HS:Hid (∀w,ak 152 #[aC #[aA aK na nb,az aJ D],aA aK a b] w λe w'=>e=aL (aA aK sa sb)/\Below w.heap.size w w'/\w.drawn<=w'.drawn):=hs
 clear hs m1 m2;have hE:=heap_alloc_new w (.cells #[aA aK na nb,az aJ D] 83);have hb0:Below w.heap.size w (w.alloc (.cells #[aA aK na nb,az aJ D] 83)):=(Below.refl _ _).alloc (aY _) _;have hz:w.heap.size<(w.alloc (.cells #[aA aK na nb,az aJ D] 83)).heap.size:=af
 go_enter func99,ntmps99
 go_wp2_with fail
 generalize w.alloc (.cells #[aA aK na nb,az aJ D] 83)=W at*;generalize hB:w.heap.size=B at*;have e0:=cH hE;have e1:=cD hE
 go_region_held3 (λw'=>w'.cell? ⟨B,0,none⟩=some (aA aK na nb)/\w'.cell? ⟨B,1,none⟩=some (az aJ D)) (go_keep) (first
  |(go_at_call 152;refine(HS.out _).mono ?_;rintro e w5 ⟨rfl,bg,_⟩;have q0:=aS bg e0 hz;have q1:=(aS bg e1 hz))
  |(simp only))
 go_wp2_with fail
 go_ret
 exact⟨rfl,by rw[hB];exact hb0.drew.trans (bg.mono (fh hz))⟩
theorem Dx(ha:Fl a x)(hb:Fl b y):(FloatKind.f64.format.order a b == some .lt)=decide (x<y):=by
 have e:FloatKind.f64.format.order a b=some (compare x y):=ha.order hb;rw[e];rcases fX x y with h|h|h
 .rw[OH.2 h];simp[h]
 .rw[OI.2 h];simp[h]
 .rw[OJ.2 h];simp;omega
theorem KM(ha:Fl a x)(hb:Fl b y):(FloatKind.f64.format.order a b == some .gt)=decide (y<x):=by
 have e:FloatKind.f64.format.order a b=some (compare x y):=ha.order hb;rw[e];rcases fX x y with h|h|h
 .rw[OH.2 h];simp;omega
 .rw[OI.2 h];simp[h]
 .rw[OJ.2 h];simp[h]
theorem uO(ha:Fl a x)(hb:Fl b y):(FloatKind.f64.format.order a b == some .eq)=decide (x=y):=by
 have e:FloatKind.f64.format.order a b=some (compare x y):=ha.order hb;rw[e];rcases fX x y with h|h|h
 .rw[OH.2 h];simp;omega
 .rw[OI.2 h];simp[h]
 .rw[OJ.2 h];simp;omega
theorem mF:Fl 0 0:=by
 have h:=oU (n:=0) ah
 have e:aO aK 0=0:=ah
 rwa[e] at h
theorem Qq{wa wb sh:Nat}{wx wy s:Int}(h1:Fl wa wx)(h2:Fl wb wy)(h3:Fl sh s)(g1:Fl na X)(g2:Fl nb Y)(b1:sm wx)(b2:sm wy)(b3:sm s)(bD:sm D)(c1:sm X)(c2:sm Y):
  ∃r,Fl r (wx*Y-wy*X-s*D)/\∀w,ak 97 #[aC #[aA aK wa wb,aB aK sh],aC #[aA aK na nb,az aJ D]] w λe w'=>e=aL (aB aK r)/\Below w.heap.size w w':=by
 have m1:=qF b1 c2;have m2:=qF b2 c1;have m3:=qF b3 bD;obtain⟨im,f1,hl⟩:=Gi h1 h2 g1 g2 b1 b2 c1 c2;obtain⟨p,e1,f2⟩:=h3.mul (qG bD) aa
 obtain⟨r,e2,f3⟩:=f1.sub f2 aa
 refine⟨r,f3,λw=>?_⟩
 have Gk:=λt w=>run_float_arith (P:=prog) w .mul t aK _ _ p e1
 have yU:=λt w=>run_float_arith (P:=prog) w .sub t aK _ _ r e2
 have HL:Hid (∀w,ak 101 #[aA aK wa wb,aA aK na nb] w λe w'=>e=aL (aB aK im)/\w'=w):=hl
 clear hl m1 m2 m3;have hE:((w.alloc (.cells #[aA aK wa wb,aB aK sh] 122)).alloc (.cells #[aA aK na nb,az aJ D] 83)).heap[w.heap.size]?=some (.cells #[aA aK wa wb,aB aK sh] 122 (0,0)):=by
  rw[Below.heap_alloc _ _ _ af];exact heap_alloc_new _ _
 have hP:((w.alloc (.cells #[aA aK wa wb,aB aK sh] 122)).alloc (.cells #[aA aK na nb,az aJ D] 83)).heap[w.heap.size+1]?=some (.cells #[aA aK na nb,az aJ D] 83 (0,0)):=by
  have:=heap_alloc_new (w.alloc (.cells #[aA aK wa wb,aB aK sh] 122)) (.cells #[aA aK na nb,az aJ D] 83);simpa using this
 have hb0:Below w.heap.size w ((w.alloc (.cells #[aA aK wa wb,aB aK sh] 122)).alloc (.cells #[aA aK na nb,az aJ D] 83)):=((Below.refl _ _).alloc (aY _) _).alloc af _
 go_enter func97,ntmps97
 go_wp2_with fail
 generalize(w.alloc (.cells #[aA aK wa wb,aB aK sh] 122)).alloc (.cells #[aA aK na nb,az aJ D] 83)=W at*;generalize hB:w.heap.size=B at*;have e0:=cH hE;have lY:=cD hE;have p0:=cH hP;have p1:=cD hP
 go_region_held3 (λw'=>w'.cell? ⟨B,0,none⟩=some (aA aK wa wb)/\w'.cell? ⟨B,1,none⟩=some (aB aK sh)/\w'.cell? ⟨B+1,0,none⟩=some (aA aK na nb)/\w'.cell? ⟨B+1,1,none⟩=some (az aJ D)) (go_keep) (first
  |(go_at_call 101;refine(HL.out _).mono ?_;rintro e w5 ⟨rfl,rG⟩;subst rG)
  |(simp only)
  |(simp only[yU]))
 go_wp2_with fail
 go_ret
 exact⟨rfl,by rw[hB];exact hb0.drew⟩
theorem aii(h:0<z):z.sign=1:=oJ h
theorem aij(h:z<0):z.sign= -1:=Af h
theorem Qr(a b c d x y:Int)(w:aM)(hx:a*d=x)(hy:c*b=y)(h1: -1000000000000000<=x/\x<=1000000000000000)(h2: -1000000000000000<=y/\y<=1000000000000000):
  ak 49 #[aC #[az aJ a,az aJ b],aC #[az aJ c,az aJ d]] w λe w'=>e=aL (az aJ (x-y).sign)/\aj w w':=by
 have hb:aj w ((w.alloc (.cells #[az aJ a,az aJ b] 97)).alloc (.cells #[az aJ c,az aJ d] 97)):=(aw _ _).alloc af _
 have hwx:IntKind.i64.wrap (a*d)=x:=by rw[hx,IntKind.wrap_i64];omega
 have hwy:IntKind.i64.wrap (c*b)=y:=by rw[hy,IntKind.wrap_i64];omega
 go_enter func49,ntmps49
 rcases fX x y with h|h|h
 .have e:=aij (z:=x-y) aa
  rw[e]
  go_wp2_with fail
  go_ret
  exact⟨rfl,hb⟩
 .have e:(x-y).sign=0:=by rw[h,agt];rfl
  rw[e]
  go_wp2_with fail
  go_ret
  exact⟨rfl,hb⟩
 .have e:=aii (z:=x-y) aa
  rw[e]
  go_wp2_with fail
  go_ret
  exact⟨rfl,hb⟩
def small(z:Int):Prop:= -50<=z/\z<=50
structure aik(XN XD YN YD:Int):Prop where
 xn: -10000000<=XN/\XN<=10000000
 xd:0<XD/\XD<=1000000
 yn: -10000000<=YN/\YN<=10000000
 yd:0<YD/\YD<=1000000
theorem pN{a b:Int}(hx: -a<=x/\x<=a)(hy: -b<=y/\y<=b): -(a*b)<=x*y/\x*y<=a*b:=by
 have h:(x*y).natAbs<=(a*b).natAbs:=by
  rw[mq,mq];exact CZ aa aa
 have hab:0<=a*b:=jo aa aa
 omega
theorem XH{c:Array aN}{T:TypeId}(h:w.heap[b]?=some (.cells c T (0,0)))(o:Nat):w.cell? ⟨b,o,none⟩=c[o]?:=by
 simp[World.cell?,h]
def yV(n d:Int):Int:=n.tdiv (Int.gcd n d)
def uP(n d:Int):Int:=d.tdiv (Int.gcd n d)
theorem tH{d:Int}(hd:d≠0):0<Int.gcd n d:=agu _ hd
theorem KN(n d:Int):n=(Int.gcd n d:Int)*yV n d:=(uD (Am _ _)).symm
theorem Gm(n d:Int):d=(Int.gcd n d:Int)*uP n d:=(uD (yA _ _)).symm
theorem XI{d:Int}(hd:0<d):0<uP n d:=by
 have h:=Gm n d;have hg:=tH (n:=n) (d:=d) aa
 generalize uP n d=x at*;generalize Int.gcd n d=g at*;rcases fX x 0 with hx|hx|hx
 .have:=yt (show(0:Int)<g by omega) hx;omega
 .subst hx;omega
 .exact hx
theorem Qs{g:Nat}(h:z=(g:Int)*x)(hg:0<g):x.natAbs<=z.natAbs:=by
 rw[h,mq];exact OL _ (by simpa using hg)
theorem XJ{c:Array aN}{T:TypeId}(h:w.heap[b]?=some (.cells c T (0,0)))(o:Nat):w.frozen? ⟨b,o,none⟩=false:=by
 simp[World.frozen?,h]
theorem XK(a b:Nat):Nat.gcd b (a%b)=Nat.gcd a b:=by
 rw[Nat.gcd_comm b,<-Nat.gcd_rec,Nat.gcd_comm]
structure gz(e:(Int×Int)×(Int×Int)):Prop where
 a:small e.1.1
 b:small e.1.2
 c:small e.2.1
 d:small e.2.2
abbrev Ed:=(Int×Int)×(Int×Int)
theorem Gn{e:TypeId}{size:Nat}{v:aN}{n:Nat}{xs:List aN}(h:w.ownsRow 0 e size v n xs){o:Nat}{u:aN}(hu:xs[o]?=some u):
  ∃b cap,v=aG (some ⟨b,0,none⟩) n cap/\b<w.heap.size/\∀o' u',xs[o']?=some u'->w.cell? ⟨b,o',none⟩=some u':=by
 obtain⟨h1,h2⟩:=h;rcases h2 with⟨_,h0⟩|⟨b,cap,cur,hv,_,hb,_,_,_,ht⟩
 .rw[h0,wq] at h1;rw[iU.1 h1] at hu;simp at hu
 .refine⟨b,cap,hv,?_,λo' u' hu'=>?_⟩
  .rcases oK b w.heap.size with h1|h1
   .exact h1
   .rw[JO h1] at hb;cases hb
  rw[XH hb o',<-jP];rw[<-ht,kQ] at hu';split at hu'
  .exact hu'
  .cases hu'
theorem Qu(f:Ge.Pt->Ge.Pt->Int){l:List Ed}{e:Ed}(he:l[k]?=some e):Ge.total f (l.take (k+1))=Ge.total f (l.take k)+f e.1 e.2:=by
 obtain⟨hlt,he'⟩:=cG.1 he;have e1:l.take (k+1)=l.take k++[e]:=by rw[pH hlt,he']
 rw[e1,Ge.AA,Ge.fJ,Ge.Az];omega
theorem KO(f:Ge.Pt->Ge.Pt->Int)(hf:∀a b, -1<=f a b/\f a b<=1):∀l:List Ed, -(l.length:Int)<=Ge.total f l/\Ge.total f l<=l.length
 |[]=>by simp[Ge.total]
 |e::l=>by
  have ih:=KO f hf l;have h1:=hf e.1 e.2;rw[Ge.fJ];simp only[dw];omega
theorem KP(n:Ge.Pt)(d:Int)(a b:Ge.Pt): -1<=Ge.fr n d a b/\Ge.fr n d a b<=1:=by
 unfold Ge.fr Ge.right;split
 .decide
 .split<;>decide
structure EB where
 wa:Nat
 wb:Nat
 sh:Nat
 fa:Nat
 fb:Nat
 ta:Nat
 tb:Nat
def EB.cells(x:EB):Array aN:= #[aA aK x.wa x.wb,aB aK x.sh,aA aK x.fa x.fb,aA aK x.ta x.tb]
structure jU(x:EB)(e:Ed):Prop where
 wa:Fl x.wa (e.2.1-e.1.1)
 wb:Fl x.wb (e.2.2-e.1.2)
 sh:Fl x.sh ((e.2.1-e.1.1)*e.1.2-(e.2.2-e.1.2)*e.1.1)
 fa:Fl x.fa e.1.1
 fb:Fl x.fb e.1.2
 ta:Fl x.ta e.2.1
 tb:Fl x.tb e.2.2
structure eI(X Y D:Int):Prop where
 x:X.natAbs<=16000000
 y:Y.natAbs<=16000000
 d:0<D/\D<=300000
theorem yX(h:small z):sm z:=by unfold small at h;unfold sm;omega
theorem KQ(hX:X.natAbs<=16000000)(hD:0<D/\D<=300000)(hx:small x):sm (X-x*D):=by
 have m: -15000000<=x*D/\x*D<=15000000:=pN (a:=50) (b:=300000) hx ⟨aa,hD.2⟩
 unfold sm;omega
theorem KR{e:Ed}(h:gz e):sm ((e.2.1-e.1.1)*e.1.2-(e.2.2-e.1.2)*e.1.1):=by
 obtain⟨a,b,c,d⟩:=h;unfold small at a b c d;have m1: -5000<=(e.2.1-e.1.1)*e.1.2/\(e.2.1-e.1.1)*e.1.2<=5000:=pN (a:=100) (b:=50) aa aa
 have m2: -5000<=(e.2.2-e.1.2)*e.1.1/\(e.2.2-e.1.2)*e.1.1<=5000:=pN (a:=100) (b:=50) aa aa
 unfold sm;omega
def lf(X Y D:Int)(e:Ed):Int:=(e.2.1-e.1.1)*Y-(e.2.2-e.1.2)*X-((e.2.1-e.1.1)*e.1.2-(e.2.2-e.1.2)*e.1.1)*D
theorem Qv(X Y D:Int)(e:Ed):D*lf X Y D e=Ge.cr (Ge.rel (X,Y) D e.1) (Ge.rel (X,Y) D e.2):=by
 obtain⟨⟨a,b⟩,c,d⟩:=e;simp only[lf,Ge.cr,Ge.rel]
 grind
theorem KS(hD:0<D):(0<D*z↔0<z)/\(D*z<0↔z<0)/\(D*z=0↔z=0):=by
 rcases fX z 0 with h|h|h
 .have:=yt hD h;omega
 .subst h;omega
 .have:=bJ hD h;omega
theorem ail(X Y D:Int)(e:Ed):(X-e.1.1*D)*(X-e.2.1*D)+(Y-e.1.2*D)*(Y-e.2.2*D)=Ge.dt (Ge.rel (X,Y) D e.1) (Ge.rel (X,Y) D e.2):=by
 obtain⟨⟨a,b⟩,c,d⟩:=e;simp only[Ge.dt,Ge.rel]
 grind
theorem aim(X Y D:Int)(e:Ed)(hD:0<D):(decide (lf X Y D e=0)&&decide ((X-e.1.1*D)*(X-e.2.1*D)+(Y-e.1.2*D)*(Y-e.2.2*D)<=0))=Ge.fo (X,Y) D e:=by
 unfold Ge.fo Ge.on;rw[ail,<-Qv];congr 1;exact decide_eq_decide.2 (KS hD).2.2.symm
theorem ain(X Y D:Int)(e:Ed)(hD:0<D):Ge.fr (X,Y) D e.1 e.2=if ¬X*1<e.1.1*D/\X*1<e.2.1*D/\0<lf X Y D e then 1 else if X*1<e.1.1*D/\¬X*1<e.2.1*D/\lf X Y D e<0 then -1 else 0:=by
 unfold Ge.fr Ge.right;rw[<-Qv];obtain⟨p1,p2,_⟩:=KS (z:=lf X Y D e) hD;have h1:(Ge.rel (X,Y) D e.1).1=D*e.1.1-X:=rfl;have h2:(Ge.rel (X,Y) D e.2).1=D*e.2.1-X:=rfl;rw[h1,h2,fg D e.1.1,fg D e.2.1];generalize D*lf X Y D e=Z at*;generalize lf X Y D e=L at*;generalize e.1.1*D=U at*;generalize e.2.1*D=V at*
 repeat' split
 all_goals omega
theorem Gp(xb:EB)(ed:Ed)(hx:jU xb ed)(hs:gz ed)(g1:Fl na X)(g2:Fl nb Y)(hn:eI X Y D)(w:aM):
  ak 62 #[aC xb.cells,aC #[aA aK na nb,az aJ D]] w λe w'=>e=aL (aD (Ge.fo (X,Y) D ed))/\Below w.heap.size w w':=by
 have sX:sm X:=by have:=hn.x;unfold sm;omega
 have sY:sm Y:=by have:=hn.y;unfold sm;omega
 have sD:sm D:=by have:=hn.d;unfold sm;omega
 have s1:sm (ed.2.1-ed.1.1):=by have:=hs.a;have:=hs.c;unfold small at*;unfold sm;omega
 have s2:sm (ed.2.2-ed.1.2):=by have:=hs.b;have:=hs.d;unfold small at*;unfold sm;omega
 obtain⟨r,fr,hL⟩:=Qq hx.wa hx.wb hx.sh g1 g2 s1 s2 (KR hs) sD sX sY;obtain⟨u1,u2,XL,XM,hU⟩:=XG (D:=D) g1 g2 hx.fa hx.fb (yX hs.a) (yX hs.b) sD sX sY;obtain⟨v1,v2,XO,XP,hV⟩:=XG (D:=D) g1 g2 hx.ta hx.tb (yX hs.c) (yX hs.d) sD sX sY;obtain⟨re,im,Qw,_,hT⟩:=Qp XL XM XO XP (KQ hn.x hn.d hs.a) (KQ hn.y hn.d hs.b) (KQ hn.x hn.d hs.c) (KQ hn.y hn.d hs.d);have HL:Hid (∀w,ak 97 #[aC #[aA aK xb.wa xb.wb,aB aK xb.sh],aC #[aA aK na nb,az aJ D]] w λe w'=>e=aL (aB aK r)/\Below w.heap.size w w'):=hL
 have HU:Hid (∀w,ak 99 #[aC #[aA aK na nb,az aJ D],aA aK xb.fa xb.fb] w λe w'=>e=aL (aA aK u1 u2)/\Below w.heap.size w w'):=hU
 have HV:Hid (∀w,ak 99 #[aC #[aA aK na nb,az aJ D],aA aK xb.ta xb.tb] w λe w'=>e=aL (aA aK v1 v2)/\Below w.heap.size w w'):=hV
 have HT:Hid (∀w,ak 98 #[aA aK u1 u2,aA aK v1 v2] w λe w'=>e=aL (aA aK re im)/\w'=w):=hT
 have q1:=uO fr mF;have q2:(FloatKind.f64.format.order re 0 == some .lt||FloatKind.f64.format.order re 0 == some .eq)=decide ((X-ed.1.1*D)*(X-ed.2.1*D)+(Y-ed.1.2*D)*(Y-ed.2.2*D)<=0):=by
  rw[Dx Qw mF,uO Qw mF,<-Bool.decide_or];exact decide_eq_decide.2 aa
 have hfo:=aim X Y D ed hn.d.1;unfold lf at hfo;rw[<-q1,<-q2] at hfo;rw[<-hfo];clear hfo q1 q2 hL hU hV hT fr Qw XL XM XO XP hx hs hn g1 g2 sX sY sD s1 s2;obtain⟨wa,wb,sh,fa,fb,ta,tb⟩:=xb;simp only[EB.cells] at*;generalize hO1:(FloatKind.f64.format.order r 0 == some Ordering.eq)=B1 at*;have hE:((w.alloc (.cells #[aA aK wa wb,aB aK sh,aA aK fa fb,aA aK ta tb] 124)).alloc (.cells #[aA aK na nb,az aJ D] 83)).heap[w.heap.size]?=some (.cells #[aA aK wa wb,aB aK sh,aA aK fa fb,aA aK ta tb] 124 (0,0)):=by
  rw[Below.heap_alloc _ _ _ af];exact heap_alloc_new _ _
 have hP:((w.alloc (.cells #[aA aK wa wb,aB aK sh,aA aK fa fb,aA aK ta tb] 124)).alloc (.cells #[aA aK na nb,az aJ D] 83)).heap[w.heap.size+1]?=some (.cells #[aA aK na nb,az aJ D] 83 (0,0)):=by
  have:=heap_alloc_new (w.alloc (.cells #[aA aK wa wb,aB aK sh,aA aK fa fb,aA aK ta tb] 124)) (.cells #[aA aK na nb,az aJ D] 83);simpa using this
 have hb0:Below w.heap.size w ((w.alloc (.cells #[aA aK wa wb,aB aK sh,aA aK fa fb,aA aK ta tb] 124)).alloc (.cells #[aA aK na nb,az aJ D] 83)):=((Below.refl _ _).alloc (aY _) _).alloc af _
 have hsz:w.heap.size+2=((w.alloc (.cells #[aA aK wa wb,aB aK sh,aA aK fa fb,aA aK ta tb] 124)).alloc (.cells #[aA aK na nb,az aJ D] 83)).heap.size:=af
 go_enter func62,ntmps62
 go_wp2_with fail
 generalize(w.alloc (.cells #[aA aK wa wb,aB aK sh,aA aK fa fb,aA aK ta tb] 124)).alloc (.cells #[aA aK na nb,az aJ D] 83)=W at*;generalize hB:w.heap.size=B at*;have dV:B<W.heap.size:=aa
 have hzb:B+1<W.heap.size:=aa
 have z0:=cH hE;have z1:=cD hE;have z2:=dU hE;have z3:=jG hE;have z4:=cH hP;have z5:=cD hP;cases B1
 .refine wp_region_held_drew (S:=(λw'=>w'.cell? ⟨B,0,none⟩=some (aA aK wa wb)/\w'.cell? ⟨B,1,none⟩=some (aB aK sh)/\w'.cell? ⟨B,2,none⟩=some (aA aK fa fb)/\w'.cell? ⟨B,3,none⟩=some (aA aK ta tb)/\w'.cell? ⟨B+1,0,none⟩=some (aA aK na nb)/\w'.cell? ⟨B+1,1,none⟩=some (az aJ D))) ag ⟨z0,z1,z2,z3,z4,z5⟩ (λhHeld=>?_)
  iterate 3
   (
    refine lV (oi:={dst:=_,op:=_,type:=_,pos:=_,after:=_,guard:=_}) (v:=?_) rfl rfl (by rfl) hHeld ?_ ?_
    rotate_left
    .intro w' bZ;obtain⟨s0,s1,s2,s3,s4,s5⟩:=bZ
     go_simp
     try with_reducible rfl
    simp only[Act.put,dR,dS,dD])
  refine wpAnyH_ready (rs:=[3]) ag af ?_
  refine AllReadyH.cons rfl (λK hK=>?_) AllReadyH.nil
  go_simp
  refine(HL.out _).mono ?_;rintro e w5 ⟨rfl,bg⟩;have lI:B<w5.heap.size:=bW dV bg.size;have hlb:B+1<w5.heap.size:=bW hzb bg.size;have l0:=aS bg z0 dV;have l1:=aS bg z1 dV;have l2:=aS bg z2 dV;have l3:=aS bg z3 dV;have l4:=aS bg z4 hzb;have l5:=aS bg z5 hzb
  go_wp2_with fail
  refine hK.out _ _ ⟨l0,l1,l2,l3,l4,l5⟩ (λhHeld=>?_)
  clear hK K
  try simp only[Act.put,dR,dS,dD]
  iterate 2
   (
    refine lV (oi:={dst:=_,op:=_,type:=_,pos:=_,after:=_,guard:=_}) (v:=?_) rfl rfl (by rfl) hHeld ?_ ?_
    rotate_left
    .intro w' bZ;obtain⟨s0,s1,s2,s3,s4,s5⟩:=bZ
     go_simp
     try with_reducible rfl
    simp only[Act.put,dR,dS,dD])
  iterate 11
   (
    refine C7 (oi:={dst:=_,op:=_,type:=_,pos:=_,after:=_,guard:=_}) rfl rfl hHeld ?_;simp only[Act.put,dR,dS,dD])
  iterate 2
   (
    refine lV (oi:={dst:=_,op:=_,type:=_,pos:=_,after:=_,guard:=_}) (v:=?_) rfl rfl (by rfl) hHeld ?_ ?_
    rotate_left
    .intro w' bZ;obtain⟨s0,s1,s2,s3,s4,s5⟩:=bZ
     go_simp
     try with_reducible rfl
    simp only[Act.put,dR,dS,dD])
  refine wpAnyH_done ag ?_ _
  go_wp2_with fail
  go_ret
  exact⟨rfl,by rw[hB];exact hb0.drew.trans (bg.mono (fh dV))⟩
 .go_region_held3 (λw'=>w'.cell? ⟨B,0,none⟩=some (aA aK wa wb)/\w'.cell? ⟨B,1,none⟩=some (aB aK sh)/\w'.cell? ⟨B,2,none⟩=some (aA aK fa fb)/\w'.cell? ⟨B,3,none⟩=some (aA aK ta tb)/\w'.cell? ⟨B+1,0,none⟩=some (aA aK na nb)/\w'.cell? ⟨B+1,1,none⟩=some (az aJ D)) (go_keep) (first
   |(go_at_call 97;refine(HL.out _).mono ?_;rintro e w5 ⟨rfl,bg⟩;have lI:B<w5.heap.size:=bW dV bg.size;have hlb:B+1<w5.heap.size:=bW hzb bg.size;have l0:=aS bg z0 dV;have l1:=aS bg z1 dV;have l2:=aS bg z2 dV;have l3:=aS bg z3 dV;have l4:=aS bg z4 hzb;have l5:=(aS bg z5 hzb))
   |(go_at_call_of 99 (Value.complex FloatKind.f64 fa fb);refine(HU.out _).mono ?_;rintro e w6 ⟨rfl,bp⟩;have jI:B<w6.heap.size:=bW lI bp.size;have mG:B+1<w6.heap.size:=bW hlb bp.size;have u0:=aS bp l0 lI;have u1:=aS bp l1 lI;have u2:=aS bp l2 lI;have u3:=aS bp l3 lI;have u4:=aS bp l4 hlb;have u5:=(aS bp l5 hlb))
   |(go_at_call_of 99 (Value.complex FloatKind.f64 ta tb);refine(HV.out _).mono ?_;rintro e w7 ⟨rfl,bw⟩;have rH:B<w7.heap.size:=bW jI bw.size;have hvb:B+1<w7.heap.size:=bW mG bw.size;have v0:=aS bw u0 jI;have v1:=aS bw u1 jI;have v2:=aS bw u2 jI;have v3:=aS bw u3 jI;have v4:=aS bw u4 mG;have v5:=(aS bw u5 mG))
   |(go_at_call 98;refine(HT.out _).mono ?_;rintro e w8 ⟨rfl,tJ⟩;subst tJ))
  go_wp2_with fail
  go_ret
  refine⟨uJ af,?_⟩
  rw[hB];exact((hb0.drew.trans (bg.mono (fh dV))).trans (bp.mono (fh lI))).trans (bw.mono (fh jI))
theorem aio(na nb a b pa pb qa qb:Nat)(D E:Int)(w:aM)
  (HA:Hid (∀w,ak 152 #[aC #[aA aK a b,az aJ E],aA aK na nb] w λe w'=>e=aL (aA aK pa pb)/\Below w.heap.size w w'/\w.drawn<=w'.drawn))
  (HC:Hid (∀w,ak 152 #[aC #[aA aK na nb,az aJ D],aA aK a b] w λe w'=>e=aL (aA aK qa qb)/\Below w.heap.size w w'/\w.drawn<=w'.drawn)):
  ak 100 #[aC #[aA aK na nb,az aJ D],aC #[aA aK a b,az aJ E]] w λe w'=>e=aL (aD (FloatKind.f64.format.order pa qa == some .lt))/\Below w.heap.size w w':=by
 have hE:((w.alloc (.cells #[aA aK na nb,az aJ D] 83)).alloc (.cells #[aA aK a b,az aJ E] 83)).heap[w.heap.size]?=some (.cells #[aA aK na nb,az aJ D] 83 (0,0)):=by
  rw[Below.heap_alloc _ _ _ af];exact heap_alloc_new _ _
 have hP:((w.alloc (.cells #[aA aK na nb,az aJ D] 83)).alloc (.cells #[aA aK a b,az aJ E] 83)).heap[w.heap.size+1]?=some (.cells #[aA aK a b,az aJ E] 83 (0,0)):=by
  have:=heap_alloc_new (w.alloc (.cells #[aA aK na nb,az aJ D] 83)) (.cells #[aA aK a b,az aJ E] 83);simpa using this
 have hb0:Below w.heap.size w ((w.alloc (.cells #[aA aK na nb,az aJ D] 83)).alloc (.cells #[aA aK a b,az aJ E] 83)):=((Below.refl _ _).alloc (aY _) _).alloc af _
 have hsz:w.heap.size+2=((w.alloc (.cells #[aA aK na nb,az aJ D] 83)).alloc (.cells #[aA aK a b,az aJ E] 83)).heap.size:=af
 go_enter func100,ntmps100
 go_wp2_with fail
 generalize(w.alloc (.cells #[aA aK na nb,az aJ D] 83)).alloc (.cells #[aA aK a b,az aJ E] 83)=W at*;generalize hB:w.heap.size=B at*;have dV:B<W.heap.size:=aa
 have hzb:B+1<W.heap.size:=aa
 have z0:=cH hE;have z1:=cD hE;have z2:=cH hP;have z3:=cD hP
 go_region_held3 (λw'=>w'.cell? ⟨B,0,none⟩=some (aA aK na nb)/\w'.cell? ⟨B,1,none⟩=some (az aJ D)/\w'.cell? ⟨B+1,0,none⟩=some (aA aK a b)/\w'.cell? ⟨B+1,1,none⟩=some (az aJ E)) (go_keep) (first
   |(go_at_call_of 152 (Value.complex FloatKind.f64 na nb);refine(HA.out _).mono ?_;rintro e w6 ⟨rfl,bp,_⟩;have jI:B<w6.heap.size:=bW dV bp.size;have mG:B+1<w6.heap.size:=bW hzb bp.size;have u0:=aS bp z0 dV;have u1:=aS bp z1 dV;have u2:=aS bp z2 hzb;have u3:=(aS bp z3 hzb))
   |(go_at_call_of 152 (Value.complex FloatKind.f64 a b);refine(HC.out _).mono ?_;rintro e w7 ⟨rfl,bw,_⟩;have v0:=aS bw u0 jI;have v1:=aS bw u1 jI;have v2:=aS bw u2 mG;have v3:=(aS bw u3 mG)))
 all_goals
  have aW:=(hb0.drew.trans (bp.mono (fh dV))).trans (bw.mono (fh jI));clear bp bw hb0
  go_wp2_with fail
  go_ret
  exact⟨rfl,by rw[hB];exact aW⟩
theorem KT{E:Int}(g1:Fl na X)(g2:Fl nb Y)(h1:Fl a x)(h2:Fl b y)(b1:sm x)(b2:sm y)(bD:sm D)(bE:sm E)(c1:sm X)(c2:sm Y)(w:aM):
  ak 100 #[aC #[aA aK na nb,az aJ D],aC #[aA aK a b,az aJ E]] w λe w'=>e=aL (aD (decide (X*E<x*D)))/\aj w w':=by
 obtain⟨pa,pb,f1,f2,hs1⟩:=Gj a b E g1 g2 c1 c2 bE;obtain⟨qa,qb,k1,k2,hs2⟩:=Gj na nb D h1 h2 b1 b2 bD;rw[<-Dx f1 k1];exact aio na nb a b pa pb qa qb D E w hs1 hs2
theorem XR(xb:EB)(ed:Ed)(hx:jU xb ed)(hs:gz ed)(g1:Fl na X)(g2:Fl nb Y)(hn:eI X Y D)(w:aM):
  ak 63 #[aC xb.cells,aC #[aA aK na nb,az aJ D]] w λe w'=>e=aL (az aJ (Ge.fr (X,Y) D ed.1 ed.2))/\Below w.heap.size w w':=by
 have sX:sm X:=by have:=hn.x;unfold sm;omega
 have sY:sm Y:=by have:=hn.y;unfold sm;omega
 have sD:sm D:=by have:=hn.d;unfold sm;omega
 have s1:sm (ed.2.1-ed.1.1):=by have:=hs.a;have:=hs.c;unfold small at*;unfold sm;omega
 have s2:sm (ed.2.2-ed.1.2):=by have:=hs.b;have:=hs.d;unfold small at*;unfold sm;omega
 obtain⟨r,fr,hL⟩:=Qq hx.wa hx.wb hx.sh g1 g2 s1 s2 (KR hs) sD sX sY;have HL:Hid (∀w,ak 97 #[aC #[aA aK xb.wa xb.wb,aB aK xb.sh],aC #[aA aK na nb,az aJ D]] w λe w'=>e=aL (aB aK r)/\Below w.heap.size w w'):=hL
 have s1':sm 1:=by unfold sm;decide
 have HU:Hid (∀w,ak 100 #[aC #[aA aK na nb,az aJ D],aC #[aA aK xb.fa xb.fb,az aJ 1]] w λe w'=>e=aL (aD (decide (X*1<ed.1.1*D)))/\Below w.heap.size w w'):=λw=>KT g1 g2 hx.fa hx.fb (yX hs.a) (yX hs.b) sD s1' sX sY w
 have HV:Hid (∀w,ak 100 #[aC #[aA aK na nb,az aJ D],aC #[aA aK xb.ta xb.tb,az aJ 1]] w λe w'=>e=aL (aD (decide (X*1<ed.2.1*D)))/\Below w.heap.size w w'):=λw=>KT g1 g2 hx.ta hx.tb (yX hs.c) (yX hs.d) sD s1' sX sY w
 have q1:=KM fr mF;have q2:=Dx fr mF;have iD:=ain X Y D ed hn.d.1;unfold lf at iD;rw[iD];generalize(ed.2.1-ed.1.1)*Y-(ed.2.2-ed.1.2)*X-((ed.2.1-ed.1.1)*ed.1.2-(ed.2.2-ed.1.2)*ed.1.1)*D=L at*;generalize XS:decide (X*1<ed.1.1*D)=FA at*;generalize qH:decide (X*1<ed.2.1*D)=TA at*;have hval:(if ¬X*1<ed.1.1*D/\X*1<ed.2.1*D/\0<L then(1:Int) else if X*1<ed.1.1*D/\¬X*1<ed.2.1*D/\L<0 then -1 else 0)=(if FA=false/\TA=true/\0<L then 1 else if FA=true/\TA=false/\L<0 then -1 else 0):=by
  rw[<-XS,<-qH];simp
 rw[hval];clear hval iD hL fr hx hs hn g1 g2 sX sY sD s1 s2 s1' XS qH;obtain⟨wa,wb,sh,fa,fb,ta,tb⟩:=xb;simp only[EB.cells] at*;have hE:((w.alloc (.cells #[aA aK wa wb,aB aK sh,aA aK fa fb,aA aK ta tb] 124)).alloc (.cells #[aA aK na nb,az aJ D] 83)).heap[w.heap.size]?=some (.cells #[aA aK wa wb,aB aK sh,aA aK fa fb,aA aK ta tb] 124 (0,0)):=by
  rw[Below.heap_alloc _ _ _ af];exact heap_alloc_new _ _
 have hP:((w.alloc (.cells #[aA aK wa wb,aB aK sh,aA aK fa fb,aA aK ta tb] 124)).alloc (.cells #[aA aK na nb,az aJ D] 83)).heap[w.heap.size+1]?=some (.cells #[aA aK na nb,az aJ D] 83 (0,0)):=by
  have:=heap_alloc_new (w.alloc (.cells #[aA aK wa wb,aB aK sh,aA aK fa fb,aA aK ta tb] 124)) (.cells #[aA aK na nb,az aJ D] 83);simpa using this
 have hb0:Below w.heap.size w ((w.alloc (.cells #[aA aK wa wb,aB aK sh,aA aK fa fb,aA aK ta tb] 124)).alloc (.cells #[aA aK na nb,az aJ D] 83)):=((Below.refl _ _).alloc (aY _) _).alloc af _
 have hsz:w.heap.size+2=((w.alloc (.cells #[aA aK wa wb,aB aK sh,aA aK fa fb,aA aK ta tb] 124)).alloc (.cells #[aA aK na nb,az aJ D] 83)).heap.size:=af
 go_enter func63,ntmps63
 go_wp2_with fail
 generalize(w.alloc (.cells #[aA aK wa wb,aB aK sh,aA aK fa fb,aA aK ta tb] 124)).alloc (.cells #[aA aK na nb,az aJ D] 83)=W at*;generalize hB:w.heap.size=B at*;have dV:B<W.heap.size:=aa
 have hzb:B+1<W.heap.size:=aa
 have z0:=cH hE;have z1:=cD hE;have z2:=dU hE;have z3:=jG hE;have z4:=cH hP;have z5:=cD hP
 go_region_held3 (λw'=>w'.cell? ⟨B,0,none⟩=some (aA aK wa wb)/\w'.cell? ⟨B,1,none⟩=some (aB aK sh)/\w'.cell? ⟨B,2,none⟩=some (aA aK fa fb)/\w'.cell? ⟨B,3,none⟩=some (aA aK ta tb)/\w'.cell? ⟨B+1,0,none⟩=some (aA aK na nb)/\w'.cell? ⟨B+1,1,none⟩=some (az aJ D)) (go_keep) (first
   |(go_at_call_of 100 (Value.agg #[Value.complex FloatKind.f64 fa fb,Value.int IntKind.i64 1]);refine(HU.out _).mono ?_;rintro e w6 ⟨rfl,bp⟩;have jI:B<w6.heap.size:=bW dV bp.size;have mG:B+1<w6.heap.size:=bW hzb bp.size;have u0:=aS bp z0 dV;have u1:=aS bp z1 dV;have u2:=aS bp z2 dV;have u3:=aS bp z3 dV;have u4:=aS bp z4 hzb;have u5:=(aS bp z5 hzb))
   |(go_at_call_of 100 (Value.agg #[Value.complex FloatKind.f64 ta tb,Value.int IntKind.i64 1]);refine(HV.out _).mono ?_;rintro e w7 ⟨rfl,bw⟩;have rH:B<w7.heap.size:=bW jI bw.size;have hvb:B+1<w7.heap.size:=bW mG bw.size;have v0:=aS bw u0 jI;have v1:=aS bw u1 jI;have v2:=aS bw u2 jI;have v3:=aS bw u3 jI;have v4:=aS bw u4 mG;have v5:=(aS bw u5 mG)))
 have aW:Below w.heap.size w w7:=by
  rw[hB];exact(hb0.drew.trans (bp.mono (fh dV))).trans (bw.mono (fh jI))
 clear bp bw hb0;cases FA<;>cases TA
 .go_wp2_with fail
  go_ret
  exact⟨rfl,by rw[hB] at aW;exact aW⟩
 .go_wp2_with fail
  refine(HL.out _).mono ?_;rintro e w8 ⟨rfl,pP⟩;have wR:=aW.trans (pP.mono (by rw[hB];exact fh rH))
  by_cases hl:0<L
  .have hq:(FloatKind.f64.format.order r 0 == some Ordering.gt)=true:=by rw[q1];simp[hl]
   clear q1 q2
   go_wp2_with fail
   go_ret
   exact⟨rfl,by rw[hB] at wR;exact wR⟩
  .have hq:(FloatKind.f64.format.order r 0 == some Ordering.gt)=false:=by rw[q1];simp[hl]
   clear q1 q2
   go_wp2_with fail
   go_ret
   exact⟨rfl,by rw[hB] at wR;exact wR⟩
 .go_wp2_with fail
  refine(HL.out _).mono ?_;rintro e w8 ⟨rfl,pP⟩;have wR:=aW.trans (pP.mono (by rw[hB];exact fh rH))
  by_cases hl:L<0
  .have hq:(FloatKind.f64.format.order r 0 == some Ordering.lt)=true:=by rw[q2];simp[hl]
   clear q1 q2
   go_wp2_with fail
   go_ret
   exact⟨rfl,by rw[hB] at wR;exact wR⟩
  .have hq:(FloatKind.f64.format.order r 0 == some Ordering.lt)=false:=by rw[q2];simp[hl]
   clear q1 q2
   go_wp2_with fail
   go_ret
   exact⟨rfl,by rw[hB] at wR;exact wR⟩
 .go_wp2_with fail
  go_ret
  exact⟨rfl,by rw[hB] at aW;exact aW⟩
def pQ(l:List EB):List aN:=l.flatMap λx=>x.cells.toList
def iL(w:aM)(v:aN)(es:List Ed):Prop:=
 ∃xs:List EB,xs.length=es.length/\w.ownsRow 0 124 4 v es.length (pQ xs)/\∀(i:Nat) x e,xs[i]?=some x->es[i]?=some e->jU x e
theorem XT:∀(l:List EB)(k:Nat)(e:EB),l[k]?=some e->∀j,j<4->(pQ l)[k*4+j]?=e.cells[j]?
 |[],_,_,h,_,_=>by simp at h
 |q::r,0,e,h,j,hj=>by
  simp at h;subst h;have e1:pQ (q::r)=q.cells.toList++pQ r:=by simp[pQ]
  rw[e1,fI (by simp[EB.cells];omega)]
  simp
 |q::r,k+1,e,h,j,hj=>by
  have ih:=XT r k e (by simpa using h) j hj
  have e1:pQ (q::r)=q.cells.toList++pQ r:=by simp[pQ]
  rw[e1,nJ (by simp[EB.cells];omega)]
  have e2:(k+1)*4+j-q.cells.toList.length=k*4+j:=by simp[EB.cells];omega
  rw[e2,ih]
theorem Gq{v:aN}{l:List Ed}(h:iL w v l):∃so cap,v=aG so l.length cap:=by
 obtain⟨xs,_,h,_⟩:=h;rcases h.2 with⟨hv,h0⟩|⟨b,cap,cur,hv,_⟩
 .exact⟨none,0,by rw[hv,h0]⟩
 .exact⟨_,cap,hv⟩
theorem Gs{so:Option Addr}{n cap:Nat}{l:List Ed}(h:iL w (aG so n cap) l){e:Ed}(he:l[k]?=some e):
  ∃b x,so=some ⟨b,0,none⟩/\b<w.heap.size/\jU x e/\w.cell? ⟨b,k*4,none⟩=some (aA aK x.wa x.wb)/\w.cell? ⟨b,k*4+1,none⟩=some (aB aK x.sh)/\w.cell? ⟨b,k*4+2,none⟩=some (aA aK x.fa x.fb)/\w.cell? ⟨b,k*4+3,none⟩=some (aA aK x.ta x.tb):=by
 obtain⟨xs,hl,ho,hr⟩:=h;have hk:k<xs.length:=by rw[hl];exact(cG.1 he).1
 obtain⟨x,hx⟩:∃x,xs[k]?=some x:=⟨_,bo hk⟩;have g:=XT xs k x hx;obtain⟨b,c,hv,hb,hc⟩:=Gn ho (g 0 aa)
 injection hv with hv;exact⟨b,x,hv,hb,hr k x e hx he,hc _ _ (g 0 aa),hc _ _ (g 1 aa),hc _ _ (g 2 aa),hc _ _ (g 3 aa)⟩
theorem aip(es:List Ed)(v:aN)(w:aM)(hR:iL w v es)(hl:es.length<=65000000)(hs:∀e∈es,gz e)(g1:Fl na X)(g2:Fl nb Y)(hn:eI X Y D):
  ak 35 #[v,aC #[aA aK na nb,az aJ D]] w λe w'=>e=aL (if es.any (Ge.fo (X,Y) D) then aI #[az aJ 0,aD true] else aI #[az aJ (Ge.total (Ge.fr (X,Y) D) es),aD false])/\Below w.heap.size w w':=by
 obtain⟨so,cap,rfl⟩:=Gq hR;have HR:Hid (iL w (aG so es.length cap) es):=hR;have HH:Hid (∀(x:EB)(e:Ed),jU x e->e∈es->∀w1,ak 62 #[aC #[aA aK x.wa x.wb,aB aK x.sh,aA aK x.fa x.fb,aA aK x.ta x.tb],aC #[aA aK na nb,az aJ D]] w1 λe' w'=>e'=aL (aD (Ge.fo (X,Y) D e))/\Below w1.heap.size w1 w'):=λx e hx he w1=>Gp x e hx (hs e he) g1 g2 hn w1
 have HP:Hid (∀(x:EB)(e:Ed),jU x e->e∈es->∀w1,ak 63 #[aC #[aA aK x.wa x.wb,aB aK x.sh,aA aK x.fa x.fb,aA aK x.ta x.tb],aC #[aA aK na nb,az aJ D]] w1 λe' w'=>e'=aL (az aJ (Ge.fr (X,Y) D e.1 e.2))/\Below w1.heap.size w1 w'):=λx e hx he w1=>XR x e hx (hs e he) g1 g2 hn w1
 have HT:Hid (∀k:Nat, -(k:Int)<=Ge.total (Ge.fr (X,Y) D) (es.take k)/\Ge.total (Ge.fr (X,Y) D) (es.take k)<=(k:Int)):=λk=>by
  have h:=KO (Ge.fr (X,Y) D) (KP _ _) (es.take k);have h2:(es.take k).length<=k:=by simp;omega
  omega
 clear hR hs g1 g2 hn;have hb0:Below w.heap.size w (w.alloc (.cells #[aA aK na nb,az aJ D] 83)):=(Below.refl _ _).alloc (aY _) _;have yY:=heap_alloc_new w (.cells #[aA aK na nb,az aJ D] 83);have oW:Hid (Below w.heap.size w (w.alloc (.cells #[aA aK na nb,az aJ D] 83))/\(w.alloc (.cells #[aA aK na nb,az aJ D] 83)).heap[w.heap.size]?=some (.cells #[aA aK na nb,az aJ D] 83 (0,0))):=⟨hb0,yY⟩;clear hb0 yY
 go_enter func35,ntmps35
 go_wp2_with fail
 go_loopg [6,11] es.length (λn tv iv wr=>∃k:Nat,k+n=es.length/\iv=az aJ k/\tv=az aJ (Ge.total (Ge.fr (X,Y) D) (es.take k))/\Hid ((∀e∈es.take k,Ge.fo (X,Y) D e=false)/\Below w.heap.size w wr/\w.heap.size<wr.heap.size/\wr.heap[w.heap.size]?=some (.cells #[aA aK na nb,az aJ D] 83 (0,0))))
 case atStart=>exact⟨0,aa,rfl,rfl,af,oW.out.1,af,oW.out.2⟩
 case round=>
  obtain⟨k,hkn,rfl,rfl,HB⟩:=hrel;obtain⟨hno,aW,hwz,tK⟩:=HB.out;have XU:Hid (∀e∈es.take k,Ge.fo (X,Y) D e=false):=hno;have XV:=HT.out k;clear oW HB hno;by_cases hlt:k<es.length
  .obtain⟨e,nV⟩:∃e,es[k]?=some e:=⟨_,bo hlt⟩;obtain⟨b,x,rfl,hb,hok,c0,c1,c2,c3⟩:=Gs HR.out nV;have r0:=aS aW c0 hb;have r1:=aS aW c1 hb;have r2:=aS aW c2 hb;have r3:=aS aW c3 hb;have p0:=cH tK;have p1:=cD tK;have hbr:b<wr.heap.size:=bW hb aW.size;have gH:(k:Int)<(es.length:Int):=aa
   have hmem:=bT nV;have mS:Hid (Ge.total (Ge.fr (X,Y) D) (es.take (k+1))=Ge.total (Ge.fr (X,Y) D) (es.take k)+Ge.fr (X,Y) D e.1 e.2):=Qu _ nV;have tL:Hid (∀w1,ak 62 #[aC #[aA aK x.wa x.wb,aB aK x.sh,aA aK x.fa x.fb,aA aK x.ta x.tb],aC #[aA aK na nb,az aJ D]] w1 λe' w'=>e'=aL (aD (Ge.fo (X,Y) D e))/\Below w1.heap.size w1 w'):=HH.out x e hok hmem
   have Gt:Hid (∀w1,ak 63 #[aC #[aA aK x.wa x.wb,aB aK x.sh,aA aK x.fa x.fb,aA aK x.ta x.tb],aC #[aA aK na nb,az aJ D]] w1 λe' w'=>e'=aL (az aJ (Ge.fr (X,Y) D e.1 e.2))/\Below w1.heap.size w1 w'):=HP.out x e hok hmem
   have hfin:=KP (X,Y) D e.1 e.2;have HEK:Hid (es[k]?=some e):=nV;obtain⟨wa,wb,sh,fa,fb,ta,tb⟩:=x;simp only at r0 r1 r2 r3 tL Gt;generalize Ge.total (Ge.fr (X,Y) D) (es.take k)=T at*;generalize Ge.fr (X,Y) D e.1 e.2=FR at*;clear c0 c1 c2 c3 nV HR HH HP hok;have AW:Below w.heap.size w (wr.alloc (.cells #[aA aK wa wb,aB aK sh,aA aK fa fb,aA aK ta tb] 124)):=aW.alloc aW.size _;have nW:=heap_alloc_new wr (.cells #[aA aK wa wb,aB aK sh,aA aK fa fb,aA aK ta tb] 124);have yY:(wr.alloc (.cells #[aA aK wa wb,aB aK sh,aA aK fa fb,aA aK ta tb] 124)).heap[w.heap.size]?=some (.cells #[aA aK na nb,az aJ D] 83 (0,0)):=by
    rw[Below.heap_alloc _ _ _ hwz];exact tK
   have hsz:wr.heap.size+1=(wr.alloc (.cells #[aA aK wa wb,aB aK sh,aA aK fa fb,aA aK ta tb] 124)).heap.size:=af
   cases hfo:Ge.fo (X,Y) D e
   .rw[hfo] at tL;have HN:Hid (∀e∈es.take (k+1),Ge.fo (X,Y) D e=false):=λe' he'=>by
     obtain⟨h1,h2⟩:=cG.1 HEK.out;rw[pH h1,h2] at he';rcases dv.1 he' with h|h
     .exact XU.out e' h
     .rw[dh.1 h];exact hfo
    clear hfo hmem
    go_wp2_with (simp only[gN,oV];go_simp)
    generalize wr.alloc (.cells #[aA aK wa wb,aB aK sh,aA aK fa fb,aA aK ta tb] 124)=w0 at*;generalize hEe:wr.heap.size=E at*;clear r0 r1 r2 r3 p0 p1;refine(tL.out _).mono ?_;rintro e' w1 ⟨rfl,hb1⟩;have jt:=(hb1.block _ (show E<w0.heap.size by omega)).trans nW
    have iE:=(hb1.block _ (show w.heap.size<w0.heap.size by omega)).trans yY
    have asT:=hb1.size;have Dy:=AW.trans (hb1.mono aa)
    have e0:=cH jt;have e1:=cD jt;have e2:=dU jt;have e3:=jG jt;have q0:=cH iE;have q1:=cD iE
    go_wp2_with fail
    refine(Gt.out _).mono ?_;rintro e' w2 ⟨rfl,hb2⟩;have jJ:=(hb2.block _ (show w.heap.size<w1.heap.size by omega)).trans iE
    have ais:=hb2.size;have hL2:=Dy.trans (hb2.mono aa)
    clear nW jt yY iE hb1 hb2 AW Dy tK
    go_wp2_with fail
    go_roundg (gk-1)
    case measure=>omega
    case rel=>exact⟨k+1,aa,ai,by rw[mS.out],HN.out,hL2,aa,jJ⟩
   .rw[hfo] at tL;have HA:Hid (es.any (Ge.fo (X,Y) D)=true):=Fv.2 ⟨e,hmem,hfo⟩;clear hfo hmem
    go_wp2_with (simp only[gN,oV];go_simp)
    generalize wr.alloc (.cells #[aA aK wa wb,aB aK sh,aA aK fa fb,aA aK ta tb] 124)=w0 at*;refine(tL.out _).mono ?_;rintro e' w1 ⟨rfl,hb1⟩;have Dy:=AW.trans (hb1.mono (by have:=AW.size;omega))
    go_wp2_with fail
    refine bodyPost_ret (v:=aI #[az aJ 0,aD true]) (by simp[results,results35,go_sem]) rfl ⟨?_,Dy⟩
    first
     |rfl
     |rw[aV HA.out]
  .have hk:k=es.length:=aa
   subst hk;rw[fO];have HA:Hid (¬es.any (Ge.fo (X,Y) D)=true):=λh=>by
    obtain⟨e,h1,h2⟩:=Fv.1 h;rw[XU.out e (by rw[fO];exact h1)] at h2;cases h2
   clear HR HH HP HT
   go_wp2_with fail
   refine bodyPost_ret (v:=aI #[az aJ (Ge.total (Ge.fr (X,Y) D) es),aD false]) (by simp[results,results35,go_sem]) rfl ⟨?_,aW⟩
   first
    |rfl
    |rw[aQ HA.out]
theorem ait(a b:Int):Int.gcd b (a.tmod b)=Int.gcd a b:=by
 unfold Int.gcd;rw[Int.natAbs_tmod];exact XK _ _
theorem Gu(x y:Int)(w:aM)(hx: -1000000000000<=x/\x<=1000000000000)(hy: -1000000000000<=y/\y<=1000000000000):
  ak 65 #[az aJ x,az aJ y] w λe w'=>e=aL (az aJ (Int.gcd x y:Int))/\aj w w':=by
 generalize hG:Int.gcd x y=G;have HG:Hid (Int.gcd x y=G):=hG;clear hG
 go_enter func65,ntmps65
 go_wp2_with fail
 go_loopg [0,1] y.natAbs (λm av bv wr=>∃a b:Int,av=az aJ a/\bv=az aJ b/\m=b.natAbs/\Int.gcd a b=G/\(-1000000000000<=a/\a<=1000000000000)/\(-1000000000000<=b/\b<=1000000000000)/\Hid (aj w wr))
 case atStart=>exact⟨x,y,rfl,rfl,rfl,HG.out,hx,hy,Below.refl _ _⟩
 case round=>
  obtain⟨a,b,rfl,rfl,rfl,hg,ha,hb,HB⟩:=hrel;clear HG;by_cases hz:b=0
  .subst hz;have hv:(G:Int)=max a (-a):=by
    rw[<-hg,Int.gcd_zero_right];omega
   have HV:Hid ((G:Int)=max a (-a)):=hv;clear hg hv;have hw:IntKind.i64.wrap (-a)= -a:=by rw[IntKind.wrap_i64];omega
   go_wp2_with fail
   go_ret
   exact⟨by rw[HV.out];rfl,HB.out⟩
  .have hgt:=ait a b;have hlt:(a.tmod b).natAbs<b.natAbs:=by rw[Int.natAbs_tmod];exact yB _ aa
   have cV:Hid (Int.gcd b (a.tmod b)=G/\(-1000000000000<=a.tmod b/\a.tmod b<=1000000000000)):=⟨hgt.trans hg,aa⟩
   have hbz:¬b=0:=hz;clear hg hgt;generalize hR:a.tmod b=R at*
   go_wp2_with fail
   go_region_held3 (λ_=>True) (trivial) (fail)
   go_wp2_with fail
   go_roundg R.natAbs
   case measure=>omega
   case rel=>exact⟨b,R,rfl,rfl,rfl,cV.out.1,hb,cV.out.2,HB.out.drew⟩
theorem XW(D:Int)(h1:Fl a x)(h2:Fl b y)(hx: -16000000<=x/\x<=16000000)(hy: -16000000<=y/\y<=16000000)(hD:0<D/\D<=300000)(G:Nat)(hG:Int.gcd (Int.gcd x y:Nat) D=G)(w:aM):
  ak 37 #[aA aK a b,az aJ D] w λe w'=>e=aL (aC #[aA aK (aO aK (x.tdiv G)) (aO aK (y.tdiv G)),az aJ (D.tdiv G)])/\Below w.heap.size w w':=by
 have wS:0<G:=by rw[<-hG];exact tH aa
 have aiu:Int.gcd x y<=16000000:=by
  by_cases hz:x=0
  .rw[hz,Int.gcd_zero_left];omega
  .have:=asv (b:=y) hz;omega
 have hGD:G<=300000:=by
  have:=asw (a:=(Int.gcd x y:Nat)) (b:=D) aa
  omega
 have c1:=h1.int aa aa
 have c2:=h2.int aa aa
 have hc1:∀w,(convert 120 3 (aB aK a)).run prog w=.ok (az aJ x) w:=λw=>run_convert_float_int w 120 3 aK aJ a x (by rw[underlying120];rfl) underlying3 c1
 have hc2:∀w,(convert 120 3 (aB aK b)).run prog w=.ok (az aJ y) w:=λw=>run_convert_float_int w 120 3 aK aJ b y (by rw[underlying120];rfl) underlying3 c2
 have Qx:Hid (∀w1,ak 65 #[az aJ x,az aJ y] w1 λe w'=>e=aL (az aJ (Int.gcd x y:Nat))/\Below w1.heap.size w1 w'):=λw1=>Gu x y w1 aa aa
 have Qy:Hid (∀w1,ak 65 #[az aJ (Int.gcd x y:Nat),az aJ D] w1 λe w'=>e=aL (az aJ (G:Int))/\Below w1.heap.size w1 w'):=λw1=>by rw[<-hG];exact Gu _ D w1 aa aa
 obtain⟨XQ,AX⟩:∃q,q=x.tdiv (G:Int):=⟨_,rfl⟩;obtain⟨YQ,AY⟩:∃q,q=y.tdiv (G:Int):=⟨_,rfl⟩;obtain⟨DQ,AZ⟩:∃q,q=D.tdiv (G:Int):=⟨_,rfl⟩;rw[<-AX,<-AY,<-AZ];have HP:Hid (∀w1,ak 38 #[az aJ XQ,az aJ YQ] w1 λe w'=>e=aL (aA aK (aO aK XQ) (aO aK YQ))/\w'=w1):=λw1=>Gf _ _ w1
 have hw1:IntKind.i64.wrap (x.tdiv (G:Int))=XQ:=by rw[AX];exact IntWalk.i64_quo' _ _ ⟨aa,aa,aa⟩
 have hw2:IntKind.i64.wrap (y.tdiv (G:Int))=YQ:=by rw[AY];exact IntWalk.i64_quo' _ _ ⟨aa,aa,aa⟩
 have hw3:IntKind.i64.wrap (D.tdiv (G:Int))=DQ:=by rw[AZ];exact IntWalk.i64_quo' _ _ ⟨aa,aa,aa⟩
 have hw4:IntKind.i64.wrap (D/(G:Int))=DQ:=by rw[<-hw3,OM aa]
 clear AX AY AZ;have XX:¬G=0:=aa
 have XY:(0:Int)<G:=aa
 generalize Int.gcd x y=GXY at*;clear c1 c2 h1 h2 hG;have hE:=heap_alloc_new w (.cells #[aA aK 0 0,az aJ 0] 83);have hb0:Below w.heap.size w (w.alloc (.cells #[aA aK 0 0,az aJ 0] 83)):=(Below.refl _ _).alloc (aY _) _;have hz:w.heap.size<(w.alloc (.cells #[aA aK 0 0,az aJ 0] 83)).heap.size:=af
 go_enter func37,ntmps37
 go_wp2_with (first |(simp only[hc1])|(simp only[hc2]))
 generalize w.alloc (.cells #[aA aK 0 0,az aJ 0] 83)=W at*;generalize hB:w.heap.size=B at*;refine(Qx.out _).mono ?_;rintro e w1 ⟨rfl,hb1⟩
 go_wp2_with fail
 refine(Qy.out _).mono ?_;rintro e w2 ⟨rfl,hb2⟩;have hs1:=hb1.size;have eJ:=(hb2.block _ (show B<w1.heap.size by omega)).trans ((hb1.block _ hz).trans hE)
 have aW:=(hb0.trans (hb1.mono (fh hz))).trans (hb2.mono aa)
 have e0:=cH eJ;have e1:=cD eJ;have z0:=bK eJ 0;have z1:=bK eJ 1;clear hE eJ hb1 hb2 hb0
 go_wp2_with fail
 go_region_held3 (λw'=>w'.frozen? ⟨B,0,none⟩=false/\w'.frozen? ⟨B,1,none⟩=false) (go_keep) (first
  |(go_at_call 38;refine(HP.out _).mono ?_;rintro e w5 ⟨rfl,rG⟩;subst rG)
  |(simp only[gN];go_simp))
 go_wp2_with fail
 refine bodyPost_ret (v:=aC #[aA aK (aO aK XQ) (aO aK YQ),az aJ DQ]) (by simp[results,results37,go_sem,e0,e1]) rfl ⟨rfl,?_⟩
 rw[hB];exact((aW.setCell (aY _) _).setCell (aY _) _).drew
namespace Ge
abbrev Fr:=Int×Int
abbrev Qt:=Fr×Fr
def fc(a b:Fr):Int:=(a.1*b.2-b.1*a.2).sign
def pc(p q:Qt):Int:=if fc p.1 q.1=0 then fc p.2 q.2 else fc p.1 q.1
structure Ba(a:Fr):Prop where
 pos:0<a.2
 co:Int.gcd a.1 a.2=1
structure iF(p:Qt):Prop where
 x:Ba p.1
 y:Ba p.2
theorem XZ(a b:Fr):fc b a= -fc a b:=by
 unfold fc;rw[<-VK];congr 1;omega
theorem Qz{k m n:Int}(h:Int.gcd k m=1)(hd:k∣m*n):k∣n:=by
 have h1:=asx.2 hd;rw[mq] at h1;exact asx.1 (Nat.Coprime.dvd_of_dvd_mul_left h h1)
theorem QA{a b:Fr}(ha:Ba a)(hb:Ba b)(h:fc a b=0):a=b:=by
 unfold fc at h;have h':a.1*b.2=b.1*a.2:=by have:=yC.1 h;omega
 have d1:a.2∣b.2:=by
  have:a.2∣a.1*b.2:=by rw[h'];exact agv _ _
  exact Qz (by rw[agw];exact ha.co) this
 have d2:b.2∣a.2:=by
  have:b.2∣b.1*a.2:=by rw[<-h'];exact agv _ _
  exact Qz (by rw[agw];exact hb.co) this
 have e2:a.2=b.2:=Int.dvd_antisymm (eY ha.pos) (eY hb.pos) d1 d2;have e1:a.1=b.1:=by
  rw[e2] at h';exact VH (ags hb.pos) h'
 exact eB e1 e2
theorem Dz(a:Fr):fc a a=0:=by
 unfold fc;rw[show a.1*a.2-a.1*a.2=0 by omega]
 rfl
theorem X5(z:Int):(z.sign= -1/\z<0)\/(z.sign=0/\z=0)\/(z.sign=1/\0<z):=by
 rcases fX z 0 with h|h|h
 .exact aU ⟨Af h,h⟩
 .exact aT (aU ⟨by rw[h];rfl,h⟩)
 .exact aT (aT ⟨oJ h,h⟩)
theorem X6{a b:Fr}:fc a b<0↔a.1*b.2<b.1*a.2:=by
 unfold fc;have:=X5 (a.1*b.2-b.1*a.2);omega
theorem X7{a b:Fr}:fc a b=0↔a.1*b.2=b.1*a.2:=by
 unfold fc;have:=X5 (a.1*b.2-b.1*a.2);omega
theorem yZ{a b c d e f:Int}(hb:0<b)(hd:0<d)(hf:0<f)(h1:a*d<c*b)(h2:c*f<=e*d):a*f<e*b:=by
 have k1:a*d*f<c*b*f:=VG h1 hf;have k2:c*f*b<=e*d*b:=agx h2 (eY hb);have k3:d*(a*f)<d*(e*b):=by
  have e1:d*(a*f)=a*d*f:=by ac_rfl
  have e2:d*(e*b)=e*d*b:=by ac_rfl
  have e3:c*b*f=c*f*b:=by ac_rfl
  rw[e1,e2];omega
 exact asz k3 (eY hd)
theorem QB{a b c d e f:Int}(hb:0<b)(hd:0<d)(hf:0<f)(h1:a*d<=c*b)(h2:c*f<e*d):a*f<e*b:=by
 have k1:a*d*f<=c*b*f:=agx h1 (eY hf);have k2:c*f*b<e*d*b:=VG h2 hb;have k3:d*(a*f)<d*(e*b):=by
  have e1:d*(a*f)=a*d*f:=by ac_rfl
  have e2:d*(e*b)=e*d*b:=by ac_rfl
  have e3:c*b*f=c*f*b:=by ac_rfl
  rw[e1,e2];omega
 exact asz k3 (eY hd)
theorem QC{a b c d e f:Int}(hd:0<d)(h1:a*d=c*b)(h2:c*f=e*d):a*f=e*b:=by
 have k3:d*(a*f)=d*(e*b):=by
  have e1:d*(a*f)=a*d*f:=by ac_rfl
  have e2:d*(e*b)=e*d*b:=by ac_rfl
  have e3:c*b*f=c*f*b:=by ac_rfl
  rw[e1,e2,h1,e3,h2]
 exact Ao (ags hd) k3
def lt(p q:Qt):Prop:=pc p q<0
theorem aix{p q:Qt}:pc p q<0↔fc p.1 q.1<0\/(fc p.1 q.1=0/\fc p.2 q.2<0):=by
 unfold pc;split<;>omega
theorem KU(p q:Qt):pc q p= -pc p q:=by
 unfold pc;rw[XZ p.1 q.1,XZ p.2 q.2];split<;>split<;>omega
theorem aiy{p q:Qt}(hp:iF p)(hq:iF q)(h:pc p q=0):p=q:=by
 unfold pc at h;split at h
 .rename_i h1
  exact eB (QA hp.x hq.x h1) (QA hp.y hq.y h)
 .rename_i h1;exact absurd h h1
theorem Bb(p:Qt):pc p p=0:=by
 unfold pc;rw[Dz,aV rfl,Dz]
theorem lt_trans{p q r:Qt}(hp:iF p)(hq:iF q)(hr:iF r)(h1:lt p q)(h2:lt q r):lt p r:=by
 unfold lt at*;rw[aix] at*;rw[X6,X7,X6] at*;rcases h1 with h1|⟨h1,h1'⟩
 .rcases h2 with h2|⟨h2,_⟩
  .exact aU (yZ hp.x.pos hq.x.pos hr.x.pos h1 (eY h2))
  .exact aU (yZ hp.x.pos hq.x.pos hr.x.pos h1 (OO h2))
 .rcases h2 with h2|⟨h2,h2'⟩
  .exact aU (QB hp.x.pos hq.x.pos hr.x.pos (OO h1) h2)
  .exact aT ⟨QC hq.x.pos h1 h2,yZ hp.y.pos hq.y.pos hr.y.pos h1' (eY h2')⟩
theorem lt_irrefl(p:Qt):¬lt p p:=by unfold lt;rw[Bb];decide
def uQ(l:List Qt):Prop:=l.Pairwise lt
def ins(p:Qt):List Qt->List Qt
 |[]=>[p]
 |q::l=>if pc q p=0 then q::l else if pc q p<0 then q::ins p l else p::q::l
theorem uR{p:Qt}(hp:iF p):∀{l:List Qt},(∀q∈l,iF q)->∀r,r∈ins p l↔r=p\/r∈l
 |[],_,r=>by simp[ins]
 |q::l,hl,r=>by
  unfold ins;split
  .rename_i h
   have e:=aiy (hl q af) hp h
   subst e;simp
  .split
   .have ih:=uR hp (l:=l) (λx hx=>hl x (by simp[hx])) r
    simp only[bU,ih];constructor
    .rintro(h|h|h)
     .exact aT (aU h)
     .exact aU h
     .exact aT (aT h)
    .rintro(h|h|h)
     .exact aT (aU h)
     .exact aU h
     .exact aT (aT h)
   .simp
theorem y7{p:Qt}(hp:iF p){l:List Qt}(hl:∀q∈l,iF q):∀q∈ins p l,iF q:=λq hq=>by
 rcases(uR hp hl q).1 hq with h|h
 .rw[h];exact hp
 .exact hl q h
theorem X8{p:Qt}(hp:iF p):∀{l:List Qt},(∀q∈l,iF q)->uQ l->uQ (ins p l)
 |[],_,_=>by simp[ins,uQ]
 |q::l,hl,ha=>by
  have ha':=ik.1 ha;unfold ins;split
  .exact ha
  .split
   .rename_i _ h
    refine ik.2 ⟨λr hr=>?_,X8 hp (λx hx=>hl x (by simp[hx])) ha'.2⟩
    rcases(uR hp (λx hx=>hl x (by simp[hx])) r).1 hr with e|e
    .rw[e];exact h
    .exact ha'.1 r e
   .rename_i h0 h1
    have mE:lt p q:=by unfold lt;have:=KU q p;omega
    refine ik.2 ⟨λr hr=>?_,ha⟩
    rcases bU.1 hr with e|e
    .rw[e];exact mE
    .exact lt_trans hp (hl q af) (hl r (by simp[e])) mE (ha'.1 r e)
theorem X9:∀{a b:List Qt},(∀q∈a,iF q)->(∀q∈b,iF q)->uQ a->uQ b->(∀q,q∈a↔q∈b)->a=b
 |[],[],_,_,_,_,_=>rfl
 |[],q::l,_,_,_,_,h=>by have:=(h q).2 af;simp at this
 |q::l,[],_,_,_,_,h=>by have:=(h q).1 af;simp at this
 |p::a,q::b,ra,rb,ha,hb,h=>by
  have ha':=ik.1 ha;have hb':=ik.1 hb;have e:p=q:=by
   rcases bU.1 ((h p).1 af) with e|e
   .exact e
   .rcases bU.1 ((h q).2 af) with e'|e'
    .exact e'.symm
    .have h1:=hb'.1 p e;have h2:=ha'.1 q e';exact absurd (lt_trans (ra p af) (rb q af) (ra p af) h2 h1) (lt_irrefl p)
  subst e;congr 1;refine X9 (λx hx=>ra x (by simp[hx])) (λx hx=>rb x (by simp[hx])) ha'.2 hb'.2 λr=>?_
  constructor
  .intro hr;rcases bU.1 ((h r).1 (by simp[hr])) with e|e
   .exact absurd (ha'.1 r hr) (by rw[e];exact lt_irrefl p)
   .exact e
  .intro hr;rcases bU.1 ((h r).2 (by simp[hr])) with e|e
   .exact absurd (hb'.1 r hr) (by rw[e];exact lt_irrefl p)
   .exact e
end Ge
namespace Ge
def bC(n d:Int):Fr:=if d<0 then(yV (-n) (-d),uP (-n) (-d)) else(yV n d,uP n d)
theorem Ya{n d g:Int}{a b:Int}(hg:(Int.gcd n d:Int)=g)(hp:0<g)(h1:n=g*a)(h2:d=g*b):Int.gcd a b=1:=by
 have e:Int.gcd (g*a) (g*b)=g.natAbs*Int.gcd a b:=VL ..;rw[<-h1,<-h2] at e;have e2:(Int.gcd n d)=g.natAbs:=aa
 rw[e2] at e;have hpos:0<g.natAbs:=aa
 have e3:g.natAbs*1=g.natAbs*Int.gcd a b:=by rw[OG];exact e
 exact(asA hpos e3).symm
theorem qI{n d:Int}(hd:d≠0):Ba (bC n d):=by
 unfold bC;split
 .rename_i h
  exact⟨XI aa,Ya rfl (by have:=tH (n:= -n) (d:= -d) aa;omega) (KN (-n) (-d)) (Gm (-n) (-d))⟩
 .exact⟨XI aa,Ya rfl (by have:=tH (n:=n) hd;omega) (KN n d) (Gm n d)⟩
theorem tM{n d:Int}(hd:d≠0):∃g,g≠0/\n=g*(bC n d).1/\d=g*(bC n d).2/\(0<g↔0<d):=by
 unfold bC;split
 .rename_i h
  have hg:=tH (n:= -n) (d:= -d) aa
  have e1:=KN (-n) (-d);have e2:=Gm (-n) (-d);refine⟨-(Int.gcd (-n) (-d):Int),aa,?_,?_,aa⟩
  .simp only;rw[jq,<-e1];omega
  .simp only;rw[jq,<-e2];omega
 .have hg:=tH (n:=n) hd;exact⟨_,aa,KN n d,Gm n d,aa⟩
theorem KV(n:Int):bC n 1=(n,1):=by
 unfold bC;rw[aQ ah]
 unfold yV uP;rw[VM];simp
theorem DA{n d m e:Int}(hd:d≠0)(he:e≠0)(h:n*e=m*d):bC n d=bC m e:=by
 obtain⟨g,g0,h1,h2,_⟩:=tM (n:=n) hd;obtain⟨k,k0,h3,h4,_⟩:=tM (n:=m) he;refine QA (qI hd) (qI he) (X7.2 ?_);have e1:g*(bC n d).1*(k*(bC m e).2)=k*(bC m e).1*(g*(bC n d).2):=by rw[<-h1,<-h2,<-h3,<-h4];exact h
 have e2:(g*k)*((bC n d).1*(bC m e).2)=(g*k)*((bC m e).1*(bC n d).2):=by
  calc (g*k)*((bC n d).1*(bC m e).2)=g*(bC n d).1*(k*(bC m e).2):=by ac_rfl
   _=k*(bC m e).1*(g*(bC n d).2):=e1
   _=(g*k)*((bC m e).1*(bC n d).2):=by ac_rfl
 exact Ao (agy g0 k0) e2
end Ge
theorem Yb(n d n0:Int)(D A:Nat)(w:aM)(hD:0<D)(uG:D<=1000000000000)(hA:A<=1000000000000)(hG:Nat.gcd A D=Int.gcd n0 D)
  (h1:(d<0/\IntKind.i64.wrap (-n)=n0/\IntKind.i64.wrap (-d)=(D:Int))\/(¬d<0/\n0=n/\(D:Int)=d))(h2:(n0<0/\IntKind.i64.wrap (-n0)=(A:Int))\/(¬n0<0/\n0=(A:Int)))(h3: -1000000000000<=n0/\n0<=1000000000000):
  ak 46 #[az aJ n,az aJ d] w λe w'=>e=aL (aC #[az aJ (yV n0 D),az aJ (uP n0 D)])/\Below w.heap.size w w':=by
 have mH:0<Int.gcd n0 D:=tH aa
 have HN:Hid (yV n0 D=n0.tdiv (Int.gcd n0 D)):=rfl;have HD:Hid (uP n0 D=(D:Int).tdiv (Int.gcd n0 D)):=rfl;generalize Int.gcd n0 D=G at*;generalize yV n0 D=RN at*;generalize uP n0 D=RD at*;have hb0:Below w.heap.size w (w.alloc (.cells #[az aJ 0,az aJ 0] 97)):=(Below.refl _ _).alloc (aY _) _;have hE:=heap_alloc_new w (.cells #[az aJ 0,az aJ 0] 97);rcases h1 with⟨k1,k2,k3⟩|⟨k1,e2,e3⟩<;>rcases h2 with⟨k4,k5⟩|⟨k4,k5⟩
 all_goals
  try subst e2
  try subst e3
  go_enter func46,ntmps46
  go_wp2_with fail
  generalize w.alloc (.cells #[az aJ 0,az aJ 0] 97)=W at*;generalize hB:w.heap.size=B at*
  go_loopg [5,6] D (λm av bv wr=>∃a b:Nat,av=az aJ a/\bv=az aJ b/\m=b/\Nat.gcd a b=G/\a<=1000000000000/\b<=1000000000000/\wr=W)
  case atStart=>exact⟨A,D,by first |rfl|rw[k5],rfl,rfl,hG,hA,uG,rfl⟩
  case round=>
   obtain⟨a,b,rfl,rfl,rfl,hg,ha,hb,rfl⟩:=hrel;by_cases hz:gk=0
   .subst hz;rw[Nat.gcd_zero_right] at hg;subst hg;have e0:=cH hE;have e1:=cD hE;have z0:=XJ hE 0;have z1:=XJ hE 1;have hx:¬(a=0):=aa
    have hx1:(0:Int)<a:=aa
    have hw1:IntKind.i64.wrap (n0.tdiv (a:Int))=RN:=by rw[HN.out];exact IntWalk.i64_quo' _ _ ⟨aa,aa,aa⟩
    have hw3:IntKind.i64.wrap ((D:Int)/(a:Int))=RD:=by rw[HD.out,OM aa,IntKind.wrap_i64];have:=IntWalk.tdiv_le (D:Int) a aa aa;omega
    have hw2:IntKind.i64.wrap ((D:Int).tdiv (a:Int))=RD:=by rw[HD.out];exact IntWalk.i64_quo' _ _ ⟨aa,aa,aa⟩
    have hw4:¬n0<0->IntKind.i64.wrap (n0/(a:Int))=RN:=λh=>by rw[<-hw1,OM aa]
    try(have rG:IntKind.i64.wrap ((A:Int)/(a:Int))=RN:=by rw[<-k5];exact hw4 aa)
    clear hw4
    go_wp2_with fail
    go_region_held3 (λw'=>w'.frozen? ⟨B,0,none⟩=false/\w'.frozen? ⟨B,1,none⟩=false) (go_keep) (fail)
    go_wp2_with fail
    refine bodyPost_ret (v:=aC #[az aJ RN,az aJ RD]) (by first |(simp[results,results46,go_sem,e0,e1];done)|(simp[results,results46,go_sem,e0,e1];exact rG)) rfl ⟨rfl,?_⟩
    rw[hB];exact((hb0.setCell (aY _) _).setCell (aY _) _).drew
   .have hlt:=yB a (VF hz);have uS:=XK a gk
    go_wp2_with fail
    go_roundg (a%gk)
    case measure=>omega
    case rel=>exact⟨gk,a%gk,rfl,ai,rfl,by rw[uS,hg],hb,aa,rfl⟩
theorem QD(n d:Int)(w:aM)(hd:d≠0)(hn: -1000000000000<=n/\n<=1000000000000)(hd2: -1000000000000<=d/\d<=1000000000000):
  ak 46 #[az aJ n,az aJ d] w λe w'=>e=aL (aC #[az aJ (Ge.bC n d).1,az aJ (Ge.bC n d).2])/\aj w w':=by
 unfold Ge.bC;by_cases hneg:d<0
 .rw[aV hneg];have h:=Yb n d (-n) (-d).toNat (-n).natAbs w aa aa aa (by unfold Int.gcd;rfl) (aU ⟨hneg,by rw[IntKind.wrap_i64];omega,by rw[IntKind.wrap_i64];omega⟩) (by
   by_cases hx: -n<0
   .exact aU ⟨hx,by rw[IntKind.wrap_i64];omega⟩
   .exact aT ⟨hx,aa⟩) aa
  have e:((-d).toNat:Int)= -d:=aa
  rw[e] at h;exact h
 .rw[aQ hneg];have h:=Yb n d n d.toNat n.natAbs w aa aa aa (by unfold Int.gcd;rfl) (aT ⟨hneg,rfl,aa⟩) (by
   by_cases hx:n<0
   .exact aU ⟨hx,by rw[IntKind.wrap_i64];omega⟩
   .exact aT ⟨hx,aa⟩) aa
  have e:(d.toNat:Int)=d:=aa
  rw[e] at h;exact h
end
end Go.Proofs.YtkjhhooecopolaaGreatDoor

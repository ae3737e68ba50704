import Derived.Test.YtkjhhooecopolaaGreatDoorWz23
set_option maxRecDepth 100000
set_option maxHeartbeats 4000000
namespace Go.Proofs.YtkjhhooecopolaaGreatDoor
open Go.RowKit
open Ge
structure SX(rg:List (List Pt))(l:List Nd)(r:Int)(Xs:List PB):Prop where
 nl:Ga.bC (ae rg) l
 mem:∀x∈Xs,Ga.Sd (ae rg) l (takes r) x.f x.t
 all:∀a b,Ga.Sd (ae rg) l (takes r) a b->∃x∈Xs,x.f=a/\x.t=b
 AE:∀i j,i<Xs.length->j<Xs.length->(xi Xs i).f=(xi Xs j).f->(xi Xs i).t=(xi Xs j).t->i=j
theorem Jj{r:Int}{es:List Ed}{p x:PB}(hx:x∈fA r es p):(x=p/\takes r (pR es p.f p.t)=true/\takes r (nP es p.f p.t)=false)\/(x=p.rev/\takes r (nP es p.f p.t)=true/\takes r (pR es p.f p.t)=false):=by
 unfold fA at hx;split at hx
 ·rename_i h
  exact ag ⟨by simpa using hx,h⟩
 ·split at hx
  ·rename_i h
   exact ah ⟨by simpa using hx,h⟩
  ·simp at hx
theorem AG{rg:List (List Pt)}{l:List Nd}{r:Int}{Ps:List PB}(hl:l.map ax=gV (ae rg))(hc:∀n∈l,Ge.Can n)(h:nO (ae rg) l Ps):SX rg l r (kU r (ae rg) Ps):=by
 have hN:Ga.bC (ae rg) l:=⟨hl,hc,fun e he=>GW he⟩
 have hv:∀x∈Ps.flatMap (fA r (ae rg)),dh x:=fun x hx=>by
  obtain⟨p,hp,uB⟩:=nu.1 hx;exact M7 (h.v p hp) uB
 obtain⟨hperm,_⟩:=Wi (Ps.flatMap (fA r (ae rg))) hv;have hpc:∀p∈Ps,Ga.cL (ae rg) l p.f p.t:=fun p hp=>by
  obtain⟨e,he,_,hq⟩:=h.ap.mem p hp;exact⟨e,he,hq⟩
 have hts:∀p∈Ps,nP (ae rg) p.f p.t=Ga.RR (ae rg) p.f p.t/\pR (ae rg) p.f p.t=Ga.LL (ae rg) p.f p.t:=fun p hp=>ag5 _ (h.v p hp).cf.pos (h.v p hp).ct.pos
 refine⟨hN,fun x hx=>?_,fun a b hab=>?_,fun i j hi hj hf ht=>?_⟩
 ·obtain⟨p,hp,uB⟩:=nu.1 ((hperm.mem_iff).1 hx);obtain⟨t1,t2⟩:=hts p hp;rcases Jj uB with⟨rfl,h1,h2⟩|⟨rfl,h1,h2⟩
  ·rw[t2] at h1;rw[t1] at h2;exact ag ⟨hpc _ hp,h1,h2⟩
  ·rw[t1] at h1;rw[t2] at h2;exact ah ⟨hpc _ hp,h1,h2⟩
 ·rcases hab with⟨⟨e,he,hq⟩,h1,h2⟩|⟨⟨e,he,hq⟩,h1,h2⟩
  ·obtain⟨p,hp,kL⟩:=h.ap.all e he _ hq;have e1:p.f=a:=au Prod.fst kL;have e2:p.t=b:=au Prod.snd kL;obtain⟨t1,t2⟩:=hts p hp;rw[e1,e2] at t1 t2;refine⟨p,(hperm.mem_iff).2 (nu.2 ⟨p,hp,?_⟩),e1,e2⟩;unfold fA;rw[e1,e2,t1,t2,aj ⟨h1,h2⟩];simp
  ·obtain⟨p,hp,kL⟩:=h.ap.all e he _ hq;have e1:p.f=b:=au Prod.fst kL;have e2:p.t=a:=au Prod.snd kL;obtain⟨t1,t2⟩:=hts p hp;rw[e1,e2] at t1 t2;refine⟨p.rev,(hperm.mem_iff).2 (nu.2 ⟨p,hp,?_⟩),e2,e1⟩;unfold fA;rw[e1,e2,t1,t2,af (by rw[h2];simp),aj ⟨h1,h2⟩]
   simp
 ·have hp0:(Ps.flatMap (fA r (ae rg))).Pairwise fun x y=>¬(x.f=y.f/\x.t=y.t):=by
   rw[List.pairwise_flatMap];refine⟨fun p hp=>?_,?_⟩
   ·unfold fA;split
    ·exact amB _ _
    ·split
     ·exact amB _ _
     ·exact List.Pairwise.nil
   ·refine rC (fun{p q} hp hq hlt x hx y hy=>?_) h.oP
    have lp:=I7 h hl p hp;have lq:=I7 h hl q hq;have asym:∀{u v:Nd},Ge.Can u->Ge.Can v->lt (ax u) (ax v)->¬lt (ax v) (ax u):=fun hu hv a b=>lt_irrefl _ (lt_trans (df hu) (df hv) (df hu) a b)
    have hne:¬(p.f=q.f/\p.t=q.t):=fun⟨a,b⟩=>by
     have h1:=Vt (h.v p hp) (h.v q hq) (h.v q hq) a b;have h2:=h1.1 hlt;have h3:¬jx q q:=by
      unfold jx Ae;rw[wD,wD];simp
     exact h3 h2
    rintro⟨e1,e2⟩;rcases Jj hx with⟨rfl,_⟩|⟨rfl,_⟩<;>rcases Jj hy with⟨rfl,_⟩|⟨rfl,_⟩
    ·exact hne ⟨e1,e2⟩
    ·have je:x.f=q.t:=e1;have e2':x.t=q.f:=e2;rw[je,e2'] at lp;exact asym (h.v q hq).cf (h.v q hq).ct lq lp
    ·have je:p.t=y.f:=e1;have e2':p.f=y.t:=e2;rw[je,e2'] at lp;exact asym (h.v _ hq).cf (h.v _ hq).ct lq lp
    ·have je:p.t=q.t:=e1;have e2':p.f=q.f:=e2;exact hne ⟨e2',je⟩
  have hp1:(kU r (ae rg) Ps).Pairwise fun x y=>¬(x.f=y.f/\x.t=y.t):=(hperm.pairwise_iff (fun{x y} hxy=>fun⟨a,b⟩=>hxy ⟨a.symm,b.symm⟩)).2 hp0
  have gx:∀{k:Nat}(hk:k<(kU r (ae rg) Ps).length),xi (kU r (ae rg) Ps) k=(kU r (ae rg) Ps)[k]:=fun hk=>sL (aC hk)
  rw[gx hi,gx hj] at hf ht;rcases rf i j with k|k|k
  ·exact absurd ⟨hf,ht⟩ (kE.1 hp1 i j hi hj k)
  ·exact k
  ·exact absurd ⟨hf.symm,ht.symm⟩ (kE.1 hp1 j i hj hi k)
theorem Nk{cf:Nat->Nat->Int}:∀(l:List Nat)(m:Nat),(m::l).Nodup->(∀a∈m::l,∀b∈m::l,∀c∈m::l,cf a b<0->cf b c<0->cf a c<0)->(∀a∈m::l,¬cf a a<0)->(∀a∈m::l,∀b∈m::l,a≠b->cf a b<0\/cf b a<0)->∀k∈m::l,¬cf k (bG cf l m)<0
 |[],m,_,_,hi,_,k,hk=>by
  have:k=m:=by simpa using hk
  rw[this];exact hi m (by simp)
 |b::l,m,hn,ht,hi,hw,k,hk=>by
  have hb:b∈m::b::l:=by simp
  have hm:m∈m::b::l:=by simp
  have jL:m≠b:=fun e=>by
   rw[e] at hn;simp at hn
  show ¬cf k (bG cf l (if cf b m<0 then b else m))<0
  have hres:∀m'∈m::b::l,bG cf l m'∈m::b::l:=fun m' hm'=>by
   rcases wu cf l m' with e|e
   ·rw[e];exact hm'
   ·exact aT _ (aT _ e)
  by_cases hc:cf b m<0
  ·rw[aj hc];have sub:∀x,x∈b::l->x∈m::b::l:=fun x hx=>aT _ hx
   have ih:=Nk l b (FU.1 hn).2 (fun a ha c hc' d hd=>ht a (sub a ha) c (sub c hc') d (sub d hd)) (fun a ha=>hi a (sub a ha)) (fun a ha c hc'=>hw a (sub a ha) c (sub c hc'))
   rcases aP.1 hk with e|hk
   ·rw[e];intro h;exact ih b (by simp) (ht b hb m hm _ (hres b hb) hc h)
   ·exact ih k hk
  ·rw[af hc];have hcm:cf m b<0:=(hw m hm b hb jL).resolve_right hc;have sub:∀x,x∈m::l->x∈m::b::l:=fun x hx=>by
    rcases aP.1 hx with e|hx
    ·rw[e];simp
    ·simp[hx]
   have hn':(m::l).Nodup:=by
    rw[FU] at hn⊢;exact⟨fun h=>hn.1 (aT _ h),(FU.1 hn.2).2⟩
   have ih:=Nk l m hn' (fun a ha c hc' d hd=>ht a (sub a ha) c (sub c hc') d (sub d hd)) (fun a ha=>hi a (sub a ha)) (fun a ha c hc'=>hw a (sub a ha) c (sub c hc'))
   rcases aP.1 hk with e|hk
   ·rw[e];exact ih m (by simp)
   ·rcases aP.1 hk with e|hk
    ·rw[e];intro h;exact ih m (by simp) (ht m hm b hb _ (hres m hm) hcm h)
    ·exact ih k (aT _ hk)
section
variable{rg:List (List Pt)}{l:List Nd}{r:Int}{Xs:List PB}
theorem SX.sd(h:SX rg l r Xs){i:Nat}(hi:i<Xs.length):Ga.Sd (ae rg) l (takes r) (xi Xs i).f (xi Xs i).t:=h.mem _ (gu hi)
theorem SX.find(h:SX rg l r Xs){a b:Nd}(hs:Ga.Sd (ae rg) l (takes r) a b):∃i,i<Xs.length/\(xi Xs i).f=a/\(xi Xs i).t=b:=by
 obtain⟨x,hx,e1,e2⟩:=h.all a b hs;obtain⟨i,hi,rfl⟩:=iO.1 hx;exact⟨i,hi,by rw[sL (aC hi)];exact e1,by rw[sL (aC hi)];exact e2⟩
theorem SX.go(h:SX rg l r Xs)(i:Nat)(hi:i<Xs.length):∃x∈Xs,x.f=(xi Xs i).t:=by
 obtain⟨c,hc⟩:=(h.sd hi).next h.nl
 obtain⟨x,hx,e,_⟩:=h.all _ _ hc;exact⟨x,hx,e⟩
theorem SX.next(h:SX rg l r Xs)(hB:BD Xs){i:Nat}(hi:i<Xs.length):cJ Xs i<Xs.length/\(xi Xs (cJ Xs i)).f=(xi Xs i).t/\∀j,j<Xs.length->(xi Xs j).f=(xi Xs i).t->¬qP (xi Xs i) (xi Xs j) (xi Xs (cJ Xs i))<0:=by
 have fZ:=(hB.v _ (gu hi)).ct;have hlt:=Nj hB fZ (h.go i hi);obtain⟨h1,h2⟩:=Wt hlt;have hle:=Ni Xs (xi Xs i).t;have hlen:cJ Xs i<Xs.length:=by omega
 have hf:(xi Xs (cJ Xs i)).f=(xi Xs i).t:=(Jg hB fZ _ _ (uC hlen) h1).1 h2;refine⟨hlen,hf,fun j hj Wu=>?_⟩
 have yr:∀k,k∈iL Xs (xi Xs i).t::List.range' (iL Xs (xi Xs i).t+1) (lJ Xs (xi Xs i).t-iL Xs (xi Xs i).t-1)↔iL Xs (xi Xs i).t<=k/\k<lJ Xs (xi Xs i).t:=fun k=>by
  rw[aP,FI];omega
 have oV:∀k,iL Xs (xi Xs i).t<=k->k<lJ Xs (xi Xs i).t->k<Xs.length/\(xi Xs k).f=(xi Xs i).t:=fun k k1 k2=>by
  have hk:k<Xs.length:=by omega
  exact⟨hk,(Jg hB fZ _ _ (uC hk) k1).1 k2⟩
 have hjm:iL Xs (xi Xs i).t<=j/\j<lJ Xs (xi Xs i).t:=by
  have a:=Jf hB fZ j _ (uC hj);have hge:iL Xs (xi Xs i).t<=j:=by
   apply Nat.not_lt.1;intro hk;have:=a.1 hk;rw[Wu,wD] at this;omega
  exact⟨hge,(Jg hB fZ j _ (uC hj) hge).2 Wu⟩
 have Wv:=h.sd hi;have facts:∀k,k<Xs.length->(xi Xs k).f=(xi Xs i).t->Ga.wv (xi Xs i).t (xi Xs k).t≠(0,0)/\Ga.ai (Ga.wv (xi Xs i).t (xi Xs k).t) (Ga.wv (xi Xs i).t (xi Xs i).f)=false:=fun k hk wF=>by
  have hsk:=h.sd hk;rw[wF] at hsk;exact⟨(Ga.eF h.nl hsk.pc).1,Wv.pS h.nl hsk⟩
 have ha:Ga.wv (xi Xs i).t (xi Xs i).f≠(0,0):=by rw[Ga.dU];exact Ga.jc (Ga.eF h.nl Wv.pc).1
 have hcw:∀j k,j<Xs.length->(xi Xs j).f=(xi Xs i).t->k<Xs.length->(xi Xs k).f=(xi Xs i).t->(qP (xi Xs i) (xi Xs j) (xi Xs k)<0↔Ga.cw (Ga.wv (xi Xs i).t (xi Xs i).f) (Ga.wv (xi Xs i).t (xi Xs j).t) (Ga.wv (xi Xs i).t (xi Xs k).t)=true):=fun j k hj Nl hk wF=>by
  have:=Ga.Cc ha (facts j hj Nl).1 (facts k hk wF).1 (facts j hj Nl).2 (facts k hk wF).2;rw[<-this,Ji,Nl,wF,<-Ga.dU]
 have key:=Nk (cf:=fun j k=>qP (xi Xs i) (xi Xs j) (xi Xs k)) (List.range' (iL Xs (xi Xs i).t+1) (lJ Xs (xi Xs i).t-iL Xs (xi Xs i).t-1)) (iL Xs (xi Xs i).t) (by
   rw[FU];refine⟨fun hm=>?_,List.nodup_range' ..⟩
   have:=FI.1 hm;omega) (fun a ha' b hb c hc h1 h2=>by
   obtain⟨a1,a2⟩:=(yr a).1 ha';obtain⟨b1,b2⟩:=(yr b).1 hb;obtain⟨c1,c2⟩:=(yr c).1 hc;obtain⟨a3,a4⟩:=oV a a1 a2;obtain⟨b3,b4⟩:=oV b b1 b2;obtain⟨c3,c4⟩:=oV c c1 c2;refine(hcw a c a3 a4 c3 c4).2 ?_;exact Ga.ag3 ha (facts a a3 a4).1 (facts b b3 b4).1 (facts c c3 c4).1 ((hcw a b a3 a4 b3 b4).1 h1) ((hcw b c b3 b4 c3 c4).1 h2)) (fun a ha' hk=>by
   obtain⟨a1,a2⟩:=(yr a).1 ha';obtain⟨a3,a4⟩:=oV a a1 a2;have:=Ga.kJ.1 ((hcw a a a3 a4 a3 a4).1 hk);rw[Ga.qq] at this;have mn:=Ga.Gg (facts a a3 a4).1 ha;rcases this with⟨_,_,h'⟩|⟨h',h''⟩|⟨_,_,h'⟩
   ·cases h'
   ·rw[mn h'] at h'';cases h''
   ·cases h') (fun a ha' b hb hne=>by
   obtain⟨a1,a2⟩:=(yr a).1 ha';obtain⟨b1,b2⟩:=(yr b).1 hb;obtain⟨a3,a4⟩:=oV a a1 a2;obtain⟨b3,b4⟩:=oV b b1 b2;obtain⟨na,sa⟩:=facts a a3 a4;obtain⟨nb,sb⟩:=facts b b3 b4;have hs:Ga.ai (Ga.wv (xi Xs i).t (xi Xs a).t) (Ga.wv (xi Xs i).t (xi Xs b).t)=false:=by
    cases hk:Ga.ai (Ga.wv (xi Xs i).t (xi Xs a).t) (Ga.wv (xi Xs i).t (xi Xs b).t)
    ·rfl
    ·exfalso;have Ww:=h.sd a3;have Wx:=h.sd b3;rw[a4] at Ww;rw[b4] at Wx;have:=Ga.vY h.nl Ww.pc Wx.pc hk;exact hne (h.AE a b a3 b3 (a4.trans b4.symm) this)
   have t1:=Ga.gG na ha;have t2:=Ga.gG nb ha;have t3:=Ga.gG na nb;rw[sa] at t1;rw[sb] at t2;rw[hs] at t3;rw[hcw a b a3 a4 b3 b4,hcw b a b3 b4 a3 a4];unfold Ga.cw;revert t1 t2 t3;generalize Ga.ak (Ga.wv (xi Xs i).t (xi Xs a).t) (Ga.wv (xi Xs i).t (xi Xs i).f)=p1;generalize Ga.ak (Ga.wv (xi Xs i).t (xi Xs i).f) (Ga.wv (xi Xs i).t (xi Xs a).t)=p2;generalize Ga.ak (Ga.wv (xi Xs i).t (xi Xs b).t) (Ga.wv (xi Xs i).t (xi Xs i).f)=p3;generalize Ga.ak (Ga.wv (xi Xs i).t (xi Xs i).f) (Ga.wv (xi Xs i).t (xi Xs b).t)=p4;generalize Ga.ak (Ga.wv (xi Xs i).t (xi Xs a).t) (Ga.wv (xi Xs i).t (xi Xs b).t)=p5;generalize Ga.ak (Ga.wv (xi Xs i).t (xi Xs b).t) (Ga.wv (xi Xs i).t (xi Xs a).t)=p6;revert p1 p2 p3 p4 p5 p6;decide) j ((yr j).2 hjm)
 exact key
theorem SX.inj(h:SX rg l r Xs)(hB:BD Xs){i j:Nat}(hi:i<Xs.length)(hj:j<Xs.length)(he:cJ Xs i=cJ Xs j):i=j:=by
 obtain⟨i1,i2,i3⟩:=h.next hB hi
 obtain⟨j1,j2,j3⟩:=h.next hB hj
 rw[<-he] at j1 j2 j3;have hij:(xi Xs i).t=(xi Xs j).t:=i2.symm.trans j2;have si:=h.sd hi;have sj:=h.sd hj;have sn:=h.sd i1;rw[<-hij] at sj;rw[i2] at sn;have conv:∀k,k<Xs.length->(∀j,j<Xs.length->(xi Xs j).f=(xi Xs k).t->¬qP (xi Xs k) (xi Xs j) (xi Xs (cJ Xs i))<0)->(xi Xs k).t=(xi Xs i).t->∀c',Ga.Sd (ae rg) l (takes r) (xi Xs i).t c'->¬Ga.tC (Ga.wv (xi Xs k).f (xi Xs i).t) (Ga.wv (xi Xs i).t c') (Ga.wv (xi Xs i).t (xi Xs (cJ Xs i)).t)<0:=fun k _ hm Wy c' hc'=>by
  obtain⟨q,hq,q1,q2⟩:=h.find hc';have:=hm q hq (by rw[q1,Wy])
  rw[Ji,q1,q2,i2,Wy] at this;exact this
 have hf:=Ga.af9 h.nl si sj sn (conv i hi i3 rfl) (conv j hj j3 hij.symm);exact h.AE i j hi hj hf hij
end
end Go.Proofs.YtkjhhooecopolaaGreatDoor
namespace Go.Proofs.YtkjhhooecopolaaGreatDoor.Gb
open Ge Ga
theorem ag6{a a' l z:Pt}(ha:a≠(0,0))(ha':a'≠(0,0))(hl:l≠(0,0))(hz:z≠(0,0))(h1:cw a a' l=true)(h2:cw a' z l=true):cw a z l=true:=by
 have mn:∀{x y:Pt},x≠(0,0)->y≠(0,0)->ak x y=true->ak y x=true->False:=fun hx hy p q=>by
  have:=Gg hx hy p;rw[q] at this;cases this
 rw[kJ] at h1 h2⊢;rcases h1 with⟨p1,p2,p3⟩|⟨p1,p2⟩|⟨p1,p2,p3⟩<;>rcases h2 with⟨q1,q2,q3⟩|⟨q1,q2⟩|⟨q1,q2,q3⟩
 ·exact ag ⟨gQ hz ha' ha q1 p1,p2,q3⟩
 ·exact absurd p3 (fun k=>mn hl ha' k q2)
 ·exact absurd p3 (fun k=>mn hl ha' k q2)
 ·exact absurd (gQ ha' ha hl p1 p2) (fun k=>mn ha' hl k q2)
 ·exact ah (ag ⟨gQ hz ha' ha q1 p1,p2⟩)
 ·exact ah (ah ⟨gQ ha hl hz p2 q3,p2,q3⟩)
 ·exact ah (ah ⟨gQ ha hl hz p2 q3,p2,q3⟩)
 ·exact absurd p3 (fun k=>mn hl ha' k q2)
 ·exact absurd p3 (fun k=>mn hl ha' k q2)
section
variable{es:List (Pt×Pt)}{l:List Nd}
theorem bC.ok(hN:bC es l):0<aa l/\∀n∈l,OK (aa l) n:=
 ⟨VL fun n hn=>(hN.can n hn).pos,fun n hn=>⟨(hN.can n hn).pos,VM hn⟩⟩
theorem Nn(hN:bC es l){a b:Nd}(ha:a∈l)(hb:b∈l)(h:wv a b=(0,0)):a=b:=by
 rcases Mz (hN.can a ha) (hN.can b hb) with k|k|k
 ·have:=(mU (hN.can a ha) (hN.can b hb)).1 k;exact absurd h (kG this)
 ·exact k
 ·have:=(mU (hN.can b hb) (hN.can a ha)).1 k;rw[dU a b,h] at this;exact absurd rfl (kG this)
theorem oW(hN:bC es l){a b:Nd}(ha:a∈l)(hb:b∈l)(h:PM (aa l) a=PM (aa l) b):a=b:=
 Nn hN ha hb ((fO (bC.ok hN).1 ((bC.ok hN).2 a ha) ((bC.ok hN).2 b hb)).zero.1 (gS.2 h))
theorem Np(hN:bC es l){a f t:Nd}(ha:a∈l)(h:cL es l f t\/cL es l t f)(ho:on (dr (PM (aa l) a,PM (aa l) f)) (dr (PM (aa l) a,PM (aa l) t))=true):a=f\/a=t:=by
 have key:∀{f t:Nd},cL es l f t->on (dr (PM (aa l) a,PM (aa l) f)) (dr (PM (aa l) a,PM (aa l) t))=true->a=f\/a=t:=by
  intro f t h ho;obtain⟨hM,hO⟩:=bC.ok hN;obtain⟨hf,ht,hr⟩:=h.facts hN;have p1:=fO hM (hO a ha) (hO f hf);have p2:=fO hM (hO a ha) (hO t ht);have p0:=fO hM (hO f hf) (hO t ht);have q1:=fO hM (hO f hf) (hO a ha);have q2:=fO hM (hO a ha) (hO t ht);rw[jt] at ho;apply fV;intro hne;have hx:dr (PM (aa l) a,PM (aa l) f)≠(0,0):=fun e=>hne (ag (Nn hN ha hf (p1.zero.1 e)))
  have hy:dr (PM (aa l) a,PM (aa l) t)≠(0,0):=fun e=>hne (ah (Nn hN ha ht (p2.zero.1 e)))
  have dx:=Ga.cP hx;have dy:=Ga.cP hy;refine h.gap hN ha ⟨kQ hr ((p0.cr q1).2.2.1 ?_) ((p0.dt q1).1.1 ?_),kQ hr ((p0.cr q2).2.2.1 ?_) ((p0.dt q2).1.1 ?_)⟩
  ·generalize PM (aa l) a=A at*;generalize PM (aa l) f=F at*;generalize PM (aa l) t=T at*;have:cr (dr (F,T)) (dr (F,A))=cr (dr (A,F)) (dr (A,T)):=by unfold cr dr;grind
   omega
  ·generalize PM (aa l) a=A at*;generalize PM (aa l) f=F at*;generalize PM (aa l) t=T at*;have:dt (dr (F,T)) (dr (F,A))=dt (dr (A,F)) (dr (A,F))-dt (dr (A,F)) (dr (A,T)):=by unfold dt dr;grind
   omega
  ·generalize PM (aa l) a=A at*;generalize PM (aa l) f=F at*;generalize PM (aa l) t=T at*;have:cr (dr (F,T)) (dr (A,T))= -cr (dr (A,F)) (dr (A,T)):=by unfold cr dr;grind
   omega
  ·generalize PM (aa l) a=A at*;generalize PM (aa l) f=F at*;generalize PM (aa l) t=T at*;have:dt (dr (F,T)) (dr (A,T))=dt (dr (A,T)) (dr (A,T))-dt (dr (A,F)) (dr (A,T)):=by unfold dt dr;grind
   omega
 rcases h with h|h
 ·exact key h ho
 ·rw[vk] at ho;exact(key h ho).symm
end
def ph(M:Int)(x:PB):Sg:=(PM M x.f,PM M x.t)
def sS(M:Int)(Xs:List PB):List Sg:=Xs.map (ph M)
def iA(M:Int)(Xs:List PB)(s:Sg):Sg:=match(List.range Xs.length).find? (fun i=>decide (ph M (xi Xs i)=s)) with
 |some i=>ph M (xi Xs (cJ Xs i))
 |none=>s
section
variable{rg:List (List Pt)}{l:List Nd}{r:Int}{Xs:List PB}
theorem SX.AH(h:SX rg l r Xs){i j:Nat}(hi:i<Xs.length)(hj:j<Xs.length)(e:ph (aa l) (xi Xs i)=ph (aa l) (xi Xs j)):i=j:=by
 obtain⟨_,a1,a2⟩:=eF h.nl (h.sd hi).pc;obtain⟨_,b1,b2⟩:=eF h.nl (h.sd hj).pc;exact h.AE i j hi hj (oW h.nl a1 b1 (au Prod.fst e)) (oW h.nl a2 b2 (au Prod.snd e))
theorem jz(M:Int){s:Sg}(hs:s∈sS M Xs):∃i,i<Xs.length/\s=ph M (xi Xs i):=by
 obtain⟨x,hx,rfl⟩:=aN.1 hs;obtain⟨i,hi,e⟩:=iO.1 hx;exact⟨i,hi,by rw[<-e];unfold xi;rw[lS,aC hi];rfl⟩
theorem Ei(M:Int){i:Nat}(hi:i<Xs.length):ph M (xi Xs i)∈sS M Xs:=aN.2 ⟨_,gu hi,rfl⟩
theorem yt(h:SX rg l r Xs){i:Nat}(hi:i<Xs.length):iA (aa l) Xs (ph (aa l) (xi Xs i))=ph (aa l) (xi Xs (cJ Xs i)):=by
 unfold iA;cases hf:(List.range Xs.length).find? (fun j=>decide (ph (aa l) (xi Xs j)=ph (aa l) (xi Xs i))) with
 |none=>
  have:=aa6.1 hf i (qi.2 hi);simp at this
 |some j=>
  have hj:=qi.1 (List.mem_of_find?_eq_some hf);have e:=List.find?_some hf;simp only;rw[SX.AH h hj hi (gh e)]
theorem SX.wd(h:SX rg l r Xs)(hB:BD Xs):Wd (sS (aa l) Xs) (iA (aa l) Xs):=by
 have hN:=h.nl;obtain⟨hM,hO⟩:=bC.ok hN;have ml:∀{i},i<Xs.length->(xi Xs i).f∈l/\(xi Xs i).t∈l:=fun hi=>(eF hN (h.sd hi).pc).2
 have wn:∀{i},i<Xs.length->wv (xi Xs i).f (xi Xs i).t≠(0,0):=fun hi=>(eF hN (h.sd hi).pc).1
 have pd:∀{i},i<Xs.length->Pm (dr (ph (aa l) (xi Xs i))) (wv (xi Xs i).f (xi Xs i).t):=fun hi=>fO hM (hO _ (ml hi).1) (hO _ (ml hi).2)
 have nb:∀{i j},i<Xs.length->j<Xs.length->(xi Xs j).f=(xi Xs i).t->ai (wv (xi Xs j).f (xi Xs j).t) (neg (wv (xi Xs i).f (xi Xs i).t))=false:=fun{i j} hi hj e=>by
  have h1:=h.sd hi;have h2:=h.sd hj;rw[e] at h2⊢;have:=h1.pS hN h2;rw[dU (xi Xs i).f] at this;exact this
 have W1:∀{i j},i<Xs.length->j<Xs.length->(xi Xs j).f=(xi Xs i).t->cw (neg (wv (xi Xs i).f (xi Xs i).t)) (wv (xi Xs j).f (xi Xs j).t) (wv (xi Xs (cJ Xs i)).f (xi Xs (cJ Xs i)).t)=false:=fun{i j} hi hj e=>by
  obtain⟨n1,n2,n3⟩:=h.next hB hi
  have k:=n3 j hj e;rw[Ji] at k;have t:=Cc (a:=neg (wv (xi Xs i).f (xi Xs i).t)) (jc (wn hi)) (wn hj) (wn n1) (nb hi hj e) (nb hi n1 n2);rw[neg_neg] at t;cases q:cw (neg (wv (xi Xs i).f (xi Xs i).t)) (wv (xi Xs j).f (xi Xs j).t) (wv (xi Xs (cJ Xs i)).f (xi Xs (cJ Xs i)).t)
  ·rfl
  ·exact absurd (t.2 q) k
 refine⟨fun s hs e=>?_,fun s hs u hu=>?_,fun s hs u hu ho=>?_,fun s hs u hu ho=>?_,fun s hs u hu e k=>?_,fun s hs u hu e k=>?_,fun s hs u hu e=>?_,fun s hs=>?_,fun s hs u hu e=>?_,fun s hs u hu e=>?_,fun s hs u hu e=>?_⟩
 ·obtain⟨i,hi,rfl⟩:=jz _ hs;exact wn hi ((pd hi).zero.1 (gS.2 e))
 ·obtain⟨i,hi,rfl⟩:=jz _ hs;obtain⟨j,hj,rfl⟩:=jz _ hu;rw[(pd hi).aJ];rcases(h.sd hi).pc with q|q
  ·exact⟨fun _=>MO hM hO hN q (h.sd hj).pc,fun k=>absurd (q.facts hN).2.2 k⟩
  ·have hr:=(q.facts hN).2.2;refine⟨fun k=>?_,fun _=>MO hM hO hN q (h.sd hj).pc⟩
   rw[dU (xi Xs i).f] at hr;exact absurd hr (fun w=>D3 k w)
 ·obtain⟨i,hi,rfl⟩:=jz _ hs;obtain⟨j,hj,rfl⟩:=jz _ hu;rcases Np hN (ml hi).1 (h.sd hj).pc ho with q|q
  ·exact ag (au (PM (aa l)) q)
  ·exact ah (au (PM (aa l)) q)
 ·obtain⟨i,hi,rfl⟩:=jz _ hs;obtain⟨j,hj,rfl⟩:=jz _ hu;rcases Np hN (ml hi).2 (h.sd hj).pc ho with q|q
  ·exact ag (au (PM (aa l)) q)
  ·exact ah (au (PM (aa l)) q)
 ·obtain⟨i,hi,rfl⟩:=jz _ hs;obtain⟨j,hj,rfl⟩:=jz _ hu;have ef:(xi Xs i).f=(xi Xs j).f:=oW hN (ml hi).1 (ml hj).1 e;rw[(pd hi).ai (pd hj)] at k;have h2:=(h.sd hj).pc;rw[<-ef] at k h2;have et:=vY hN (h.sd hi).pc h2 k;exact au (fun i=>ph (aa l) (xi Xs i)) (h.AE i j hi hj ef et)
 ·obtain⟨i,hi,rfl⟩:=jz _ hs;obtain⟨j,hj,rfl⟩:=jz _ hu;have et:(xi Xs i).t=(xi Xs j).t:=oW hN (ml hi).2 (ml hj).2 e;rw[(pd hi).ai (pd hj)] at k;have h2:=(h.sd hj).pc.symm;rw[<-et] at k h2;have k2:ai (wv (xi Xs i).t (xi Xs i).f) (wv (xi Xs i).t (xi Xs j).f)=true:=by
   rw[dU (xi Xs i).f,dU (xi Xs j).f,bA,dI,dP,lh,ju];rw[bA] at k;omega
  have ef:=vY hN (h.sd hi).pc.symm h2 k2;exact au (fun i=>ph (aa l) (xi Xs i)) (h.AE i j hi hj ef et)
 ·obtain⟨i,hi,rfl⟩:=jz _ hs;obtain⟨j,hj,rfl⟩:=jz _ hu;have ef:(xi Xs i).f=(xi Xs j).t:=oW hN (ml hi).1 (ml hj).2 e;rw[(pd hi).ai (pd hj).neg];exact nb hj hi ef
 ·obtain⟨i,hi,rfl⟩:=jz _ hs;rw[yt h hi];obtain⟨n1,n2,_⟩:=h.next hB hi
  exact⟨Ei _ n1,au (PM (aa l)) n2⟩
 ·obtain⟨i,hi,rfl⟩:=jz _ hs;obtain⟨j,hj,rfl⟩:=jz _ hu;rw[yt h hi,yt h hj] at e;exact au (fun i=>ph (aa l) (xi Xs i)) (h.inj hB hi hj (SX.AH h (h.next hB hi).1 (h.next hB hj).1 e))
 ·obtain⟨i,hi,rfl⟩:=jz _ hs;obtain⟨j,hj,rfl⟩:=jz _ hu;have ef:(xi Xs j).f=(xi Xs i).t:=oW hN (ml hj).1 (ml hi).2 e;rw[yt h hi,(pd hi).neg.cw (pd hj) (pd (h.next hB hi).1)]
  exact W1 hi hj ef
 ·obtain⟨i,hi,rfl⟩:=jz _ hs;obtain⟨j,hj,rfl⟩:=jz _ hu;have et:(xi Xs j).t=(xi Xs i).t:=oW hN (ml hj).2 (ml hi).2 e;obtain⟨n1,n2,_⟩:=h.next hB hi
  rw[yt h hi,(pd hi).neg.cw (pd hj).neg (pd n1)];have Wz:=jc (wn hi);have WA:=jc (wn hj);cases q:cw (neg (wv (xi Xs i).f (xi Xs i).t)) (neg (wv (xi Xs j).f (xi Xs j).t)) (wv (xi Xs (cJ Xs i)).f (xi Xs (cJ Xs i)).t)
  ·rfl
  ·exfalso;by_cases hij:i=j
   ·subst hij;rw[kJ,qq] at q;simp at q
   have hsm:ai (neg (wv (xi Xs i).f (xi Xs i).t)) (neg (wv (xi Xs j).f (xi Xs j).t))=false:=by
    cases k:ai (neg (wv (xi Xs i).f (xi Xs i).t)) (neg (wv (xi Xs j).f (xi Xs j).t))
    ·rfl
    ·rw[<-dU,<-dU] at k;have h2:=(h.sd hj).pc.symm;rw[et] at k h2;exact absurd (h.AE i j hi hj (vY hN (h.sd hi).pc.symm h2 k) et.symm) hij
   have a1:=(h.sd hi).yj hN;have a2:=(h.sd hj).yj hN;rw[et] at a2;have e1:wv (xi Xs i).t (xi Xs j).f=neg (wv (xi Xs j).f (xi Xs j).t):=by rw[<-et];exact dU _ _
   rw[dU (xi Xs i).f] at a1;rw[e1] at a2;obtain⟨z,hz,lD⟩:=QY Wz WA hsm a1.1 a1.2 a2.1 a2.2 (wn n1) (nb hi n1 n2) (nb hj n1 (n2.trans et.symm));obtain⟨m,hm,Nq⟩:=D4 hN (ml hi).2 hz;obtain⟨v,hv,v1,v2⟩:=h.find hm;have hw1:=W1 hi hv v1;have hvn:=wn hv;have e2:wv (xi Xs i).t m=wv (xi Xs v).f (xi Xs v).t:=by rw[v1,v2]
   rw[e2] at Nq;rcases lD with k|k
   ·rw[IY (jU Nq)] at k;rw[hw1] at k;cases k
   ·rw[IY (jU Nq)] at k;have:=ag6 Wz WA (wn n1) hvn q k;rw[hw1] at this;cases this
end
def lK(M:Int)(es:List (Pt×Pt)):List (Pt×Pt):=es.map fun e=>(aD M e.1,aD M e.2)
theorem wG{M:Int}(hM:0<M){u v:Pt}(h:aD M u=aD M v):u=v:=by
 unfold aD at h;have x1:=au Prod.fst h;have x2:=au Prod.snd h;simp only at x1 x2;exact bX (yZ (by omega) x1) (yZ (by omega) x2)
theorem ag8{M:Int}(hM:0<M)(g:List Pt):dY (g.map (aD M))=lK M (dY g):=by
 have e:closing (g.map (aD M))=lK M (closing g):=by
  cases g with
  |nil=>rfl
  |cons a r=>
   unfold lK closing;show(aD M a::r.map (aD M)).zip (r.map (aD M)++[aD M a])=_;have e1:aD M a::r.map (aD M)=(a::r).map (aD M):=rfl;have e2:r.map (aD M)++[aD M a]=(r++[a]).map (aD M):=by simp
   rw[e1,e2,List.zip_map];rfl
 unfold dY;rw[e];unfold lK;rw[List.filter_map];congr 1;refine List.filter_congr fun x _=>?_
 simp only[Function.comp_apply];refine decide_eq_decide.2 ⟨fun h k=>h (by rw[k]),fun h k=>h (wG hM k)⟩
theorem AJ{M:Int}(hM:0<M)(rg:List (List Pt)):ae (rg.map (·.map (aD M)))=lK M (ae rg):=by
 induction rg with
 |nil=>rfl
 |cons g rg ih=>
  have e1:ae ((g::rg).map (·.map (aD M)))=dY (g.map (aD M))++ae (rg.map (·.map (aD M))):=by simp[ae]
  have e2:ae (g::rg)=dY g++ae rg:=by simp[ae]
  rw[e1,e2,ag8 hM,ih];unfold lK;rw[ja]
theorem ag9{u u' v v':Pt}(h:Pm u u')(k:Pm v v'):right u v=right u' v':=by
 have c:=h.cr k;obtain⟨p,q,hp,hq,e1,_⟩:=h;obtain⟨p',q',hp',hq',je,_⟩:=k;have a:=iJ hp hq e1;have b:=iJ hp' hq' je;unfold right;by_cases h1:u.1<=0/\0<v.1/\0<cr u v
 ·rw[aj h1,aj (by omega)]
 ·rw[af h1,af (by omega:¬(u'.1<=0/\0<v'.1/\0<cr u' v'))]
  by_cases h2:0<u.1/\v.1<=0/\cr u v<0
  ·rw[aj h2,aj (by omega)]
  ·rw[af h2,af (by omega)]
theorem WB(F:Pt->Pt->Int)(g:Pt×Pt->Pt×Pt)(es:List (Pt×Pt)):total F (es.map g)=total (fun u v=>F (g (u,v)).1 (g (u,v)).2) es:=by
 unfold total;rw[fL];rfl
section
variable{M:Int}
theorem pU(hM:0<M){a:Nd}(ha:OK M a)(u:Pt):Pm (rl (n1 (PM M a)) (aD M u)) (rl a u):=by
 obtain⟨k,hk,ek⟩:=IZ hM ha;rw[cd,ek];exact uz hk _
theorem WC(hM:0<M){a:Nd}(ha:OK M a)(es:List (Pt×Pt)):PP (lK M es) (n1 (PM M a))=PP es a:=by
 unfold PP lK;rw[WB];exact nD fun e _=>ag9 (pU hM ha e.1) (pU hM ha e.2)
theorem WD(hM:0<M){a:Nd}(ha:OK M a)(es:List (Pt×Pt)){Q Q':Pt->Bool}(hQ:∀z z',Pm z z'->Q z=Q' z'):AS (lK M es) (n1 (PM M a)) Q=AS es a Q':=by
 unfold AS lK;rw[WB];refine nD fun e _=>?_
 have h1:=pU hM ha e.1;have h2:=pU hM ha e.2;unfold Ga.arm;rw[h1.on h2,hQ _ _ h1,hQ _ _ h2]
theorem aha{z z':Pt}(h:Pm z z'):nz z=nz z':=by
 unfold nz;exact decide_eq_decide.2 (not_congr h.zero)
theorem Nr(hM:0<M){a:Nd}(ha:OK M a)(es:List (Pt×Pt)){d d':Pt}(hd:Pm d d'):bg (lK M es) (n1 (PM M a)) d=bg es a d'/\bH (lK M es) (n1 (PM M a)) d=bH es a d':=by
 have e1:bg (lK M es) (n1 (PM M a)) d=bg es a d':=by
  unfold bg;rw[WC hM ha,WD hM ha es (Q':=fun z=>nz z&&ak z d')]
  intro z z' hz;rw[aha hz,hz.ak hd]
 refine⟨e1,?_⟩;unfold bH;rw[e1,WD hM ha es (Q':=fun z=>ai z d')]
 intro z z' hz;exact hz.ai hd
end
section
variable{rg:List (List Pt)}{l:List Nd}
theorem Ej(hN:bC (ae rg) l){f t:Nd}(h:cL (ae rg) l f t):rF (ae (rg.map (·.map (aD (aa l))))) (n1 (PM (aa l) f)) (n1 (PM (aa l) t)):=by
 obtain⟨hM,hO⟩:=bC.ok hN;obtain⟨hf,ht,hr⟩:=h.facts hN;have hP:=h.kK hN;have p0:=fO hM (hO f hf) (hO t ht);rw[AJ hM];have mem:∀e∈lK (aa l) (ae rg),∃e0∈ae rg,e=(aD (aa l) e0.1,aD (aa l) e0.2):=fun e he=>by
  obtain⟨e0,h0,rfl⟩:=aN.1 he;exact⟨e0,h0,rfl⟩
 have cc:∀z:Pt,mJ f t (wv f t) z->mJ (n1 (PM (aa l) f)) (n1 (PM (aa l) t)) (dr (PM (aa l) f,PM (aa l) t)) (aD (aa l) z):=fun z hz hl=>by
  have q1:=pU hM (hO f hf) z;have q2:=pU hM (hO t ht) z;have:=hz ((p0.cr q1).2.2.1 hl);have a:=(p0.dt q1).1;have b:=(p0.dt q2).2.1;omega
 refine⟨by show(0:Int)<1;decide,by show(0:Int)<1;decide,by rw[jH];exact p0.aJ.2 hr,fun e he=>?_,fun e he=>?_⟩
 ·obtain⟨e0,h0,rfl⟩:=mem e he;rw[jH];exact VQ hM (hO f hf) (hO t ht) (hP.s e0 h0)
 ·obtain⟨e0,h0,rfl⟩:=mem e he;rw[jH];exact⟨cc _ (hP.c e0 h0).1,cc _ (hP.c e0 h0).2⟩
theorem Jk(hN:bC (ae rg) l){f t:Nd}(h:cL (ae rg) l f t):
  RR (ae (rg.map (·.map (aD (aa l))))) (n1 (PM (aa l) f)) (n1 (PM (aa l) t))=RR (ae rg) f t/\LL (ae (rg.map (·.map (aD (aa l))))) (n1 (PM (aa l) f)) (n1 (PM (aa l) t))=LL (ae rg) f t:=by
 obtain⟨hM,hO⟩:=bC.ok hN;obtain⟨hf,ht,_⟩:=h.facts hN;have a:=rG (Ej hN h);have b:=rG (h.kK hN);have c:=Nr hM (hO f hf) (ae rg) (fO hM (hO f hf) (hO t ht));rw[AJ hM] at a⊢;rw[jH,c.1,c.2] at a;exact⟨a.1.trans b.1.symm,a.2.trans b.2.symm⟩
end
theorem Ek{α:Type}(w:α->Int)(p q:α->Bool):∀(l:List α),bV w p (l.filter q)=bV w (fun x=>q x&&p x) l
 |[]=>rfl
 |x::l=>by
  have ih:=Ek w p q l;rw[qL];cases h:q x
  ·rw[pF (by simp[h]),ih]
   simp
  ·rw[oc h,qL,ih];simp
theorem Ns{α:Type}(w:α->Int){p q:α->Bool}:∀{l:List α},(∀x∈l,w x≠0->p x=q x)->bV w p l=bV w q l
 |[],_=>rfl
 |x::l,h=>by
  rw[qL,qL,Ns w fun y hy=>h y (aT _ hy)]
  congr 1;by_cases hw:w x=0
  ·rw[hw];split<;>split<;>rfl
  ·rw[h x (by simp) hw]
def dQ(n:N3)(a b:Pt):Prop:=(rl n a).1<=0/\0<(rl n b).1
theorem AK{n:N3}{a b:Pt}(h:dQ n a b):kW n (a,b)=(rl n b).1-(rl n a).1/\kY n (a,b)= -cr (rl n a) (rl n b)/\kS n (a,b)=(rl n b).2-(rl n a).2/\kW n (b,a)=(rl n b).1-(rl n a).1/\kY n (b,a)= -cr (rl n a) (rl n b)/\kS n (b,a)=(rl n b).2-(rl n a).2:=by
 have h':¬((rl n b).1<=0/\0<(rl n a).1):=fun k=>by unfold dQ at h;omega
 refine⟨aj h,aj h,aj h,?_,?_,?_⟩
 ·exact(af h').trans (aj h)
 ·exact(af h').trans (aj h)
 ·exact(af h').trans (aj h)
theorem WE{n:N3}{e:Pt×Pt}(h:wt n e≠0):dQ n e.1 e.2\/dQ n e.2 e.1:=by
 by_cases h1:(rl n e.1).1<=0/\0<(rl n e.2).1
 ·exact ag h1
 ·by_cases h2:(rl n e.2).1<=0/\0<(rl n e.1).1
  ·exact ah h2
  ·exact absurd ((af h1).trans (af h2)) h
theorem WG{n:N3}{e:Pt×Pt}(h:kY n e<0):dQ n e.1 e.2\/dQ n e.2 e.1:=by
 by_cases h1:(rl n e.1).1<=0/\0<(rl n e.2).1
 ·exact ag h1
 ·by_cases h2:(rl n e.2).1<=0/\0<(rl n e.1).1
  ·exact ah h2
  ·have:kY n e=0:=(af h1).trans (af h2);omega
theorem El(n:N3)(e:Pt×Pt):kW n (rv e)=kW n e/\kY n (rv e)=kY n e/\kS n (rv e)=kS n e:=by
 by_cases h1:dQ n e.1 e.2
 ·obtain⟨a,b,c,d,e1,f⟩:=AK h1;exact⟨d.trans a.symm,e1.trans b.symm,f.trans c.symm⟩
 ·by_cases h2:dQ n e.2 e.1
  ·obtain⟨a,b,c,d,e1,f⟩:=AK h2;exact⟨a.trans d.symm,b.trans e1.symm,c.trans f.symm⟩
  ·exact⟨((af h2).trans (af h1)).trans ((af h1).trans (af h2)).symm,((af h2).trans (af h1)).trans ((af h1).trans (af h2)).symm,((af h2).trans (af h1)).trans ((af h1).trans (af h2)).symm⟩
theorem wH(n:N3)(e e':Pt×Pt):aO n (rv e) e'=aO n e e'/\aO n e' (rv e)=aO n e' e:=by
 unfold aO;rw[(El n e).1,(El n e).2.1,(El n e).2.2];exact⟨rfl,rfl⟩
theorem Jl{n:N3}{x y:Pt×Pt}(hy:kY n y<0)(h:aO n y x=false):kY n x<0:=by
 have h':¬_:=fun k=>by rw[Ax.2 k] at h;cases h
 have px:=sG n x;have py:=sG n y;have q1:=(Ga.neg_mul (z:=kY n y) px).2 hy;have q2:=Ga.neg_mul (z:=kY n x) py;rw[dX] at q1 q2;exact q2.1 (by omega)
theorem WH{n:N3}{a b f t:Pt}(h:dQ n a b)(k:dQ n f t)(la:cr (dr (f,t)) (dr (f,a))=0)(lb:cr (dr (f,t)) (dr (f,b))=0)(_hn:0<n.2.2):aO n (a,b) (f,t)=false/\aO n (f,t) (a,b)=false:=by
 obtain⟨a1,a2,a3,_⟩:=AK h;obtain⟨b1,b2,b3,_⟩:=AK k;have e:∀u v:Pt,((rl n v).1-(rl n u).1=n.2.2*(dr (u,v)).1)/\((rl n v).2-(rl n u).2=n.2.2*(dr (u,v)).2):=fun u v=>by
  unfold rl rel dr;simp only;constructor<;>grind
 have s1:cr (dr (f,t)) (dr (a,b))=0:=by
  have:cr (dr (f,t)) (dr (a,b))=cr (dr (f,t)) (dr (f,b))-cr (dr (f,t)) (dr (f,a)):=by unfold cr dr;grind
  omega
 have hS:kS n (a,b)*kW n (f,t)=kS n (f,t)*kW n (a,b):=by
  rw[a1,a3,b1,b3,(e a b).1,(e a b).2,(e f t).1,(e f t).2];unfold cr at s1;have:n.2.2*(dr (a,b)).2*(n.2.2*(dr (f,t)).1)-n.2.2*(dr (f,t)).2*(n.2.2*(dr (a,b)).1)=n.2.2*n.2.2*((dr (f,t)).1*(dr (a,b)).2-(dr (f,t)).2*(dr (a,b)).1):=by grind
  rw[s1] at this;omega
 have hY:kY n (a,b)*kW n (f,t)=kY n (f,t)*kW n (a,b):=by
  rw[a1,a2,b1,b2,(e a b).1,(e f t).1];have c1:cr (rl n a) (rl n b)=n.2.2*cr (rl n a) (dr (a,b)):=by
   have:cr (rl n a) (rl n b)=(rl n a).1*((rl n b).2-(rl n a).2)-(rl n a).2*((rl n b).1-(rl n a).1):=by unfold cr;grind
   rw[this,(e a b).1,(e a b).2];unfold cr;grind
  have c2:cr (rl n f) (rl n t)=n.2.2*cr (rl n f) (dr (f,t)):=by
   have:cr (rl n f) (rl n t)=(rl n f).1*((rl n t).2-(rl n f).2)-(rl n f).2*((rl n t).1-(rl n f).1):=by unfold cr;grind
   rw[this,(e f t).1,(e f t).2];unfold cr;grind
  have c3:cr (rl n a) (dr (f,t))=cr (rl n f) (dr (f,t)):=by
   have:cr (rl n a) (dr (f,t))-cr (rl n f) (dr (f,t))=((rl n a).1-(rl n f).1)*(dr (f,t)).2-((rl n a).2-(rl n f).2)*(dr (f,t)).1:=by unfold cr;grind
   rw[(e f a).1,(e f a).2] at this;have w:n.2.2*(dr (f,a)).1*(dr (f,t)).2-n.2.2*(dr (f,a)).2*(dr (f,t)).1= -(n.2.2*cr (dr (f,t)) (dr (f,a))):=by unfold cr;grind
   rw[w,la] at this;simp at this;omega
  have c4:cr (rl n a) (dr (a,b))*(dr (f,t)).1=cr (rl n a) (dr (f,t))*(dr (a,b)).1:=by
   have:cr (rl n a) (dr (a,b))*(dr (f,t)).1-cr (rl n a) (dr (f,t))*(dr (a,b)).1=(rl n a).1*cr (dr (f,t)) (dr (a,b)):=by unfold cr;grind
   rw[s1] at this;simp at this;omega
  rw[c1,c2];have x1: -(n.2.2*cr (rl n a) (dr (a,b)))*(n.2.2*(dr (f,t)).1)= -(n.2.2*n.2.2*(cr (rl n a) (dr (a,b))*(dr (f,t)).1)):=by grind
  have x2: -(n.2.2*cr (rl n f) (dr (f,t)))*(n.2.2*(dr (a,b)).1)= -(n.2.2*n.2.2*(cr (rl n f) (dr (f,t))*(dr (a,b)).1)):=by grind
  rw[x1,x2,c4,c3]
 unfold aO;rw[hS,hY];simp
theorem Jm{n:N3}{x y z:Pt×Pt}(h1:aO n x y=false)(h2:aO n y x=false):aO n z x=aO n z y/\aO n x z=aO n y z:=by
 have a:=uA n;constructor
 ·refine lg.2 ⟨fun k=>?_,fun k=>?_⟩
  ·rcases a z x y k with q|q
   ·rw[h2] at q;cases q
   ·exact q
  ·rcases a z y x k with q|q
   ·rw[h1] at q;cases q
   ·exact q
 ·refine lg.2 ⟨fun k=>?_,fun k=>?_⟩
  ·rcases a x z y k with q|q
   ·exact q
   ·rw[h1] at q;cases q
  ·rcases a y z x k with q|q
   ·exact q
   ·rw[h2] at q;cases q
theorem hts{rg:List (List Pt)}{n:N3}(hn:0<n.2.2){a b:Pt}(h:dQ n a b)(hP:rF (ae rg) (n1 a) (n1 b)):
  RR (ae rg) (n1 a) (n1 b)=bV (wt n) (fun e=>aO n e (a,b)) (ae rg)/\LL (ae rg) (n1 a) (n1 b)=bV (wt n) (fun e=> !aO n (a,b) e) (ae rg):=by
 obtain⟨k1,k2,k3,_⟩:=AK h;have hw:∀z:Pt,(wv n (n1 z)).1=(rl n z).1:=fun z=>by unfold wv rl rel n1;simp
 have hD:0<(wv (n1 a) (n1 b)).1:=by
  rw[jH];have:(rl n b).1-(rl n a).1=n.2.2*(dr (a,b)).1:=by unfold rl rel dr;simp only;grind
  unfold dQ at h;exact(aQ hn).1 (by omega)
 have hZ:=VW (a:=a) (b:=b) hn (show(0:Int)<1 by decide) (show(0:Int)<1 by decide) h.1 h.2 (by rw[hw];exact h.1) (by rw[hw];exact h.2) hD (by unfold lam;rw[cd,(gS (s:=(a,a))).2 rfl];exact(zg _).2.1) (by unfold lam;rw[cd,jH];unfold cr;grind)
 rw[<-k1,<-k2,<-k3] at hZ;obtain⟨r1,r2⟩:=V4 (e0:=(a,b)) hn hP hZ (by rw[hw];exact h.1) (by rw[hw];exact h.2)
 refine⟨r1,?_⟩;have e:LL (ae rg) (n1 a) (n1 b)=RR (ae rg) (n1 a) (n1 b)+total (fb (bf (n1 a) (n1 b)) (wv (n1 a) (n1 b))) (ae rg):=rfl;rw[e,r1,r2];refine(vZ _ fun x _=>?_).symm
 cases q1:aO n x (a,b)<;>cases q2:aO n (a,b) x
 ·rfl
 ·rfl
 ·rfl
 ·have:=wh n _ _ _ q1 q2;rw[qM] at this;cases this
section
variable{rg:List (List Pt)}{l:List Nd}
theorem ahb(hN:bC (ae rg) l){inn:Int->Bool}{n:Nd}(hn:n∈l)(hin:inn (PP (ae rg) n)=true){a b:Nd}(hs:Sd (ae rg) l inn a b)(hc:dQ (n1 (PM (aa l) n)) (PM (aa l) b) (PM (aa l) a))(hy:kY (n1 (PM (aa l) n)) (PM (aa l) b,PM (aa l) a)<0):
  ∃f t,Sd (ae rg) l inn f t/\dQ (n1 (PM (aa l) n)) (PM (aa l) f) (PM (aa l) t)/\kY (n1 (PM (aa l) n)) (PM (aa l) f,PM (aa l) t)<0/\aO (n1 (PM (aa l) n)) (PM (aa l) b,PM (aa l) a) (PM (aa l) f,PM (aa l) t)=true:=by
 obtain⟨hM,hO⟩:=bC.ok hN;have pV:0<(n1 (PM (aa l) n)).2.2:=by show(0:Int)<1;decide
 have AL:∀{x y:Nd},x∈l->y∈l->(dQ (n1 (PM (aa l) n)) (PM (aa l) x) (PM (aa l) y)↔(wv n x).1<=0/\0<(wv n y).1):=fun{x y} hx hy=>by
  obtain⟨p,q,hp,hq,e1,_⟩:=fO hM (hO n hn) (hO x hx);obtain⟨p',q',hp',hq',je,_⟩:=fO hM (hO n hn) (hO y hy);have g1:=iJ hp hq e1;have g2:=iJ hp' hq' je;unfold dQ;rw[cd,cd];omega
 have hpc:cL (ae rg) l b a/\inn (LL (ae rg) b a)=false:=by
  obtain⟨_,hal,hbl⟩:=eF hN hs.pc;have hw:=(AL hbl hal).1 hc;rcases hs with⟨q,_⟩|⟨q,q1,q2⟩
  ·exfalso;have hr:=(q.facts hN).2.2;have ca:=(hN.can a hal).pos;have cb:=(hN.can b hbl).pos;obtain⟨m1,_⟩:=D7 n a b;have cn:=(hN.can n hn).pos;have h1:n.2.2*(wv a b).1<0:=by
    have x1:=KM hw.1 ca;have x2:=aR hw.2 cb;rw[dX] at x1 x2;omega
   have:=(Ga.neg_mul (z:=(wv a b).1) cn).1 h1;have:=tU hr;omega
  ·exact⟨q,q2⟩
 obtain⟨hpc,hout⟩:=hpc;obtain⟨e1,e2⟩:=Jk hN hpc;obtain⟨r1,r2⟩:=hts pV hc (Ej hN hpc);rw[<-e2,r2] at hout;rw[<-WC hM (hO n hn),<-AJ hM,MV] at hin;generalize hE:ae (rg.map (·.map (aD (aa l))))=E at*
 generalize WI:n1 (PM (aa l) n)=N at*;generalize hV:((PM (aa l) b,PM (aa l) a):Pt×Pt)=V at*;have k1:bV (wt N) (fun e=>decide (kY N e<0)) E=bV (wt N) (fun e=> !aO N V e) E+bV (wt N) (fun e=>decide (kY N e<0)) (E.filter fun e=>aO N V e):=by
  rw[Ek];refine vZ _ fun x _=>?_
  cases q:aO N V x
  ·rw[eN (Jl hy q)];rfl
  ·cases decide (kY N x<0)<;>rfl
 rw[k1] at hin;obtain⟨z,hz,hT,hb,ha⟩:=VT (wh N) (qM N) (uA N) (wt N) (fun k=>inn (bV (wt N) (fun e=> !aO N V e) E+k)) (by simpa using hout) (E.filter fun e=>aO N V e) _ (fun e=>decide (kY N e<0)) (fun x y hy hyx=>eN (Jl (gh hy) hyx)) (ay _) hin
 obtain⟨hzE,Nt⟩:=eY.1 hz;have hT':=gh hT;have k2:bV (wt N) (fun e=>aO N e z) E=bV (wt N) (fun e=> !aO N V e) E+bV (wt N) (fun e=>aO N e z) (E.filter fun e=>aO N V e):=by
  rw[Ek];refine vZ _ fun x _=>?_
  cases q:aO N V x
  ·rcases uA N V z x Nt with w|w
   ·rw[w];rfl
   ·rw[w] at q;cases q
  ·cases aO N x z<;>rfl
 have k3:bV (wt N) (fun e=> !aO N e z&& !aO N z e) (E.filter fun e=>aO N V e)=bV (wt N) (fun e=> !aO N e z&& !aO N z e) E:=by
  rw[Ek];refine I2 _ fun x _=>?_
  cases q:aO N V x
  ·rcases uA N V z x Nt with w|w
   ·rw[w];rfl
   ·rw[w] at q;cases q
  ·rfl
 rw[<-k2] at hb;rw[k3,<-Int.add_assoc,<-k2] at ha;have om:z∈lK (aa l) (ae rg):=by rw[<-AJ hM,hE];exact hzE
 obtain⟨z0,hz0,hzz⟩:=aN.1 om;have Nu:∀u v:Pt,dQ N (aD (aa l) u) (aD (aa l) v)↔(rl n u).1<=0/\0<(rl n v).1:=fun u v=>by
  obtain⟨p,q,hp,hq,e1,_⟩:=pU hM (hO n hn) u;obtain⟨p',q',hp',hq',je,_⟩:=pU hM (hO n hn) v;have g1:=iJ hp hq e1;have g2:=iJ hp' hq' je;unfold dQ;rw[<-WI];omega
 obtain⟨u,v,Em,En⟩:∃u v,((u=z0.1/\v=z0.2)\/(u=z0.2/\v=z0.1))/\dQ N (aD (aa l) u) (aD (aa l) v):=by
  rcases WG hT' with q|q
  ·rw[<-hzz] at q;exact⟨z0.1,z0.2,ag ⟨rfl,rfl⟩,q⟩
  ·rw[<-hzz] at q;exact⟨z0.2,z0.1,ah ⟨rfl,rfl⟩,q⟩
 have Eo:=(Nu u v).1 En;obtain⟨f,t,hft,g1,g2,g3,la,lb⟩:=MS hN hn hz0 Em Eo.1 Eo.2;obtain⟨hfl,htl,_⟩:=hft.facts hN;have oV:dQ N (PM (aa l) f) (PM (aa l) t):=by rw[<-WI] at*;exact(AL hfl htl).2 ⟨g1,g2⟩
 have p0:=fO hM (hO f hfl) (hO t htl);have pG:∀w,lam (wv f t) f w=0->cr (dr (PM (aa l) f,PM (aa l) t)) (dr (PM (aa l) f,aD (aa l) w))=0:=fun w hw=>by
  have:=pU hM (hO f hfl) w;rw[cd] at this;exact(p0.cr this).2.2.2 hw
 obtain⟨s1,s2⟩:=WH En oV (pG u la) (pG v lb) pV;have hzl:aO N z (PM (aa l) f,PM (aa l) t)=false/\aO N (PM (aa l) f,PM (aa l) t) z=false:=by
  rcases Em with⟨rfl,rfl⟩|⟨rfl,rfl⟩
  ·rw[<-hzz];exact⟨s1,s2⟩
  ·have e:z=rv (aD (aa l) z0.2,aD (aa l) z0.1):=by rw[<-hzz];rfl
   rw[e,(wH N _ _).1,(wH N _ _).2];exact⟨s1,s2⟩
 have hP:=Ej hN hft;obtain⟨i1,i2⟩:=Jk hN hft;obtain⟨j1,j2⟩:=hts pV oV (by rw[hE] at hP⊢;exact hP)
 rw[hE] at i1 i2 j1 j2;have cg:∀x,aO N x (PM (aa l) f,PM (aa l) t)=aO N x z/\aO N (PM (aa l) f,PM (aa l) t) x=aO N z x:=fun x=>⟨(Jm hzl.1 hzl.2).1.symm,(Jm hzl.1 hzl.2).2.symm⟩
 refine⟨f,t,ag ⟨hft,?_,?_⟩,oV,Jl hT' hzl.1,?_⟩
 ·rw[<-i2,j2];have:bV (wt N) (fun e=> !aO N (PM (aa l) f,PM (aa l) t) e) E=bV (wt N) (fun e=>aO N e z) E+bV (wt N) (fun e=> !aO N e z&& !aO N z e) E:=by
   refine vZ _ fun x _=>?_
   rw[(cg x).2];cases q1:aO N x z<;>cases q2:aO N z x
   ·rfl
   ·rfl
   ·rfl
   ·have:=wh N _ _ _ q1 q2;rw[qM] at this;cases this
  rw[this];exact ha
 ·rw[<-i1,j1,I2 _ fun x _=>(cg x).1]
  exact hb
 ·rw[(cg V).1];exact Nt
end
end Go.Proofs.YtkjhhooecopolaaGreatDoor.Gb

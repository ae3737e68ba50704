import Derived.Test.YtkjhhooecopolaaGreatDoorYz27
set_option maxRecDepth 100000
set_option maxHeartbeats 4000000
namespace Go.Proofs.YtkjhhooecopolaaGreatDoor
open Go.RowKit
open Ge
structure SX(rg:List (List Pt))(l:List Nd)(r:Int)(Xs:List PB):Prop where
 nl:Ga.bX (ag rg) l
 mem:∀x∈Xs,Ga.Sd (ag rg) l (takes r) x.f x.t
 all:∀a b,Ga.Sd (ag rg) l (takes r) a b->∃x∈Xs,x.f=a/\x.t=b
 BN:∀i j,i<Xs.length->j<Xs.length->(xi Xs i).f=(xi Xs j).f->(xi Xs i).t=(xi Xs j).t->i=j
theorem JM{r:Int}{es:List Ed}{p x:PB}(hx:x∈fC r es p):(x=p/\takes r (qs es p.f p.t)=true/\takes r (oJ es p.f p.t)=false)\/(x=p.rev/\takes r (oJ es p.f p.t)=true/\takes r (qs es p.f p.t)=false):=by
 unfold fC at hx;split at hx
 ·rename_i h
  exact ae ⟨by simpa using hx,h⟩
 ·split at hx
  ·rename_i h
   exact af ⟨by simpa using hx,h⟩
  ·simp at hx
theorem OI{rg:List (List Pt)}{l:List Nd}{r:Int}{Ps:List PB}(hl:l.map ay=gq (ag rg))(hc:∀n∈l,Ge.Can n)(h:oI (ag rg) l Ps):SX rg l r (oM r (ag rg) Ps):=by
 have hN:Ga.bX (ag rg) l:=⟨hl,hc,fun e he=>Mt he⟩
 have hv:∀x∈Ps.flatMap (fC r (ag rg)),cU x:=fun x hx=>by
  obtain⟨p,hp,vB⟩:=uq.1 hx;exact Ov (h.v p hp) vB
 obtain⟨hperm,_⟩:=Yi (Ps.flatMap (fC r (ag rg))) hv;have hpc:∀p∈Ps,Ga.di (ag rg) l p.f p.t:=fun p hp=>by
  obtain⟨e,he,_,hq⟩:=h.ap.mem p hp;exact⟨e,he,hq⟩
 have hts:∀p∈Ps,oJ (ag rg) p.f p.t=Ga.RR (ag rg) p.f p.t/\qs (ag rg) p.f p.t=Ga.LL (ag rg) p.f p.t:=fun p hp=>ai4 _ (h.v p hp).cf.pos (h.v p hp).ct.pos
 refine⟨hN,fun x hx=>?_,fun a b hab=>?_,fun i j hi hj hf ht=>?_⟩
 ·obtain⟨p,hp,vB⟩:=uq.1 ((hperm.mem_iff).1 hx);obtain⟨t1,t2⟩:=hts p hp;rcases JM vB with⟨rfl,h1,h2⟩|⟨rfl,h1,h2⟩
  ·rw[t2] at h1;rw[t1] at h2;exact ae ⟨hpc _ hp,h1,h2⟩
  ·rw[t1] at h1;rw[t2] at h2;exact af ⟨hpc _ hp,h1,h2⟩
 ·rcases hab with⟨⟨e,he,hq⟩,h1,h2⟩|⟨⟨e,he,hq⟩,h1,h2⟩
  ·obtain⟨p,hp,kN⟩:=h.ap.all e he _ hq;have e1:p.f=a:=aw Prod.fst kN;have e2:p.t=b:=aw Prod.snd kN;obtain⟨t1,t2⟩:=hts p hp;rw[e1,e2] at t1 t2;refine⟨p,(hperm.mem_iff).2 (uq.2 ⟨p,hp,?_⟩),e1,e2⟩;unfold fC;rw[e1,e2,t1,t2,ah ⟨h1,h2⟩];simp
  ·obtain⟨p,hp,kN⟩:=h.ap.all e he _ hq;have e1:p.f=b:=aw Prod.fst kN;have e2:p.t=a:=aw Prod.snd kN;obtain⟨t1,t2⟩:=hts p hp;rw[e1,e2] at t1 t2;refine⟨p.rev,(hperm.mem_iff).2 (uq.2 ⟨p,hp,?_⟩),e2,e1⟩;unfold fC;rw[e1,e2,t1,t2,aa (by rw[h2];simp),ah ⟨h1,h2⟩]
   simp
 ·have hp0:(Ps.flatMap (fC r (ag rg))).Pairwise fun x y=>¬(x.f=y.f/\x.t=y.t):=by
   rw[List.pairwise_flatMap];refine⟨fun p hp=>?_,?_⟩
   ·unfold fC;split
    ·exact anY _ _
    ·split
     ·exact anY _ _
     ·exact List.Pairwise.nil
   ·refine qG (fun{p q} hp hq hlt x hx y hy=>?_) h.pR
    have lp:=JB h hl p hp;have lq:=JB h hl q hq;have asym:∀{u v:Nd},Ge.Can u->Ge.Can v->lt (ay u) (ay v)->¬lt (ay v) (ay u):=fun hu hv a b=>lt_irrefl _ (lt_trans (cS hu) (cS hv) (cS hu) a b)
    have hne:¬(p.f=q.f/\p.t=q.t):=fun⟨a,b⟩=>by
     have h1:=Xl (h.v p hp) (h.v q hq) (h.v q hq) a b;have h2:=h1.1 hlt;have h3:¬jy q q:=by
      unfold jy Bo;rw[xx,xx];simp
     exact h3 h2
    rintro⟨e1,e2⟩;rcases JM hx with⟨rfl,_⟩|⟨rfl,_⟩<;>rcases JM hy with⟨rfl,_⟩|⟨rfl,_⟩
    ·exact hne ⟨e1,e2⟩
    ·have nD:x.f=q.t:=e1;have e2':x.t=q.f:=e2;rw[nD,e2'] at lp;exact asym (h.v q hq).cf (h.v q hq).ct lq lp
    ·have nD:p.t=y.f:=e1;have e2':p.f=y.t:=e2;rw[nD,e2'] at lp;exact asym (h.v _ hq).cf (h.v _ hq).ct lq lp
    ·have nD:p.t=q.t:=e1;have e2':p.f=q.f:=e2;exact hne ⟨e2',nD⟩
  have hp1:(oM r (ag rg) Ps).Pairwise fun x y=>¬(x.f=y.f/\x.t=y.t):=(hperm.pairwise_iff (fun{x y} hxy=>fun⟨a,b⟩=>hxy ⟨a.symm,b.symm⟩)).2 hp0
  have gx:∀{k:Nat}(hk:k<(oM r (ag rg) Ps).length),xi (oM r (ag rg) Ps) k=(oM r (ag rg) Ps)[k]:=fun hk=>vC (aD hk)
  rw[gx hi,gx hj] at hf ht;rcases Gw i j with k|k|k
  ·exact absurd ⟨hf,ht⟩ (mZ.1 hp1 i j hi hj k)
  ·exact k
  ·exact absurd ⟨hf.symm,ht.symm⟩ (mZ.1 hp1 j i hj hi k)
theorem OJ{cf:Nat->Nat->Int}:∀(l:List Nat)(m:Nat),(m::l).Nodup->(∀a∈m::l,∀b∈m::l,∀c∈m::l,cf a b<0->cf b c<0->cf a c<0)->(∀a∈m::l,¬cf a a<0)->(∀a∈m::l,∀b∈m::l,a≠b->cf a b<0\/cf b a<0)->∀k∈m::l,¬cf k (bC cf l m)<0
 |[],m,_,_,hi,_,k,hk=>by
  have:k=m:=by simpa using hk
  rw[this];exact hi m (by simp)
 |b::l,m,hn,ht,hi,hw,k,hk=>by
  have hb:b∈m::b::l:=by simp
  have hm:m∈m::b::l:=by simp
  have j4:m≠b:=fun e=>by
   rw[e] at hn;simp at hn
  show ¬cf k (bC cf l (if cf b m<0 then b else m))<0
  have hres:∀m'∈m::b::l,bC cf l m'∈m::b::l:=fun m' hm'=>by
   rcases xt cf l m' with e|e
   ·rw[e];exact hm'
   ·exact bz _ (bz _ e)
  by_cases hc:cf b m<0
  ·rw[ah hc];have sub:∀x,x∈b::l->x∈m::b::l:=fun x hx=>bz _ hx
   have ih:=OJ l b (Li.1 hn).2 (fun a ha c hc' d hd=>ht a (sub a ha) c (sub c hc') d (sub d hd)) (fun a ha=>hi a (sub a ha)) (fun a ha c hc'=>hw a (sub a ha) c (sub c hc'))
   rcases aV.1 hk with e|hk
   ·rw[e];intro h;exact ih b (by simp) (ht b hb m hm _ (hres b hb) hc h)
   ·exact ih k hk
  ·rw[aa hc];have hcm:cf m b<0:=(hw m hm b hb j4).resolve_right hc;have sub:∀x,x∈m::l->x∈m::b::l:=fun x hx=>by
    rcases aV.1 hx with e|hx
    ·rw[e];simp
    ·simp[hx]
   have hn':(m::l).Nodup:=by
    rw[Li] at hn⊢;exact⟨fun h=>hn.1 (bz _ h),(Li.1 hn.2).2⟩
   have ih:=OJ l m hn' (fun a ha c hc' d hd=>ht a (sub a ha) c (sub c hc') d (sub d hd)) (fun a ha=>hi a (sub a ha)) (fun a ha c hc'=>hw a (sub a ha) c (sub c hc'))
   rcases aV.1 hk with e|hk
   ·rw[e];exact ih m (by simp)
   ·rcases aV.1 hk with e|hk
    ·rw[e];intro h;exact ih m (by simp) (ht m hm b hb _ (hres m hm) hcm h)
    ·exact ih k (bz _ hk)
section
variable{rg:List (List Pt)}{l:List Nd}{r:Int}{Xs:List PB}
theorem SX.sd(h:SX rg l r Xs){i:Nat}(hi:i<Xs.length):Ga.Sd (ag rg) l (takes r) (xi Xs i).f (xi Xs i).t:=h.mem _ (gA hi)
theorem SX.find(h:SX rg l r Xs){a b:Nd}(hs:Ga.Sd (ag rg) l (takes r) a b):∃i,i<Xs.length/\(xi Xs i).f=a/\(xi Xs i).t=b:=by
 obtain⟨x,hx,e1,e2⟩:=h.all a b hs;obtain⟨i,hi,rfl⟩:=kB.1 hx;exact⟨i,hi,by rw[vC (aD hi)];exact e1,by rw[vC (aD hi)];exact e2⟩
theorem SX.go(h:SX rg l r Xs)(i:Nat)(hi:i<Xs.length):∃x∈Xs,x.f=(xi Xs i).t:=by
 obtain⟨c,hc⟩:=(h.sd hi).next h.nl
 obtain⟨x,hx,e,_⟩:=h.all _ _ hc;exact⟨x,hx,e⟩
theorem SX.next(h:SX rg l r Xs)(hB:BD Xs){i:Nat}(hi:i<Xs.length):cE Xs i<Xs.length/\(xi Xs (cE Xs i)).f=(xi Xs i).t/\∀j,j<Xs.length->(xi Xs j).f=(xi Xs i).t->¬rG (xi Xs i) (xi Xs j) (xi Xs (cE Xs i))<0:=by
 have jP:=(hB.v _ (gA hi)).ct;have hlt:=OH hB jP (h.go i hi);obtain⟨h1,h2⟩:=Yr hlt;have hle:=OG Xs (xi Xs i).t;have hlen:cE Xs i<Xs.length:=by omega
 have hf:(xi Xs (cE Xs i)).f=(xi Xs i).t:=(JK hB jP _ _ (vD hlen) h1).1 h2;refine⟨hlen,hf,fun j hj Yt=>?_⟩
 have zm:∀k,k∈iO Xs (xi Xs i).t::List.range' (iO Xs (xi Xs i).t+1) (lT Xs (xi Xs i).t-iO Xs (xi Xs i).t-1)↔iO Xs (xi Xs i).t<=k/\k<lT Xs (xi Xs i).t:=fun k=>by
  rw[aV,Gx];omega
 have tT:∀k,iO Xs (xi Xs i).t<=k->k<lT Xs (xi Xs i).t->k<Xs.length/\(xi Xs k).f=(xi Xs i).t:=fun k k1 k2=>by
  have hk:k<Xs.length:=by omega
  exact⟨hk,(JK hB jP _ _ (vD hk) k1).1 k2⟩
 have hjm:iO Xs (xi Xs i).t<=j/\j<lT Xs (xi Xs i).t:=by
  have a:=JJ hB jP j _ (vD hj);have hge:iO Xs (xi Xs i).t<=j:=by
   apply Nat.not_lt.1;intro hk;have:=a.1 hk;rw[Yt,xx] at this;omega
  exact⟨hge,(JK hB jP j _ (vD hj) hge).2 Yt⟩
 have Yu:=h.sd hi;have facts:∀k,k<Xs.length->(xi Xs k).f=(xi Xs i).t->Ga.wv (xi Xs i).t (xi Xs k).t≠(0,0)/\Ga.az (Ga.wv (xi Xs i).t (xi Xs k).t) (Ga.wv (xi Xs i).t (xi Xs i).f)=false:=fun k hk xz=>by
  have hsk:=h.sd hk;rw[xz] at hsk;exact⟨(Ga.gM h.nl hsk.pc).1,Yu.qw h.nl hsk⟩
 have ha:Ga.wv (xi Xs i).t (xi Xs i).f≠(0,0):=by rw[Ga.eO];exact Ga.jI (Ga.gM h.nl Yu.pc).1
 have hcw:∀j k,j<Xs.length->(xi Xs j).f=(xi Xs i).t->k<Xs.length->(xi Xs k).f=(xi Xs i).t->(rG (xi Xs i) (xi Xs j) (xi Xs k)<0↔Ga.cw (Ga.wv (xi Xs i).t (xi Xs i).f) (Ga.wv (xi Xs i).t (xi Xs j).t) (Ga.wv (xi Xs i).t (xi Xs k).t)=true):=fun j k hj OL hk xz=>by
  have:=Ga.CU ha (facts j hj OL).1 (facts k hk xz).1 (facts j hj OL).2 (facts k hk xz).2;rw[<-this,JL,OL,xz,<-Ga.eO]
 have key:=OJ (cf:=fun j k=>rG (xi Xs i) (xi Xs j) (xi Xs k)) (List.range' (iO Xs (xi Xs i).t+1) (lT Xs (xi Xs i).t-iO Xs (xi Xs i).t-1)) (iO Xs (xi Xs i).t) (by
   rw[Li];refine⟨fun hm=>?_,List.nodup_range' ..⟩
   have:=Gx.1 hm;omega) (fun a ha' b hb c hc h1 h2=>by
   obtain⟨a1,a2⟩:=(zm a).1 ha';obtain⟨b1,b2⟩:=(zm b).1 hb;obtain⟨c1,c2⟩:=(zm c).1 hc;obtain⟨a3,a4⟩:=tT a a1 a2;obtain⟨b3,b4⟩:=tT b b1 b2;obtain⟨c3,c4⟩:=tT c c1 c2;refine(hcw a c a3 a4 c3 c4).2 ?_;exact Ga.ai2 ha (facts a a3 a4).1 (facts b b3 b4).1 (facts c c3 c4).1 ((hcw a b a3 a4 b3 b4).1 h1) ((hcw b c b3 b4 c3 c4).1 h2)) (fun a ha' hk=>by
   obtain⟨a1,a2⟩:=(zm a).1 ha';obtain⟨a3,a4⟩:=tT a a1 a2;have:=Ga.mf.1 ((hcw a a a3 a4 a3 a4).1 hk);rw[Ga.qJ] at this;have mO:=Ga.GW (facts a a3 a4).1 ha;rcases this with⟨_,_,h'⟩|⟨h',h''⟩|⟨_,_,h'⟩
   ·cases h'
   ·rw[mO h'] at h'';cases h''
   ·cases h') (fun a ha' b hb hne=>by
   obtain⟨a1,a2⟩:=(zm a).1 ha';obtain⟨b1,b2⟩:=(zm b).1 hb;obtain⟨a3,a4⟩:=tT a a1 a2;obtain⟨b3,b4⟩:=tT b b1 b2;obtain⟨na,sa⟩:=facts a a3 a4;obtain⟨nb,sb⟩:=facts b b3 b4;have hs:Ga.az (Ga.wv (xi Xs i).t (xi Xs a).t) (Ga.wv (xi Xs i).t (xi Xs b).t)=false:=by
    cases hk:Ga.az (Ga.wv (xi Xs i).t (xi Xs a).t) (Ga.wv (xi Xs i).t (xi Xs b).t)
    ·rfl
    ·exfalso;have Yv:=h.sd a3;have Yw:=h.sd b3;rw[a4] at Yv;rw[b4] at Yw;have:=Ga.EN h.nl Yv.pc Yw.pc hk;exact hne (h.BN a b a3 b3 (a4.trans b4.symm) this)
   have t1:=Ga.iJ na ha;have t2:=Ga.iJ nb ha;have t3:=Ga.iJ na nb;rw[sa] at t1;rw[sb] at t2;rw[hs] at t3;rw[hcw a b a3 a4 b3 b4,hcw b a b3 b4 a3 a4];unfold Ga.cw;revert t1 t2 t3;generalize Ga.au (Ga.wv (xi Xs i).t (xi Xs a).t) (Ga.wv (xi Xs i).t (xi Xs i).f)=p1;generalize Ga.au (Ga.wv (xi Xs i).t (xi Xs i).f) (Ga.wv (xi Xs i).t (xi Xs a).t)=p2;generalize Ga.au (Ga.wv (xi Xs i).t (xi Xs b).t) (Ga.wv (xi Xs i).t (xi Xs i).f)=p3;generalize Ga.au (Ga.wv (xi Xs i).t (xi Xs i).f) (Ga.wv (xi Xs i).t (xi Xs b).t)=p4;generalize Ga.au (Ga.wv (xi Xs i).t (xi Xs a).t) (Ga.wv (xi Xs i).t (xi Xs b).t)=p5;generalize Ga.au (Ga.wv (xi Xs i).t (xi Xs b).t) (Ga.wv (xi Xs i).t (xi Xs a).t)=p6;revert p1 p2 p3 p4 p5 p6;decide) j ((zm j).2 hjm)
 exact key
theorem SX.inj(h:SX rg l r Xs)(hB:BD Xs){i j:Nat}(hi:i<Xs.length)(hj:j<Xs.length)(he:cE Xs i=cE Xs j):i=j:=by
 obtain⟨i1,i2,i3⟩:=h.next hB hi
 obtain⟨j1,j2,j3⟩:=h.next hB hj
 rw[<-he] at j1 j2 j3;have hij:(xi Xs i).t=(xi Xs j).t:=i2.symm.trans j2;have si:=h.sd hi;have sj:=h.sd hj;have sn:=h.sd i1;rw[<-hij] at sj;rw[i2] at sn;have conv:∀k,k<Xs.length->(∀j,j<Xs.length->(xi Xs j).f=(xi Xs k).t->¬rG (xi Xs k) (xi Xs j) (xi Xs (cE Xs i))<0)->(xi Xs k).t=(xi Xs i).t->∀c',Ga.Sd (ag rg) l (takes r) (xi Xs i).t c'->¬Ga.tC (Ga.wv (xi Xs k).f (xi Xs i).t) (Ga.wv (xi Xs i).t c') (Ga.wv (xi Xs i).t (xi Xs (cE Xs i)).t)<0:=fun k _ hm Yx c' hc'=>by
  obtain⟨q,hq,q1,q2⟩:=h.find hc';have:=hm q hq (by rw[q1,Yx])
  rw[JL,q1,q2,i2,Yx] at this;exact this
 have hf:=Ga.ah7 h.nl si sj sn (conv i hi i3 rfl) (conv j hj j3 hij.symm);exact h.BN i j hi hj hf hij
end
end Go.Proofs.YtkjhhooecopolaaGreatDoor
namespace Go.Proofs.YtkjhhooecopolaaGreatDoor.Gb
open Ge Ga
theorem ai5{a a' l z:Pt}(ha:a≠(0,0))(ha':a'≠(0,0))(hl:l≠(0,0))(hz:z≠(0,0))(h1:cw a a' l=true)(h2:cw a' z l=true):cw a z l=true:=by
 have mO:∀{x y:Pt},x≠(0,0)->y≠(0,0)->au x y=true->au y x=true->False:=fun hx hy p q=>by
  have:=GW hx hy p;rw[q] at this;cases this
 rw[mf] at h1 h2⊢;rcases h1 with⟨p1,p2,p3⟩|⟨p1,p2⟩|⟨p1,p2,p3⟩<;>rcases h2 with⟨q1,q2,q3⟩|⟨q1,q2⟩|⟨q1,q2,q3⟩
 ·exact ae ⟨gZ hz ha' ha q1 p1,p2,q3⟩
 ·exact absurd p3 (fun k=>mO hl ha' k q2)
 ·exact absurd p3 (fun k=>mO hl ha' k q2)
 ·exact absurd (gZ ha' ha hl p1 p2) (fun k=>mO ha' hl k q2)
 ·exact af (ae ⟨gZ hz ha' ha q1 p1,p2⟩)
 ·exact af (af ⟨gZ ha hl hz p2 q3,p2,q3⟩)
 ·exact af (af ⟨gZ ha hl hz p2 q3,p2,q3⟩)
 ·exact absurd p3 (fun k=>mO hl ha' k q2)
 ·exact absurd p3 (fun k=>mO hl ha' k q2)
section
variable{es:List (Pt×Pt)}{l:List Nd}
theorem bX.ok(hN:bX es l):0<aj l/\∀n∈l,OK (aj l) n:=
 ⟨XJ fun n hn=>(hN.can n hn).pos,fun n hn=>⟨(hN.can n hn).pos,XK hn⟩⟩
theorem OM(hN:bX es l){a b:Nd}(ha:a∈l)(hb:b∈l)(h:wv a b=(0,0)):a=b:=by
 rcases NI (hN.can a ha) (hN.can b hb) with k|k|k
 ·have:=(nL (hN.can a ha) (hN.can b hb)).1 k;exact absurd h (kM this)
 ·exact k
 ·have:=(nL (hN.can b hb) (hN.can a ha)).1 k;rw[eO a b,h] at this;exact absurd rfl (kM this)
theorem tU(hN:bX es l){a b:Nd}(ha:a∈l)(hb:b∈l)(h:PM (aj l) a=PM (aj l) b):a=b:=
 OM hN ha hb ((jz (bX.ok hN).1 ((bX.ok hN).2 a ha) ((bX.ok hN).2 b hb)).zero.1 (qK.2 h))
theorem Yy(hN:bX es l){a f t:Nd}(ha:a∈l)(h:di es l f t\/di es l t f)(ho:on (dr (PM (aj l) a,PM (aj l) f)) (dr (PM (aj l) a,PM (aj l) t))=true):a=f\/a=t:=by
 have key:∀{f t:Nd},di es l f t->on (dr (PM (aj l) a,PM (aj l) f)) (dr (PM (aj l) a,PM (aj l) t))=true->a=f\/a=t:=by
  intro f t h ho;obtain⟨hM,hO⟩:=bX.ok hN;obtain⟨hf,ht,hr⟩:=h.facts hN;have p1:=jz hM (hO a ha) (hO f hf);have p2:=jz hM (hO a ha) (hO t ht);have p0:=jz hM (hO f hf) (hO t ht);have q1:=jz hM (hO f hf) (hO a ha);have q2:=jz hM (hO a ha) (hO t ht);rw[lD] at ho;apply mW;intro hne;have hx:dr (PM (aj l) a,PM (aj l) f)≠(0,0):=fun e=>hne (ae (OM hN ha hf (p1.zero.1 e)))
  have hy:dr (PM (aj l) a,PM (aj l) t)≠(0,0):=fun e=>hne (af (OM hN ha ht (p2.zero.1 e)))
  have dx:=Ga.eG hx;have dy:=Ga.eG hy;refine h.gap hN ha ⟨qu hr ((p0.cr q1).2.2.1 ?_) ((p0.dt q1).1.1 ?_),qu hr ((p0.cr q2).2.2.1 ?_) ((p0.dt q2).1.1 ?_)⟩
  ·generalize PM (aj l) a=A at*;generalize PM (aj l) f=F at*;generalize PM (aj l) t=T at*;have:cr (dr (F,T)) (dr (F,A))=cr (dr (A,F)) (dr (A,T)):=by unfold cr dr;grind
   omega
  ·generalize PM (aj l) a=A at*;generalize PM (aj l) f=F at*;generalize PM (aj l) t=T at*;have:dt (dr (F,T)) (dr (F,A))=dt (dr (A,F)) (dr (A,F))-dt (dr (A,F)) (dr (A,T)):=by unfold dt dr;grind
   omega
  ·generalize PM (aj l) a=A at*;generalize PM (aj l) f=F at*;generalize PM (aj l) t=T at*;have:cr (dr (F,T)) (dr (A,T))= -cr (dr (A,F)) (dr (A,T)):=by unfold cr dr;grind
   omega
  ·generalize PM (aj l) a=A at*;generalize PM (aj l) f=F at*;generalize PM (aj l) t=T at*;have:dt (dr (F,T)) (dr (A,T))=dt (dr (A,T)) (dr (A,T))-dt (dr (A,F)) (dr (A,T)):=by unfold dt dr;grind
   omega
 rcases h with h|h
 ·exact key h ho
 ·rw[wE] at ho;exact(key h ho).symm
end
def ph(M:Int)(x:PB):Sg:=(PM M x.f,PM M x.t)
def sS(M:Int)(Xs:List PB):List Sg:=Xs.map (ph M)
def ke(M:Int)(Xs:List PB)(s:Sg):Sg:=match(List.range Xs.length).find? (fun i=>decide (ph M (xi Xs i)=s)) with
 |some i=>ph M (xi Xs (cE Xs i))
 |none=>s
section
variable{rg:List (List Pt)}{l:List Nd}{r:Int}{Xs:List PB}
theorem SX.Fa(h:SX rg l r Xs){i j:Nat}(hi:i<Xs.length)(hj:j<Xs.length)(e:ph (aj l) (xi Xs i)=ph (aj l) (xi Xs j)):i=j:=by
 obtain⟨_,a1,a2⟩:=gM h.nl (h.sd hi).pc;obtain⟨_,b1,b2⟩:=gM h.nl (h.sd hj).pc;exact h.BN i j hi hj (tU h.nl a1 b1 (aw Prod.fst e)) (tU h.nl a2 b2 (aw Prod.snd e))
theorem jB(M:Int){s:Sg}(hs:s∈sS M Xs):∃i,i<Xs.length/\s=ph M (xi Xs i):=by
 obtain⟨x,hx,rfl⟩:=bh.1 hs;obtain⟨i,hi,e⟩:=kB.1 hx;exact⟨i,hi,by rw[<-e];unfold xi;rw[l9,aD hi];rfl⟩
theorem Fb(M:Int){i:Nat}(hi:i<Xs.length):ph M (xi Xs i)∈sS M Xs:=bh.2 ⟨_,gA hi,rfl⟩
theorem zn(h:SX rg l r Xs){i:Nat}(hi:i<Xs.length):ke (aj l) Xs (ph (aj l) (xi Xs i))=ph (aj l) (xi Xs (cE Xs i)):=by
 unfold ke;cases hf:(List.range Xs.length).find? (fun j=>decide (ph (aj l) (xi Xs j)=ph (aj l) (xi Xs i))) with
 |none=>
  have:=acz.1 hf i (qH.2 hi);simp at this
 |some j=>
  have hj:=qH.1 (List.mem_of_find?_eq_some hf);have e:=List.find?_some hf;simp only;rw[SX.Fa h hj hi (eW e)]
theorem SX.wd(h:SX rg l r Xs)(hB:BD Xs):Wd (sS (aj l) Xs) (ke (aj l) Xs):=by
 have hN:=h.nl;obtain⟨hM,hO⟩:=bX.ok hN;have ml:∀{i},i<Xs.length->(xi Xs i).f∈l/\(xi Xs i).t∈l:=fun hi=>(gM hN (h.sd hi).pc).2
 have wn:∀{i},i<Xs.length->wv (xi Xs i).f (xi Xs i).t≠(0,0):=fun hi=>(gM hN (h.sd hi).pc).1
 have pd:∀{i},i<Xs.length->Pm (dr (ph (aj l) (xi Xs i))) (wv (xi Xs i).f (xi Xs i).t):=fun hi=>jz hM (hO _ (ml hi).1) (hO _ (ml hi).2)
 have nb:∀{i j},i<Xs.length->j<Xs.length->(xi Xs j).f=(xi Xs i).t->az (wv (xi Xs j).f (xi Xs j).t) (neg (wv (xi Xs i).f (xi Xs i).t))=false:=fun{i j} hi hj e=>by
  have h1:=h.sd hi;have h2:=h.sd hj;rw[e] at h2⊢;have:=h1.qw hN h2;rw[eO (xi Xs i).f] at this;exact this
 have W1:∀{i j},i<Xs.length->j<Xs.length->(xi Xs j).f=(xi Xs i).t->cw (neg (wv (xi Xs i).f (xi Xs i).t)) (wv (xi Xs j).f (xi Xs j).t) (wv (xi Xs (cE Xs i)).f (xi Xs (cE Xs i)).t)=false:=fun{i j} hi hj e=>by
  obtain⟨n1,n2,n3⟩:=h.next hB hi
  have k:=n3 j hj e;rw[JL] at k;have t:=CU (a:=neg (wv (xi Xs i).f (xi Xs i).t)) (jI (wn hi)) (wn hj) (wn n1) (nb hi hj e) (nb hi n1 n2);rw[neg_neg] at t;cases q:cw (neg (wv (xi Xs i).f (xi Xs i).t)) (wv (xi Xs j).f (xi Xs j).t) (wv (xi Xs (cE Xs i)).f (xi Xs (cE Xs i)).t)
  ·rfl
  ·exact absurd (t.2 q) k
 refine⟨fun s hs e=>?_,fun s hs u hu=>?_,fun s hs u hu ho=>?_,fun s hs u hu ho=>?_,fun s hs u hu e k=>?_,fun s hs u hu e k=>?_,fun s hs u hu e=>?_,fun s hs=>?_,fun s hs u hu e=>?_,fun s hs u hu e=>?_,fun s hs u hu e=>?_⟩
 ·obtain⟨i,hi,rfl⟩:=jB _ hs;exact wn hi ((pd hi).zero.1 (qK.2 e))
 ·obtain⟨i,hi,rfl⟩:=jB _ hs;obtain⟨j,hj,rfl⟩:=jB _ hu;rw[(pd hi).aS];rcases(h.sd hi).pc with q|q
  ·exact⟨fun _=>XO hM hO hN q (h.sd hj).pc,fun k=>absurd (q.facts hN).2.2 k⟩
  ·have hr:=(q.facts hN).2.2;refine⟨fun k=>?_,fun _=>XO hM hO hN q (h.sd hj).pc⟩
   rw[eO (xi Xs i).f] at hr;exact absurd hr (fun w=>N8 k w)
 ·obtain⟨i,hi,rfl⟩:=jB _ hs;obtain⟨j,hj,rfl⟩:=jB _ hu;rcases Yy hN (ml hi).1 (h.sd hj).pc ho with q|q
  ·exact ae (aw (PM (aj l)) q)
  ·exact af (aw (PM (aj l)) q)
 ·obtain⟨i,hi,rfl⟩:=jB _ hs;obtain⟨j,hj,rfl⟩:=jB _ hu;rcases Yy hN (ml hi).2 (h.sd hj).pc ho with q|q
  ·exact ae (aw (PM (aj l)) q)
  ·exact af (aw (PM (aj l)) q)
 ·obtain⟨i,hi,rfl⟩:=jB _ hs;obtain⟨j,hj,rfl⟩:=jB _ hu;have ef:(xi Xs i).f=(xi Xs j).f:=tU hN (ml hi).1 (ml hj).1 e;rw[(pd hi).az (pd hj)] at k;have h2:=(h.sd hj).pc;rw[<-ef] at k h2;have et:=EN hN (h.sd hi).pc h2 k;exact aw (fun i=>ph (aj l) (xi Xs i)) (h.BN i j hi hj ef et)
 ·obtain⟨i,hi,rfl⟩:=jB _ hs;obtain⟨j,hj,rfl⟩:=jB _ hu;have et:(xi Xs i).t=(xi Xs j).t:=tU hN (ml hi).2 (ml hj).2 e;rw[(pd hi).az (pd hj)] at k;have h2:=(h.sd hj).pc.symm;rw[<-et] at k h2;have k2:az (wv (xi Xs i).t (xi Xs i).f) (wv (xi Xs i).t (xi Xs j).f)=true:=by
   rw[eO (xi Xs i).f,eO (xi Xs j).f,dm,fF,fK,r7,lF];rw[dm] at k;omega
  have ef:=EN hN (h.sd hi).pc.symm h2 k2;exact aw (fun i=>ph (aj l) (xi Xs i)) (h.BN i j hi hj ef et)
 ·obtain⟨i,hi,rfl⟩:=jB _ hs;obtain⟨j,hj,rfl⟩:=jB _ hu;have ef:(xi Xs i).f=(xi Xs j).t:=tU hN (ml hi).1 (ml hj).2 e;rw[(pd hi).az (pd hj).neg];exact nb hj hi ef
 ·obtain⟨i,hi,rfl⟩:=jB _ hs;rw[zn h hi];obtain⟨n1,n2,_⟩:=h.next hB hi
  exact⟨Fb _ n1,aw (PM (aj l)) n2⟩
 ·obtain⟨i,hi,rfl⟩:=jB _ hs;obtain⟨j,hj,rfl⟩:=jB _ hu;rw[zn h hi,zn h hj] at e;exact aw (fun i=>ph (aj l) (xi Xs i)) (h.inj hB hi hj (SX.Fa h (h.next hB hi).1 (h.next hB hj).1 e))
 ·obtain⟨i,hi,rfl⟩:=jB _ hs;obtain⟨j,hj,rfl⟩:=jB _ hu;have ef:(xi Xs j).f=(xi Xs i).t:=tU hN (ml hj).1 (ml hi).2 e;rw[zn h hi,(pd hi).neg.cw (pd hj) (pd (h.next hB hi).1)]
  exact W1 hi hj ef
 ·obtain⟨i,hi,rfl⟩:=jB _ hs;obtain⟨j,hj,rfl⟩:=jB _ hu;have et:(xi Xs j).t=(xi Xs i).t:=tU hN (ml hj).2 (ml hi).2 e;obtain⟨n1,n2,_⟩:=h.next hB hi
  rw[zn h hi,(pd hi).neg.cw (pd hj).neg (pd n1)];have yM:=jI (wn hi);have DU:=jI (wn hj);cases q:cw (neg (wv (xi Xs i).f (xi Xs i).t)) (neg (wv (xi Xs j).f (xi Xs j).t)) (wv (xi Xs (cE Xs i)).f (xi Xs (cE Xs i)).t)
  ·rfl
  ·exfalso;by_cases hij:i=j
   ·subst hij;rw[mf,qJ] at q;simp at q
   have hsm:az (neg (wv (xi Xs i).f (xi Xs i).t)) (neg (wv (xi Xs j).f (xi Xs j).t))=false:=by
    cases k:az (neg (wv (xi Xs i).f (xi Xs i).t)) (neg (wv (xi Xs j).f (xi Xs j).t))
    ·rfl
    ·rw[<-eO,<-eO] at k;have h2:=(h.sd hj).pc.symm;rw[et] at k h2;exact absurd (h.BN i j hi hj (EN hN (h.sd hi).pc.symm h2 k) et.symm) hij
   have a1:=(h.sd hi).zg hN;have a2:=(h.sd hj).zg hN;rw[et] at a2;have e1:wv (xi Xs i).t (xi Xs j).f=neg (wv (xi Xs j).f (xi Xs j).t):=by rw[<-et];exact eO _ _
   rw[eO (xi Xs i).f] at a1;rw[e1] at a2;obtain⟨z,hz,lO⟩:=SH yM DU hsm a1.1 a1.2 a2.1 a2.2 (wn n1) (nb hi n1 n2) (nb hj n1 (n2.trans et.symm));obtain⟨m,hm,OO⟩:=Jt hN (ml hi).2 hz;obtain⟨v,hv,v1,v2⟩:=h.find hm;have hw1:=W1 hi hv v1;have hvn:=wn hv;have e2:wv (xi Xs i).t m=wv (xi Xs v).f (xi Xs v).t:=by rw[v1,v2]
   rw[e2] at OO;rcases lO with k|k
   ·rw[Ju (Hh OO)] at k;rw[hw1] at k;cases k
   ·rw[Ju (Hh OO)] at k;have:=ai5 yM DU (wn n1) hvn q k;rw[hw1] at this;cases this
end
def nM(M:Int)(es:List (Pt×Pt)):List (Pt×Pt):=es.map fun e=>(bK M e.1,bK M e.2)
theorem ai7{M:Int}(hM:0<M){u v:Pt}(h:bK M u=bK M v):u=v:=by
 unfold bK at h;have x1:=aw Prod.fst h;have x2:=aw Prod.snd h;simp only at x1 x2;exact eB (zQ (by omega) x1) (zQ (by omega) x2)
theorem ai8{M:Int}(hM:0<M)(g:List Pt):fN (g.map (bK M))=nM M (fN g):=by
 have e:closing (g.map (bK M))=nM M (closing g):=by
  cases g with
  |nil=>rfl
  |cons a r=>
   unfold nM closing;show(bK M a::r.map (bK M)).zip (r.map (bK M)++[bK M a])=_;have e1:bK M a::r.map (bK M)=(a::r).map (bK M):=rfl;have e2:r.map (bK M)++[bK M a]=(r++[a]).map (bK M):=by simp
   rw[e1,e2,List.zip_map];rfl
 unfold fN;rw[e];unfold nM;rw[List.filter_map];congr 1;refine acP fun x _=>?_
 simp only[Function.comp_apply];refine decide_eq_decide.2 ⟨fun h k=>h (by rw[k]),fun h k=>h (ai7 hM k)⟩
theorem JN{M:Int}(hM:0<M)(rg:List (List Pt)):ag (rg.map (·.map (bK M)))=nM M (ag rg):=by
 induction rg with
 |nil=>rfl
 |cons g rg ih=>
  have e1:ag ((g::rg).map (·.map (bK M)))=fN (g.map (bK M))++ag (rg.map (·.map (bK M))):=by simp[ag]
  have e2:ag (g::rg)=fN g++ag rg:=by simp[ag]
  rw[e1,e2,ai8 hM,ih];unfold nM;rw[iH]
theorem ai9{u u' v v':Pt}(h:Pm u u')(k:Pm v v'):right u v=right u' v':=by
 have c:=h.cr k;obtain⟨p,q,hp,hq,e1,_⟩:=h;obtain⟨p',q',hp',hq',nD,_⟩:=k;have a:=j6 hp hq e1;have b:=j6 hp' hq' nD;unfold right;by_cases h1:u.1<=0/\0<v.1/\0<cr u v
 ·rw[ah h1,ah (by omega)]
 ·rw[aa h1,aa (by omega:¬(u'.1<=0/\0<v'.1/\0<cr u' v'))]
  by_cases h2:0<u.1/\v.1<=0/\cr u v<0
  ·rw[ah h2,ah (by omega)]
  ·rw[aa h2,aa (by omega)]
theorem Yz(F:Pt->Pt->Int)(g:Pt×Pt->Pt×Pt)(es:List (Pt×Pt)):total F (es.map g)=total (fun u v=>F (g (u,v)).1 (g (u,v)).2) es:=by
 unfold total;rw[kD];rfl
section
variable{M:Int}
theorem vF(hM:0<M){a:Nd}(ha:OK M a)(u:Pt):Pm (rl (n1 (PM M a)) (bK M u)) (rl a u):=by
 obtain⟨k,hk,ek⟩:=Jv hM ha;rw[eo,ek];exact zh hk _
theorem YA(hM:0<M){a:Nd}(ha:OK M a)(es:List (Pt×Pt)):PP (nM M es) (n1 (PM M a))=PP es a:=by
 unfold PP nM;rw[Yz];exact o9 fun e _=>ai9 (vF hM ha e.1) (vF hM ha e.2)
theorem YB(hM:0<M){a:Nd}(ha:OK M a)(es:List (Pt×Pt)){Q Q':Pt->Bool}(hQ:∀z z',Pm z z'->Q z=Q' z'):AS (nM M es) (n1 (PM M a)) Q=AS es a Q':=by
 unfold AS nM;rw[Yz];refine o9 fun e _=>?_
 have h1:=vF hM ha e.1;have h2:=vF hM ha e.2;unfold Ga.arm;rw[h1.on h2,hQ _ _ h1,hQ _ _ h2]
theorem aja{z z':Pt}(h:Pm z z'):nz z=nz z':=by
 unfold nz;exact decide_eq_decide.2 (not_congr h.zero)
theorem ajb(hM:0<M){a:Nd}(ha:OK M a)(es:List (Pt×Pt)){d d':Pt}(hd:Pm d d'):dA (nM M es) (n1 (PM M a)) d=dA es a d'/\eI (nM M es) (n1 (PM M a)) d=eI es a d':=by
 have e1:dA (nM M es) (n1 (PM M a)) d=dA es a d':=by
  unfold dA;rw[YA hM ha,YB hM ha es (Q':=fun z=>nz z&&au z d')]
  intro z z' hz;rw[aja hz,hz.au hd]
 refine⟨e1,?_⟩;unfold eI;rw[e1,YB hM ha es (Q':=fun z=>az z d')]
 intro z z' hz;exact hz.az hd
end
section
variable{rg:List (List Pt)}{l:List Nd}
theorem OP(hN:bX (ag rg) l){f t:Nd}(h:di (ag rg) l f t):uB (ag (rg.map (·.map (bK (aj l))))) (n1 (PM (aj l) f)) (n1 (PM (aj l) t)):=by
 obtain⟨hM,hO⟩:=bX.ok hN;obtain⟨hf,ht,hr⟩:=h.facts hN;have hP:=h.pj hN;have p0:=jz hM (hO f hf) (hO t ht);rw[JN hM];have mem:∀e∈nM (aj l) (ag rg),∃e0∈ag rg,e=(bK (aj l) e0.1,bK (aj l) e0.2):=fun e he=>by
  obtain⟨e0,h0,rfl⟩:=bh.1 he;exact⟨e0,h0,rfl⟩
 have cc:∀z:Pt,nu f t (wv f t) z->nu (n1 (PM (aj l) f)) (n1 (PM (aj l) t)) (dr (PM (aj l) f,PM (aj l) t)) (bK (aj l) z):=fun z hz hl=>by
  have q1:=vF hM (hO f hf) z;have q2:=vF hM (hO t ht) z;have:=hz ((p0.cr q1).2.2.1 hl);have a:=(p0.dt q1).1;have b:=(p0.dt q2).2.1;omega
 refine⟨by show(0:Int)<1;decide,by show(0:Int)<1;decide,by rw[ny];exact p0.aS.2 hr,fun e he=>?_,fun e he=>?_⟩
 ·obtain⟨e0,h0,rfl⟩:=mem e he;rw[ny];exact XM hM (hO f hf) (hO t ht) (hP.s e0 h0)
 ·obtain⟨e0,h0,rfl⟩:=mem e he;rw[ny];exact⟨cc _ (hP.c e0 h0).1,cc _ (hP.c e0 h0).2⟩
theorem YC(hN:bX (ag rg) l){f t:Nd}(h:di (ag rg) l f t):
  RR (ag (rg.map (·.map (bK (aj l))))) (n1 (PM (aj l) f)) (n1 (PM (aj l) t))=RR (ag rg) f t/\LL (ag (rg.map (·.map (bK (aj l))))) (n1 (PM (aj l) f)) (n1 (PM (aj l) t))=LL (ag rg) f t:=by
 obtain⟨hM,hO⟩:=bX.ok hN;obtain⟨hf,ht,_⟩:=h.facts hN;have a:=wF (OP hN h);have b:=wF (h.pj hN);have c:=ajb hM (hO f hf) (ag rg) (jz hM (hO f hf) (hO t ht));rw[JN hM] at a⊢;rw[ny,c.1,c.2] at a;exact⟨a.1.trans b.1.symm,a.2.trans b.2.symm⟩
end
theorem JO{α:Type}(w:α->Int)(p q:α->Bool):∀(l:List α),dR w p (l.filter q)=dR w (fun x=>q x&&p x) l
 |[]=>rfl
 |x::l=>by
  have ih:=JO w p q l;rw[rE];cases h:q x
  ·rw[xZ (by simp[h]),ih]
   simp
  ·rw[CG h,rE,ih];simp
theorem YD{α:Type}(w:α->Int){p q:α->Bool}:∀{l:List α},(∀x∈l,w x≠0->p x=q x)->dR w p l=dR w q l
 |[],_=>rfl
 |x::l,h=>by
  rw[rE,rE,YD w fun y hy=>h y (bz _ hy)]
  congr 1;by_cases hw:w x=0
  ·rw[hw];split<;>split<;>rfl
  ·rw[h x (by simp) hw]
def gP(n:N3)(a b:Pt):Prop:=(rl n a).1<=0/\0<(rl n b).1
theorem BO{n:N3}{a b:Pt}(h:gP n a b):kW n (a,b)=(rl n b).1-(rl n a).1/\kY n (a,b)= -cr (rl n a) (rl n b)/\kS n (a,b)=(rl n b).2-(rl n a).2/\kW n (b,a)=(rl n b).1-(rl n a).1/\kY n (b,a)= -cr (rl n a) (rl n b)/\kS n (b,a)=(rl n b).2-(rl n a).2:=by
 have h':¬((rl n b).1<=0/\0<(rl n a).1):=fun k=>by unfold gP at h;omega
 refine⟨ah h,ah h,ah h,?_,?_,?_⟩
 ·exact(aa h').trans (ah h)
 ·exact(aa h').trans (ah h)
 ·exact(aa h').trans (ah h)
theorem YE{n:N3}{e:Pt×Pt}(h:kY n e<0):gP n e.1 e.2\/gP n e.2 e.1:=by
 by_cases h1:(rl n e.1).1<=0/\0<(rl n e.2).1
 ·exact ae h1
 ·by_cases h2:(rl n e.2).1<=0/\0<(rl n e.1).1
  ·exact af h2
  ·have:kY n e=0:=(aa h1).trans (aa h2);omega
theorem Fe(n:N3)(e:Pt×Pt):kW n (rv e)=kW n e/\kY n (rv e)=kY n e/\kS n (rv e)=kS n e:=by
 by_cases h1:gP n e.1 e.2
 ·obtain⟨a,b,c,d,e1,f⟩:=BO h1;exact⟨d.trans a.symm,e1.trans b.symm,f.trans c.symm⟩
 ·by_cases h2:gP n e.2 e.1
  ·obtain⟨a,b,c,d,e1,f⟩:=BO h2;exact⟨a.trans d.symm,b.trans e1.symm,c.trans f.symm⟩
  ·exact⟨((aa h2).trans (aa h1)).trans ((aa h1).trans (aa h2)).symm,((aa h2).trans (aa h1)).trans ((aa h1).trans (aa h2)).symm,((aa h2).trans (aa h1)).trans ((aa h1).trans (aa h2)).symm⟩
theorem JP(n:N3)(e e':Pt×Pt):bf n (rv e) e'=bf n e e'/\bf n e' (rv e)=bf n e' e:=by
 unfold bf;rw[(Fe n e).1,(Fe n e).2.1,(Fe n e).2.2];exact⟨rfl,rfl⟩
theorem JQ{n:N3}{x y:Pt×Pt}(hy:kY n y<0)(h:bf n y x=false):kY n x<0:=by
 have h':¬_:=fun k=>by rw[BC.2 k] at h;cases h
 have px:=tM n x;have py:=tM n y;have q1:=(Ga.neg_mul (z:=kY n y) px).2 hy;have q2:=Ga.neg_mul (z:=kY n x) py;rw[eA] at q1 q2;exact q2.1 (by omega)
theorem ajc{n:N3}{a b f t:Pt}(h:gP n a b)(k:gP n f t)(la:cr (dr (f,t)) (dr (f,a))=0)(lb:cr (dr (f,t)) (dr (f,b))=0)(_hn:0<n.2.2):bf n (a,b) (f,t)=false/\bf n (f,t) (a,b)=false:=by
 obtain⟨a1,a2,a3,_⟩:=BO h;obtain⟨b1,b2,b3,_⟩:=BO k;have e:∀u v:Pt,((rl n v).1-(rl n u).1=n.2.2*(dr (u,v)).1)/\((rl n v).2-(rl n u).2=n.2.2*(dr (u,v)).2):=fun u v=>by
  unfold rl rel dr;simp only;constructor<;>grind
 have s1:cr (dr (f,t)) (dr (a,b))=0:=by
  have:cr (dr (f,t)) (dr (a,b))=cr (dr (f,t)) (dr (f,b))-cr (dr (f,t)) (dr (f,a)):=by unfold cr dr;grind
  omega
 have hS:kS n (a,b)*kW n (f,t)=kS n (f,t)*kW n (a,b):=by
  rw[a1,a3,b1,b3,(e a b).1,(e a b).2,(e f t).1,(e f t).2];unfold cr at s1;have:n.2.2*(dr (a,b)).2*(n.2.2*(dr (f,t)).1)-n.2.2*(dr (f,t)).2*(n.2.2*(dr (a,b)).1)=n.2.2*n.2.2*((dr (f,t)).1*(dr (a,b)).2-(dr (f,t)).2*(dr (a,b)).1):=by grind
  rw[s1] at this;omega
 have hY:kY n (a,b)*kW n (f,t)=kY n (f,t)*kW n (a,b):=by
  rw[a1,a2,b1,b2,(e a b).1,(e f t).1];have c1:cr (rl n a) (rl n b)=n.2.2*cr (rl n a) (dr (a,b)):=by
   have:cr (rl n a) (rl n b)=(rl n a).1*((rl n b).2-(rl n a).2)-(rl n a).2*((rl n b).1-(rl n a).1):=by unfold cr;grind
   rw[this,(e a b).1,(e a b).2];unfold cr;grind
  have c2:cr (rl n f) (rl n t)=n.2.2*cr (rl n f) (dr (f,t)):=by
   have:cr (rl n f) (rl n t)=(rl n f).1*((rl n t).2-(rl n f).2)-(rl n f).2*((rl n t).1-(rl n f).1):=by unfold cr;grind
   rw[this,(e f t).1,(e f t).2];unfold cr;grind
  have c3:cr (rl n a) (dr (f,t))=cr (rl n f) (dr (f,t)):=by
   have:cr (rl n a) (dr (f,t))-cr (rl n f) (dr (f,t))=((rl n a).1-(rl n f).1)*(dr (f,t)).2-((rl n a).2-(rl n f).2)*(dr (f,t)).1:=by unfold cr;grind
   rw[(e f a).1,(e f a).2] at this;have w:n.2.2*(dr (f,a)).1*(dr (f,t)).2-n.2.2*(dr (f,a)).2*(dr (f,t)).1= -(n.2.2*cr (dr (f,t)) (dr (f,a))):=by unfold cr;grind
   rw[w,la] at this;simp at this;omega
  have c4:cr (rl n a) (dr (a,b))*(dr (f,t)).1=cr (rl n a) (dr (f,t))*(dr (a,b)).1:=by
   have:cr (rl n a) (dr (a,b))*(dr (f,t)).1-cr (rl n a) (dr (f,t))*(dr (a,b)).1=(rl n a).1*cr (dr (f,t)) (dr (a,b)):=by unfold cr;grind
   rw[s1] at this;simp at this;omega
  rw[c1,c2];have x1: -(n.2.2*cr (rl n a) (dr (a,b)))*(n.2.2*(dr (f,t)).1)= -(n.2.2*n.2.2*(cr (rl n a) (dr (a,b))*(dr (f,t)).1)):=by grind
  have x2: -(n.2.2*cr (rl n f) (dr (f,t)))*(n.2.2*(dr (a,b)).1)= -(n.2.2*n.2.2*(cr (rl n f) (dr (f,t))*(dr (a,b)).1)):=by grind
  rw[x1,x2,c4,c3]
 unfold bf;rw[hS,hY];simp
theorem YF{n:N3}{x y z:Pt×Pt}(h1:bf n x y=false)(h2:bf n y x=false):bf n z x=bf n z y/\bf n x z=bf n y z:=by
 have a:=BG n;constructor
 ·refine nj.2 ⟨fun k=>?_,fun k=>?_⟩
  ·rcases a z x y k with q|q
   ·rw[h2] at q;cases q
   ·exact q
  ·rcases a z y x k with q|q
   ·rw[h1] at q;cases q
   ·exact q
 ·refine nj.2 ⟨fun k=>?_,fun k=>?_⟩
  ·rcases a x z y k with q|q
   ·exact q
   ·rw[h1] at q;cases q
  ·rcases a y z x k with q|q
   ·exact q
   ·rw[h2] at q;cases q
theorem hts{rg:List (List Pt)}{n:N3}(hn:0<n.2.2){a b:Pt}(h:gP n a b)(hP:uB (ag rg) (n1 a) (n1 b)):
  RR (ag rg) (n1 a) (n1 b)=dR (wt n) (fun e=>bf n e (a,b)) (ag rg)/\LL (ag rg) (n1 a) (n1 b)=dR (wt n) (fun e=> !bf n (a,b) e) (ag rg):=by
 obtain⟨k1,k2,k3,_⟩:=BO h;have hw:∀z:Pt,(wv n (n1 z)).1=(rl n z).1:=fun z=>by unfold wv rl rel n1;simp
 have hD:0<(wv (n1 a) (n1 b)).1:=by
  rw[ny];have:(rl n b).1-(rl n a).1=n.2.2*(dr (a,b)).1:=by unfold rl rel dr;simp only;grind
  unfold gP at h;exact(aT hn).1 (by omega)
 have hZ:=XU (a:=a) (b:=b) hn (show(0:Int)<1 by decide) (show(0:Int)<1 by decide) h.1 h.2 (by rw[hw];exact h.1) (by rw[hw];exact h.2) hD (by unfold lam;rw[eo,(qK (s:=(a,a))).2 rfl];exact(z8 _).2.1) (by unfold lam;rw[eo,ny];unfold cr;grind)
 rw[<-k1,<-k2,<-k3] at hZ;obtain⟨r1,r2⟩:=X7 (e0:=(a,b)) hn hP hZ (by rw[hw];exact h.1) (by rw[hw];exact h.2)
 refine⟨r1,?_⟩;have e:LL (ag rg) (n1 a) (n1 b)=RR (ag rg) (n1 a) (n1 b)+total (fb (aZ (n1 a) (n1 b)) (wv (n1 a) (n1 b))) (ag rg):=rfl;rw[e,r1,r2];refine(BA _ fun x _=>?_).symm
 cases q1:bf n x (a,b)<;>cases q2:bf n (a,b) x
 ·rfl
 ·rfl
 ·rfl
 ·have:=BF n _ _ _ q1 q2;rw[EP] at this;cases this
section
variable{rg:List (List Pt)}{l:List Nd}
theorem ajd(hN:bX (ag rg) l){aF:Int->Bool}{n:Nd}(hn:n∈l)(hin:aF (PP (ag rg) n)=true){a b:Nd}(hs:Sd (ag rg) l aF a b)(hc:gP (n1 (PM (aj l) n)) (PM (aj l) b) (PM (aj l) a))(hy:kY (n1 (PM (aj l) n)) (PM (aj l) b,PM (aj l) a)<0):
  ∃f t,Sd (ag rg) l aF f t/\gP (n1 (PM (aj l) n)) (PM (aj l) f) (PM (aj l) t)/\kY (n1 (PM (aj l) n)) (PM (aj l) f,PM (aj l) t)<0/\bf (n1 (PM (aj l) n)) (PM (aj l) b,PM (aj l) a) (PM (aj l) f,PM (aj l) t)=true:=by
 obtain⟨hM,hO⟩:=bX.ok hN;have BP:0<(n1 (PM (aj l) n)).2.2:=by show(0:Int)<1;decide
 have YG:∀{x y:Nd},x∈l->y∈l->(gP (n1 (PM (aj l) n)) (PM (aj l) x) (PM (aj l) y)↔(wv n x).1<=0/\0<(wv n y).1):=fun{x y} hx hy=>by
  obtain⟨p,q,hp,hq,e1,_⟩:=jz hM (hO n hn) (hO x hx);obtain⟨p',q',hp',hq',nD,_⟩:=jz hM (hO n hn) (hO y hy);have g1:=j6 hp hq e1;have g2:=j6 hp' hq' nD;unfold gP;rw[eo,eo];omega
 have hpc:di (ag rg) l b a/\aF (LL (ag rg) b a)=false:=by
  obtain⟨_,hal,hbl⟩:=gM hN hs.pc;have hw:=(YG hbl hal).1 hc;rcases hs with⟨q,_⟩|⟨q,q1,q2⟩
  ·exfalso;have hr:=(q.facts hN).2.2;have ca:=(hN.can a hal).pos;have cb:=(hN.can b hbl).pos;obtain⟨m1,_⟩:=Jy n a b;have cn:=(hN.can n hn).pos;have h1:n.2.2*(wv a b).1<0:=by
    have x1:=Sj hw.1 ca;have x2:=aU hw.2 cb;rw[eA] at x1 x2;omega
   have:=(Ga.neg_mul (z:=(wv a b).1) cn).1 h1;have:=Ae hr;omega
  ·exact⟨q,q2⟩
 obtain⟨hpc,hout⟩:=hpc;obtain⟨e1,e2⟩:=YC hN hpc;obtain⟨r1,r2⟩:=hts BP hc (OP hN hpc);rw[<-e2,r2] at hout;rw[<-YA hM (hO n hn),<-JN hM,Oi] at hin;generalize hE:ag (rg.map (·.map (bK (aj l))))=E at*
 generalize YH:n1 (PM (aj l) n)=N at*;generalize hV:((PM (aj l) b,PM (aj l) a):Pt×Pt)=V at*;have k1:dR (wt N) (fun e=>decide (kY N e<0)) E=dR (wt N) (fun e=> !bf N V e) E+dR (wt N) (fun e=>decide (kY N e<0)) (E.filter fun e=>bf N V e):=by
  rw[JO];refine BA _ fun x _=>?_
  cases q:bf N V x
  ·rw[iu (JQ hy q)];rfl
  ·cases decide (kY N x<0)<;>rfl
 rw[k1] at hin;obtain⟨z,hz,hT,hb,ha⟩:=XP (BF N) (EP N) (BG N) (wt N) (fun k=>aF (dR (wt N) (fun e=> !bf N V e) E+k)) (by simpa using hout) (E.filter fun e=>bf N V e) _ (fun e=>decide (kY N e<0)) (fun x y hy hyx=>iu (JQ (eW hy) hyx)) (ai _) hin
 obtain⟨hzE,OQ⟩:=jF.1 hz;have hT':=eW hT;have k2:dR (wt N) (fun e=>bf N e z) E=dR (wt N) (fun e=> !bf N V e) E+dR (wt N) (fun e=>bf N e z) (E.filter fun e=>bf N V e):=by
  rw[JO];refine BA _ fun x _=>?_
  cases q:bf N V x
  ·rcases BG N V z x OQ with w|w
   ·rw[w];rfl
   ·rw[w] at q;cases q
  ·cases bf N x z<;>rfl
 have k3:dR (wt N) (fun e=> !bf N e z&& !bf N z e) (E.filter fun e=>bf N V e)=dR (wt N) (fun e=> !bf N e z&& !bf N z e) E:=by
  rw[JO];refine Oc _ fun x _=>?_
  cases q:bf N V x
  ·rcases BG N V z x OQ with w|w
   ·rw[w];rfl
   ·rw[w] at q;cases q
  ·rfl
 rw[<-k2] at hb;rw[k3,<-Int.add_assoc,<-k2] at ha;have uC:z∈nM (aj l) (ag rg):=by rw[<-JN hM,hE];exact hzE
 obtain⟨z0,hz0,hzz⟩:=bh.1 uC;have ajf:∀u v:Pt,gP N (bK (aj l) u) (bK (aj l) v)↔(rl n u).1<=0/\0<(rl n v).1:=fun u v=>by
  obtain⟨p,q,hp,hq,e1,_⟩:=vF hM (hO n hn) u;obtain⟨p',q',hp',hq',nD,_⟩:=vF hM (hO n hn) v;have g1:=j6 hp hq e1;have g2:=j6 hp' hq' nD;unfold gP;rw[<-YH];omega
 obtain⟨u,v,YI,YJ⟩:∃u v,((u=z0.1/\v=z0.2)\/(u=z0.2/\v=z0.1))/\gP N (bK (aj l) u) (bK (aj l) v):=by
  rcases YE hT' with q|q
  ·rw[<-hzz] at q;exact⟨z0.1,z0.2,ae ⟨rfl,rfl⟩,q⟩
  ·rw[<-hzz] at q;exact⟨z0.2,z0.1,af ⟨rfl,rfl⟩,q⟩
 have YK:=(ajf u v).1 YJ;obtain⟨f,t,hft,g1,g2,g3,la,lb⟩:=XT hN hn hz0 YI YK.1 YK.2;obtain⟨hfl,htl,_⟩:=hft.facts hN;have tT:gP N (PM (aj l) f) (PM (aj l) t):=by rw[<-YH] at*;exact(YG hfl htl).2 ⟨g1,g2⟩
 have p0:=jz hM (hO f hfl) (hO t htl);have uA:∀w,lam (wv f t) f w=0->cr (dr (PM (aj l) f,PM (aj l) t)) (dr (PM (aj l) f,bK (aj l) w))=0:=fun w hw=>by
  have:=vF hM (hO f hfl) w;rw[eo] at this;exact(p0.cr this).2.2.2 hw
 obtain⟨s1,s2⟩:=ajc YJ tT (uA u la) (uA v lb) BP;have hzl:bf N z (PM (aj l) f,PM (aj l) t)=false/\bf N (PM (aj l) f,PM (aj l) t) z=false:=by
  rcases YI with⟨rfl,rfl⟩|⟨rfl,rfl⟩
  ·rw[<-hzz];exact⟨s1,s2⟩
  ·have e:z=rv (bK (aj l) z0.2,bK (aj l) z0.1):=by rw[<-hzz];rfl
   rw[e,(JP N _ _).1,(JP N _ _).2];exact⟨s1,s2⟩
 have hP:=OP hN hft;obtain⟨i1,i2⟩:=YC hN hft;obtain⟨j1,j2⟩:=hts BP tT (by rw[hE] at hP⊢;exact hP)
 rw[hE] at i1 i2 j1 j2;have cg:∀x,bf N x (PM (aj l) f,PM (aj l) t)=bf N x z/\bf N (PM (aj l) f,PM (aj l) t) x=bf N z x:=fun x=>⟨(YF hzl.1 hzl.2).1.symm,(YF hzl.1 hzl.2).2.symm⟩
 refine⟨f,t,ae ⟨hft,?_,?_⟩,tT,JQ hT' hzl.1,?_⟩
 ·rw[<-i2,j2];have:dR (wt N) (fun e=> !bf N (PM (aj l) f,PM (aj l) t) e) E=dR (wt N) (fun e=>bf N e z) E+dR (wt N) (fun e=> !bf N e z&& !bf N z e) E:=by
   refine BA _ fun x _=>?_
   rw[(cg x).2];cases q1:bf N x z<;>cases q2:bf N z x
   ·rfl
   ·rfl
   ·rfl
   ·have:=BF N _ _ _ q1 q2;rw[EP] at this;cases this
  rw[this];exact ha
 ·rw[<-i1,j1,Oc _ fun x _=>(cg x).1]
  exact hb
 ·rw[(cg V).1];exact OQ
end
end Go.Proofs.YtkjhhooecopolaaGreatDoor.Gb

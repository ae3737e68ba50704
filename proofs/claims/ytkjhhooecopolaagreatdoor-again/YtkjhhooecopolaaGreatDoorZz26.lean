import Derived.Test.YtkjhhooecopolaaGreatDoorZz25
set_option maxRecDepth 100000
set_option maxHeartbeats 4000000
namespace Go.Proofs.YtkjhhooecopolaaGreatDoor
open Go.RowKit
open Ge
structure SX(rg:List (List Pt))(l:List Nd)(r:Int)(Xs:List PB):Prop where
 nl:Ga.bK (ag rg) l
 mem:∀x∈Xs,Ga.Sd (ag rg) l (takes r) x.f x.t
 all:∀a b,Ga.Sd (ag rg) l (takes r) a b->∃x∈Xs,x.f=a/\x.t=b
 zB:∀i j,i<Xs.length->j<Xs.length->(xi Xs i).f=(xi Xs j).f->(xi Xs i).t=(xi Xs j).t->i=j
theorem Hu{r:Int}{es:List Ed}{p x:PB}(hx:x∈eB r es p):(x=p/\takes r (oH es p.f p.t)=true/\takes r (mI es p.f p.t)=false)\/(x=p.rev/\takes r (mI es p.f p.t)=true/\takes r (oH es p.f p.t)=false):=by
 unfold eB at hx;split at hx
 ·rename_i h
  exact ae ⟨by simpa using hx,h⟩
 ·split at hx
  ·rename_i h
   exact af ⟨by simpa using hx,h⟩
  ·simp at hx
theorem Hv{rg:List (List Pt)}{l:List Nd}{r:Int}{Ps:List PB}(hl:l.map au=eO (ag rg))(hc:∀n∈l,Ge.Can n)(h:mH (ag rg) l Ps):SX rg l r (mK r (ag rg) Ps):=by
 have hN:Ga.bK (ag rg) l:=⟨hl,hc,fun e he=>Fb he⟩
 have hv:∀x∈Ps.flatMap (eB r (ag rg)),cK x:=fun x hx=>by
  obtain⟨p,hp,tF⟩:=qf.1 hx;exact Ma (h.v p hp) tF
 obtain⟨hperm,_⟩:=Ve (Ps.flatMap (eB r (ag rg))) hv;have hpc:∀p∈Ps,Ga.di (ag rg) l p.f p.t:=fun p hp=>by
  obtain⟨e,he,_,hq⟩:=h.ap.mem p hp;exact⟨e,he,hq⟩
 have hts:∀p∈Ps,mI (ag rg) p.f p.t=Ga.RR (ag rg) p.f p.t/\oH (ag rg) p.f p.t=Ga.LL (ag rg) p.f p.t:=fun p hp=>afG _ (h.v p hp).cf.pos (h.v p hp).ct.pos
 refine⟨hN,fun x hx=>?_,fun a b hab=>?_,fun i j hi hj hf ht=>?_⟩
 ·obtain⟨p,hp,tF⟩:=qf.1 ((hperm.mem_iff).1 hx);obtain⟨t1,t2⟩:=hts p hp;rcases Hu tF with⟨rfl,h1,h2⟩|⟨rfl,h1,h2⟩
  ·rw[t2] at h1;rw[t1] at h2;exact ae ⟨hpc _ hp,h1,h2⟩
  ·rw[t1] at h1;rw[t2] at h2;exact af ⟨hpc _ hp,h1,h2⟩
 ·rcases hab with⟨⟨e,he,hq⟩,h1,h2⟩|⟨⟨e,he,hq⟩,h1,h2⟩
  ·obtain⟨p,hp,jT⟩:=h.ap.all e he _ hq;have e1:p.f=a:=aw Prod.fst jT;have e2:p.t=b:=aw Prod.snd jT;obtain⟨t1,t2⟩:=hts p hp;rw[e1,e2] at t1 t2;refine⟨p,(hperm.mem_iff).2 (qf.2 ⟨p,hp,?_⟩),e1,e2⟩;unfold eB;rw[e1,e2,t1,t2,ah ⟨h1,h2⟩];simp
  ·obtain⟨p,hp,jT⟩:=h.ap.all e he _ hq;have e1:p.f=b:=aw Prod.fst jT;have e2:p.t=a:=aw Prod.snd jT;obtain⟨t1,t2⟩:=hts p hp;rw[e1,e2] at t1 t2;refine⟨p.rev,(hperm.mem_iff).2 (qf.2 ⟨p,hp,?_⟩),e2,e1⟩;unfold eB;rw[e1,e2,t1,t2,aa (by rw[h2];simp),ah ⟨h1,h2⟩]
   simp
 ·have hp0:(Ps.flatMap (eB r (ag rg))).Pairwise fun x y=>¬(x.f=y.f/\x.t=y.t):=by
   rw[List.pairwise_flatMap];refine⟨fun p hp=>?_,?_⟩
   ·unfold eB;split
    ·exact aks _ _
    ·split
     ·exact aks _ _
     ·exact List.Pairwise.nil
   ·refine rV (fun{p q} hp hq hlt x hx y hy=>?_) h.nR
    have lp:=Hi h hl p hp;have lq:=Hi h hl q hq;have asym:∀{u v:Nd},Ge.Can u->Ge.Can v->lt (au u) (au v)->¬lt (au v) (au u):=fun hu hv a b=>lt_irrefl _ (lt_trans (cJ hu) (cJ hv) (cJ hu) a b)
    have hne:¬(p.f=q.f/\p.t=q.t):=fun⟨a,b⟩=>by
     have h1:=Um (h.v p hp) (h.v q hq) (h.v q hq) a b;have h2:=h1.1 hlt;have h3:¬iZ q q:=by
      unfold iZ y8;rw[u7,u7];simp
     exact h3 h2
    rintro⟨e1,e2⟩;rcases Hu hx with⟨rfl,_⟩|⟨rfl,_⟩<;>rcases Hu hy with⟨rfl,_⟩|⟨rfl,_⟩
    ·exact hne ⟨e1,e2⟩
    ·have lK:x.f=q.t:=e1;have e2':x.t=q.f:=e2;rw[lK,e2'] at lp;exact asym (h.v q hq).cf (h.v q hq).ct lq lp
    ·have lK:p.t=y.f:=e1;have e2':p.f=y.t:=e2;rw[lK,e2'] at lp;exact asym (h.v _ hq).cf (h.v _ hq).ct lq lp
    ·have lK:p.t=q.t:=e1;have e2':p.f=q.f:=e2;exact hne ⟨e2',lK⟩
  have hp1:(mK r (ag rg) Ps).Pairwise fun x y=>¬(x.f=y.f/\x.t=y.t):=(hperm.pairwise_iff (fun{x y} hxy=>fun⟨a,b⟩=>hxy ⟨a.symm,b.symm⟩)).2 hp0
  have gx:∀{k:Nat}(hk:k<(mK r (ag rg) Ps).length),xi (mK r (ag rg) Ps) k=(mK r (ag rg) Ps)[k]:=fun hk=>tH (aD hk)
  rw[gx hi,gx hj] at hf ht;rcases Ej i j with k|k|k
  ·exact absurd ⟨hf,ht⟩ (lF.1 hp1 i j hi hj k)
  ·exact k
  ·exact absurd ⟨hf.symm,ht.symm⟩ (lF.1 hp1 j i hj hi k)
theorem Ml{cf:Nat->Nat->Int}:∀(l:List Nat)(m:Nat),(m::l).Nodup->(∀a∈m::l,∀b∈m::l,∀c∈m::l,cf a b<0->cf b c<0->cf a c<0)->(∀a∈m::l,¬cf a a<0)->(∀a∈m::l,∀b∈m::l,a≠b->cf a b<0\/cf b a<0)->∀k∈m::l,¬cf k (bw cf l m)<0
 |[],m,_,_,hi,_,k,hk=>by
  have:k=m:=by simpa using hk
  rw[this];exact hi m (by simp)
 |b::l,m,hn,ht,hi,hw,k,hk=>by
  have hb:b∈m::b::l:=by simp
  have hm:m∈m::b::l:=by simp
  have jm:m≠b:=fun e=>by
   rw[e] at hn;simp at hn
  show ¬cf k (bw cf l (if cf b m<0 then b else m))<0
  have hres:∀m'∈m::b::l,bw cf l m'∈m::b::l:=fun m' hm'=>by
   rcases uX cf l m' with e|e
   ·rw[e];exact hm'
   ·exact bo _ (bo _ e)
  by_cases hc:cf b m<0
  ·rw[ah hc];have sub:∀x,x∈b::l->x∈m::b::l:=fun x hx=>bo _ hx
   have ih:=Ml l b (Js.1 hn).2 (fun a ha c hc' d hd=>ht a (sub a ha) c (sub c hc') d (sub d hd)) (fun a ha=>hi a (sub a ha)) (fun a ha c hc'=>hw a (sub a ha) c (sub c hc'))
   rcases aP.1 hk with e|hk
   ·rw[e];intro h;exact ih b (by simp) (ht b hb m hm _ (hres b hb) hc h)
   ·exact ih k hk
  ·rw[aa hc];have hcm:cf m b<0:=(hw m hm b hb jm).resolve_right hc;have sub:∀x,x∈m::l->x∈m::b::l:=fun x hx=>by
    rcases aP.1 hx with e|hx
    ·rw[e];simp
    ·simp[hx]
   have hn':(m::l).Nodup:=by
    rw[Js] at hn⊢;exact⟨fun h=>hn.1 (bo _ h),(Js.1 hn.2).2⟩
   have ih:=Ml l m hn' (fun a ha c hc' d hd=>ht a (sub a ha) c (sub c hc') d (sub d hd)) (fun a ha=>hi a (sub a ha)) (fun a ha c hc'=>hw a (sub a ha) c (sub c hc'))
   rcases aP.1 hk with e|hk
   ·rw[e];exact ih m (by simp)
   ·rcases aP.1 hk with e|hk
    ·rw[e];intro h;exact ih m (by simp) (ht m hm b hb _ (hres m hm) hcm h)
    ·exact ih k (bo _ hk)
section
variable{rg:List (List Pt)}{l:List Nd}{r:Int}{Xs:List PB}
theorem SX.sd(h:SX rg l r Xs){i:Nat}(hi:i<Xs.length):Ga.Sd (ag rg) l (takes r) (xi Xs i).f (xi Xs i).t:=h.mem _ (fN hi)
theorem SX.find(h:SX rg l r Xs){a b:Nd}(hs:Ga.Sd (ag rg) l (takes r) a b):∃i,i<Xs.length/\(xi Xs i).f=a/\(xi Xs i).t=b:=by
 obtain⟨x,hx,e1,e2⟩:=h.all a b hs;obtain⟨i,hi,rfl⟩:=jL.1 hx;exact⟨i,hi,by rw[tH (aD hi)];exact e1,by rw[tH (aD hi)];exact e2⟩
theorem SX.go(h:SX rg l r Xs)(i:Nat)(hi:i<Xs.length):∃x∈Xs,x.f=(xi Xs i).t:=by
 obtain⟨c,hc⟩:=(h.sd hi).next h.nl
 obtain⟨x,hx,e,_⟩:=h.all _ _ hc;exact⟨x,hx,e⟩
theorem SX.next(h:SX rg l r Xs)(hB:BD Xs){i:Nat}(hi:i<Xs.length):bZ Xs i<Xs.length/\(xi Xs (bZ Xs i)).f=(xi Xs i).t/\∀j,j<Xs.length->(xi Xs j).f=(xi Xs i).t->¬pU (xi Xs i) (xi Xs j) (xi Xs (bZ Xs i))<0:=by
 have jo:=(hB.v _ (fN hi)).ct;have hlt:=Mk hB jo (h.go i hi);obtain⟨h1,h2⟩:=Vn hlt;have hle:=Mj Xs (xi Xs i).t;have hlen:bZ Xs i<Xs.length:=by omega
 have hf:(xi Xs (bZ Xs i)).f=(xi Xs i).t:=(Hr hB jo _ _ (tJ hlen) h1).1 h2;refine⟨hlen,hf,fun j hj Vo=>?_⟩
 have xj:∀k,k∈ij Xs (xi Xs i).t::List.range' (ij Xs (xi Xs i).t+1) (kC Xs (xi Xs i).t-ij Xs (xi Xs i).t-1)↔ij Xs (xi Xs i).t<=k/\k<kC Xs (xi Xs i).t:=fun k=>by
  rw[aP,El];omega
 have ru:∀k,ij Xs (xi Xs i).t<=k->k<kC Xs (xi Xs i).t->k<Xs.length/\(xi Xs k).f=(xi Xs i).t:=fun k k1 k2=>by
  have hk:k<Xs.length:=by omega
  exact⟨hk,(Hr hB jo _ _ (tJ hk) k1).1 k2⟩
 have hjm:ij Xs (xi Xs i).t<=j/\j<kC Xs (xi Xs i).t:=by
  have a:=Hq hB jo j _ (tJ hj);have hge:ij Xs (xi Xs i).t<=j:=by
   apply Nat.not_lt.1;intro hk;have:=a.1 hk;rw[Vo,u7] at this;omega
  exact⟨hge,(Hr hB jo j _ (tJ hj) hge).2 Vo⟩
 have Vp:=h.sd hi;have facts:∀k,k<Xs.length->(xi Xs k).f=(xi Xs i).t->Ga.wv (xi Xs i).t (xi Xs k).t≠(0,0)/\Ga.ay (Ga.wv (xi Xs i).t (xi Xs k).t) (Ga.wv (xi Xs i).t (xi Xs i).f)=false:=fun k hk vd=>by
  have hsk:=h.sd hk;rw[vd] at hsk;exact⟨(Ga.fW h.nl hsk.pc).1,Vp.oJ h.nl hsk⟩
 have ha:Ga.wv (xi Xs i).t (xi Xs i).f≠(0,0):=by rw[Ga.dS];exact Ga.ji (Ga.fW h.nl Vp.pc).1
 have hcw:∀j k,j<Xs.length->(xi Xs j).f=(xi Xs i).t->k<Xs.length->(xi Xs k).f=(xi Xs i).t->(pU (xi Xs i) (xi Xs j) (xi Xs k)<0↔Ga.cw (Ga.wv (xi Xs i).t (xi Xs i).f) (Ga.wv (xi Xs i).t (xi Xs j).t) (Ga.wv (xi Xs i).t (xi Xs k).t)=true):=fun j k hj Mm hk vd=>by
  have:=Ga.AB ha (facts j hj Mm).1 (facts k hk vd).1 (facts j hj Mm).2 (facts k hk vd).2;rw[<-this,Ht,Mm,vd,<-Ga.dS]
 have key:=Ml (cf:=fun j k=>pU (xi Xs i) (xi Xs j) (xi Xs k)) (List.range' (ij Xs (xi Xs i).t+1) (kC Xs (xi Xs i).t-ij Xs (xi Xs i).t-1)) (ij Xs (xi Xs i).t) (by
   rw[Js];refine⟨fun hm=>?_,List.nodup_range' ..⟩
   have:=El.1 hm;omega) (fun a ha' b hb c hc h1 h2=>by
   obtain⟨a1,a2⟩:=(xj a).1 ha';obtain⟨b1,b2⟩:=(xj b).1 hb;obtain⟨c1,c2⟩:=(xj c).1 hc;obtain⟨a3,a4⟩:=ru a a1 a2;obtain⟨b3,b4⟩:=ru b b1 b2;obtain⟨c3,c4⟩:=ru c c1 c2;refine(hcw a c a3 a4 c3 c4).2 ?_;exact Ga.afE ha (facts a a3 a4).1 (facts b b3 b4).1 (facts c c3 c4).1 ((hcw a b a3 a4 b3 b4).1 h1) ((hcw b c b3 b4 c3 c4).1 h2)) (fun a ha' hk=>by
   obtain⟨a1,a2⟩:=(xj a).1 ha';obtain⟨a3,a4⟩:=ru a a1 a2;have:=Ga.kK.1 ((hcw a a a3 a4 a3 a4).1 hk);rw[Ga.oY] at this;have lg:=Ga.EH (facts a a3 a4).1 ha;rcases this with⟨_,_,h'⟩|⟨h',h''⟩|⟨_,_,h'⟩
   ·cases h'
   ·rw[lg h'] at h'';cases h''
   ·cases h') (fun a ha' b hb hne=>by
   obtain⟨a1,a2⟩:=(xj a).1 ha';obtain⟨b1,b2⟩:=(xj b).1 hb;obtain⟨a3,a4⟩:=ru a a1 a2;obtain⟨b3,b4⟩:=ru b b1 b2;obtain⟨na,sa⟩:=facts a a3 a4;obtain⟨nb,sb⟩:=facts b b3 b4;have hs:Ga.ay (Ga.wv (xi Xs i).t (xi Xs a).t) (Ga.wv (xi Xs i).t (xi Xs b).t)=false:=by
    cases hk:Ga.ay (Ga.wv (xi Xs i).t (xi Xs a).t) (Ga.wv (xi Xs i).t (xi Xs b).t)
    ·rfl
    ·exfalso;have Vq:=h.sd a3;have Vr:=h.sd b3;rw[a4] at Vq;rw[b4] at Vr;have:=Ga.CP h.nl Vq.pc Vr.pc hk;exact hne (h.zB a b a3 b3 (a4.trans b4.symm) this)
   have t1:=Ga.gZ na ha;have t2:=Ga.gZ nb ha;have t3:=Ga.gZ na nb;rw[sa] at t1;rw[sb] at t2;rw[hs] at t3;rw[hcw a b a3 a4 b3 b4,hcw b a b3 b4 a3 a4];unfold Ga.cw;revert t1 t2 t3;generalize Ga.ak (Ga.wv (xi Xs i).t (xi Xs a).t) (Ga.wv (xi Xs i).t (xi Xs i).f)=p1;generalize Ga.ak (Ga.wv (xi Xs i).t (xi Xs i).f) (Ga.wv (xi Xs i).t (xi Xs a).t)=p2;generalize Ga.ak (Ga.wv (xi Xs i).t (xi Xs b).t) (Ga.wv (xi Xs i).t (xi Xs i).f)=p3;generalize Ga.ak (Ga.wv (xi Xs i).t (xi Xs i).f) (Ga.wv (xi Xs i).t (xi Xs b).t)=p4;generalize Ga.ak (Ga.wv (xi Xs i).t (xi Xs a).t) (Ga.wv (xi Xs i).t (xi Xs b).t)=p5;generalize Ga.ak (Ga.wv (xi Xs i).t (xi Xs b).t) (Ga.wv (xi Xs i).t (xi Xs a).t)=p6;revert p1 p2 p3 p4 p5 p6;decide) j ((xj j).2 hjm)
 exact key
theorem SX.inj(h:SX rg l r Xs)(hB:BD Xs){i j:Nat}(hi:i<Xs.length)(hj:j<Xs.length)(he:bZ Xs i=bZ Xs j):i=j:=by
 obtain⟨i1,i2,i3⟩:=h.next hB hi
 obtain⟨j1,j2,j3⟩:=h.next hB hj
 rw[<-he] at j1 j2 j3;have hij:(xi Xs i).t=(xi Xs j).t:=i2.symm.trans j2;have si:=h.sd hi;have sj:=h.sd hj;have sn:=h.sd i1;rw[<-hij] at sj;rw[i2] at sn;have conv:∀k,k<Xs.length->(∀j,j<Xs.length->(xi Xs j).f=(xi Xs k).t->¬pU (xi Xs k) (xi Xs j) (xi Xs (bZ Xs i))<0)->(xi Xs k).t=(xi Xs i).t->∀c',Ga.Sd (ag rg) l (takes r) (xi Xs i).t c'->¬Ga.tC (Ga.wv (xi Xs k).f (xi Xs i).t) (Ga.wv (xi Xs i).t c') (Ga.wv (xi Xs i).t (xi Xs (bZ Xs i)).t)<0:=fun k _ hm Vs c' hc'=>by
  obtain⟨q,hq,q1,q2⟩:=h.find hc';have:=hm q hq (by rw[q1,Vs])
  rw[Ht,q1,q2,i2,Vs] at this;exact this
 have hf:=Ga.aeJ h.nl si sj sn (conv i hi i3 rfl) (conv j hj j3 hij.symm);exact h.zB i j hi hj hf hij
end
end Go.Proofs.YtkjhhooecopolaaGreatDoor
namespace Go.Proofs.YtkjhhooecopolaaGreatDoor.Gb
open Ge Ga
theorem afH{a a' l z:Pt}(ha:a≠(0,0))(ha':a'≠(0,0))(hl:l≠(0,0))(hz:z≠(0,0))(h1:cw a a' l=true)(h2:cw a' z l=true):cw a z l=true:=by
 have lg:∀{x y:Pt},x≠(0,0)->y≠(0,0)->ak x y=true->ak y x=true->False:=fun hx hy p q=>by
  have:=EH hx hy p;rw[q] at this;cases this
 rw[kK] at h1 h2⊢;rcases h1 with⟨p1,p2,p3⟩|⟨p1,p2⟩|⟨p1,p2,p3⟩<;>rcases h2 with⟨q1,q2,q3⟩|⟨q1,q2⟩|⟨q1,q2,q3⟩
 ·exact ae ⟨gf hz ha' ha q1 p1,p2,q3⟩
 ·exact absurd p3 (fun k=>lg hl ha' k q2)
 ·exact absurd p3 (fun k=>lg hl ha' k q2)
 ·exact absurd (gf ha' ha hl p1 p2) (fun k=>lg ha' hl k q2)
 ·exact af (ae ⟨gf hz ha' ha q1 p1,p2⟩)
 ·exact af (af ⟨gf ha hl hz p2 q3,p2,q3⟩)
 ·exact af (af ⟨gf ha hl hz p2 q3,p2,q3⟩)
 ·exact absurd p3 (fun k=>lg hl ha' k q2)
 ·exact absurd p3 (fun k=>lg hl ha' k q2)
section
variable{es:List (Pt×Pt)}{l:List Nd}
theorem bK.ok(hN:bK es l):0<ai l/\∀n∈l,OK (ai l) n:=
 ⟨UJ fun n hn=>(hN.can n hn).pos,fun n hn=>⟨(hN.can n hn).pos,UK hn⟩⟩
theorem Mn(hN:bK es l){a b:Nd}(ha:a∈l)(hb:b∈l)(h:wv a b=(0,0)):a=b:=by
 rcases Lr (hN.can a ha) (hN.can b hb) with k|k|k
 ·have:=(lS (hN.can a ha) (hN.can b hb)).1 k;exact absurd h (jS this)
 ·exact k
 ·have:=(lS (hN.can b hb) (hN.can a ha)).1 k;rw[dS a b,h] at this;exact absurd rfl (jS this)
theorem rA(hN:bK es l){a b:Nd}(ha:a∈l)(hb:b∈l)(h:PM (ai l) a=PM (ai l) b):a=b:=
 Mn hN ha hb ((ja (bK.ok hN).1 ((bK.ok hN).2 a ha) ((bK.ok hN).2 b hb)).zero.1 (oZ.2 h))
theorem Vt(hN:bK es l){a f t:Nd}(ha:a∈l)(h:di es l f t\/di es l t f)(ho:on (dr (PM (ai l) a,PM (ai l) f)) (dr (PM (ai l) a,PM (ai l) t))=true):a=f\/a=t:=by
 have key:∀{f t:Nd},di es l f t->on (dr (PM (ai l) a,PM (ai l) f)) (dr (PM (ai l) a,PM (ai l) t))=true->a=f\/a=t:=by
  intro f t h ho;obtain⟨hM,hO⟩:=bK.ok hN;obtain⟨hf,ht,hr⟩:=h.facts hN;have p1:=ja hM (hO a ha) (hO f hf);have p2:=ja hM (hO a ha) (hO t ht);have p0:=ja hM (hO f hf) (hO t ht);have q1:=ja hM (hO f hf) (hO a ha);have q2:=ja hM (hO a ha) (hO t ht);rw[j5] at ho;apply lD;intro hne;have hx:dr (PM (ai l) a,PM (ai l) f)≠(0,0):=fun e=>hne (ae (Mn hN ha hf (p1.zero.1 e)))
  have hy:dr (PM (ai l) a,PM (ai l) t)≠(0,0):=fun e=>hne (af (Mn hN ha ht (p2.zero.1 e)))
  have dx:=Ga.dO hx;have dy:=Ga.dO hy;refine h.gap hN ha ⟨oI hr ((p0.cr q1).2.2.1 ?_) ((p0.dt q1).1.1 ?_),oI hr ((p0.cr q2).2.2.1 ?_) ((p0.dt q2).1.1 ?_)⟩
  ·generalize PM (ai l) a=A at*;generalize PM (ai l) f=F at*;generalize PM (ai l) t=T at*;have:cr (dr (F,T)) (dr (F,A))=cr (dr (A,F)) (dr (A,T)):=by unfold cr dr;grind
   omega
  ·generalize PM (ai l) a=A at*;generalize PM (ai l) f=F at*;generalize PM (ai l) t=T at*;have:dt (dr (F,T)) (dr (F,A))=dt (dr (A,F)) (dr (A,F))-dt (dr (A,F)) (dr (A,T)):=by unfold dt dr;grind
   omega
  ·generalize PM (ai l) a=A at*;generalize PM (ai l) f=F at*;generalize PM (ai l) t=T at*;have:cr (dr (F,T)) (dr (A,T))= -cr (dr (A,F)) (dr (A,T)):=by unfold cr dr;grind
   omega
  ·generalize PM (ai l) a=A at*;generalize PM (ai l) f=F at*;generalize PM (ai l) t=T at*;have:dt (dr (F,T)) (dr (A,T))=dt (dr (A,T)) (dr (A,T))-dt (dr (A,F)) (dr (A,T)):=by unfold dt dr;grind
   omega
 rcases h with h|h
 ·exact key h ho
 ·rw[vO] at ho;exact(key h ho).symm
end
def ph(M:Int)(x:PB):Sg:=(PM M x.f,PM M x.t)
def sS(M:Int)(Xs:List PB):List Sg:=Xs.map (ph M)
def jE(M:Int)(Xs:List PB)(s:Sg):Sg:=match(List.range Xs.length).find? (fun i=>decide (ph M (xi Xs i)=s)) with
 |some i=>ph M (xi Xs (bZ Xs i))
 |none=>s
section
variable{rg:List (List Pt)}{l:List Nd}{r:Int}{Xs:List PB}
theorem SX.C6(h:SX rg l r Xs){i j:Nat}(hi:i<Xs.length)(hj:j<Xs.length)(e:ph (ai l) (xi Xs i)=ph (ai l) (xi Xs j)):i=j:=by
 obtain⟨_,a1,a2⟩:=fW h.nl (h.sd hi).pc;obtain⟨_,b1,b2⟩:=fW h.nl (h.sd hj).pc;exact h.zB i j hi hj (rA h.nl a1 b1 (aw Prod.fst e)) (rA h.nl a2 b2 (aw Prod.snd e))
theorem jc(M:Int){s:Sg}(hs:s∈sS M Xs):∃i,i<Xs.length/\s=ph M (xi Xs i):=by
 obtain⟨x,hx,rfl⟩:=bp.1 hs;obtain⟨i,hi,e⟩:=jL.1 hx;exact⟨i,hi,by rw[<-e];unfold xi;rw[kI,aD hi];rfl⟩
theorem C7(M:Int){i:Nat}(hi:i<Xs.length):ph M (xi Xs i)∈sS M Xs:=bp.2 ⟨_,fN hi,rfl⟩
theorem xk(h:SX rg l r Xs){i:Nat}(hi:i<Xs.length):jE (ai l) Xs (ph (ai l) (xi Xs i))=ph (ai l) (xi Xs (bZ Xs i)):=by
 unfold jE;cases hf:(List.range Xs.length).find? (fun j=>decide (ph (ai l) (xi Xs j)=ph (ai l) (xi Xs i))) with
 |none=>
  have:=Zw.1 hf i (oW.2 hi);simp at this
 |some j=>
  have hj:=oW.1 (List.mem_of_find?_eq_some hf);have e:=List.find?_some hf;simp only;rw[SX.C6 h hj hi (fO e)]
theorem SX.wd(h:SX rg l r Xs)(hB:BD Xs):Wd (sS (ai l) Xs) (jE (ai l) Xs):=by
 have hN:=h.nl;obtain⟨hM,hO⟩:=bK.ok hN;have ml:∀{i},i<Xs.length->(xi Xs i).f∈l/\(xi Xs i).t∈l:=fun hi=>(fW hN (h.sd hi).pc).2
 have wn:∀{i},i<Xs.length->wv (xi Xs i).f (xi Xs i).t≠(0,0):=fun hi=>(fW hN (h.sd hi).pc).1
 have pd:∀{i},i<Xs.length->Pm (dr (ph (ai l) (xi Xs i))) (wv (xi Xs i).f (xi Xs i).t):=fun hi=>ja hM (hO _ (ml hi).1) (hO _ (ml hi).2)
 have nb:∀{i j},i<Xs.length->j<Xs.length->(xi Xs j).f=(xi Xs i).t->ay (wv (xi Xs j).f (xi Xs j).t) (neg (wv (xi Xs i).f (xi Xs i).t))=false:=fun{i j} hi hj e=>by
  have h1:=h.sd hi;have h2:=h.sd hj;rw[e] at h2⊢;have:=h1.oJ hN h2;rw[dS (xi Xs i).f] at this;exact this
 have W1:∀{i j},i<Xs.length->j<Xs.length->(xi Xs j).f=(xi Xs i).t->cw (neg (wv (xi Xs i).f (xi Xs i).t)) (wv (xi Xs j).f (xi Xs j).t) (wv (xi Xs (bZ Xs i)).f (xi Xs (bZ Xs i)).t)=false:=fun{i j} hi hj e=>by
  obtain⟨n1,n2,n3⟩:=h.next hB hi
  have k:=n3 j hj e;rw[Ht] at k;have t:=AB (a:=neg (wv (xi Xs i).f (xi Xs i).t)) (ji (wn hi)) (wn hj) (wn n1) (nb hi hj e) (nb hi n1 n2);rw[neg_neg] at t;cases q:cw (neg (wv (xi Xs i).f (xi Xs i).t)) (wv (xi Xs j).f (xi Xs j).t) (wv (xi Xs (bZ Xs i)).f (xi Xs (bZ Xs i)).t)
  ·rfl
  ·exact absurd (t.2 q) k
 refine⟨fun s hs e=>?_,fun s hs u hu=>?_,fun s hs u hu ho=>?_,fun s hs u hu ho=>?_,fun s hs u hu e k=>?_,fun s hs u hu e k=>?_,fun s hs u hu e=>?_,fun s hs=>?_,fun s hs u hu e=>?_,fun s hs u hu e=>?_,fun s hs u hu e=>?_⟩
 ·obtain⟨i,hi,rfl⟩:=jc _ hs;exact wn hi ((pd hi).zero.1 (oZ.2 e))
 ·obtain⟨i,hi,rfl⟩:=jc _ hs;obtain⟨j,hj,rfl⟩:=jc _ hu;rw[(pd hi).aM];rcases(h.sd hi).pc with q|q
  ·exact⟨fun _=>UO hM hO hN q (h.sd hj).pc,fun k=>absurd (q.facts hN).2.2 k⟩
  ·have hr:=(q.facts hN).2.2;refine⟨fun k=>?_,fun _=>UO hM hO hN q (h.sd hj).pc⟩
   rw[dS (xi Xs i).f] at hr;exact absurd hr (fun w=>LM k w)
 ·obtain⟨i,hi,rfl⟩:=jc _ hs;obtain⟨j,hj,rfl⟩:=jc _ hu;rcases Vt hN (ml hi).1 (h.sd hj).pc ho with q|q
  ·exact ae (aw (PM (ai l)) q)
  ·exact af (aw (PM (ai l)) q)
 ·obtain⟨i,hi,rfl⟩:=jc _ hs;obtain⟨j,hj,rfl⟩:=jc _ hu;rcases Vt hN (ml hi).2 (h.sd hj).pc ho with q|q
  ·exact ae (aw (PM (ai l)) q)
  ·exact af (aw (PM (ai l)) q)
 ·obtain⟨i,hi,rfl⟩:=jc _ hs;obtain⟨j,hj,rfl⟩:=jc _ hu;have ef:(xi Xs i).f=(xi Xs j).f:=rA hN (ml hi).1 (ml hj).1 e;rw[(pd hi).ay (pd hj)] at k;have h2:=(h.sd hj).pc;rw[<-ef] at k h2;have et:=CP hN (h.sd hi).pc h2 k;exact aw (fun i=>ph (ai l) (xi Xs i)) (h.zB i j hi hj ef et)
 ·obtain⟨i,hi,rfl⟩:=jc _ hs;obtain⟨j,hj,rfl⟩:=jc _ hu;have et:(xi Xs i).t=(xi Xs j).t:=rA hN (ml hi).2 (ml hj).2 e;rw[(pd hi).ay (pd hj)] at k;have h2:=(h.sd hj).pc.symm;rw[<-et] at k h2;have k2:ay (wv (xi Xs i).t (xi Xs i).f) (wv (xi Xs i).t (xi Xs j).f)=true:=by
   rw[dS (xi Xs i).f,dS (xi Xs j).f,cQ,eI,fh,qw,j6];rw[cQ] at k;omega
  have ef:=CP hN (h.sd hi).pc.symm h2 k2;exact aw (fun i=>ph (ai l) (xi Xs i)) (h.zB i j hi hj ef et)
 ·obtain⟨i,hi,rfl⟩:=jc _ hs;obtain⟨j,hj,rfl⟩:=jc _ hu;have ef:(xi Xs i).f=(xi Xs j).t:=rA hN (ml hi).1 (ml hj).2 e;rw[(pd hi).ay (pd hj).neg];exact nb hj hi ef
 ·obtain⟨i,hi,rfl⟩:=jc _ hs;rw[xk h hi];obtain⟨n1,n2,_⟩:=h.next hB hi
  exact⟨C7 _ n1,aw (PM (ai l)) n2⟩
 ·obtain⟨i,hi,rfl⟩:=jc _ hs;obtain⟨j,hj,rfl⟩:=jc _ hu;rw[xk h hi,xk h hj] at e;exact aw (fun i=>ph (ai l) (xi Xs i)) (h.inj hB hi hj (SX.C6 h (h.next hB hi).1 (h.next hB hj).1 e))
 ·obtain⟨i,hi,rfl⟩:=jc _ hs;obtain⟨j,hj,rfl⟩:=jc _ hu;have ef:(xi Xs j).f=(xi Xs i).t:=rA hN (ml hj).1 (ml hi).2 e;rw[xk h hi,(pd hi).neg.cw (pd hj) (pd (h.next hB hi).1)]
  exact W1 hi hj ef
 ·obtain⟨i,hi,rfl⟩:=jc _ hs;obtain⟨j,hj,rfl⟩:=jc _ hu;have et:(xi Xs j).t=(xi Xs i).t:=rA hN (ml hj).2 (ml hi).2 e;obtain⟨n1,n2,_⟩:=h.next hB hi
  rw[xk h hi,(pd hi).neg.cw (pd hj).neg (pd n1)];have Vu:=ji (wn hi);have Vv:=ji (wn hj);cases q:cw (neg (wv (xi Xs i).f (xi Xs i).t)) (neg (wv (xi Xs j).f (xi Xs j).t)) (wv (xi Xs (bZ Xs i)).f (xi Xs (bZ Xs i)).t)
  ·rfl
  ·exfalso;by_cases hij:i=j
   ·subst hij;rw[kK,oY] at q;simp at q
   have hsm:ay (neg (wv (xi Xs i).f (xi Xs i).t)) (neg (wv (xi Xs j).f (xi Xs j).t))=false:=by
    cases k:ay (neg (wv (xi Xs i).f (xi Xs i).t)) (neg (wv (xi Xs j).f (xi Xs j).t))
    ·rfl
    ·rw[<-dS,<-dS] at k;have h2:=(h.sd hj).pc.symm;rw[et] at k h2;exact absurd (h.zB i j hi hj (CP hN (h.sd hi).pc.symm h2 k) et.symm) hij
   have a1:=(h.sd hi).xa hN;have a2:=(h.sd hj).xa hN;rw[et] at a2;have e1:wv (xi Xs i).t (xi Xs j).f=neg (wv (xi Xs j).f (xi Xs j).t):=by rw[<-et];exact dS _ _
   rw[dS (xi Xs i).f] at a1;rw[e1] at a2;obtain⟨z,hz,kj⟩:=PD Vu Vv hsm a1.1 a1.2 a2.1 a2.2 (wn n1) (nb hi n1 n2) (nb hj n1 (n2.trans et.symm));obtain⟨m,hm,Mp⟩:=G7 hN (ml hi).2 hz;obtain⟨v,hv,v1,v2⟩:=h.find hm;have hw1:=W1 hi hv v1;have hvn:=wn hv;have e2:wv (xi Xs i).t m=wv (xi Xs v).f (xi Xs v).t:=by rw[v1,v2]
   rw[e2] at Mp;rcases kj with k|k
   ·rw[G8 (EY Mp)] at k;rw[hw1] at k;cases k
   ·rw[G8 (EY Mp)] at k;have:=afH Vu Vv (wn n1) hvn q k;rw[hw1] at this;cases this
end
def lT(M:Int)(es:List (Pt×Pt)):List (Pt×Pt):=es.map fun e=>(bG M e.1,bG M e.2)
theorem afJ{M:Int}(hM:0<M){u v:Pt}(h:bG M u=bG M v):u=v:=by
 unfold bG at h;have x1:=aw Prod.fst h;have x2:=aw Prod.snd h;simp only at x1 x2;exact dC (xP (by omega) x1) (xP (by omega) x2)
theorem afK{M:Int}(hM:0<M)(g:List Pt):gH (g.map (bG M))=lT M (gH g):=by
 have e:closing (g.map (bG M))=lT M (closing g):=by
  cases g with
  |nil=>rfl
  |cons a r=>
   unfold lT closing;show(bG M a::r.map (bG M)).zip (r.map (bG M)++[bG M a])=_;have e1:bG M a::r.map (bG M)=(a::r).map (bG M):=rfl;have e2:r.map (bG M)++[bG M a]=(r++[a]).map (bG M):=by simp
   rw[e1,e2,List.zip_map];rfl
 unfold gH;rw[e];unfold lT;rw[List.filter_map];congr 1;refine List.filter_congr fun x _=>?_
 simp only[Function.comp_apply];refine decide_eq_decide.2 ⟨fun h k=>h (by rw[k]),fun h k=>h (afJ hM k)⟩
theorem Hw{M:Int}(hM:0<M)(rg:List (List Pt)):ag (rg.map (·.map (bG M)))=lT M (ag rg):=by
 induction rg with
 |nil=>rfl
 |cons g rg ih=>
  have e1:ag ((g::rg).map (·.map (bG M)))=gH (g.map (bG M))++ag (rg.map (·.map (bG M))):=by simp[ag]
  have e2:ag (g::rg)=gH g++ag rg:=by simp[ag]
  rw[e1,e2,afK hM,ih];unfold lT;rw[iD]
theorem afL{u u' v v':Pt}(h:Pm u u')(k:Pm v v'):right u v=right u' v':=by
 have c:=h.cr k;obtain⟨p,q,hp,hq,e1,_⟩:=h;obtain⟨p',q',hp',hq',lK,_⟩:=k;have a:=jD hp hq e1;have b:=jD hp' hq' lK;unfold right;by_cases h1:u.1<=0/\0<v.1/\0<cr u v
 ·rw[ah h1,ah (by omega)]
 ·rw[aa h1,aa (by omega:¬(u'.1<=0/\0<v'.1/\0<cr u' v'))]
  by_cases h2:0<u.1/\v.1<=0/\cr u v<0
  ·rw[ah h2,ah (by omega)]
  ·rw[aa h2,aa (by omega)]
theorem Vw(F:Pt->Pt->Int)(g:Pt×Pt->Pt×Pt)(es:List (Pt×Pt)):total F (es.map g)=total (fun u v=>F (g (u,v)).1 (g (u,v)).2) es:=by
 unfold total;rw[jM];rfl
section
variable{M:Int}
theorem tL(hM:0<M){a:Nd}(ha:OK M a)(u:Pt):Pm (rl (n1 (PM M a)) (bG M u)) (rl a u):=by
 obtain⟨k,hk,ek⟩:=G9 hM ha;rw[dK,ek];exact xd hk _
theorem Vx(hM:0<M){a:Nd}(ha:OK M a)(es:List (Pt×Pt)):PP (lT M es) (n1 (PM M a))=PP es a:=by
 unfold PP lT;rw[Vw];exact ny fun e _=>afL (tL hM ha e.1) (tL hM ha e.2)
theorem Vy(hM:0<M){a:Nd}(ha:OK M a)(es:List (Pt×Pt)){Q Q':Pt->Bool}(hQ:∀z z',Pm z z'->Q z=Q' z'):AS (lT M es) (n1 (PM M a)) Q=AS es a Q':=by
 unfold AS lT;rw[Vw];refine ny fun e _=>?_
 have h1:=tL hM ha e.1;have h2:=tL hM ha e.2;unfold Ga.arm;rw[h1.on h2,hQ _ _ h1,hQ _ _ h2]
theorem afM{z z':Pt}(h:Pm z z'):nz z=nz z':=by
 unfold nz;exact decide_eq_decide.2 (not_congr h.zero)
theorem afN(hM:0<M){a:Nd}(ha:OK M a)(es:List (Pt×Pt)){d d':Pt}(hd:Pm d d'):cV (lT M es) (n1 (PM M a)) d=cV es a d'/\dP (lT M es) (n1 (PM M a)) d=dP es a d':=by
 have e1:cV (lT M es) (n1 (PM M a)) d=cV es a d':=by
  unfold cV;rw[Vx hM ha,Vy hM ha es (Q':=fun z=>nz z&&ak z d')]
  intro z z' hz;rw[afM hz,hz.ak hd]
 refine⟨e1,?_⟩;unfold dP;rw[e1,Vy hM ha es (Q':=fun z=>ay z d')]
 intro z z' hz;exact hz.ay hd
end
section
variable{rg:List (List Pt)}{l:List Nd}
theorem Mq(hN:bK (ag rg) l){f t:Nd}(h:di (ag rg) l f t):rZ (ag (rg.map (·.map (bG (ai l))))) (n1 (PM (ai l) f)) (n1 (PM (ai l) t)):=by
 obtain⟨hM,hO⟩:=bK.ok hN;obtain⟨hf,ht,hr⟩:=h.facts hN;have hP:=h.nB hN;have p0:=ja hM (hO f hf) (hO t ht);rw[Hw hM];have mem:∀e∈lT (ai l) (ag rg),∃e0∈ag rg,e=(bG (ai l) e0.1,bG (ai l) e0.2):=fun e he=>by
  obtain⟨e0,h0,rfl⟩:=bp.1 he;exact⟨e0,h0,rfl⟩
 have cc:∀z:Pt,lI f t (wv f t) z->lI (n1 (PM (ai l) f)) (n1 (PM (ai l) t)) (dr (PM (ai l) f,PM (ai l) t)) (bG (ai l) z):=fun z hz hl=>by
  have q1:=tL hM (hO f hf) z;have q2:=tL hM (hO t ht) z;have:=hz ((p0.cr q1).2.2.1 hl);have a:=(p0.dt q1).1;have b:=(p0.dt q2).2.1;omega
 refine⟨by show(0:Int)<1;decide,by show(0:Int)<1;decide,by rw[lJ];exact p0.aM.2 hr,fun e he=>?_,fun e he=>?_⟩
 ·obtain⟨e0,h0,rfl⟩:=mem e he;rw[lJ];exact UM hM (hO f hf) (hO t ht) (hP.s e0 h0)
 ·obtain⟨e0,h0,rfl⟩:=mem e he;rw[lJ];exact⟨cc _ (hP.c e0 h0).1,cc _ (hP.c e0 h0).2⟩
theorem Vz(hN:bK (ag rg) l){f t:Nd}(h:di (ag rg) l f t):
  RR (ag (rg.map (·.map (bG (ai l))))) (n1 (PM (ai l) f)) (n1 (PM (ai l) t))=RR (ag rg) f t/\LL (ag (rg.map (·.map (bG (ai l))))) (n1 (PM (ai l) f)) (n1 (PM (ai l) t))=LL (ag rg) f t:=by
 obtain⟨hM,hO⟩:=bK.ok hN;obtain⟨hf,ht,_⟩:=h.facts hN;have a:=uo (Mq hN h);have b:=uo (h.nB hN);have c:=afN hM (hO f hf) (ag rg) (ja hM (hO f hf) (hO t ht));rw[Hw hM] at a⊢;rw[lJ,c.1,c.2] at a;exact⟨a.1.trans b.1.symm,a.2.trans b.2.symm⟩
end
theorem Hx{α:Type}(w:α->Int)(p q:α->Bool):∀(l:List α),dF w p (l.filter q)=dF w (fun x=>q x&&p x) l
 |[]=>rfl
 |x::l=>by
  have ih:=Hx w p q l;rw[pR];cases h:q x
  ·rw[vL (by simp[h]),ih]
   simp
  ·rw[Ak h,pR,ih];simp
theorem VA{α:Type}(w:α->Int){p q:α->Bool}:∀{l:List α},(∀x∈l,w x≠0->p x=q x)->dF w p l=dF w q l
 |[],_=>rfl
 |x::l,h=>by
  rw[pR,pR,VA w fun y hy=>h y (bo _ hy)]
  congr 1;by_cases hw:w x=0
  ·rw[hw];split<;>split<;>rfl
  ·rw[h x (by simp) hw]
def fY(n:N3)(a b:Pt):Prop:=(rl n a).1<=0/\0<(rl n b).1
theorem zC{n:N3}{a b:Pt}(h:fY n a b):kW n (a,b)=(rl n b).1-(rl n a).1/\kY n (a,b)= -cr (rl n a) (rl n b)/\kS n (a,b)=(rl n b).2-(rl n a).2/\kW n (b,a)=(rl n b).1-(rl n a).1/\kY n (b,a)= -cr (rl n a) (rl n b)/\kS n (b,a)=(rl n b).2-(rl n a).2:=by
 have h':¬((rl n b).1<=0/\0<(rl n a).1):=fun k=>by unfold fY at h;omega
 refine⟨ah h,ah h,ah h,?_,?_,?_⟩
 ·exact(aa h').trans (ah h)
 ·exact(aa h').trans (ah h)
 ·exact(aa h').trans (ah h)
theorem VB{n:N3}{e:Pt×Pt}(h:kY n e<0):fY n e.1 e.2\/fY n e.2 e.1:=by
 by_cases h1:(rl n e.1).1<=0/\0<(rl n e.2).1
 ·exact ae h1
 ·by_cases h2:(rl n e.2).1<=0/\0<(rl n e.1).1
  ·exact af h2
  ·have:kY n e=0:=(aa h1).trans (aa h2);omega
theorem C8(n:N3)(e:Pt×Pt):kW n (rv e)=kW n e/\kY n (rv e)=kY n e/\kS n (rv e)=kS n e:=by
 by_cases h1:fY n e.1 e.2
 ·obtain⟨a,b,c,d,e1,f⟩:=zC h1;exact⟨d.trans a.symm,e1.trans b.symm,f.trans c.symm⟩
 ·by_cases h2:fY n e.2 e.1
  ·obtain⟨a,b,c,d,e1,f⟩:=zC h2;exact⟨a.trans d.symm,b.trans e1.symm,c.trans f.symm⟩
  ·exact⟨((aa h2).trans (aa h1)).trans ((aa h1).trans (aa h2)).symm,((aa h2).trans (aa h1)).trans ((aa h1).trans (aa h2)).symm,((aa h2).trans (aa h1)).trans ((aa h1).trans (aa h2)).symm⟩
theorem Hy(n:N3)(e e':Pt×Pt):aV n (rv e) e'=aV n e e'/\aV n e' (rv e)=aV n e' e:=by
 unfold aV;rw[(C8 n e).1,(C8 n e).2.1,(C8 n e).2.2];exact⟨rfl,rfl⟩
theorem Hz{n:N3}{x y:Pt×Pt}(hy:kY n y<0)(h:aV n y x=false):kY n x<0:=by
 have h':¬_:=fun k=>by rw[zq.2 k] at h;cases h
 have px:=qZ n x;have py:=qZ n y;have q1:=(Ga.neg_mul (z:=kY n y) px).2 hy;have q2:=Ga.neg_mul (z:=kY n x) py;rw[dM] at q1 q2;exact q2.1 (by omega)
theorem afO{n:N3}{a b f t:Pt}(h:fY n a b)(k:fY n f t)(la:cr (dr (f,t)) (dr (f,a))=0)(lb:cr (dr (f,t)) (dr (f,b))=0)(_hn:0<n.2.2):aV n (a,b) (f,t)=false/\aV n (f,t) (a,b)=false:=by
 obtain⟨a1,a2,a3,_⟩:=zC h;obtain⟨b1,b2,b3,_⟩:=zC k;have e:∀u v:Pt,((rl n v).1-(rl n u).1=n.2.2*(dr (u,v)).1)/\((rl n v).2-(rl n u).2=n.2.2*(dr (u,v)).2):=fun u v=>by
  unfold rl rel dr;simp only;constructor<;>grind
 have s1:cr (dr (f,t)) (dr (a,b))=0:=by
  have:cr (dr (f,t)) (dr (a,b))=cr (dr (f,t)) (dr (f,b))-cr (dr (f,t)) (dr (f,a)):=by unfold cr dr;grind
  omega
 have hS:kS n (a,b)*kW n (f,t)=kS n (f,t)*kW n (a,b):=by
  rw[a1,a3,b1,b3,(e a b).1,(e a b).2,(e f t).1,(e f t).2];unfold cr at s1;have:n.2.2*(dr (a,b)).2*(n.2.2*(dr (f,t)).1)-n.2.2*(dr (f,t)).2*(n.2.2*(dr (a,b)).1)=n.2.2*n.2.2*((dr (f,t)).1*(dr (a,b)).2-(dr (f,t)).2*(dr (a,b)).1):=by grind
  rw[s1] at this;omega
 have hY:kY n (a,b)*kW n (f,t)=kY n (f,t)*kW n (a,b):=by
  rw[a1,a2,b1,b2,(e a b).1,(e f t).1];have c1:cr (rl n a) (rl n b)=n.2.2*cr (rl n a) (dr (a,b)):=by
   have:cr (rl n a) (rl n b)=(rl n a).1*((rl n b).2-(rl n a).2)-(rl n a).2*((rl n b).1-(rl n a).1):=by unfold cr;grind
   rw[this,(e a b).1,(e a b).2];unfold cr;grind
  have c2:cr (rl n f) (rl n t)=n.2.2*cr (rl n f) (dr (f,t)):=by
   have:cr (rl n f) (rl n t)=(rl n f).1*((rl n t).2-(rl n f).2)-(rl n f).2*((rl n t).1-(rl n f).1):=by unfold cr;grind
   rw[this,(e f t).1,(e f t).2];unfold cr;grind
  have c3:cr (rl n a) (dr (f,t))=cr (rl n f) (dr (f,t)):=by
   have:cr (rl n a) (dr (f,t))-cr (rl n f) (dr (f,t))=((rl n a).1-(rl n f).1)*(dr (f,t)).2-((rl n a).2-(rl n f).2)*(dr (f,t)).1:=by unfold cr;grind
   rw[(e f a).1,(e f a).2] at this;have w:n.2.2*(dr (f,a)).1*(dr (f,t)).2-n.2.2*(dr (f,a)).2*(dr (f,t)).1= -(n.2.2*cr (dr (f,t)) (dr (f,a))):=by unfold cr;grind
   rw[w,la] at this;simp at this;omega
  have c4:cr (rl n a) (dr (a,b))*(dr (f,t)).1=cr (rl n a) (dr (f,t))*(dr (a,b)).1:=by
   have:cr (rl n a) (dr (a,b))*(dr (f,t)).1-cr (rl n a) (dr (f,t))*(dr (a,b)).1=(rl n a).1*cr (dr (f,t)) (dr (a,b)):=by unfold cr;grind
   rw[s1] at this;simp at this;omega
  rw[c1,c2];have x1: -(n.2.2*cr (rl n a) (dr (a,b)))*(n.2.2*(dr (f,t)).1)= -(n.2.2*n.2.2*(cr (rl n a) (dr (a,b))*(dr (f,t)).1)):=by grind
  have x2: -(n.2.2*cr (rl n f) (dr (f,t)))*(n.2.2*(dr (a,b)).1)= -(n.2.2*n.2.2*(cr (rl n f) (dr (f,t))*(dr (a,b)).1)):=by grind
  rw[x1,x2,c4,c3]
 unfold aV;rw[hS,hY];simp
theorem VC{n:N3}{x y z:Pt×Pt}(h1:aV n x y=false)(h2:aV n y x=false):aV n z x=aV n z y/\aV n x z=aV n y z:=by
 have a:=zw n;constructor
 ·refine l8.2 ⟨fun k=>?_,fun k=>?_⟩
  ·rcases a z x y k with q|q
   ·rw[h2] at q;cases q
   ·exact q
  ·rcases a z y x k with q|q
   ·rw[h1] at q;cases q
   ·exact q
 ·refine l8.2 ⟨fun k=>?_,fun k=>?_⟩
  ·rcases a x z y k with q|q
   ·exact q
   ·rw[h1] at q;cases q
  ·rcases a y z x k with q|q
   ·exact q
   ·rw[h2] at q;cases q
theorem hts{rg:List (List Pt)}{n:N3}(hn:0<n.2.2){a b:Pt}(h:fY n a b)(hP:rZ (ag rg) (n1 a) (n1 b)):
  RR (ag rg) (n1 a) (n1 b)=dF (wt n) (fun e=>aV n e (a,b)) (ag rg)/\LL (ag rg) (n1 a) (n1 b)=dF (wt n) (fun e=> !aV n (a,b) e) (ag rg):=by
 obtain⟨k1,k2,k3,_⟩:=zC h;have hw:∀z:Pt,(wv n (n1 z)).1=(rl n z).1:=fun z=>by unfold wv rl rel n1;simp
 have hD:0<(wv (n1 a) (n1 b)).1:=by
  rw[lJ];have:(rl n b).1-(rl n a).1=n.2.2*(dr (a,b)).1:=by unfold rl rel dr;simp only;grind
  unfold fY at h;exact(aN hn).1 (by omega)
 have hZ:=UW (a:=a) (b:=b) hn (show(0:Int)<1 by decide) (show(0:Int)<1 by decide) h.1 h.2 (by rw[hw];exact h.1) (by rw[hw];exact h.2) hD (by unfold lam;rw[dK,(oZ (s:=(a,a))).2 rfl];exact(xZ _).2.1) (by unfold lam;rw[dK,lJ];unfold cr;grind)
 rw[<-k1,<-k2,<-k3] at hZ;obtain⟨r1,r2⟩:=U2 (e0:=(a,b)) hn hP hZ (by rw[hw];exact h.1) (by rw[hw];exact h.2)
 refine⟨r1,?_⟩;have e:LL (ag rg) (n1 a) (n1 b)=RR (ag rg) (n1 a) (n1 b)+total (fb (aW (n1 a) (n1 b)) (wv (n1 a) (n1 b))) (ag rg):=rfl;rw[e,r1,r2];refine(zn _ fun x _=>?_).symm
 cases q1:aV n x (a,b)<;>cases q2:aV n (a,b) x
 ·rfl
 ·rfl
 ·rfl
 ·have:=zr n _ _ _ q1 q2;rw[CR] at this;cases this
section
variable{rg:List (List Pt)}{l:List Nd}
theorem afP(hN:bK (ag rg) l){aF:Int->Bool}{n:Nd}(hn:n∈l)(hin:aF (PP (ag rg) n)=true){a b:Nd}(hs:Sd (ag rg) l aF a b)(hc:fY (n1 (PM (ai l) n)) (PM (ai l) b) (PM (ai l) a))(hy:kY (n1 (PM (ai l) n)) (PM (ai l) b,PM (ai l) a)<0):
  ∃f t,Sd (ag rg) l aF f t/\fY (n1 (PM (ai l) n)) (PM (ai l) f) (PM (ai l) t)/\kY (n1 (PM (ai l) n)) (PM (ai l) f,PM (ai l) t)<0/\aV (n1 (PM (ai l) n)) (PM (ai l) b,PM (ai l) a) (PM (ai l) f,PM (ai l) t)=true:=by
 obtain⟨hM,hO⟩:=bK.ok hN;have zD:0<(n1 (PM (ai l) n)).2.2:=by show(0:Int)<1;decide
 have VD:∀{x y:Nd},x∈l->y∈l->(fY (n1 (PM (ai l) n)) (PM (ai l) x) (PM (ai l) y)↔(wv n x).1<=0/\0<(wv n y).1):=fun{x y} hx hy=>by
  obtain⟨p,q,hp,hq,e1,_⟩:=ja hM (hO n hn) (hO x hx);obtain⟨p',q',hp',hq',lK,_⟩:=ja hM (hO n hn) (hO y hy);have g1:=jD hp hq e1;have g2:=jD hp' hq' lK;unfold fY;rw[dK,dK];omega
 have hpc:di (ag rg) l b a/\aF (LL (ag rg) b a)=false:=by
  obtain⟨_,hal,hbl⟩:=fW hN hs.pc;have hw:=(VD hbl hal).1 hc;rcases hs with⟨q,_⟩|⟨q,q1,q2⟩
  ·exfalso;have hr:=(q.facts hN).2.2;have ca:=(hN.can a hal).pos;have cb:=(hN.can b hbl).pos;obtain⟨m1,_⟩:=He n a b;have cn:=(hN.can n hn).pos;have h1:n.2.2*(wv a b).1<0:=by
    have x1:=O8 hw.1 ca;have x2:=aR hw.2 cb;rw[dM] at x1 x2;omega
   have:=(Ga.neg_mul (z:=(wv a b).1) cn).1 h1;have:=yg hr;omega
  ·exact⟨q,q2⟩
 obtain⟨hpc,hout⟩:=hpc;obtain⟨e1,e2⟩:=Vz hN hpc;obtain⟨r1,r2⟩:=hts zD hc (Mq hN hpc);rw[<-e2,r2] at hout;rw[<-Vx hM (hO n hn),<-Hw hM,LX] at hin;generalize hE:ag (rg.map (·.map (bG (ai l))))=E at*
 generalize VE:n1 (PM (ai l) n)=N at*;generalize hV:((PM (ai l) b,PM (ai l) a):Pt×Pt)=V at*;have k1:dF (wt N) (fun e=>decide (kY N e<0)) E=dF (wt N) (fun e=> !aV N V e) E+dF (wt N) (fun e=>decide (kY N e<0)) (E.filter fun e=>aV N V e):=by
  rw[Hx];refine zn _ fun x _=>?_
  cases q:aV N V x
  ·rw[gD (Hz hy q)];rfl
  ·cases decide (kY N x<0)<;>rfl
 rw[k1] at hin;obtain⟨z,hz,hT,hb,ha⟩:=UQ (zr N) (CR N) (zw N) (wt N) (fun k=>aF (dF (wt N) (fun e=> !aV N V e) E+k)) (by simpa using hout) (E.filter fun e=>aV N V e) _ (fun e=>decide (kY N e<0)) (fun x y hy hyx=>gD (Hz (fO hy) hyx)) (ax _) hin
 obtain⟨hzE,Mr⟩:=ik.1 hz;have hT':=fO hT;have k2:dF (wt N) (fun e=>aV N e z) E=dF (wt N) (fun e=> !aV N V e) E+dF (wt N) (fun e=>aV N e z) (E.filter fun e=>aV N V e):=by
  rw[Hx];refine zn _ fun x _=>?_
  cases q:aV N V x
  ·rcases zw N V z x Mr with w|w
   ·rw[w];rfl
   ·rw[w] at q;cases q
  ·cases aV N x z<;>rfl
 have k3:dF (wt N) (fun e=> !aV N e z&& !aV N z e) (E.filter fun e=>aV N V e)=dF (wt N) (fun e=> !aV N e z&& !aV N z e) E:=by
  rw[Hx];refine LQ _ fun x _=>?_
  cases q:aV N V x
  ·rcases zw N V z x Mr with w|w
   ·rw[w];rfl
   ·rw[w] at q;cases q
  ·rfl
 rw[<-k2] at hb;rw[k3,<-Int.add_assoc,<-k2] at ha;have r9:z∈lT (ai l) (ag rg):=by rw[<-Hw hM,hE];exact hzE
 obtain⟨z0,hz0,hzz⟩:=bp.1 r9;have afR:∀u v:Pt,fY N (bG (ai l) u) (bG (ai l) v)↔(rl n u).1<=0/\0<(rl n v).1:=fun u v=>by
  obtain⟨p,q,hp,hq,e1,_⟩:=tL hM (hO n hn) u;obtain⟨p',q',hp',hq',lK,_⟩:=tL hM (hO n hn) v;have g1:=jD hp hq e1;have g2:=jD hp' hq' lK;unfold fY;rw[<-VE];omega
 obtain⟨u,v,VF,VG⟩:∃u v,((u=z0.1/\v=z0.2)\/(u=z0.2/\v=z0.1))/\fY N (bG (ai l) u) (bG (ai l) v):=by
  rcases VB hT' with q|q
  ·rw[<-hzz] at q;exact⟨z0.1,z0.2,ae ⟨rfl,rfl⟩,q⟩
  ·rw[<-hzz] at q;exact⟨z0.2,z0.1,af ⟨rfl,rfl⟩,q⟩
 have VH:=(afR u v).1 VG;obtain⟨f,t,hft,g1,g2,g3,la,lb⟩:=UU hN hn hz0 VF VH.1 VH.2;obtain⟨hfl,htl,_⟩:=hft.facts hN;have ru:fY N (PM (ai l) f) (PM (ai l) t):=by rw[<-VE] at*;exact(VD hfl htl).2 ⟨g1,g2⟩
 have p0:=ja hM (hO f hfl) (hO t htl);have rY:∀w,lam (wv f t) f w=0->cr (dr (PM (ai l) f,PM (ai l) t)) (dr (PM (ai l) f,bG (ai l) w))=0:=fun w hw=>by
  have:=tL hM (hO f hfl) w;rw[dK] at this;exact(p0.cr this).2.2.2 hw
 obtain⟨s1,s2⟩:=afO VG ru (rY u la) (rY v lb) zD;have hzl:aV N z (PM (ai l) f,PM (ai l) t)=false/\aV N (PM (ai l) f,PM (ai l) t) z=false:=by
  rcases VF with⟨rfl,rfl⟩|⟨rfl,rfl⟩
  ·rw[<-hzz];exact⟨s1,s2⟩
  ·have e:z=rv (bG (ai l) z0.2,bG (ai l) z0.1):=by rw[<-hzz];rfl
   rw[e,(Hy N _ _).1,(Hy N _ _).2];exact⟨s1,s2⟩
 have hP:=Mq hN hft;obtain⟨i1,i2⟩:=Vz hN hft;obtain⟨j1,j2⟩:=hts zD ru (by rw[hE] at hP⊢;exact hP)
 rw[hE] at i1 i2 j1 j2;have cg:∀x,aV N x (PM (ai l) f,PM (ai l) t)=aV N x z/\aV N (PM (ai l) f,PM (ai l) t) x=aV N z x:=fun x=>⟨(VC hzl.1 hzl.2).1.symm,(VC hzl.1 hzl.2).2.symm⟩
 refine⟨f,t,ae ⟨hft,?_,?_⟩,ru,Hz hT' hzl.1,?_⟩
 ·rw[<-i2,j2];have:dF (wt N) (fun e=> !aV N (PM (ai l) f,PM (ai l) t) e) E=dF (wt N) (fun e=>aV N e z) E+dF (wt N) (fun e=> !aV N e z&& !aV N z e) E:=by
   refine zn _ fun x _=>?_
   rw[(cg x).2];cases q1:aV N x z<;>cases q2:aV N z x
   ·rfl
   ·rfl
   ·rfl
   ·have:=zr N _ _ _ q1 q2;rw[CR] at this;cases this
  rw[this];exact ha
 ·rw[<-i1,j1,LQ _ fun x _=>(cg x).1]
  exact hb
 ·rw[(cg V).1];exact Mr
end
end Go.Proofs.YtkjhhooecopolaaGreatDoor.Gb

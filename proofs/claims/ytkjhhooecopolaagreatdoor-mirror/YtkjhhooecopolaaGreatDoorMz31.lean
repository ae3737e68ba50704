import Derived.Test.YtkjhhooecopolaaGreatDoorMz30
set_option maxRecDepth 100000
set_option maxHeartbeats 4000000
namespace Go.Proofs.YtkjhhooecopolaaGreatDoor
open Go.RowKit
open Ge
structure SX(rg:List (List Pt))(l:List Nd)(r:Int)(Xs:List PB):Prop where
 nl:Ga.bQ (aa rg) l
 mem:∀x∈Xs,Ga.Sd (aa rg) l (takes r) x.f x.t
 all:∀a b,Ga.Sd (aa rg) l (takes r) a b->∃x∈Xs,x.f=a/\x.t=b
 Bj:∀i j,i<Xs.length->j<Xs.length->(xi Xs i).f=(xi Xs j).f->(xi Xs i).t=(xi Xs j).t->i=j
theorem Jl{r:Int}{es:List Ed}{p x:PB}(hx:x∈fh r es p):(x=p/\takes r (qd es p.f p.t)=true/\takes r (oh es p.f p.t)=false)\/(x=p.rev/\takes r (oh es p.f p.t)=true/\takes r (qd es p.f p.t)=false):=by
 unfold fh at hx;split at hx
 ·rename_i h
  exact Or.inl ⟨by simpa using hx,h⟩
 ·split at hx
  ·rename_i h
   exact Or.inr ⟨by simpa using hx,h⟩
  ·simp at hx
theorem N8{rg:List (List Pt)}{l:List Nd}{r:Int}{Ps:List PB}(hl:l.map aj=fX (aa rg))(hc:∀n∈l,Ge.Can n)(h:og (aa rg) l Ps):SX rg l r (ov r (aa rg) Ps):=by
 have hN:Ga.bQ (aa rg) l:=⟨hl,hc,fun e he=>LW he⟩
 have hv:∀x∈Ps.flatMap (fh r (aa rg)),cM x:=fun x hx=>by
  obtain⟨p,hp,uW⟩:=tW.1 hx;exact NR (h.v p hp) uW
 obtain⟨hperm,_⟩:=XI (Ps.flatMap (fh r (aa rg))) hv;have hpc:∀p∈Ps,Ga.cU (aa rg) l p.f p.t:=fun p hp=>by
  obtain⟨e,he,_,hq⟩:=h.ap.mem p hp;exact⟨e,he,hq⟩
 have hts:∀p∈Ps,oh (aa rg) p.f p.t=Ga.RR (aa rg) p.f p.t/\qd (aa rg) p.f p.t=Ga.LL (aa rg) p.f p.t:=fun p hp=>aiC _ (h.v p hp).cf.pos (h.v p hp).ct.pos
 refine⟨hN,fun x hx=>?_,fun a b hab=>?_,fun i j hi hj hf ht=>?_⟩
 ·obtain⟨p,hp,uW⟩:=tW.1 ((hperm.mem_iff).1 hx);obtain⟨t1,t2⟩:=hts p hp;rcases Jl uW with⟨rfl,h1,h2⟩|⟨rfl,h1,h2⟩
  ·rw[t2] at h1;rw[t1] at h2;exact Or.inl ⟨hpc _ hp,h1,h2⟩
  ·rw[t1] at h1;rw[t2] at h2;exact Or.inr ⟨hpc _ hp,h1,h2⟩
 ·rcases hab with⟨⟨e,he,hq⟩,h1,h2⟩|⟨⟨e,he,hq⟩,h1,h2⟩
  ·obtain⟨p,hp,kD⟩:=h.ap.all e he _ hq;have e1:p.f=a:=congrArg Prod.fst kD;have e2:p.t=b:=congrArg Prod.snd kD;obtain⟨t1,t2⟩:=hts p hp;rw[e1,e2] at t1 t2;refine⟨p,(hperm.mem_iff).2 (tW.2 ⟨p,hp,?_⟩),e1,e2⟩;unfold fh;rw[e1,e2,t1,t2,if_pos ⟨h1,h2⟩];simp
  ·obtain⟨p,hp,kD⟩:=h.ap.all e he _ hq;have e1:p.f=b:=congrArg Prod.fst kD;have e2:p.t=a:=congrArg Prod.snd kD;obtain⟨t1,t2⟩:=hts p hp;rw[e1,e2] at t1 t2;refine⟨p.rev,(hperm.mem_iff).2 (tW.2 ⟨p,hp,?_⟩),e2,e1⟩;unfold fh;rw[e1,e2,t1,t2,if_neg (by rw[h2];simp),if_pos ⟨h1,h2⟩]
   simp
 ·have hp0:(Ps.flatMap (fh r (aa rg))).Pairwise fun x y=>¬(x.f=y.f/\x.t=y.t):=by
   rw[List.pairwise_flatMap];refine⟨fun p hp=>?_,?_⟩
   ·unfold fh;split
    ·exact anv _ _
    ·split
     ·exact anv _ _
     ·exact List.Pairwise.nil
   ·refine qs (fun{p q} hp hq hlt x hx y hy=>?_) h.pG
    have lp:=Ja h hl p hp;have lq:=Ja h hl q hq;have asym:∀{u v:Nd},Ge.Can u->Ge.Can v->lt (aj u) (aj v)->¬lt (aj v) (aj u):=fun hu hv a b=>lt_irrefl _ (lt_trans (cL hu) (cL hv) (cL hu) a b)
    have hne:¬(p.f=q.f/\p.t=q.t):=fun⟨a,b⟩=>by
     have h1:=WI (h.v p hp) (h.v q hq) (h.v q hq) a b;have h2:=h1.1 hlt;have h3:¬jn q q:=by
      unfold jn AH;rw[wR,wR];simp
     exact h3 h2
    rintro⟨e1,e2⟩;rcases Jl hx with⟨rfl,_⟩|⟨rfl,_⟩<;>rcases Jl hy with⟨rfl,_⟩|⟨rfl,_⟩
    ·exact hne ⟨e1,e2⟩
    ·have mU:x.f=q.t:=e1;have e2':x.t=q.f:=e2;rw[mU,e2'] at lp;exact asym (h.v q hq).cf (h.v q hq).ct lq lp
    ·have mU:p.t=y.f:=e1;have e2':p.f=y.t:=e2;rw[mU,e2'] at lp;exact asym (h.v _ hq).cf (h.v _ hq).ct lq lp
    ·have mU:p.t=q.t:=e1;have e2':p.f=q.f:=e2;exact hne ⟨e2',mU⟩
  have hp1:(ov r (aa rg) Ps).Pairwise fun x y=>¬(x.f=y.f/\x.t=y.t):=(hperm.pairwise_iff (fun{x y} hxy=>fun⟨a,b⟩=>hxy ⟨a.symm,b.symm⟩)).2 hp0
  have gx:∀{k:Nat}(hk:k<(ov r (aa rg) Ps).length),xi (ov r (aa rg) Ps) k=(ov r (aa rg) Ps)[k]:=fun hk=>uX (ay hk)
  rw[gx hi,gx hj] at hf ht;rcases FV i j with k|k|k
  ·exact absurd ⟨hf,ht⟩ (mM.1 hp1 i j hi hj k)
  ·exact k
  ·exact absurd ⟨hf.symm,ht.symm⟩ (mM.1 hp1 j i hj hi k)
theorem N9{cf:Nat->Nat->Int}:∀(l:List Nat)(m:Nat),(m::l).Nodup->(∀a∈m::l,∀b∈m::l,∀c∈m::l,cf a b<0->cf b c<0->cf a c<0)->(∀a∈m::l,¬cf a a<0)->(∀a∈m::l,∀b∈m::l,a≠b->cf a b<0\/cf b a<0)->∀k∈m::l,¬cf k (bu cf l m)<0
 |[],m,_,_,hi,_,k,hk=>by
  have:k=m:=by simpa using hk
  rw[this];exact hi m (by simp)
 |b::l,m,hn,ht,hi,hw,k,hk=>by
  have hb:b∈m::b::l:=by simp
  have hm:m∈m::b::l:=by simp
  have jQ:m≠b:=fun e=>by
   rw[e] at hn;simp at hn
  show ¬cf k (bu cf l (if cf b m<0 then b else m))<0
  have hres:∀m'∈m::b::l,bu cf l m'∈m::b::l:=fun m' hm'=>by
   rcases wP cf l m' with e|e
   ·rw[e];exact hm'
   ·exact bn _ (bn _ e)
  by_cases hc:cf b m<0
  ·rw[if_pos hc];have sub:∀x,x∈b::l->x∈m::b::l:=fun x hx=>bn _ hx
   have ih:=N9 l b (KP.1 hn).2 (fun a ha c hc' d hd=>ht a (sub a ha) c (sub c hc') d (sub d hd)) (fun a ha=>hi a (sub a ha)) (fun a ha c hc'=>hw a (sub a ha) c (sub c hc'))
   rcases aQ.1 hk with e|hk
   ·rw[e];intro h;exact ih b (by simp) (ht b hb m hm _ (hres b hb) hc h)
   ·exact ih k hk
  ·rw[if_neg hc];have hcm:cf m b<0:=(hw m hm b hb jQ).resolve_right hc;have sub:∀x,x∈m::l->x∈m::b::l:=fun x hx=>by
    rcases aQ.1 hx with e|hx
    ·rw[e];simp
    ·simp[hx]
   have hn':(m::l).Nodup:=by
    rw[KP] at hn⊢;exact⟨fun h=>hn.1 (bn _ h),(KP.1 hn.2).2⟩
   have ih:=N9 l m hn' (fun a ha c hc' d hd=>ht a (sub a ha) c (sub c hc') d (sub d hd)) (fun a ha=>hi a (sub a ha)) (fun a ha c hc'=>hw a (sub a ha) c (sub c hc'))
   rcases aQ.1 hk with e|hk
   ·rw[e];exact ih m (by simp)
   ·rcases aQ.1 hk with e|hk
    ·rw[e];intro h;exact ih m (by simp) (ht m hm b hb _ (hres m hm) hcm h)
    ·exact ih k (bn _ hk)
section
variable{rg:List (List Pt)}{l:List Nd}{r:Int}{Xs:List PB}
theorem SX.sd(h:SX rg l r Xs){i:Nat}(hi:i<Xs.length):Ga.Sd (aa rg) l (takes r) (xi Xs i).f (xi Xs i).t:=h.mem _ (gh hi)
theorem SX.find(h:SX rg l r Xs){a b:Nd}(hs:Ga.Sd (aa rg) l (takes r) a b):∃i,i<Xs.length/\(xi Xs i).f=a/\(xi Xs i).t=b:=by
 obtain⟨x,hx,e1,e2⟩:=h.all a b hs;obtain⟨i,hi,rfl⟩:=j5.1 hx;exact⟨i,hi,by rw[uX (ay hi)];exact e1,by rw[uX (ay hi)];exact e2⟩
theorem SX.go(h:SX rg l r Xs)(i:Nat)(hi:i<Xs.length):∃x∈Xs,x.f=(xi Xs i).t:=by
 obtain⟨c,hc⟩:=(h.sd hi).next h.nl
 obtain⟨x,hx,e,_⟩:=h.all _ _ hc;exact⟨x,hx,e⟩
theorem SX.next(h:SX rg l r Xs)(hB:BD Xs){i:Nat}(hi:i<Xs.length):cd Xs i<Xs.length/\(xi Xs (cd Xs i)).f=(xi Xs i).t/\∀j,j<Xs.length->(xi Xs j).f=(xi Xs i).t->¬q9 (xi Xs i) (xi Xs j) (xi Xs (cd Xs i))<0:=by
 have jF:=(hB.v _ (gh hi)).ct;have hlt:=N7 hB jF (h.go i hi);obtain⟨h1,h2⟩:=XS hlt;have hle:=N6 Xs (xi Xs i).t;have hlen:cd Xs i<Xs.length:=by omega
 have hf:(xi Xs (cd Xs i)).f=(xi Xs i).t:=(Jj hB jF _ _ (uY hlen) h1).1 h2;refine⟨hlen,hf,fun j hj XT=>?_⟩
 have yM:∀k,k∈iF Xs (xi Xs i).t::List.range' (iF Xs (xi Xs i).t+1) (lI Xs (xi Xs i).t-iF Xs (xi Xs i).t-1)↔iF Xs (xi Xs i).t<=k/\k<lI Xs (xi Xs i).t:=fun k=>by
  rw[aQ,FW];omega
 have tE:∀k,iF Xs (xi Xs i).t<=k->k<lI Xs (xi Xs i).t->k<Xs.length/\(xi Xs k).f=(xi Xs i).t:=fun k k1 k2=>by
  have hk:k<Xs.length:=by omega
  exact⟨hk,(Jj hB jF _ _ (uY hk) k1).1 k2⟩
 have hjm:iF Xs (xi Xs i).t<=j/\j<lI Xs (xi Xs i).t:=by
  have a:=Ji hB jF j _ (uY hj);have hge:iF Xs (xi Xs i).t<=j:=by
   apply Nat.not_lt.1;intro hk;have:=a.1 hk;rw[XT,wR] at this;omega
  exact⟨hge,(Jj hB jF j _ (uY hj) hge).2 XT⟩
 have XU:=h.sd hi;have facts:∀k,k<Xs.length->(xi Xs k).f=(xi Xs i).t->Ga.wv (xi Xs i).t (xi Xs k).t≠(0,0)/\Ga.ak (Ga.wv (xi Xs i).t (xi Xs k).t) (Ga.wv (xi Xs i).t (xi Xs i).f)=false:=fun k hk wT=>by
  have hsk:=h.sd hk;rw[wT] at hsk;exact⟨(Ga.gF h.nl hsk.pc).1,XU.qg h.nl hsk⟩
 have ha:Ga.wv (xi Xs i).t (xi Xs i).f≠(0,0):=by rw[Ga.eG];exact Ga.jy (Ga.gF h.nl XU.pc).1
 have hcw:∀j k,j<Xs.length->(xi Xs j).f=(xi Xs i).t->k<Xs.length->(xi Xs k).f=(xi Xs i).t->(q9 (xi Xs i) (xi Xs j) (xi Xs k)<0↔Ga.cw (Ga.wv (xi Xs i).t (xi Xs i).f) (Ga.wv (xi Xs i).t (xi Xs j).t) (Ga.wv (xi Xs i).t (xi Xs k).t)=true):=fun j k hj Oa hk wT=>by
  have:=Ga.Cq ha (facts j hj Oa).1 (facts k hk wT).1 (facts j hj Oa).2 (facts k hk wT).2;rw[<-this,Jk,Oa,wT,<-Ga.eG]
 have key:=N9 (cf:=fun j k=>q9 (xi Xs i) (xi Xs j) (xi Xs k)) (List.range' (iF Xs (xi Xs i).t+1) (lI Xs (xi Xs i).t-iF Xs (xi Xs i).t-1)) (iF Xs (xi Xs i).t) (by
   rw[KP];refine⟨fun hm=>?_,List.nodup_range' ..⟩
   have:=FW.1 hm;omega) (fun a ha' b hb c hc h1 h2=>by
   obtain⟨a1,a2⟩:=(yM a).1 ha';obtain⟨b1,b2⟩:=(yM b).1 hb;obtain⟨c1,c2⟩:=(yM c).1 hc;obtain⟨a3,a4⟩:=tE a a1 a2;obtain⟨b3,b4⟩:=tE b b1 b2;obtain⟨c3,c4⟩:=tE c c1 c2;refine(hcw a c a3 a4 c3 c4).2 ?_;exact Ga.aiA ha (facts a a3 a4).1 (facts b b3 b4).1 (facts c c3 c4).1 ((hcw a b a3 a4 b3 b4).1 h1) ((hcw b c b3 b4 c3 c4).1 h2)) (fun a ha' hk=>by
   obtain⟨a1,a2⟩:=(yM a).1 ha';obtain⟨a3,a4⟩:=tE a a1 a2;have:=Ga.lS.1 ((hcw a a a3 a4 a3 a4).1 hk);rw[Ga.qx] at this;have mE:=Ga.Gn (facts a a3 a4).1 ha;rcases this with⟨_,_,h'⟩|⟨h',h''⟩|⟨_,_,h'⟩
   ·cases h'
   ·rw[mE h'] at h'';cases h''
   ·cases h') (fun a ha' b hb hne=>by
   obtain⟨a1,a2⟩:=(yM a).1 ha';obtain⟨b1,b2⟩:=(yM b).1 hb;obtain⟨a3,a4⟩:=tE a a1 a2;obtain⟨b3,b4⟩:=tE b b1 b2;obtain⟨na,sa⟩:=facts a a3 a4;obtain⟨nb,sb⟩:=facts b b3 b4;have hs:Ga.ak (Ga.wv (xi Xs i).t (xi Xs a).t) (Ga.wv (xi Xs i).t (xi Xs b).t)=false:=by
    cases hk:Ga.ak (Ga.wv (xi Xs i).t (xi Xs a).t) (Ga.wv (xi Xs i).t (xi Xs b).t)
    ·rfl
    ·exfalso;have XV:=h.sd a3;have XW:=h.sd b3;rw[a4] at XV;rw[b4] at XW;have:=Ga.Ek h.nl XV.pc XW.pc hk;exact hne (h.Bj a b a3 b3 (a4.trans b4.symm) this)
   have t1:=Ga.iA na ha;have t2:=Ga.iA nb ha;have t3:=Ga.iA na nb;rw[sa] at t1;rw[sb] at t2;rw[hs] at t3;rw[hcw a b a3 a4 b3 b4,hcw b a b3 b4 a3 a4];unfold Ga.cw;revert t1 t2 t3;generalize Ga.ah (Ga.wv (xi Xs i).t (xi Xs a).t) (Ga.wv (xi Xs i).t (xi Xs i).f)=p1;generalize Ga.ah (Ga.wv (xi Xs i).t (xi Xs i).f) (Ga.wv (xi Xs i).t (xi Xs a).t)=p2;generalize Ga.ah (Ga.wv (xi Xs i).t (xi Xs b).t) (Ga.wv (xi Xs i).t (xi Xs i).f)=p3;generalize Ga.ah (Ga.wv (xi Xs i).t (xi Xs i).f) (Ga.wv (xi Xs i).t (xi Xs b).t)=p4;generalize Ga.ah (Ga.wv (xi Xs i).t (xi Xs a).t) (Ga.wv (xi Xs i).t (xi Xs b).t)=p5;generalize Ga.ah (Ga.wv (xi Xs i).t (xi Xs b).t) (Ga.wv (xi Xs i).t (xi Xs a).t)=p6;revert p1 p2 p3 p4 p5 p6;decide) j ((yM j).2 hjm)
 exact key
theorem SX.inj(h:SX rg l r Xs)(hB:BD Xs){i j:Nat}(hi:i<Xs.length)(hj:j<Xs.length)(he:cd Xs i=cd Xs j):i=j:=by
 obtain⟨i1,i2,i3⟩:=h.next hB hi
 obtain⟨j1,j2,j3⟩:=h.next hB hj
 rw[<-he] at j1 j2 j3;have hij:(xi Xs i).t=(xi Xs j).t:=i2.symm.trans j2;have si:=h.sd hi;have sj:=h.sd hj;have sn:=h.sd i1;rw[<-hij] at sj;rw[i2] at sn;have conv:∀k,k<Xs.length->(∀j,j<Xs.length->(xi Xs j).f=(xi Xs k).t->¬q9 (xi Xs k) (xi Xs j) (xi Xs (cd Xs i))<0)->(xi Xs k).t=(xi Xs i).t->∀c',Ga.Sd (aa rg) l (takes r) (xi Xs i).t c'->¬Ga.tC (Ga.wv (xi Xs k).f (xi Xs i).t) (Ga.wv (xi Xs i).t c') (Ga.wv (xi Xs i).t (xi Xs (cd Xs i)).t)<0:=fun k _ hm XX c' hc'=>by
  obtain⟨q,hq,q1,q2⟩:=h.find hc';have:=hm q hq (by rw[q1,XX])
  rw[Jk,q1,q2,i2,XX] at this;exact this
 have hf:=Ga.ahF h.nl si sj sn (conv i hi i3 rfl) (conv j hj j3 hij.symm);exact h.Bj i j hi hj hf hij
end
end Go.Proofs.YtkjhhooecopolaaGreatDoor
namespace Go.Proofs.YtkjhhooecopolaaGreatDoor.Gb
open Ge Ga
theorem aiD{a a' l z:Pt}(ha:a≠(0,0))(ha':a'≠(0,0))(hl:l≠(0,0))(hz:z≠(0,0))(h1:cw a a' l=true)(h2:cw a' z l=true):cw a z l=true:=by
 have mE:∀{x y:Pt},x≠(0,0)->y≠(0,0)->ah x y=true->ah y x=true->False:=fun hx hy p q=>by
  have:=Gn hx hy p;rw[q] at this;cases this
 rw[lS] at h1 h2⊢;rcases h1 with⟨p1,p2,p3⟩|⟨p1,p2⟩|⟨p1,p2,p3⟩<;>rcases h2 with⟨q1,q2,q3⟩|⟨q1,q2⟩|⟨q1,q2,q3⟩
 ·exact Or.inl ⟨gM hz ha' ha q1 p1,p2,q3⟩
 ·exact absurd p3 (fun k=>mE hl ha' k q2)
 ·exact absurd p3 (fun k=>mE hl ha' k q2)
 ·exact absurd (gM ha' ha hl p1 p2) (fun k=>mE ha' hl k q2)
 ·exact Or.inr (Or.inl ⟨gM hz ha' ha q1 p1,p2⟩)
 ·exact Or.inr (Or.inr ⟨gM ha hl hz p2 q3,p2,q3⟩)
 ·exact Or.inr (Or.inr ⟨gM ha hl hz p2 q3,p2,q3⟩)
 ·exact absurd p3 (fun k=>mE hl ha' k q2)
 ·exact absurd p3 (fun k=>mE hl ha' k q2)
section
variable{es:List (Pt×Pt)}{l:List Nd}
theorem bQ.ok(hN:bQ es l):0<af l/\∀n∈l,OK (af l) n:=
 ⟨Xf fun n hn=>(hN.can n hn).pos,fun n hn=>⟨(hN.can n hn).pos,Xg hn⟩⟩
theorem Ob(hN:bQ es l){a b:Nd}(ha:a∈l)(hb:b∈l)(h:wv a b=(0,0)):a=b:=by
 rcases M9 (hN.can a ha) (hN.can b hb) with k|k|k
 ·have:=(nr (hN.can a ha) (hN.can b hb)).1 k;exact absurd h (kC this)
 ·exact k
 ·have:=(nr (hN.can b hb) (hN.can a ha)).1 k;rw[eG a b,h] at this;exact absurd rfl (kC this)
theorem tF(hN:bQ es l){a b:Nd}(ha:a∈l)(hb:b∈l)(h:PM (af l) a=PM (af l) b):a=b:=
 Ob hN ha hb ((jo (bQ.ok hN).1 ((bQ.ok hN).2 a ha) ((bQ.ok hN).2 b hb)).zero.1 (qy.2 h))
theorem XY(hN:bQ es l){a f t:Nd}(ha:a∈l)(h:cU es l f t\/cU es l t f)(ho:on (dr (PM (af l) a,PM (af l) f)) (dr (PM (af l) a,PM (af l) t))=true):a=f\/a=t:=by
 have key:∀{f t:Nd},cU es l f t->on (dr (PM (af l) a,PM (af l) f)) (dr (PM (af l) a,PM (af l) t))=true->a=f\/a=t:=by
  intro f t h ho;obtain⟨hM,hO⟩:=bQ.ok hN;obtain⟨hf,ht,hr⟩:=h.facts hN;have p1:=jo hM (hO a ha) (hO f hf);have p2:=jo hM (hO a ha) (hO t ht);have p0:=jo hM (hO f hf) (hO t ht);have q1:=jo hM (hO f hf) (hO a ha);have q2:=jo hM (hO a ha) (hO t ht);rw[kT] at ho;apply mL;intro hne;have hx:dr (PM (af l) a,PM (af l) f)≠(0,0):=fun e=>hne (Or.inl (Ob hN ha hf (p1.zero.1 e)))
  have hy:dr (PM (af l) a,PM (af l) t)≠(0,0):=fun e=>hne (Or.inr (Ob hN ha ht (p2.zero.1 e)))
  have dx:=Ga.ez hx;have dy:=Ga.ez hy;refine h.gap hN ha ⟨qf hr ((p0.cr q1).2.2.1 ?_) ((p0.dt q1).1.1 ?_),qf hr ((p0.cr q2).2.2.1 ?_) ((p0.dt q2).1.1 ?_)⟩
  ·generalize PM (af l) a=A at*;generalize PM (af l) f=F at*;generalize PM (af l) t=T at*;have:cr (dr (F,T)) (dr (F,A))=cr (dr (A,F)) (dr (A,T)):=by unfold cr dr;grind
   omega
  ·generalize PM (af l) a=A at*;generalize PM (af l) f=F at*;generalize PM (af l) t=T at*;have:dt (dr (F,T)) (dr (F,A))=dt (dr (A,F)) (dr (A,F))-dt (dr (A,F)) (dr (A,T)):=by unfold dt dr;grind
   omega
  ·generalize PM (af l) a=A at*;generalize PM (af l) f=F at*;generalize PM (af l) t=T at*;have:cr (dr (F,T)) (dr (A,T))= -cr (dr (A,F)) (dr (A,T)):=by unfold cr dr;grind
   omega
  ·generalize PM (af l) a=A at*;generalize PM (af l) f=F at*;generalize PM (af l) t=T at*;have:dt (dr (F,T)) (dr (A,T))=dt (dr (A,T)) (dr (A,T))-dt (dr (A,F)) (dr (A,T)):=by unfold dt dr;grind
   omega
 rcases h with h|h
 ·exact key h ho
 ·rw[vL] at ho;exact(key h ho).symm
end
def ph(M:Int)(x:PB):Sg:=(PM M x.f,PM M x.t)
def sS(M:Int)(Xs:List PB):List Sg:=Xs.map (ph M)
def jT(M:Int)(Xs:List PB)(s:Sg):Sg:=match(List.range Xs.length).find? (fun i=>decide (ph M (xi Xs i)=s)) with
 |some i=>ph M (xi Xs (cd Xs i))
 |none=>s
section
variable{rg:List (List Pt)}{l:List Nd}{r:Int}{Xs:List PB}
theorem SX.Ex(h:SX rg l r Xs){i j:Nat}(hi:i<Xs.length)(hj:j<Xs.length)(e:ph (af l) (xi Xs i)=ph (af l) (xi Xs j)):i=j:=by
 obtain⟨_,a1,a2⟩:=gF h.nl (h.sd hi).pc;obtain⟨_,b1,b2⟩:=gF h.nl (h.sd hj).pc;exact h.Bj i j hi hj (tF h.nl a1 b1 (congrArg Prod.fst e)) (tF h.nl a2 b2 (congrArg Prod.snd e))
theorem jr(M:Int){s:Sg}(hs:s∈sS M Xs):∃i,i<Xs.length/\s=ph M (xi Xs i):=by
 obtain⟨x,hx,rfl⟩:=aX.1 hs;obtain⟨i,hi,e⟩:=j5.1 hx;exact⟨i,hi,by rw[<-e];unfold xi;rw[lQ,ay hi];rfl⟩
theorem Ey(M:Int){i:Nat}(hi:i<Xs.length):ph M (xi Xs i)∈sS M Xs:=aX.2 ⟨_,gh hi,rfl⟩
theorem yN(h:SX rg l r Xs){i:Nat}(hi:i<Xs.length):jT (af l) Xs (ph (af l) (xi Xs i))=ph (af l) (xi Xs (cd Xs i)):=by
 unfold jT;cases hf:(List.range Xs.length).find? (fun j=>decide (ph (af l) (xi Xs j)=ph (af l) (xi Xs i))) with
 |none=>
  have:=ab3.1 hf i (qu.2 hi);simp at this
 |some j=>
  have hj:=qu.1 (List.mem_of_find?_eq_some hf);have e:=List.find?_some hf;simp only;rw[SX.Ex h hj hi (of_decide_eq_true e)]
theorem SX.wd(h:SX rg l r Xs)(hB:BD Xs):Wd (sS (af l) Xs) (jT (af l) Xs):=by
 have hN:=h.nl;obtain⟨hM,hO⟩:=bQ.ok hN;have ml:∀{i},i<Xs.length->(xi Xs i).f∈l/\(xi Xs i).t∈l:=fun hi=>(gF hN (h.sd hi).pc).2
 have wn:∀{i},i<Xs.length->wv (xi Xs i).f (xi Xs i).t≠(0,0):=fun hi=>(gF hN (h.sd hi).pc).1
 have pd:∀{i},i<Xs.length->Pm (dr (ph (af l) (xi Xs i))) (wv (xi Xs i).f (xi Xs i).t):=fun hi=>jo hM (hO _ (ml hi).1) (hO _ (ml hi).2)
 have nb:∀{i j},i<Xs.length->j<Xs.length->(xi Xs j).f=(xi Xs i).t->ak (wv (xi Xs j).f (xi Xs j).t) (neg (wv (xi Xs i).f (xi Xs i).t))=false:=fun{i j} hi hj e=>by
  have h1:=h.sd hi;have h2:=h.sd hj;rw[e] at h2⊢;have:=h1.qg hN h2;rw[eG (xi Xs i).f] at this;exact this
 have W1:∀{i j},i<Xs.length->j<Xs.length->(xi Xs j).f=(xi Xs i).t->cw (neg (wv (xi Xs i).f (xi Xs i).t)) (wv (xi Xs j).f (xi Xs j).t) (wv (xi Xs (cd Xs i)).f (xi Xs (cd Xs i)).t)=false:=fun{i j} hi hj e=>by
  obtain⟨n1,n2,n3⟩:=h.next hB hi
  have k:=n3 j hj e;rw[Jk] at k;have t:=Cq (a:=neg (wv (xi Xs i).f (xi Xs i).t)) (jy (wn hi)) (wn hj) (wn n1) (nb hi hj e) (nb hi n1 n2);rw[neg_neg] at t;cases q:cw (neg (wv (xi Xs i).f (xi Xs i).t)) (wv (xi Xs j).f (xi Xs j).t) (wv (xi Xs (cd Xs i)).f (xi Xs (cd Xs i)).t)
  ·rfl
  ·exact absurd (t.2 q) k
 refine⟨fun s hs e=>?_,fun s hs u hu=>?_,fun s hs u hu ho=>?_,fun s hs u hu ho=>?_,fun s hs u hu e k=>?_,fun s hs u hu e k=>?_,fun s hs u hu e=>?_,fun s hs=>?_,fun s hs u hu e=>?_,fun s hs u hu e=>?_,fun s hs u hu e=>?_⟩
 ·obtain⟨i,hi,rfl⟩:=jr _ hs;exact wn hi ((pd hi).zero.1 (qy.2 e))
 ·obtain⟨i,hi,rfl⟩:=jr _ hs;obtain⟨j,hj,rfl⟩:=jr _ hu;rw[(pd hi).aN];rcases(h.sd hi).pc with q|q
  ·exact⟨fun _=>Xk hM hO hN q (h.sd hj).pc,fun k=>absurd (q.facts hN).2.2 k⟩
  ·have hr:=(q.facts hN).2.2;refine⟨fun k=>?_,fun _=>Xk hM hO hN q (h.sd hj).pc⟩
   rw[eG (xi Xs i).f] at hr;exact absurd hr (fun w=>Nt k w)
 ·obtain⟨i,hi,rfl⟩:=jr _ hs;obtain⟨j,hj,rfl⟩:=jr _ hu;rcases XY hN (ml hi).1 (h.sd hj).pc ho with q|q
  ·exact Or.inl (congrArg (PM (af l)) q)
  ·exact Or.inr (congrArg (PM (af l)) q)
 ·obtain⟨i,hi,rfl⟩:=jr _ hs;obtain⟨j,hj,rfl⟩:=jr _ hu;rcases XY hN (ml hi).2 (h.sd hj).pc ho with q|q
  ·exact Or.inl (congrArg (PM (af l)) q)
  ·exact Or.inr (congrArg (PM (af l)) q)
 ·obtain⟨i,hi,rfl⟩:=jr _ hs;obtain⟨j,hj,rfl⟩:=jr _ hu;have ef:(xi Xs i).f=(xi Xs j).f:=tF hN (ml hi).1 (ml hj).1 e;rw[(pd hi).ak (pd hj)] at k;have h2:=(h.sd hj).pc;rw[<-ef] at k h2;have et:=Ek hN (h.sd hi).pc h2 k;exact congrArg (fun i=>ph (af l) (xi Xs i)) (h.Bj i j hi hj ef et)
 ·obtain⟨i,hi,rfl⟩:=jr _ hs;obtain⟨j,hj,rfl⟩:=jr _ hu;have et:(xi Xs i).t=(xi Xs j).t:=tF hN (ml hi).2 (ml hj).2 e;rw[(pd hi).ak (pd hj)] at k;have h2:=(h.sd hj).pc.symm;rw[<-et] at k h2;have k2:ak (wv (xi Xs i).t (xi Xs i).f) (wv (xi Xs i).t (xi Xs j).f)=true:=by
   rw[eG (xi Xs i).f,eG (xi Xs j).f,cV,fw,fF,rM,kU];rw[cV] at k;omega
  have ef:=Ek hN (h.sd hi).pc.symm h2 k2;exact congrArg (fun i=>ph (af l) (xi Xs i)) (h.Bj i j hi hj ef et)
 ·obtain⟨i,hi,rfl⟩:=jr _ hs;obtain⟨j,hj,rfl⟩:=jr _ hu;have ef:(xi Xs i).f=(xi Xs j).t:=tF hN (ml hi).1 (ml hj).2 e;rw[(pd hi).ak (pd hj).neg];exact nb hj hi ef
 ·obtain⟨i,hi,rfl⟩:=jr _ hs;rw[yN h hi];obtain⟨n1,n2,_⟩:=h.next hB hi
  exact⟨Ey _ n1,congrArg (PM (af l)) n2⟩
 ·obtain⟨i,hi,rfl⟩:=jr _ hs;obtain⟨j,hj,rfl⟩:=jr _ hu;rw[yN h hi,yN h hj] at e;exact congrArg (fun i=>ph (af l) (xi Xs i)) (h.inj hB hi hj (SX.Ex h (h.next hB hi).1 (h.next hB hj).1 e))
 ·obtain⟨i,hi,rfl⟩:=jr _ hs;obtain⟨j,hj,rfl⟩:=jr _ hu;have ef:(xi Xs j).f=(xi Xs i).t:=tF hN (ml hj).1 (ml hi).2 e;rw[yN h hi,(pd hi).neg.cw (pd hj) (pd (h.next hB hi).1)]
  exact W1 hi hj ef
 ·obtain⟨i,hi,rfl⟩:=jr _ hs;obtain⟨j,hj,rfl⟩:=jr _ hu;have et:(xi Xs j).t=(xi Xs i).t:=tF hN (ml hj).2 (ml hi).2 e;obtain⟨n1,n2,_⟩:=h.next hB hi
  rw[yN h hi,(pd hi).neg.cw (pd hj).neg (pd n1)];have yj:=jy (wn hi);have Dk:=jy (wn hj);cases q:cw (neg (wv (xi Xs i).f (xi Xs i).t)) (neg (wv (xi Xs j).f (xi Xs j).t)) (wv (xi Xs (cd Xs i)).f (xi Xs (cd Xs i)).t)
  ·rfl
  ·exfalso;by_cases hij:i=j
   ·subst hij;rw[lS,qx] at q;simp at q
   have hsm:ak (neg (wv (xi Xs i).f (xi Xs i).t)) (neg (wv (xi Xs j).f (xi Xs j).t))=false:=by
    cases k:ak (neg (wv (xi Xs i).f (xi Xs i).t)) (neg (wv (xi Xs j).f (xi Xs j).t))
    ·rfl
    ·rw[<-eG,<-eG] at k;have h2:=(h.sd hj).pc.symm;rw[et] at k h2;exact absurd (h.Bj i j hi hj (Ek hN (h.sd hi).pc.symm h2 k) et.symm) hij
   have a1:=(h.sd hi).yH hN;have a2:=(h.sd hj).yH hN;rw[et] at a2;have e1:wv (xi Xs i).t (xi Xs j).f=neg (wv (xi Xs j).f (xi Xs j).t):=by rw[<-et];exact eG _ _
   rw[eG (xi Xs i).f] at a1;rw[e1] at a2;obtain⟨z,hz,lD⟩:=RU yj Dk hsm a1.1 a1.2 a2.1 a2.2 (wn n1) (nb hi n1 n2) (nb hj n1 (n2.trans et.symm));obtain⟨m,hm,Oc⟩:=I2 hN (ml hi).2 hz;obtain⟨v,hv,v1,v2⟩:=h.find hm;have hw1:=W1 hi hv v1;have hvn:=wn hv;have e2:wv (xi Xs i).t m=wv (xi Xs v).f (xi Xs v).t:=by rw[v1,v2]
   rw[e2] at Oc;rcases lD with k|k
   ·rw[I3 (GG Oc)] at k;rw[hw1] at k;cases k
   ·rw[I3 (GG Oc)] at k;have:=aiD yj Dk (wn n1) hvn q k;rw[hw1] at this;cases this
end
def nu(M:Int)(es:List (Pt×Pt)):List (Pt×Pt):=es.map fun e=>(bC M e.1,bC M e.2)
theorem aiF{M:Int}(hM:0<M){u v:Pt}(h:bC M u=bC M v):u=v:=by
 unfold bC at h;have x1:=congrArg Prod.fst h;have x2:=congrArg Prod.snd h;simp only at x1 x2;exact dY (zn (by omega) x1) (zn (by omega) x2)
theorem aiG{M:Int}(hM:0<M)(g:List Pt):fH (g.map (bC M))=nu M (fH g):=by
 have e:closing (g.map (bC M))=nu M (closing g):=by
  cases g with
  |nil=>rfl
  |cons a r=>
   unfold nu closing;show(bC M a::r.map (bC M)).zip (r.map (bC M)++[bC M a])=_;have e1:bC M a::r.map (bC M)=(a::r).map (bC M):=rfl;have e2:r.map (bC M)++[bC M a]=(r++[a]).map (bC M):=by simp
   rw[e1,e2,List.zip_map];rfl
 unfold fH;rw[e];unfold nu;rw[List.filter_map];congr 1;refine ack fun x _=>?_
 simp only[Function.comp_apply];refine decide_eq_decide.2 ⟨fun h k=>h (by rw[k]),fun h k=>h (aiF hM k)⟩
theorem Jm{M:Int}(hM:0<M)(rg:List (List Pt)):aa (rg.map (·.map (bC M)))=nu M (aa rg):=by
 induction rg with
 |nil=>rfl
 |cons g rg ih=>
  have e1:aa ((g::rg).map (·.map (bC M)))=fH (g.map (bC M))++aa (rg.map (·.map (bC M))):=by simp[aa]
  have e2:aa (g::rg)=fH g++aa rg:=by simp[aa]
  rw[e1,e2,aiG hM,ih];unfold nu;rw[iy]
theorem aiH{u u' v v':Pt}(h:Pm u u')(k:Pm v v'):right u v=right u' v':=by
 have c:=h.cr k;obtain⟨p,q,hp,hq,e1,_⟩:=h;obtain⟨p',q',hp',hq',mU,_⟩:=k;have a:=jS hp hq e1;have b:=jS hp' hq' mU;unfold right;by_cases h1:u.1<=0/\0<v.1/\0<cr u v
 ·rw[if_pos h1,if_pos (by omega)]
 ·rw[if_neg h1,if_neg (by omega:¬(u'.1<=0/\0<v'.1/\0<cr u' v'))]
  by_cases h2:0<u.1/\v.1<=0/\cr u v<0
  ·rw[if_pos h2,if_pos (by omega)]
  ·rw[if_neg h2,if_neg (by omega)]
theorem XZ(F:Pt->Pt->Int)(g:Pt×Pt->Pt×Pt)(es:List (Pt×Pt)):total F (es.map g)=total (fun u v=>F (g (u,v)).1 (g (u,v)).2) es:=by
 unfold total;rw[ke];rfl
section
variable{M:Int}
theorem u9(hM:0<M){a:Nd}(ha:OK M a)(u:Pt):Pm (rl (n1 (PM M a)) (bC M u)) (rl a u):=by
 obtain⟨k,hk,ek⟩:=I4 hM ha;rw[dV,ek];exact yI hk _
theorem X0(hM:0<M){a:Nd}(ha:OK M a)(es:List (Pt×Pt)):PP (nu M es) (n1 (PM M a))=PP es a:=by
 unfold PP nu;rw[XZ];exact oO fun e _=>aiH (u9 hM ha e.1) (u9 hM ha e.2)
theorem X7(hM:0<M){a:Nd}(ha:OK M a)(es:List (Pt×Pt)){Q Q':Pt->Bool}(hQ:∀z z',Pm z z'->Q z=Q' z'):AS (nu M es) (n1 (PM M a)) Q=AS es a Q':=by
 unfold AS nu;rw[XZ];refine oO fun e _=>?_
 have h1:=u9 hM ha e.1;have h2:=u9 hM ha e.2;unfold Ga.arm;rw[h1.on h2,hQ _ _ h1,hQ _ _ h2]
theorem aiI{z z':Pt}(h:Pm z z'):nz z=nz z':=by
 unfold nz;exact decide_eq_decide.2 (not_congr h.zero)
theorem aiJ(hM:0<M){a:Nd}(ha:OK M a)(es:List (Pt×Pt)){d d':Pt}(hd:Pm d d'):dh (nu M es) (n1 (PM M a)) d=dh es a d'/\eA (nu M es) (n1 (PM M a)) d=eA es a d':=by
 have e1:dh (nu M es) (n1 (PM M a)) d=dh es a d':=by
  unfold dh;rw[X0 hM ha,X7 hM ha es (Q':=fun z=>nz z&&ah z d')]
  intro z z' hz;rw[aiI hz,hz.ah hd]
 refine⟨e1,?_⟩;unfold eA;rw[e1,X7 hM ha es (Q':=fun z=>ak z d')]
 intro z z' hz;exact hz.ak hd
end
section
variable{rg:List (List Pt)}{l:List Nd}
theorem Od(hN:bQ (aa rg) l){f t:Nd}(h:cU (aa rg) l f t):ud (aa (rg.map (·.map (bC (af l))))) (n1 (PM (af l) f)) (n1 (PM (af l) t)):=by
 obtain⟨hM,hO⟩:=bQ.ok hN;obtain⟨hf,ht,hr⟩:=h.facts hN;have hP:=h.oP hN;have p0:=jo hM (hO f hf) (hO t ht);rw[Jm hM];have mem:∀e∈nu (af l) (aa rg),∃e0∈aa rg,e=(bC (af l) e0.1,bC (af l) e0.2):=fun e he=>by
  obtain⟨e0,h0,rfl⟩:=aX.1 he;exact⟨e0,h0,rfl⟩
 have cc:∀z:Pt,mQ f t (wv f t) z->mQ (n1 (PM (af l) f)) (n1 (PM (af l) t)) (dr (PM (af l) f,PM (af l) t)) (bC (af l) z):=fun z hz hl=>by
  have q1:=u9 hM (hO f hf) z;have q2:=u9 hM (hO t ht) z;have:=hz ((p0.cr q1).2.2.1 hl);have a:=(p0.dt q1).1;have b:=(p0.dt q2).2.1;omega
 refine⟨by show(0:Int)<1;decide,by show(0:Int)<1;decide,by rw[mR];exact p0.aN.2 hr,fun e he=>?_,fun e he=>?_⟩
 ·obtain⟨e0,h0,rfl⟩:=mem e he;rw[mR];exact Xi hM (hO f hf) (hO t ht) (hP.s e0 h0)
 ·obtain⟨e0,h0,rfl⟩:=mem e he;rw[mR];exact⟨cc _ (hP.c e0 h0).1,cc _ (hP.c e0 h0).2⟩
theorem X8(hN:bQ (aa rg) l){f t:Nd}(h:cU (aa rg) l f t):
  RR (aa (rg.map (·.map (bC (af l))))) (n1 (PM (af l) f)) (n1 (PM (af l) t))=RR (aa rg) f t/\LL (aa (rg.map (·.map (bC (af l))))) (n1 (PM (af l) f)) (n1 (PM (af l) t))=LL (aa rg) f t:=by
 obtain⟨hM,hO⟩:=bQ.ok hN;obtain⟨hf,ht,_⟩:=h.facts hN;have a:=vM (Od hN h);have b:=vM (h.oP hN);have c:=aiJ hM (hO f hf) (aa rg) (jo hM (hO f hf) (hO t ht));rw[Jm hM] at a⊢;rw[mR,c.1,c.2] at a;exact⟨a.1.trans b.1.symm,a.2.trans b.2.symm⟩
end
end Go.Proofs.YtkjhhooecopolaaGreatDoor.Gb

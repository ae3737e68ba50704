import Derived.Test.YtkjhhooecopolaaGreatDoorMz43
set_option maxRecDepth 100000
set_option maxHeartbeats 4000000
namespace Go.Proofs.YtkjhhooecopolaaGreatDoor.Gb
open Ge Ga
abbrev NP:=List Nd×List (List Nd)
def ndP(Xs:List PB)(p:Pg):NP:=(Go.Proofs.YtkjhhooecopolaaGreatDoor.fr Xs p.1,p.2.map (Go.Proofs.YtkjhhooecopolaaGreatDoor.fr Xs))
def fin(Xs:List PB):List NP:=(vt Xs (aK Xs Xs.length).ps).map (ndP Xs)
def JW(c:List Nd):List UInt8:=40::(Pl.aI Pl.iU ((c++c.take 1).map Ge.aj)++[41])
def aay(F:List NP):List UInt8:=Fq (F.map fun p=>Bx (JW p.1) (p.2.map JW))
theorem aaz(Xs:List PB):xe Xs=aay (fin Xs):=by
 unfold xe aay fin JP;rw[ke];congr 1;refine KG fun p _=>?_
 show bH Xs p=Bx (JW (Go.Proofs.YtkjhhooecopolaaGreatDoor.fr Xs p.1)) ((p.2.map (Go.Proofs.YtkjhhooecopolaaGreatDoor.fr Xs)).map JW);unfold bH;rw[ke];rfl
structure Canon(S:List Sg)(nx:Sg->Sg)(l:List Nd)(F:List NP):Prop where
 nd:∀p∈F,(∀n∈p.1,n∈l)/\∀h∈p.2,∀n∈h,n∈l
 c1:∀p∈F,∃R,LR S nx R/\shl R/\p.1.map (PM (af l))=jf R/\∀h∈p.2,∃H,LR S nx H/\¬shl H/\h.map (PM (af l))=jf H/\∀a∈R,∀s∈H,Fc S a s
 c2:∀R,LR S nx R->shl R->∃p∈F,p.1.map (PM (af l))=jf R
 c3:∀H,LR S nx H->¬shl H->∃p∈F,∃h∈p.2,h.map (PM (af l))=jf H
 s1:F.Pairwise fun p q=>fC p.1 q.1<0
 s2:∀p∈F,p.2.Pairwise fun a b=>fC a b<0
theorem JX{α:Type}{lt:α->α->Prop}(y8:∀x,¬lt x x)(mE:∀x y,lt x y->¬lt y x):∀{A B:List α},A.Pairwise lt->B.Pairwise lt->(∀x,x∈A↔x∈B)->A=B
 |[],[],_,_,_=>rfl
 |[],b::B,_,_,h=>by have:=(h b).2 (by simp);simp at this
 |a::A,[],_,_,h=>by have:=(h a).1 (by simp);simp at this
 |a::A,b::B,hA,hB,h=>by
  obtain⟨a1,a2⟩:=fZ.1 hA;obtain⟨b1,b2⟩:=fZ.1 hB;have e:a=b:=by
   rcases aQ.1 ((h a).1 (by simp)) with q|q
   ·exact q
   ·rcases aQ.1 ((h b).2 (by simp)) with w|w
    ·exact w.symm
    ·exact absurd (a1 b w) (mE _ _ (b1 a q))
  subst e;congr 1;refine JX y8 mE a2 b2 fun x=>?_
  constructor
  ·intro hx;rcases aQ.1 ((h x).1 (bn _ hx)) with q|q
   ·exact absurd (a1 x hx) (by rw[q];exact y8 _)
   ·exact q
  ·intro hx;rcases aQ.1 ((h x).2 (bn _ hx)) with q|q
   ·exact absurd (b1 x hx) (by rw[q];exact y8 _)
   ·exact q
theorem Qf{α β:Type}{k:α->β}{lt:β->β->Prop}(y8:∀x,¬lt x x):∀{A:List α},A.Pairwise (fun x y=>lt (k x) (k y))->∀{x y},x∈A->y∈A->k x=k y->x=y
 |[],_,_,_,h,_,_=>by simp at h
 |a::A,hA,x,y,hx,hy,e=>by
  obtain⟨a1,a2⟩:=fZ.1 hA;rcases aQ.1 hx with q|q<;>rcases aQ.1 hy with w|w
  ·rw[q,w]
  ·have:=a1 y w;rw[<-q,e] at this;exact absurd this (y8 _)
  ·have:=a1 x q;rw[<-w,e] at this;exact absurd this (y8 _)
  ·exact Qf y8 a2 q w e
theorem JY(r:List Nd):¬fC r r<0:=by rw[JJ];omega
section
variable{es:List (Pt×Pt)}{l:List Nd}{S:List Sg}{nx:Sg->Sg}
theorem JZ(hN:bQ es l):∀{a b:List Nd},(∀n∈a,n∈l)->(∀n∈b,n∈l)->a.map (PM (af l))=b.map (PM (af l))->a=b
 |[],[],_,_,_=>rfl
 |[],_::_,_,_,h=>by simp at h
 |_::_,[],_,_,h=>by simp at h
 |a::A,b::B,ha,hb,h=>by
  rw[gK,gK] at h;injection h with h1 h2;rw[tF hN (ha a (by simp)) (hb b (by simp)) h1,JZ hN (fun n hn=>ha n (by simp[hn])) (fun n hn=>hb n (by simp[hn])) h2]
theorem aaA(hN:bQ es l){a b:List Nd}(ha:∀n∈a,n∈l)(hb:∀n∈b,n∈l)(h:fC a b<0):¬fC b a<0:=fun k=>by
 have:=JL a b a (fun n hn=>hN.can n (ha n hn)) (fun n hn=>hN.can n (hb n hn)) (fun n hn=>hN.can n (ha n hn)) h k
 rw[JJ] at this;omega
theorem Canon.eq(h:Wd S nx)(hN:bQ es l){F F':List NP}(c:Canon S nx l F)(c':Canon S nx l F'):F=F':=by
 have half:∀{F F':List NP},Canon S nx l F->Canon S nx l F'->∀p∈F,∃p'∈F',p'.1=p.1/\∀x∈p.2,x∈p'.2:=by
  intro F F' c c' p hp;obtain⟨R,r1,r2,r3,r4⟩:=c.c1 p hp;obtain⟨p',hp',e'⟩:=c'.c2 R r1 r2;have k1:p'.1=p.1:=JZ hN (c'.nd p' hp').1 (c.nd p hp).1 (e'.trans r3.symm);refine⟨p',hp',k1,fun x hx=>?_⟩
  obtain⟨H,h1,h2,h3,h4⟩:=r4 x hx;obtain⟨p'',J0,y,hy,ey⟩:=c'.c3 H h1 h2;have exy:y=x:=JZ hN ((c'.nd p'' J0).2 y hy) ((c.nd p hp).2 x hx) (ey.trans h3.symm);obtain⟨R'',s1,s2,s3,s4⟩:=c'.c1 p'' J0;obtain⟨H'',t1,t2,t3,t4⟩:=s4 y hy;have eH:H''=H:=t1.Lv h h1 (t3.symm.trans ey);rw[eH] at t4;obtain⟨a,_,ha,_⟩:=lV r1.ring.ne;obtain⟨a'',_,aaB,_⟩:=lV s1.ring.ne;obtain⟨b,_,hb,_⟩:=lV h1.ring.ne;have eR:R=R'':=r1.one h s1 r2 s2 ha aaB ((h4 a (vF ha) b (vF hb)).trans (t4 a'' (vF aaB) b (vF hb)).symm);have k2:p''.1=p'.1:=JZ hN (c'.nd p'' J0).1 (c'.nd p' hp').1 (by rw[s3,e',eR])
  have k3:p''=p':=Qf (k:=Prod.fst) (lt:=fun a b=>fC a b<0) JY c'.s1 J0 hp' k2
  rw[<-k3,<-exy];exact hy
 have full:∀{F F':List NP},Canon S nx l F->Canon S nx l F'->∀p∈F,p∈F':=by
  intro F F' c c' p hp;obtain⟨p',hp',e1,e2⟩:=half c c' p hp;obtain⟨q,hq,f1,f2⟩:=half c' c p' hp';have:q=p:=Qf (k:=Prod.fst) (lt:=fun a b=>fC a b<0) JY c.s1 hq hp (f1.trans e1)
  rw[this] at f2;have eh:p.2=p'.2:=by
   have hin:∀x∈p.2,∀n∈x,n∈l:=fun x hx=>(c.nd p hp).2 x hx
   have hin':∀x∈p'.2,∀n∈x,n∈l:=fun x hx=>(c'.nd p' hp').2 x hx
   refine JX (lt:=fun a b=>(∀n∈a,n∈l)/\(∀n∈b,n∈l)/\fC a b<0) (fun x k=>JY x k.2.2) (fun x y k k2=>aaA hN k.1 k.2.1 k.2.2 k2.2.2) ?_ ?_ fun x=>⟨e2 x,f2 x⟩
   ·exact qs (fun ha hb k=>⟨hin _ ha,hin _ hb,k⟩) (c.s2 p hp)
   ·exact qs (fun ha hb k=>⟨hin' _ ha,hin' _ hb,k⟩) (c'.s2 p' hp')
  have:p=p':=dY e1.symm eh;rw[this];exact hp'
 have hin:∀{F:List NP},Canon S nx l F->F.Pairwise (fun p q=>(∀n∈p.1,n∈l)/\(∀n∈q.1,n∈l)/\fC p.1 q.1<0):=fun c=>qs (fun ha hb k=>⟨(c.nd _ ha).1,(c.nd _ hb).1,k⟩) c.s1
 exact JX (lt:=fun p q:NP=>(∀n∈p.1,n∈l)/\(∀n∈q.1,n∈l)/\fC p.1 q.1<0) (fun x k=>JY x.1 k.2.2) (fun x y k k2=>aaA hN k.1 k.2.1 k.2.2 k2.2.2) (hin c) (hin c') fun x=>⟨full c c' x,full c' c x⟩
variable{S':List Sg}{nx':Sg->Sg}
theorem alQ{a x y:Pt}(ha:a≠(0,0))(hx:x≠(0,0))(hy:y≠(0,0))(h1:ak x a=false)(h2:ak y a=false)(h3:ak x y=false):cw a x y=true\/cw a y x=true:=by
 have t1:=iA hx ha;have t2:=iA hy ha;have t3:=iA hx hy;rw[h1] at t1;rw[h2] at t2;rw[h3] at t3;rw[lS,lS];cases a1:ah x a<;>cases a2:ah a x<;>rw[a1,a2] at t1<;>simp[bb] at t1<;>cases b1:ah y a<;>cases b2:ah a y<;>rw[b1,b2] at t2<;>simp[bb] at t2<;>cases c1:ah x y<;>cases c2:ah y x<;>rw[c1,c2] at t3<;>simp[bb] at t3<;>simp
theorem alR(h:Wd S nx)(h':Wd S' nx')(hS:∀s,s∈S↔s∈S'){s:Sg}(hs:s∈S):nx s=nx' s:=by
 obtain⟨a1,a2⟩:=h.zK s hs;obtain⟨b1,b2⟩:=h'.zK s ((hS s).1 hs);have J1:=(hS _).2 b1;have k1:=h.w1 s hs _ J1 b2;have k2:=h'.w1 s ((hS s).1 hs) _ ((hS _).1 a1) a2;cases q:ak (dr (nx s)) (dr (nx' s))
 ·rcases alQ (jy (h.gN hs)) (h.gN a1) (h.gN J1) (h.two _ a1 _ hs a2) (h.two _ J1 _ hs b2) q with w|w
  ·rw[k2] at w;cases w
  ·rw[k1] at w;cases w
 ·exact h.one _ a1 _ J1 (a2.trans b2.symm) q
theorem Qg(h:Wd S nx)(h':Wd S' nx')(hS:∀s,s∈S↔s∈S'){s:Sg}(hs:s∈S):∀k,it nx k s=it nx' k s
 |0=>rfl
 |k+1=>by
  show nx (it nx k s)=nx' (it nx' k s);rw[<-Qg h h' hS hs k];exact alR h h' hS (h.nO hs k)
theorem LR.same(h:Wd S nx)(h':Wd S' nx')(hS:∀s,s∈S↔s∈S'){R:List Sg}(k:LR S nx R):LR S' nx' R:=by
 have qz:∀{s t},t∈S->xI nx s t->xI nx' s t:=by
  rintro s t ht ⟨e,n,e1,e2⟩;refine⟨e,n,by rw[<-Qg h h' hS ht];exact e1,fun j j1 j2=>?_⟩
  rw[<-Qg h h' hS ht];exact e2 j j1 j2
 refine⟨⟨k.ring.ne,fun s hs=>(hS s).1 (k.ring.mem s hs),k.ring.pQ,fun i s t hs ht=>qz (k.ring.mem t (aY ht)) (k.ring.qz i s t hs ht),fun s t hs ht=>qz (k.ring.mem t (vF ht)) (k.ring.cls s t hs ht)⟩,k.least⟩
theorem Fc.same(hS:∀s,s∈S↔s∈S'){s u:Sg}(k:Fc S s u):Fc S' s u:=fun es hc hi=>k es hc fun e he=>by
 rcases hi e he with q|q
 ·exact Or.inl ((hS _).2 q)
 ·exact Or.inr ((hS _).2 q)
theorem Canon.same(h:Wd S nx)(h':Wd S' nx')(hS:∀s,s∈S↔s∈S'){F:List NP}(c:Canon S nx l F):Canon S' nx' l F:=by
 have aw:∀s,s∈S'↔s∈S:=fun s=>(hS s).symm
 refine⟨c.nd,fun p hp=>?_,fun R hR=>c.c2 R (hR.same h' h aw),fun H hH=>c.c3 H (hH.same h' h aw),c.s1,c.s2⟩
 obtain⟨R,r1,r2,r3,r4⟩:=c.c1 p hp;refine⟨R,r1.same h h' hS,r2,r3,fun x hx=>?_⟩
 obtain⟨H,h1,h2,h3,h4⟩:=r4 x hx;exact⟨H,h1.same h h' hS,h2,h3,fun a ha s hs=>(h4 a ha s hs).same hS⟩
end
theorem aaC{β:Type}(cf:β->β->Int)(L:List β)(hO:Sort.SWO (ltOf fun i j:Fin L.length=>cf L[i] L[j])):(jY cf L).Perm L/\(jY cf L).Pairwise (fun x y=>¬cf y x<0):=by
 unfold jY;by_cases h:0<L.length
 ·rw[dif_pos h];obtain⟨hd,p3,p4⟩:=PC _ hO h;refine⟨?_,?_⟩
  ·have k:=p3.map (fun i:Fin L.length=>L[i])
   have e3:(Array.ofFn (id:Fin L.length->Fin L.length)).toList.map (fun i:Fin L.length=>L[i])=L:=by
    apply xx
    ·simp
    ·intro i h1 h2;simp
   rw[e3] at k;exact k
  ·rw[nJ,mM];intro i j hi hj hij;exact p4 i j (by simpa using hi) (by simpa using hj) hij
 ·rw[dif_neg h];have:L=[]:=gq.1 (by omega)
  subst this;exact⟨xw _,List.Pairwise.nil⟩
section
variable{rg:List (List Pt)}{l:List Nd}{r:Int}{Xs:List PB}
theorem Rel.nodes(h:SX rg l r Xs){q:List Nat}(hq:∀a∈q,a<Xs.length):∀n∈Go.Proofs.YtkjhhooecopolaaGreatDoor.fr Xs q,n∈l:=fun n hn=>by
 obtain⟨a,ha,rfl⟩:=aX.1 hn;exact(SX.pK h (hq a ha)).1
theorem SX.canon(h:SX rg l r Xs)(hB:BD Xs):Canon (sS (af l) Xs) (jT (af l) Xs) l (fin Xs):=by
 have hW:=SX.wd h hB;obtain⟨PL,e1,hok,aaD⟩:=SX.wX h hB;have hpn:=h.pn hB Xs.length (ae _);have alT:(sS (af l) Xs).Nodup:=by
  unfold sS;rw[List.Nodup,nJ,mM];intro i j hi hj hij e;have gx:∀{i:Nat}(hi:i<Xs.length),xi Xs i=Xs[i]:=fun hi=>uX (ay hi)
  have:=SX.Ex h hi hj (by rw[gx hi,gx hj];exact e)
  omega
 have hnd:(jZ PL).Nodup:=aaD.nodup_iff.2 alT;obtain⟨nd1,nd2⟩:=anB.1 hnd;rw[nJ] at nd2;have alV:∀p∈PL,(vq p).Nodup:=fun p hp=>nd1 _ (aX.2 ⟨p,hp,rfl⟩)
 have BA:∀p∈PL,(∀a∈p.1.1,a<Xs.length)/\∀z∈p.2,∀a∈z.1,a<Xs.length:=fun p hp=>by
  have:=hpn (tR p) (by rw[e1];exact aX.2 ⟨p,hp,rfl⟩)
  exact⟨this.1.lt,fun z hz=>(this.2 z.1 (aX.2 ⟨z,hz,rfl⟩)).lt⟩
 have can:∀q:List Nat,(∀a∈q,a<Xs.length)->∀n∈Go.Proofs.YtkjhhooecopolaaGreatDoor.fr Xs q,Ge.Can n:=fun q hq n hn=>h.nl.can n (Rel.nodes h hq n hn)
 have hole:∀p∈PL,(jY (tP Xs) (p.2.map Prod.fst)).Perm (p.2.map Prod.fst)/\((jY (tP Xs) (p.2.map Prod.fst)).map (Go.Proofs.YtkjhhooecopolaaGreatDoor.fr Xs)).Pairwise fun a b=>fC a b<0:=fun p hp=>by
  obtain⟨s1,s2⟩:=aaC (tP Xs) (p.2.map Prod.fst) (Bt (fun i:Fin (p.2.map Prod.fst).length=>Go.Proofs.YtkjhhooecopolaaGreatDoor.fr Xs (p.2.map Prod.fst)[i]) fun i a ha=>by
   have hm:(p.2.map Prod.fst)[i]∈p.2.map Prod.fst:=ie _;obtain⟨z,hz,e⟩:=aX.1 hm;have ha':a∈Go.Proofs.YtkjhhooecopolaaGreatDoor.fr Xs (p.2.map Prod.fst)[i]:=ha;rw[<-e] at ha';exact can z.1 ((BA p hp).2 z hz) a ha')
  refine⟨s1,?_⟩;have hk:(p.2.map fun z=>Go.Proofs.YtkjhhooecopolaaGreatDoor.fr Xs z.1).Nodup:=by
   have hd:=(KO.1 (alV p hp)).2.1;obtain⟨_,d2⟩:=anB.1 hd;rw[nJ] at d2;rw[List.Nodup,nJ];refine qs (fun{z w} hz hw k e=>?_) d2
   have rz:=((hok p hp).hole z hz).1;have Ad:=((hok p hp).hole w hw).1;have ee:=rz.lr.Lv hW Ad.lr (by rw[<-rz.jf,<-Ad.jf,e])
   obtain⟨a,_,ha,_⟩:=lV rz.lr.ring.ne;have ma:=vF ha;exact k a ma a (by rw[<-ee];exact ma) rfl
  have hk2:((jY (tP Xs) (p.2.map Prod.fst)).map (Go.Proofs.YtkjhhooecopolaaGreatDoor.fr Xs)).Nodup:=by
   refine((s1.map (Go.Proofs.YtkjhhooecopolaaGreatDoor.fr Xs)).nodup_iff).2 ?_;rw[ke];exact hk
  rw[nJ];rw[List.Nodup,nJ] at hk2;refine qs (fun{x y} hx hy k=>?_) (s2.and hk2)
  have mem:∀x∈jY (tP Xs) (p.2.map Prod.fst),∀n∈Go.Proofs.YtkjhhooecopolaaGreatDoor.fr Xs x,Ge.Can n:=fun x hx=>by
   obtain⟨z,hz,rfl⟩:=aX.1 (s1.mem_iff.1 hx);exact can z.1 ((BA p hp).2 z hz)
  rcases JK (Go.Proofs.YtkjhhooecopolaaGreatDoor.fr Xs x) (Go.Proofs.YtkjhhooecopolaaGreatDoor.fr Xs y) (mem x hx) (mem y hy) with q|q|q
  ·exact q
  ·exact absurd q k.1
  ·exact absurd q k.2
 have hsw:Sort.SWO (ltOf fun i j:Fin ((aK Xs Xs.length).ps.map (gJ Xs)).length=>tQ Xs ((aK Xs Xs.length).ps.map (gJ Xs))[i] ((aK Xs Xs.length).ps.map (gJ Xs))[j]):=
  Bt (fun i:Fin ((aK Xs Xs.length).ps.map (gJ Xs)).length=>Go.Proofs.YtkjhhooecopolaaGreatDoor.fr Xs ((aK Xs Xs.length).ps.map (gJ Xs))[i].1) fun i a ha=>by
   have hm:((aK Xs Xs.length).ps.map (gJ Xs))[i]∈(aK Xs Xs.length).ps.map (gJ Xs):=ie _;obtain⟨g,hg,eg⟩:=aX.1 hm;have hg':g∈PL.map tR:=by rw[<-e1];exact hg
   obtain⟨p,hp,rfl⟩:=aX.1 hg';have ha':a∈Go.Proofs.YtkjhhooecopolaaGreatDoor.fr Xs ((aK Xs Xs.length).ps.map (gJ Xs))[i].1:=ha;have e2:((aK Xs Xs.length).ps.map (gJ Xs))[i].1=p.1.1:=by rw[<-eg];rfl
   rw[e2] at ha';exact can p.1.1 (BA p hp).1 a ha'
 obtain⟨t1,t2⟩:=aaC (tQ Xs) ((aK Xs Xs.length).ps.map (gJ Xs)) hsw;have hmem:∀x,x∈fin Xs↔∃p∈PL,x=(Go.Proofs.YtkjhhooecopolaaGreatDoor.fr Xs p.1.1,(jY (tP Xs) (p.2.map Prod.fst)).map (Go.Proofs.YtkjhhooecopolaaGreatDoor.fr Xs)):=fun x=>by
  unfold fin vt;rw[aX];constructor
  ·rintro⟨g,hg,rfl⟩;have:=t1.mem_iff.1 hg;rw[e1,ke] at this;obtain⟨p,hp,rfl⟩:=aX.1 this;exact⟨p,hp,rfl⟩
  ·rintro⟨p,hp,rfl⟩;refine⟨gJ Xs (tR p),t1.mem_iff.2 ?_,rfl⟩;rw[e1,ke];exact aX.2 ⟨p,hp,rfl⟩
 have find:∀R,LR (sS (af l) Xs) (jT (af l) Xs) R->∃p∈PL,p.1.2=R\/∃z∈p.2,z.2=R:=fun R hR=>by
  obtain⟨a,_,ha,_⟩:=lV hR.ring.ne;have ma:=vF ha;obtain⟨L,hL,O3⟩:=zq.1 (aaD.mem_iff.2 (hR.ring.mem a ma));obtain⟨p,hp,rfl⟩:=aX.1 hL;rcases bW.1 O3 with q|q
  ·exact⟨p,hp,Or.inl ((hok p hp).shell.lr.eq hW hR q ma)⟩
  ·obtain⟨H,hH,haH⟩:=zq.1 q;obtain⟨z,hz,rfl⟩:=aX.1 hH;exact⟨p,hp,Or.inr ⟨z,hz,((hok p hp).hole z hz).1.lr.eq hW hR haH ma⟩⟩
 refine⟨fun x hx=>?_,fun x hx=>?_,fun R hR hs=>?_,fun H hH hs=>?_,?_,fun x hx=>?_⟩
 ·obtain⟨p,hp,rfl⟩:=(hmem x).1 hx;refine⟨Rel.nodes h (BA p hp).1,fun y hy=>?_⟩
  obtain⟨q,hq,rfl⟩:=aX.1 hy;obtain⟨z,hz,rfl⟩:=aX.1 ((hole p hp).1.mem_iff.1 hq);exact Rel.nodes h ((BA p hp).2 z hz)
 ·obtain⟨p,hp,rfl⟩:=(hmem x).1 hx;have ok:=hok p hp;refine⟨p.1.2,ok.shell.lr,ok.Qc,ok.shell.jf,fun y hy=>?_⟩
  obtain⟨q,hq,rfl⟩:=aX.1 hy;obtain⟨z,hz,rfl⟩:=aX.1 ((hole p hp).1.mem_iff.1 hq);exact⟨z.2,(ok.hole z hz).1.lr,(ok.hole z hz).2,(ok.hole z hz).1.jf,ok.part z hz⟩
 ·obtain⟨p,hp,q|⟨z,hz,q⟩⟩:=find R hR
  ·exact⟨_,(hmem _).2 ⟨p,hp,rfl⟩,by rw[<-q];exact(hok p hp).shell.jf⟩
  ·rw[<-q] at hs;exact absurd hs ((hok p hp).hole z hz).2
 ·obtain⟨p,hp,q|⟨z,hz,q⟩⟩:=find H hH
  ·rw[<-q] at hs;exact absurd (hok p hp).Qc hs
  ·exact⟨_,(hmem _).2 ⟨p,hp,rfl⟩,Go.Proofs.YtkjhhooecopolaaGreatDoor.fr Xs z.1,aX.2 ⟨z.1,(hole p hp).1.mem_iff.2 (aX.2 ⟨z,hz,rfl⟩),rfl⟩,by rw[<-q];exact((hok p hp).hole z hz).1.jf⟩
 ·unfold fin vt;rw[nJ];have hk:((aK Xs Xs.length).ps.map (gJ Xs)).Pairwise fun a b=>Go.Proofs.YtkjhhooecopolaaGreatDoor.fr Xs a.1≠Go.Proofs.YtkjhhooecopolaaGreatDoor.fr Xs b.1:=by
   rw[e1,ke,nJ];refine qs (fun{p q} hp hq k e=>?_) nd2
   have rz:=(hok p hp).shell;have Ad:=(hok q hq).shell;have e':Go.Proofs.YtkjhhooecopolaaGreatDoor.fr Xs p.1.1=Go.Proofs.YtkjhhooecopolaaGreatDoor.fr Xs q.1.1:=e;have ee:=rz.lr.Lv hW Ad.lr (by rw[<-rz.jf,<-Ad.jf,e'])
   obtain⟨a,_,ha,_⟩:=lV rz.lr.ring.ne;have ma:=vF ha;exact k a (vB _ ma) a (vB _ (by rw[<-ee];exact ma)) rfl
  have hk2:(jY (tQ Xs) ((aK Xs Xs.length).ps.map (gJ Xs))).Pairwise fun a b=>Go.Proofs.YtkjhhooecopolaaGreatDoor.fr Xs a.1≠Go.Proofs.YtkjhhooecopolaaGreatDoor.fr Xs b.1:=t1.symm.pairwise hk (fun k e=>k e.symm)
  refine qs (fun{x y} hx hy k=>?_) (t2.and hk2)
  have mem:∀x∈jY (tQ Xs) ((aK Xs Xs.length).ps.map (gJ Xs)),∀n∈Go.Proofs.YtkjhhooecopolaaGreatDoor.fr Xs x.1,Ge.Can n:=fun x hx=>by
   have:=t1.mem_iff.1 hx;rw[e1,ke] at this;obtain⟨p,hp,rfl⟩:=aX.1 this;exact can p.1.1 (BA p hp).1
  rcases JK (Go.Proofs.YtkjhhooecopolaaGreatDoor.fr Xs x.1) (Go.Proofs.YtkjhhooecopolaaGreatDoor.fr Xs y.1) (mem x hx) (mem y hy) with q|q|q
  ·exact q
  ·exact absurd q k.1
  ·exact absurd q k.2
 ·obtain⟨p,hp,rfl⟩:=(hmem x).1 hx;exact(hole p hp).2
theorem alX{nW:List (List Pt)}{r':Int}{J2:List PB}(h:SX rg l r Xs)(hB:BD Xs)(h':SX nW l r' J2)(hB':BD J2)(hs:∀a b,Sd (aa rg) l (takes r) a b↔Sd (aa nW) l (takes r') a b):xe Xs=xe J2:=by
 have hW:=SX.wd h hB;have hW':=SX.wd h' hB';have hS:∀s,s∈sS (af l) Xs↔s∈sS (af l) J2:=fun s=>by
  unfold sS;rw[aX,aX];constructor
  ·rintro⟨x,hx,rfl⟩;obtain⟨y,hy,e1,e2⟩:=h'.all _ _ ((hs _ _).1 (h.mem x hx));exact⟨y,hy,by unfold ph;rw[e1,e2]⟩
  ·rintro⟨x,hx,rfl⟩;obtain⟨y,hy,e1,e2⟩:=h.all _ _ ((hs _ _).2 (h'.mem x hx));exact⟨y,hy,by unfold ph;rw[e1,e2]⟩
 rw[aaz,aaz,((SX.canon h hB).same hW hW' hS).eq hW' h'.nl (SX.canon h' hB')]
end
end Go.Proofs.YtkjhhooecopolaaGreatDoor.Gb
namespace Go.Proofs.YtkjhhooecopolaaGreatDoor
open Go.RowKit
theorem alY(s:ByteArray)(r:Int)(w:World)(hm:s.size<=maxLen)(od:Gl w)(h0:(Pl.err s.data.toList).1≠0):
  Calls Tryz.prog 39 #[.string s,.int .u8 r] w fun e w'=>e=.returned (.tuple #[.string ⟨#[]⟩,.int .i64 (Pl.err s.data.toList).1,.int .i64 (Pl.err s.data.toList).2])/\Below w.heap.size w w':=by
 have hne:(((Pl.err s.data.toList).1:Int) != 0)=true:=by rw[bne_iff_ne];omega
 have HR:Hid (∀w1,Gl w1->Calls Tryz.prog 33 #[.string s] w1 fun e w'=>Below w1.heap.size w1 w'/\∃pv,e=.returned (.tuple #[.pointer pv,.int .i64 (Pl.err s.data.toList).1,.int .i64 (Pl.err s.data.toList).2])):=fun w1 g1=>by
  refine(Hp s w1 hm g1).mono ?_;rintro e w' ⟨hb,pv,rfl,_⟩;exact⟨hb,pv,rfl⟩
 generalize(Pl.err s.data.toList).1=E at*;generalize(Pl.err s.data.toList).2=Pp at*;clear h0
 go_enter Tryz.func39,Tryz.ntmps39
 go_wp2_with fail
 refine(HR.out _ od).mono ?_;rintro e w1 ⟨hb1,pv,rfl⟩
 go_wp2_with fail
 refine bodyPost_ret (v:=.tuple #[.string ⟨#[]⟩,.int .i64 E,.int .i64 Pp]) (by simp[results,Tryz.results39,go_sem]) rfl ⟨rfl,hb1⟩
theorem aaF(s:ByteArray)(hm:s.size<=maxLen)(h0:(Pl.err s.data.toList).1=0):∀w1,Gl w1->Calls Tryz.prog 33 #[.string s] w1 fun e w'=>Below w1.heap.size w1 w'/\∃rb rv,e=.returned (.tuple #[.pointer (some ⟨rb,0,none⟩),.int .i64 0,.int .i64 0])/\
  w'.cell? ⟨rb,6,none⟩=some rv/\rb<w'.heap.size/\uK w' rv (Pl.rings s.data.toList):=fun w1 g1=>by
 have hp2:=(yh h0).2.1;refine(Hp s w1 hm g1).mono ?_;rintro e w' ⟨hb,pv,rfl,fL⟩;obtain⟨rb,rfl,_,hR⟩:=fL h0;obtain⟨c,t,r,tv,rv,hc,hl',hbk,hown,MX⟩:=hR;exact⟨hb,rb,rv,by rw[h0,hp2];rfl,cell_of hbk 6,lt_of_heap hbk,UN MX⟩
theorem alZ(s:ByteArray)(r:Int)(w:World)(hm:s.size<=maxLen)(od:Gl w)(h0:(Pl.err s.data.toList).1=0)(hr:Ge.rule r=false):
  Calls Tryz.prog 39 #[.string s,.int .u8 r] w fun e w'=>e=.returned (.tuple #[.string ⟨#[]⟩,.int .i64 4,.int .i64 0])/\Below w.heap.size w w':=by
 have HR:Hid (∀w1,Gl w1->Calls Tryz.prog 33 #[.string s] w1 fun e w'=>Below w1.heap.size w1 w'/\∃rb rv,e=.returned (.tuple #[.pointer (some ⟨rb,0,none⟩),.int .i64 0,.int .i64 0])/\
  w'.cell? ⟨rb,6,none⟩=some rv/\rb<w'.heap.size/\uK w' rv (Pl.rings s.data.toList)):=aaF s hm h0
 have HI:Hid (∀w,Calls Tryz.prog 66 #[.int .u8 r] w fun e w'=>e=.returned (.bool false)/\w'=w):=fun w=>by
  have:=Vj r w;rw[hr] at this;exact this
 clear hr h0
 go_enter Tryz.func39,Tryz.ntmps39
 go_wp2_with fail
 refine(HR.out _ od).mono ?_;rintro e w1 ⟨hb1,rb,rv,rfl,_⟩;have qi:Hid (Below w.heap.size w w1):=hb1;clear hb1 HR
 go_wp2_with fail
 refine(HI.out _).mono ?_;rintro e w2 ⟨rfl,rfl⟩;clear HI
 go_wp2_with fail
 refine bodyPost_ret (v:=.tuple #[.string ⟨#[]⟩,.int .i64 4,.int .i64 0]) (by simp[results,Tryz.results39,go_sem]) rfl ⟨rfl,qi.out⟩
def pL(rg:List (List Ge.Pt))(r:Int)(TX:List UInt8):Prop:=∃Ps l,l.map Ge.aj=Ge.fX (Ge.aa rg)/\(∀n∈l,Ge.Can n)/\og (Ge.aa rg) l Ps/\(ov r (Ge.aa rg) Ps).length<=85000000/\TX=xe (ov r (Ge.aa rg) Ps)
theorem al0(s:ByteArray)(r:Int)(w:World)(hm:s.size<=maxLen)(od:Gl w)(h0:(Pl.err s.data.toList).1=0)(hr:Ge.rule r=true):
  Calls Tryz.prog 39 #[.string s,.int .u8 r] w fun e w'=>(∃TX,e=.returned (.tuple #[.string (ba TX),.int .i64 0,.int .i64 0])/\pL (Pl.rings s.data.toList) r TX)/\Below w.heap.size w w':=by
 have HR:Hid (∀w1,Gl w1->Calls Tryz.prog 33 #[.string s] w1 fun e w'=>Below w1.heap.size w1 w'/\∃rb rv,e=.returned (.tuple #[.pointer (some ⟨rb,0,none⟩),.int .i64 0,.int .i64 0])/\
  w'.cell? ⟨rb,6,none⟩=some rv/\rb<w'.heap.size/\uK w' rv (Pl.rings s.data.toList)):=aaF s hm h0
 have HI:Hid (∀w,Calls Tryz.prog 66 #[.int .u8 r] w fun e w'=>e=.returned (.bool true)/\w'=w):=fun w=>by
  have:=Vj r w;rw[hr] at this;exact this
 obtain⟨hro,hrl,jm,hel⟩:=H9 h0;have aaG:=Pl.afN h0;have kK:Hid (∀v w1,uK w1 v (Pl.rings s.data.toList)->Calls Tryz.prog 36 #[v] w1 fun e w'=>∃v,e=.returned v/\gu w' v (Ge.aa (Pl.rings s.data.toList))/\Below w1.heap.size w1 w'):=fun v w1 hv=>UQ _ v w1 hv hro hrl
 have Qh:Hid (∀v w1,gu w1 v (Ge.aa (Pl.rings s.data.toList))->Gl w1->Calls Tryz.prog 68 #[v,.int .u8 r] w1 fun e w'=>∃lv,e=.returned lv/\Calls Tryz.prog 69 #[lv] w' fun e w2=>∃lp,e=.returned lp/\Below w1.heap.size w1 w2/\Calls Tryz.prog 67 #[lp] w2 fun e w3=>(∃TX,e=.returned (.string (ba TX))/\pL (Pl.rings s.data.toList) r TX)/\Below w1.heap.size w1 w3):=fun v w1 hv cz=>by
  refine(aib _ r v w1 hv aaG jm (fun e he=>Ge.LW he)).mono ?_
  rintro e w' ⟨lv,rfl,Ps,l,wb,bs,mr,jF,kq,hbb,jq,hbl⟩;refine⟨lv,rfl,?_⟩;refine(ale mr jF jm kq jq hbl (cz.below hbb cz.sz)).mono ?_;rintro e w2 ⟨lp,rfl,hb2,hW⟩;have vz:Below w1.heap.size w1 w2:=hbb.trans (hb2.mono hbb.size);refine⟨lp,rfl,vz,hW.mono ?_⟩;rintro e w3 ⟨rfl,hb3⟩;exact⟨⟨_,rfl,Ps,l,mr,jF,kq,by rw[<-jq.len];exact hbl,rfl⟩,vz.trans (hb3.mono vz.size)⟩
 have HFT:Hid (∃P:List UInt8->Prop,P=pL (Pl.rings s.data.toList) r):=⟨_,rfl⟩;obtain⟨P,hP⟩:=HFT.out;rw[<-hP] at Qh;rw[<-hP];clear hr h0 hro hrl jm hel aaG HFT hP;generalize Pl.rings s.data.toList=RG at*;generalize Ge.aa RG=ES at*
 go_enter Tryz.func39,Tryz.ntmps39
 go_wp2_with fail
 refine(HR.out _ od).mono ?_;rintro e w1 ⟨hb1,rb,rv,rfl,c6,hlt,qR⟩;have cz:=od.below hb1 od.sz
 go_wp2_with fail
 refine(HI.out _).mono ?_;rintro e w2 ⟨rfl,rfl⟩;clear HI HR
 go_wp2_with fail
 refine(kK.out _ _ qR).mono ?_;rintro e w3 ⟨ev,rfl,rU,hb3⟩;have jP:Below w.heap.size w w3:=hb1.trans (hb3.mono hb1.size);have xW:=cz.below hb3 cz.sz;have om:Hid (Below w.heap.size w w3):=jP;have hcall:=Qh.out _ _ rU xW;clear Qh kK qR rU hb3 jP hb1 c6
 go_wp2_with fail
 refine hcall.mono ?_;rintro e w4 ⟨lv,rfl,aaI⟩;clear hcall
 go_wp2_with fail
 refine aaI.mono ?_;rintro e w5 ⟨lp,rfl,ai,aaJ⟩;clear aaI
 go_wp2_with fail
 refine aaJ.mono ?_;rintro e w6 ⟨⟨TX,rfl,hTX⟩,ax⟩;have HX':Hid (P TX):=hTX;have Fk:Hid (Below w.heap.size w w6):=om.out.trans (ax.mono om.out.size);clear aaJ ai ax hTX
 go_wp2_with fail
 refine bodyPost_ret (v:=.tuple #[.string (ba TX),.int .i64 0,.int .i64 0]) (by simp[results,Tryz.results39,go_sem]) rfl ⟨⟨TX,rfl,HX'.out⟩,Fk.out⟩
namespace Gb
open Ge Ga
theorem aaL:∀{l l':List Nd},(∀n∈l,Ge.Can n)->(∀n∈l',Ge.Can n)->l.map aj=l'.map aj->l=l'
 |[],[],_,_,_=>rfl
 |[],_::_,_,_,h=>by simp at h
 |_::_,[],_,_,h=>by simp at h
 |a::A,b::B,ha,hb,h=>by
  rw[gK,gK] at h;injection h with h1 h2;have e:a=b:=Ge.uM (ha a (by simp)) (hb b (by simp)) (by rw[h1];exact Ge.xS _)
  rw[e,aaL (fun n hn=>ha n (by simp[hn])) (fun n hn=>hb n (by simp[hn])) h2]
theorem pL.eq{rg nW:List (List Pt)}{r r':Int}{T T':List UInt8}(hs:∀e∈aa rg,fg e)(hs':∀e∈aa nW,fg e)(hn:fX (aa rg)=fX (aa nW))(YW:∀l,∀a b,Sd (aa rg) l (takes r) a b↔Sd (aa nW) l (takes r') a b)(h:pL rg r T)(h':pL nW r' T'):T=T':=by
 obtain⟨Ps,l,h1,h2,h3,h4,rfl⟩:=h;obtain⟨Ps',l',k1,k2,k3,k4,rfl⟩:=h';have e:l=l':=aaL h2 k2 (by rw[h1,k1,hn])
 subst e;exact alX (N8 h1 h2 h3) (PW h1 hs h3 h4) (N8 k1 k2 k3) (PW k1 hs' k3 k4) (YW l)
theorem J3{F:Pt->Pt->Int}(hF:∀u v,F v u= -F u v):∀(es:List Sg),total F (es.map rv)= -total F es
 |[]=>rfl
 |e::es=>by
  rw[gK,fq,fq,J3 hF es];have:=hF e.1 e.2;show F e.2 e.1+_=_;omega
theorem J4{n d:Int}(hd:d≠0):aR (-n) (-d)=aR n d:=by
 unfold aR;by_cases h:d<0
 ·rw[if_neg (by omega),if_pos h]
 ·rw[if_pos (by omega),if_neg h,Kr,Kr]
theorem al2{e f:Pt×Pt}(h:bw e f≠0):bw (rv e) f= -bw e f/\dE (rv e) f=dE e f:=by
 have c:bw (rv e) f= -bw e f:=by unfold bw rv;simp only;grind
 refine⟨c,?_⟩;have x:mX (rv e) f= -mX e f:=by unfold mX mT bw rv;simp only;grind
 have y:mY (rv e) f= -mY e f:=by unfold mY mT bw rv;simp only;grind
 unfold dE;rw[c,x,y,J4 h,J4 h]
theorem al3{e f:Pt×Pt}(h:bw e f≠0):bw e (rv f)= -bw e f/\dE e (rv f)=dE e f:=by
 have c:bw e (rv f)= -bw e f:=by unfold bw rv;simp only;grind
 refine⟨c,?_⟩;have x:mX e (rv f)= -mX e f:=by unfold mX mT bw rv;simp only;grind
 have y:mY e (rv f)= -mY e f:=by unfold mY mT bw rv;simp only;grind
 unfold dE;rw[c,x,y,J4 h,J4 h]
theorem J5(n:Pt)(d:Int)(e:Pt×Pt):fo n d (rv e)=fo n d e:=vL _ _
theorem aaM(p:Qt)(e:Pt×Pt):hq p (rv e)=hq p e:=J5 _ _ _
theorem aaN{es es':List Sg}(h:∀e∈es,rv e∈es'){q:Qt}(hq':isNode es q):isNode es' q:=by
 rcases hq' with⟨e,he,k⟩|⟨e,he,f,hf,k1,k2,k3,k4⟩
 ·exact Or.inl ⟨rv e,h e he,k.symm⟩
 ·refine Or.inr ⟨rv e,h e he,rv f,h f hf,?_⟩;obtain⟨a1,a2⟩:=al2 k1;have xa:bw (rv e) f≠0:=by rw[a1];omega
  obtain⟨b1,b2⟩:=al3 xa;rw[b1,b2,a1,a2,aaM,aaM];exact⟨by omega,k2,k3,k4⟩
theorem al4{es es':List Sg}(h:∀e∈es,rv e∈es')(h':∀e∈es',rv e∈es):fX es=fX es':=by
 obtain⟨a1,a2,a3⟩:=yn es;obtain⟨b1,b2,b3⟩:=yn es';refine JX (lt:=fun p q:Qt=>fJ p/\fJ q/\lt p q) (fun x k=>Ge.lt_irrefl _ k.2.2) (fun x y k k2=>Ge.lt_irrefl _ (Ge.lt_trans k.1 k.2.1 k.1 k.2.2 k2.2.2)) (qs (fun ha hb k=>⟨a1 _ ha,a1 _ hb,k⟩) a2) (qs (fun ha hb k=>⟨b1 _ ha,b1 _ hb,k⟩) b2) fun x=>?_
 rw[a3,b3];exact⟨aaN h,aaN h'⟩
theorem aaO{es es':List Sg}{l:List Nd}(h:∀e∈es,rv e∈es'){f t:Nd}(k:cU es l f t):cU es' l f t:=by
 obtain⟨e,he,hq⟩:=k;refine⟨rv e,h e he,?_⟩;have:held (rv e) l=held e l:=by
  unfold held;exact ack fun n _=>J5 _ _ _
 rw[this];exact hq
theorem J6{es es':List Sg}(h:es'.Perm (es.map rv))(f t:N3):RR es' f t= -RR es f t/\LL es' f t= -LL es f t:=by
 have e1:PP es' (aU f t)= -PP es (aU f t):=by
  unfold PP;rw[Lc h,J3 fun u v=>F9 _ _]
 have e2:total (fb (aU f t) (wv f t)) es'= -total (fb (aU f t) (wv f t)) es:=by
  rw[Lc h,J3 fun u v=>Xt _ _ _ _]
 unfold RR LL;rw[e1,e2];omega
theorem al5(x:Int):((-x).tmod 2≠0)↔(x.tmod 2≠0):=by
 rw[Int.neg_tmod];omega
def Fv(r:Int):Int:=if r=43 then 45 else r
theorem J7{r:Int}(hr:r=101\/r=110\/r=43)(x:Int):takes (Fv r) (-x)=takes r x:=by
 rcases hr with rfl|rfl|rfl
 ·show decide ((-x).tmod 2≠0)=decide (x.tmod 2≠0);exact decide_eq_decide.2 (al5 x)
 ·show decide (-x≠0)=decide (x≠0);exact decide_eq_decide.2 (by omega)
 ·show decide (-x<0)=decide (0<x);exact decide_eq_decide.2 (by omega)
theorem al6{es es':List Sg}{l:List Nd}(h:es'.Perm (es.map rv)){r:Int}(hr:r=101\/r=110\/r=43)(a b:Nd):Sd es l (takes r) a b↔Sd es' l (takes (Fv r)) a b:=by
 have m1:∀e∈es,rv e∈es':=fun e he=>h.mem_iff.2 (aX.2 ⟨e,he,rfl⟩)
 have m2:∀e∈es',rv e∈es:=fun e he=>by
  obtain⟨f,hf,rfl⟩:=aX.1 (h.mem_iff.1 he);exact hf
 have p:∀f t,cU es l f t↔cU es' l f t:=fun f t=>⟨aaO m1,aaO m2⟩
 unfold Sd;rw[p,p,(J6 h a b).1,(J6 h a b).2,(J6 h b a).1,(J6 h b a).2,J7 hr,J7 hr,J7 hr,J7 hr]
theorem pL.mirror{rg nW:List (List Pt)}{r:Int}{T T':List UInt8}(hr:r=101\/r=110\/r=43)(hp:(aa nW).Perm ((aa rg).map rv))(hs:∀e∈aa rg,fg e)(h:pL rg r T)(h':pL nW (Fv r) T'):T=T':=by
 have m1:∀e∈aa rg,rv e∈aa nW:=fun e he=>hp.mem_iff.2 (aX.2 ⟨e,he,rfl⟩)
 have m2:∀e∈aa nW,rv e∈aa rg:=fun e he=>by
  obtain⟨f,hf,rfl⟩:=aX.1 (hp.mem_iff.1 he);exact hf
 refine pL.eq hs (fun e he=>?_) (al4 m1 m2) (fun l a b=>al6 hp hr a b) h h'
 have:=hs _ (m2 e he);obtain⟨h1,h2,h3,h4⟩:=this;exact⟨h3,h4,h1,h2⟩
theorem al7{rg:List (List Pt)}{r:Int}{T:List UInt8}(h:pL rg r T):T≠[]:=by
 obtain⟨Ps,l,_,_,_,_,rfl⟩:=h;unfold xe JP Fq;split
 ·unfold Z0;simp
 ·unfold JO;simp
theorem aaP:∀(r:List Pt)(a z:Pt),((a::r).zip (r++[z])).reverse.map rv=(z::r.reverse).zip (r.reverse++[a])
 |[],a,z=>rfl
 |b::r,a,z=>by
  have ih:=aaP r b z;rw[lN,FK,zb,iy,ih,zb];have e:∀(A:List Pt)(B:List Pt)(x y:Pt),A.length=B.length->(A++[x]).zip (B++[y])=A.zip B++[(x,y)]:=fun A B x y hl=>by
   rw[List.zip_append hl];rfl
  have e1:z::(r.reverse++[b])=(z::r.reverse)++[b]:=rfl;have e2:r.reverse++[b]++[a]=(r.reverse++[b])++[a]:=rfl;rw[e1,e2,e _ _ _ _ (by simp)]
  rfl
theorem al8(g:List Pt):(closing g.reverse).Perm ((closing g).map rv):=by
 cases g with
 |nil=>exact xw _
 |cons a r=>
  have h:=aaP r a a;have e0:(closing (a::r)).map rv=(((a::r).zip (r++[a])).reverse.map rv).reverse:=by rw[<-List.map_reverse,List.reverse_reverse];rfl
  rw[e0,h];refine List.Perm.trans ?_ (List.reverse_perm _).symm;rw[zb];cases hr:r.reverse with
  |nil=>exact xw _
  |cons b q=>
   show((b::(q++[a])).zip ((q++[a])++[b])).Perm ((a::b::q).zip ((b::q)++[a]));have e1:(b::(q++[a])).zip ((q++[a])++[b])=(b::q).zip (q++[a])++[(a,b)]:=by
    have:b::(q++[a])=(b::q)++[a]:=rfl;rw[this,List.zip_append (by simp)]
    rfl
   have e2:(a::b::q).zip ((b::q)++[a])=(a,b)::(b::q).zip (q++[a]):=rfl;rw[e1,e2];exact List.perm_append_singleton _ _
theorem al9(g:List Pt):(fH g.reverse).Perm ((fH g).map rv):=by
 unfold fH;refine((al8 g).filter _).trans ?_;rw[List.filter_map];refine List.Perm.of_eq ?_;congr 1;refine ack fun e _=>?_
 simp only[Function.comp_apply];exact decide_eq_decide.2 ⟨fun k w=>k w.symm,fun k w=>k w.symm⟩
theorem ama{a b:List (List Pt)}(h:a.Perm b):(aa a).Perm (aa b):=by
 unfold aa;exact h.flatMap_right _
theorem amb(rg:List (List Pt)):(aa (rg.map List.reverse)).Perm ((aa rg).map rv):=by
 induction rg with
 |nil=>exact xw _
 |cons g rg ih=>
  have e1:aa ((g::rg).map List.reverse)=fH g.reverse++aa (rg.map List.reverse):=by simp[aa]
  have e2:aa (g::rg)=fH g++aa rg:=by simp[aa]
  rw[e1,e2,iy];exact(al9 g).append ih
def turn(ps:List (List (List Pt))):List (List (List Pt)):=(ps.map fun p=>(p.map List.reverse).reverse).reverse
theorem amc(ps:List (List (List Pt))):(aa (turn ps).flatten).Perm ((aa ps.flatten).map rv):=by
 refine List.Perm.trans (ama ?_) (amb ps.flatten);unfold turn;induction ps with
 |nil=>exact xw _
 |cons p ps ih=>
  have e:(p::ps).flatten=p++ps.flatten:=by simp
  rw[gK,zb,Ra,e,iy];refine FU.trans (acu ?_ ih);simp only[BO,List.flatten_nil,rA];exact List.reverse_perm _
end Gb
end Go.Proofs.YtkjhhooecopolaaGreatDoor

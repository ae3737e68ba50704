import Derived.Test.YtkjhhooecopolaaGreatDoorMz33
set_option maxRecDepth 100000
set_option maxHeartbeats 4000000
namespace Go.Proofs.YtkjhhooecopolaaGreatDoor
open Go.RowKit
def kQ(Xs:List PB)(s j:Nat):Bool:=decide ((xi Xs s).t=(xi Xs j).f)
def ia(Xs:List PB)(O:List Nat)(s:Nat):Int:=fM (kQ Xs s) O
def jb(Xs:List PB)(p:List Nat×List (List Nat))(s:Nat):List Nat×List (List Nat):=
 if 0<=ia Xs (p.1++[s]) s then((p.1++[s]).take (ia Xs (p.1++[s]) s).toNat,p.2++[cN Xs ((p.1++[s]).drop (ia Xs (p.1++[s]) s).toNat)]) else(p.1++[s],p.2)
def bA(Xs:List PB)(W:List Nat):List Nat×List (List Nat):=W.foldl (jb Xs) ([],[])
def bf(Xs:List PB)(W:List Nat):List (List Nat):=(bA Xs W).2
theorem wV(Xs:List PB)(W:List Nat)(s:Nat):bA Xs (W++[s])=jb Xs (bA Xs W) s:=by unfold bA;rw[KR];rfl
theorem YG:(Tryz.prog.info? 185).map (fun i=>(i.zero,i.size,i.bytes))=some (some (.slice none 0 0),1,24):=by kernel_rfl
structure RI(bs:List Nat)(w:World)(lo lr:Value)(O:List Nat)(Rs:List (List Nat))(rv:List Value)(wr:World):Prop where
 oo:wr.ownsRow w.heap.size 175 1 lo O.length (aG (O.map (bx bs)))
 ro:wr.ownsRow w.heap.size 185 1 lr rv.length rv
 len:rv.length=Rs.length
 ring:∀(i:Nat) v r,rv[i]?=some v->Rs[i]?=some r->wr.ownsRow w.heap.size 175 1 v r.length (aG (r.map (bx bs)))/\∀k,v.ownBlock=some k->lo.ownBlock≠some k/\lr.ownBlock≠some k
 ne:∀k,lo.ownBlock=some k->lr.ownBlock≠some k
 below:Below w.heap.size w wr
theorem RI.keep{bs:List Nat}{w:World}{lo lr:Value}{O:List Nat}{Rs:List (List Nat)}{rv:List Value}{wr w':World}(h:RI bs w lo lr O Rs rv wr)(hb:Below wr.heap.size wr w'):RI bs w lo lr O Rs rv w':=
 ⟨aJ h.oo fun k hk=>hb.block k (au h.oo k hk).2,aJ h.ro fun k hk=>hb.block k (au h.ro k hk).2,h.len,fun i v r h1 h2=>⟨aJ (h.ring i v r h1 h2).1 fun k hk=>hb.block k (au (h.ring i v r h1 h2).1 k hk).2,(h.ring i v r h1 h2).2⟩,h.ne,h.below.trans (hb.mono h.below.size)⟩
theorem RI.ajk{bs:List Nat}{w:World}{lo lr:Value}{O:List Nat}{Rs:List (List Nat)}{rv:List Value}{wr:World}(h:RI bs w lo lr O Rs rv wr)(s:Nat)(o:Obj){g' cap':Nat}{w8:World}(aZ:(wr.alloc o).grownBy w8 lo.ownBlock)
  (cH:w8.ownsRow w.heap.size 175 1 (.slice (some ⟨g',0,none⟩) (O.length+1) cap') (O.length+1) (aG (O.map (bx bs))++[.pointer (some ⟨bx bs s,0,none⟩)]))(hat:lo.ownBlock=some g'\/g'=wr.heap.size+1):
  RI bs w (.slice (some ⟨g',0,none⟩) (O.length+1) cap') lr (O++[s]) Rs rv w8:=by
 have hold:∀k,k<wr.heap.size->lo.ownBlock≠some k->w8.heap[k]?=wr.heap[k]?:=fun k hk hne=>(aZ.block k (by simp;omega) (fun e=>hne e.symm)).trans (Below.heap_alloc _ _ _ hk)
 refine⟨?_,aJ h.ro fun k hk=>hold k (au h.ro k hk).2 (fun e=>h.ne k e hk),h.len,fun i v r h1 h2=>?_,fun k hk=>?_,?_⟩
 ·rw[iy,aS];have e:aG (O.map (bx bs)++[s].map (bx bs))=aG (O.map (bx bs))++[.pointer (some ⟨bx bs s,0,none⟩)]:=by simp[aG]
  rw[e];exact cH
 ·obtain⟨k1,k2⟩:=h.ring i v r h1 h2;refine⟨aJ k1 fun k hk=>hold k (au k1 k hk).2 (k2 k hk).1,fun k hk=>⟨fun e=>?_,(k2 k hk).2⟩⟩
  have e':g'=k:=by simpa[Value.ownBlock] using e
  subst e';rcases hat with hat|hat
  ·exact(k2 _ hk).1 hat
  ·have:=(au k1 _ hk).2;omega
 ·have e':g'=k:=by simpa[Value.ownBlock] using hk
  subst e';intro hr;rcases hat with hat|hat
  ·exact h.ne _ hat hr
  ·have:=(au h.ro _ hr).2;omega
 ·exact(h.below.alloc h.below.size _).grown aZ (by have:=h.below.size;simp;omega) (fun k hk=>(au h.oo k hk).1)
theorem RI.ajl{bs:List Nat}{w:World}{lo lr:Value}{O:List Nat}{Rs:List (List Nat)}{rv:List Value}{wr:World}(h:RI bs w lo lr O Rs rv wr){v:Value}{r:List Nat}{B:Nat}(hv:wr.ownsRow B 175 1 v r.length (aG (r.map (bx bs))))(hB:w.heap.size<=B)(hlB:∀k,lo.ownBlock=some k\/lr.ownBlock=some k->k<B)(o:Obj){g' cap':Nat}{w8:World}(aZ:(wr.alloc o).grownBy w8 lr.ownBlock)
  (cH:w8.ownsRow w.heap.size 185 1 (.slice (some ⟨g',0,none⟩) (rv.length+1) cap') (rv.length+1) (rv++[v]))(hat:lr.ownBlock=some g'\/g'=wr.heap.size+1):
  RI bs w lo (.slice (some ⟨g',0,none⟩) (rv.length+1) cap') O (Rs++[r]) (rv++[v]) w8:=by
 have hold:∀k,k<wr.heap.size->lr.ownBlock≠some k->w8.heap[k]?=wr.heap[k]?:=fun k hk hne=>(aZ.block k (by simp;omega) (fun e=>hne e.symm)).trans (Below.heap_alloc _ _ _ hk)
 have hvk:∀k,v.ownBlock=some k->B<=k/\k<wr.heap.size:=fun k hk=>au hv k hk
 refine⟨aJ h.oo fun k hk=>hold k (au h.oo k hk).2 (h.ne k hk),?_,by rw[aS,aS,h.len];rfl,fun i u q h1 h2=>?_,fun k hk e=>?_,?_⟩
 ·rw[aS];exact cH
 ·by_cases hi:i<rv.length
  ·rw[dZ hi] at h1;rw[dZ (by rw[<-h.len];exact hi)] at h2
   obtain⟨k1,k2⟩:=h.ring i u q h1 h2;refine⟨aJ k1 fun k hk=>hold k (au k1 k hk).2 (k2 k hk).2,fun k hk=>⟨(k2 k hk).1,fun e=>?_⟩⟩
   have e':g'=k:=by simpa[Value.ownBlock] using e
   subst e';rcases hat with hat|hat
   ·exact(k2 _ hk).2 hat
   ·have:=(au k1 _ hk).2;omega
  ·have hi2:i=rv.length:=by
    have:=(bT.1 h1).1;simp at this;omega
   subst hi2;have e1:u=v:=by simpa using h1.symm
   have e2:q=r:=by rw[h.len] at h2;simpa using h2.symm
   subst e1 e2;refine⟨uR (aJ hv fun k hk=>hold k (hvk k hk).2 (fun e=>by have:=hlB k (Or.inr e);have:=(hvk k hk).1;omega)) hB,fun k hk=>⟨fun e=>by have:=hlB k (Or.inl e);have:=(hvk k hk).1;omega,fun e=>?_⟩⟩
   have e':g'=k:=by simpa[Value.ownBlock] using e
   subst e';rcases hat with hat|hat
   ·have:=hlB _ (Or.inr hat);have:=(hvk _ hk).1;omega
   ·have:=(hvk _ hk).2;omega
 ·have e':g'=k:=by simpa[Value.ownBlock] using e
  subst e';rcases hat with hat|hat
  ·exact h.ne _ hk hat
  ·have:=(au h.oo _ hk).2;omega
 ·exact(h.below.alloc h.below.size _).grown aZ (by have:=h.below.size;simp;omega) (fun k hk=>(au h.ro k hk).1)
theorem ajm{w:World}{base:Nat}{e:TypeId}{g n cap:Nat}{xs:List Value}(h:w.ownsRow base e 1 (.slice (some ⟨g,0,none⟩) n cap) n xs){k:Nat}(hk:k<=n):w.ownsRow base e 1 (.slice (some ⟨g,0,none⟩) k cap) k (xs.take k):=by
 obtain⟨h1,h2⟩:=h;rcases h2 with⟨h0,_⟩|⟨g1,c1,cur,hv,hg,hb,hc,hm,hs,ht⟩
 ·cases h0
 ·refine⟨by rw[ig,h1];omega,Or.inr ⟨g1,c1,cur,?_,hg,hb,by omega,hm,hs,?_⟩⟩
  ·injection hv with a1 _ a3;rw[a1,a3]
  ·rw[<-ht,BX];congr 1;omega
theorem RI.ajn{bs:List Nat}{w:World}{lr:Value}{g n cap:Nat}{O:List Nat}{Rs:List (List Nat)}{rv:List Value}{wr:World}(h:RI bs w (.slice (some ⟨g,0,none⟩) n cap) lr O Rs rv wr){k:Nat}(hk:k<=O.length)(hn:n=O.length):RI bs w (.slice (some ⟨g,0,none⟩) k cap) lr (O.take k) Rs rv wr:=by
 subst hn;refine⟨?_,h.ro,h.len,h.ring,h.ne,h.below⟩;have:=ajm h.oo hk;have e:(aG (O.map (bx bs))).take k=aG ((O.take k).map (bx bs)):=by unfold aG;rw[acn,acn]
 rw[e] at this;have hl:(O.take k).length=k:=by rw[ig];omega
 rw[hl];exact this
theorem ajo(Xs:List PB)(p:List Nat×List (List Nat))(s:Nat):∀j∈(jb Xs p s).1,j∈p.1\/j=s:=by
 intro j hj;unfold jb at hj;split at hj
 ·have:=nL hj;simpa using this
 ·simpa using hj
theorem Jv(Xs:List PB)(A:List Nat):∀k,∀j∈(bA Xs (A.take k)).1,j∈A:=by
 intro k;induction k with
 |zero=>intro j hj;simp[bA] at hj
 |succ k ih=>
  intro j hj;by_cases hk:k<A.length
  ·have htk:A.take (k+1)=A.take k++[A[k]]:=by rw[jx,ay hk];rfl
   rw[htk,wV] at hj;rcases ajo Xs _ _ j hj with h|h
   ·exact ih j h
   ·rw[h];exact ie hk
  ·rw[rI (by omega)] at hj
   rw[rI (by omega)] at ih
   exact ih j hj
theorem ajp(Xs:List PB)(p:List Nat×List (List Nat))(s:Nat):(jb Xs p s).1.length<=p.1.length+1/\(jb Xs p s).2.length<=p.2.length+1:=by
 unfold jb;split
 ·simp;omega
 ·simp
theorem EH(Xs:List PB)(A:List Nat):∀k,(bA Xs (A.take k)).1.length<=k/\(bA Xs (A.take k)).2.length<=k:=by
 intro k;induction k with
 |zero=>simp[bA]
 |succ k ih=>
  by_cases hk:k<A.length
  ·have htk:A.take (k+1)=A.take k++[A[k]]:=by rw[jx,ay hk];rfl
   rw[htk,wV];have:=ajp Xs (bA Xs (A.take k)) A[k];omega
  ·rw[rI (by omega)]
   rw[rI (by omega)] at ih
   omega
theorem YH{P:Nat->Bool}:∀(l:List Nat)(k:Nat),fB P l k= -1\/((k:Int)<=fB P l k/\fB P l k<(k:Int)+l.length)
 |[],_=>Or.inl rfl
 |a::l,k=>by
  show(if P a then(k:Int) else fB P l (k+1))= -1\/((k:Int)<=(if P a then(k:Int) else fB P l (k+1))/\(if P a then(k:Int) else fB P l (k+1))<(k:Int)+(a::l).length)
  rw[bO];by_cases ha:P a=true
  ·rw[if_pos ha];omega
  ·rw[if_neg ha];have:=YH (P:=P) l (k+1);omega
theorem ajq(Xs:List PB)(O:List Nat)(s:Nat)(h:0<=ia Xs O s):(ia Xs O s).toNat<O.length:=by
 have:=YH (P:=kQ Xs s) O 0;have e:ia Xs O s=fB (kQ Xs s) O 0:=rfl;rw[e] at h⊢;omega
theorem ajr(bs:List Nat)(Xs:List PB)(hB:BD Xs)(g:Nat)(mk:Nat->Bool)(ow:Nat->Option Nat)(w:World)(hW:SW g bs Xs mk ow w)(O:List Nat)(s gO cO:Nat)(w':World)(ho:w'.ownsRow w.heap.size 175 1 (.slice (some ⟨gO,0,none⟩) O.length cO) O.length (aG (O.map (bx bs))))(hb:Below w.heap.size w w')(hO:∀j∈O,j<bs.length)(hs:s<bs.length)(hne:O≠[])(hl:O.length<=85000000):
  Calls Tryz.prog 166 #[.slice (some ⟨gO,0,none⟩) O.length cO,.func (.func 167) #[.pointer (some ⟨bx bs s,0,none⟩)] #[]] w' fun e w''=>e=.returned (.int .i64 (ia Xs O s))/\Below w'.heap.size w' w'':=by
 have hlen:=hW.len;obtain⟨lJ,jV,hv,_,dw,_,_,_,hcell⟩:=ny ho (by intro h;exact hne (rB.1 h))
 have hgg:lJ=gO/\jV=cO:=by
  injection hv with h1 _ h3;injection h1 with h1;injection h1 with h1;exact⟨h1.symm,h3.symm⟩
 obtain⟨rfl,rfl⟩:=hgg;have hm:=ai1 (fun b=>decide ((xi Xs s).t=(xi Xs (bs.idxOf b)).f)) (O.map (bx bs)) lJ 0 jV (bx bs s) w' (by rw[iH];exact hl) (fun i b hi=>hcell i b hi) (fun b hb' w'' hw=>by
  obtain⟨j,hj,rfl⟩:=aX.1 hb';have hjl:=hO j hj;have hR:=(hW.rb.below hb).below hw;rw[mD hW.nd hjl];exact ai0 _ _ (hB.v _ (gh (by rw[<-hlen];exact hs))) (hB.v _ (gh (by rw[<-hlen];exact hjl))) _ _ w'' (hR.at (by rw[<-hlen];exact hs)) (hR.at (by rw[<-hlen];exact hjl)))
 have e1:fM (fun b=>decide ((xi Xs s).t=(xi Xs (bs.idxOf b)).f)) (O.map (bx bs))=ia Xs O s:=Jt _ _ fun x hx=>by
  simp only[mD hW.nd (hO x hx)];rfl
 rw[e1,iH] at hm;exact hm
theorem ajs(bs:List Nat)(Xs:List PB)(hB:BD Xs)(g:Nat)(mk:Nat->Bool)(ow:Nat->Option Nat)(w:World)(hW:SW g bs Xs mk ow w)(O:List Nat)(R gO cO:Nat)(w':World)(ho:w'.ownsRow w.heap.size 175 1 (.slice (some ⟨gO,0,none⟩) O.length cO) O.length (aG (O.map (bx bs))))(hb:Below w.heap.size w w')(hO:∀j∈O,j<bs.length)(hR:R<O.length)(hl:O.length<=85000000)(hT:cS Xs (O.drop R)≠[]):
  Calls Tryz.prog 168 #[.slice (some ⟨gO,R,none⟩) (O.length-R) (cO-R)] w' fun e w''=>∃lv,e=.returned lv/\w''.ownsRow w'.heap.size 175 1 lv (cN Xs (O.drop R)).length (aG ((cN Xs (O.drop R)).map (bx bs)))/\Below w'.heap.size w' w'':=by
 have hne:O≠[]:=by intro h;rw[h] at hR;simp at hR
 obtain⟨lJ,jV,hv,_,dw,_,_,_,hcell⟩:=ny ho (by intro h;exact hne (rB.1 h))
 have hgg:lJ=gO/\jV=cO:=by
  injection hv with h1 _ h3;injection h1 with h1;injection h1 with h1;exact⟨h1.symm,h3.symm⟩
 obtain⟨rfl,rfl⟩:=hgg;have hm:=ajj bs Xs hB g mk ow w' (hW.below hb) (O.drop R) (by rw[rD];omega) (by rw[rD];omega) (fun a ha=>hO a (Rk ha)) lJ R (jV-R) (fun i a hi=>by
  rw[KQ] at hi;have h2:=hcell (R+i) (bx bs a) (by rw[gm,hi];rfl)
  rw[jd] at h2;exact h2) hT
 rw[rD] at hm;exact hm
theorem ajt(bs:List Nat)(Xs:List PB)(hB:BD Xs)(g:Nat)(mk:Nat->Bool)(ow:Nat->Option Nat)(w:World)(hW:SW g bs Xs mk ow w)(A:List Nat)(n9:A.length<=85000000)(hA:∀a∈A,a<bs.length)(g0 cap:Nat)
  (HV:Hid (∀(i:Nat) a,A[i]?=some a->w.cell? ⟨g0,0+i,none⟩=some (.pointer (some ⟨bx bs a,0,none⟩))))
  (YI:Hid (∀(k:Nat) s,A[k]?=some s->0<=ia Xs ((bA Xs (A.take k)).1++[s]) s->cS Xs (((bA Xs (A.take k)).1++[s]).drop (ia Xs ((bA Xs (A.take k)).1++[s]) s).toNat)≠[])):
  Calls Tryz.prog 111 #[.slice (some ⟨g0,0,none⟩) A.length cap] w fun e w'=>∃lv lo O rv,e=.returned lv/\RI bs w lo lv O (bf Xs A) rv w':=by
 obtain⟨i0,hi0,hz0,hz1,hz2⟩:=info_parts yJ;obtain⟨j0,oY,hy0,hy1,hy2⟩:=info_parts YG;have OB:Hid (∀(O:List Nat)(s gO cO:Nat)(w':World),w'.ownsRow w.heap.size 175 1 (.slice (some ⟨gO,0,none⟩) O.length cO) O.length (aG (O.map (bx bs)))->Below w.heap.size w w'->(∀j∈O,j<bs.length)->s<bs.length->O≠[]->O.length<=85000000->Calls Tryz.prog 166 #[.slice (some ⟨gO,0,none⟩) O.length cO,.func (.func 167) #[.pointer (some ⟨bx bs s,0,none⟩)] #[]] w' fun e w''=>e=.returned (.int .i64 (ia Xs O s))/\Below w'.heap.size w' w''):=fun O s gO cO w'=>ajr bs Xs hB g mk ow w hW O s gO cO w'
 have OD:Hid (∀(O:List Nat)(R gO cO:Nat)(w':World),w'.ownsRow w.heap.size 175 1 (.slice (some ⟨gO,0,none⟩) O.length cO) O.length (aG (O.map (bx bs)))->Below w.heap.size w w'->(∀j∈O,j<bs.length)->R<O.length->O.length<=85000000->cS Xs (O.drop R)≠[]->Calls Tryz.prog 168 #[.slice (some ⟨gO,R,none⟩) (O.length-R) (cO-R)] w' fun e w''=>∃lv,e=.returned lv/\w''.ownsRow w'.heap.size 175 1 lv (cN Xs (O.drop R)).length (aG ((cN Xs (O.drop R)).map (bx bs)))/\Below w'.heap.size w' w''):=fun O R gO cO w'=>ajs bs Xs hB g mk ow w hW O R gO cO w'
 have HA:Hid (∀a∈A,a<bs.length):=hA;have bh:Hid (RI bs w (.slice none 0 0) (.slice none 0 0) (bA Xs (A.take 0)).1 (bA Xs (A.take 0)).2 [] w):=⟨World.ownsRow_nil _ _ _ _,World.ownsRow_nil _ _ _ _,rfl,fun i v r h=>by simp at h,fun k h=>by simp[Value.ownBlock] at h,Below.refl _ _⟩
 clear hA hW hB
 go_enter Tryz.func111,Tryz.ntmps111
 go_wp2_with fail
 go_loopg [3,4,10] A.length (fun m lr lo iv wr=>∃k:Nat,k+m=A.length/\iv=.int .i64 k/\Hid (∃rv,RI bs w lo lr (bA Xs (A.take k)).1 (bA Xs (A.take k)).2 rv wr))
 case atStart=>exact⟨0,by omega,rfl,[],bh.out⟩
 case round=>
  obtain⟨k,hkn,rfl,HE⟩:=hrel;clear bh;by_cases hlt:k<A.length
  ·obtain⟨s,hs⟩:∃s,A[k]?=some s:=⟨_,ay hlt⟩;obtain⟨rv,jW⟩:=HE.out;have DV:Hid (RI bs w u4 u3 (bA Xs (A.take k)).1 (bA Xs (A.take k)).2 rv wr):=jW;have c1:=(jW.below.cell (p:=⟨g0,0+k,none⟩) (lt_of_cell (HV.out k s hs))).trans (HV.out k s hs);rw[jd] at c1;have hsl:s<bs.length:=HA.out s (aY hs);have EI:=YI.out k s hs;have htk:A.take (k+1)=A.take k++[s]:=by rw[jx,hs];rfl
   have hfl:=EH Xs A k;have OE:Hid (∀j∈(bA Xs (A.take k)).1++[s],j<bs.length):=fun j hj=>by
    rcases bW.1 hj with h|h
    ·exact HA.out j (Jv Xs A k j h)
    ·rw[bJ.1 h];exact hsl
   have HST:Hid (bA Xs (A.take (k+1))=jb Xs (bA Xs (A.take k)) s):=by
    show bA Xs (A.take (k+1))=_;rw[htk,wV]
   have ux:Hid (0<=ia Xs ((bA Xs (A.take k)).1++[s]) s->cS Xs (((bA Xs (A.take k)).1++[s]).drop (ia Xs ((bA Xs (A.take k)).1++[s]) s).toNat)≠[]):=EI;have eD:(k:Int)<(A.length:Int):=by omega
   have hrl:rv.length<=k:=by rw[jW.len];exact hfl.2
   have hol:=hfl.1;have kP:=jW.oo;have hbz:=jW.below.size;clear jW HE EI htk hs hfl;generalize bA Xs (A.take k)=st at*;obtain⟨O,Rs⟩:=st;simp only at*;have hnb:(wr.alloc (.cells #[.pointer (some ⟨bx bs s,0,none⟩)] 175)).heap[wr.heap.size]?=some (.cells #[.pointer (some ⟨bx bs s,0,none⟩)] 175 (0,0)):=heap_alloc_new _ _;have oC:(wr.alloc (.cells #[.pointer (some ⟨bx bs s,0,none⟩)] 175)).ownsRow w.heap.size 175 1 u4 O.length (aG (O.map (bx bs))):=aJ kP fun k hk=>Below.heap_alloc _ _ _ (au kP k hk).2
   clear kP
   go_wp2_with (at_builtin;refine wpList_append_lies _ rfl (.tmp 14) (.tmp 16) 132 rfl w.heap.size 175 i0 _ 1 8 Tryz.underlying132 hi0 hz0 hz1 hz2 rfl (by decide) u4 O.length (aG (O.map (bx bs))) rfl oC ⟨wr.heap.size,0,none⟩ 1 1 [.pointer (some ⟨bx bs s,0,none⟩)] rfl rfl (World.news_of_block (cs:= #[.pointer (some ⟨bx bs s,0,none⟩)]) (t:=175) (fr:=(0,0)) hnb) (by simp[Value.oneCell']) (by decide) (by unfold maxLen;omega) (by omega) (by simp;omega) (wr.heap.size+1) (by simp) ?_;intro g' cap' w8 cH aZ gA pY)
   have EJ:=DV.out.ajk s _ aZ cH gA;have hel:(O++[s]).length=O.length+1:=by simp
   have YJ:Hid (RI bs w (.slice (some ⟨g',0,none⟩) (O.length+1) cap') u3 (O++[s]) Rs rv w8):=EJ;obtain⟨gX,cX,YK,_,_,hcX,hcm,hd1,hd2⟩:=ny EJ.oo (by simp)
   have hcap:O.length+1<=cap'/\cap'<=9223372036854775807:=by
    injection YK with _ _ h3;unfold maxLen at hcm;omega
   have OG:=OB.out (O++[s]) s g' cap' w8 (by rw[hel];have:=EJ.oo;rw[hel] at this;exact this) EJ.below OE.out hsl (by simp) (by omega)
   rw[hel] at OG;have YL:Hid (Calls Tryz.prog 166 #[.slice (some ⟨g',0,none⟩) (O.length+1) cap',.func (.func 167) #[.pointer (some ⟨bx bs s,0,none⟩)] #[]] w8 fun e w''=>e=.returned (.int .i64 (ia Xs (O++[s]) s))/\Below w8.heap.size w8 w''):=OG
   clear YK hcX hcm hd1 hd2 OG EJ cH aZ gA hnb oC DV c1;refine YL.out.mono ?_;rintro e w9 ⟨rfl,mF⟩;have vh:Hid (RI bs w (.slice (some ⟨g',0,none⟩) (O.length+1) cap') u3 (O++[s]) Rs rv w9):=YJ.out.keep mF;clear YJ YL mF;by_cases hS:0<=ia Xs (O++[s]) s
   ·have uZ:=ajq Xs (O++[s]) s hS;have EK:=ux.out hS;obtain⟨R,hRe⟩:=QZ hS;have EL:Hid (bA Xs (A.take (k+1))=((O++[s]).take R,Rs++[cN Xs ((O++[s]).drop R)])):=by
     show bA Xs (A.take (k+1))=_;rw[HST.out];unfold jb;simp only;rw[if_pos hS,hRe];rfl
    rw[hRe,zg] at uZ EK;rw[hel] at uZ;have OH:=OD.out (O++[s]) R g' cap' w9 (by rw[hel];have:=vh.out.oo;rw[hel] at this;exact this) vh.out.below OE.out (by omega) (by omega) EK
    rw[hel] at OH;have YM:Hid (Calls Tryz.prog 168 #[.slice (some ⟨g',R,none⟩) (O.length+1-R) (cap'-R)] w9 fun e w''=>∃lv,e=.returned lv/\w''.ownsRow w9.heap.size 175 1 lv (cN Xs ((O++[s]).drop R)).length (aG ((cN Xs ((O++[s]).drop R)).map (bx bs)))/\Below w9.heap.size w9 w''):=OH
    rw[hRe];have yQ:(R:Int)≥0:=by omega
    have hRi:(R:Int)<=((O.length+1:Nat):Int):=by omega
    have aoI:(R:Int)<=(O.length:Int)+1:=by omega
    have hTc:(O.length:Int)+1<=(cap':Int):=by omega
    have hRc:(R:Int)<=(cap':Int):=by omega
    have hcR:¬cap'=R:=by omega
    clear OH EK ux HST hS hRe
    go_wp2_with fail
    refine YM.out.mono ?_;rintro e wA ⟨lv,rfl,OI,AA⟩;have AB:Hid (RI bs w (.slice (some ⟨g',0,none⟩) (O.length+1) cap') u3 (O++[s]) Rs rv wA):=vh.out.keep AA;obtain⟨so,ln,lc,rfl⟩:∃so ln lc,lv=.slice so ln lc:=by
     rcases OI.2 with⟨h,_⟩|⟨_,_,_,h,_⟩
     ·exact⟨_,_,_,h⟩
     ·exact⟨_,_,_,h⟩
    have hro:=AB.out.ro;have aoJ:=AB.out.below.size;have hB9:=vh.out.below.size;have hlB:∀k,(Value.slice (some ⟨g',0,none⟩) (O.length+1) cap').ownBlock=some k\/u3.ownBlock=some k->k<w9.heap.size:=fun k hk=>by
     rcases hk with hk|hk
     ·exact(au vh.out.oo k hk).2
     ·exact(au vh.out.ro k hk).2
    have YN:Hid (∀k,(Value.slice (some ⟨g',0,none⟩) (O.length+1) cap').ownBlock=some k\/u3.ownBlock=some k->k<w9.heap.size):=hlB;have YO:Hid (wA.ownsRow w9.heap.size 175 1 (.slice so ln lc) (cN Xs ((O++[s]).drop R)).length (aG ((cN Xs ((O++[s]).drop R)).map (bx bs)))):=OI;have hnb:(wA.alloc (.cells #[.slice so ln lc] 185)).heap[wA.heap.size]?=some (.cells #[.slice so ln lc] 185 (0,0)):=heap_alloc_new _ _;have oC:(wA.alloc (.cells #[.slice so ln lc] 185)).ownsRow w.heap.size 185 1 u3 rv.length rv:=aJ hro fun k hk=>Below.heap_alloc _ _ _ (au hro k hk).2
    clear OI AA YM vh hro hlB
    go_wp2_with (at_builtin;refine wpList_append_lies _ rfl (.tmp 24) (.tmp 29) 183 rfl w.heap.size 185 j0 _ 1 24 Tryz.underlying183 oY hy0 hy1 hy2 rfl (by decide) u3 rv.length rv rfl oC ⟨wA.heap.size,0,none⟩ 1 1 [.slice so ln lc] rfl rfl (World.news_of_block (cs:= #[.slice so ln lc]) (t:=185) (fr:=(0,0)) hnb) (by simp[Value.oneCell']) (by decide) (by unfold maxLen;omega) (by omega) (by simp;omega) (wA.heap.size+1) (by simp) ?_;intro gB YP wB YR YS YT VA)
    have YU:Hid (RI bs w (.slice (some ⟨g',0,none⟩) R cap') (.slice (some ⟨gB,0,none⟩) (rv.length+1) YP) ((O++[s]).take R) (Rs++[cN Xs ((O++[s]).drop R)]) (rv++[.slice so ln lc]) wB):=
     (AB.out.ajl YO.out hB9 YN.out _ YS YR YT).ajn (by rw[hel];omega) hel.symm
    have cC:Hid (∃YV,RI bs w (.slice (some ⟨g',0,none⟩) R cap') (.slice (some ⟨gB,0,none⟩) (rv.length+1) YP) (bA Xs (A.take (k+1))).1 (bA Xs (A.take (k+1))).2 YV wB):=by
     show ∃YV,_;rw[EL.out];exact⟨_,YU.out⟩
    clear AB YO YN YR YS YT hnb oC YU EL
    go_wp2_with fail
    go_roundg (gk-1)
    case measure=>omega
    case rel=>exact⟨k+1,by omega,by go_num,cC.out⟩
   ·have EL:Hid (bA Xs (A.take (k+1))=(O++[s],Rs)):=by
     show bA Xs (A.take (k+1))=_;rw[HST.out];unfold jb;simp only;rw[if_neg hS]
    have cC:Hid (∃rv,RI bs w (.slice (some ⟨g',0,none⟩) (O.length+1) cap') u3 (bA Xs (A.take (k+1))).1 (bA Xs (A.take (k+1))).2 rv w9):=by
     show ∃rv,_;rw[EL.out];exact⟨rv,vh.out⟩
    have YW:¬ia Xs (O++[s]) s≥0:=hS;clear vh EL HST ux OE OD OB;generalize ia Xs (O++[s]) s=S at*
    go_wp2_with fail
    go_roundg (gk-1)
    case measure=>omega
    case rel=>exact⟨k+1,by omega,by go_num,cC.out⟩
  ·have hk:k=A.length:=by omega
   subst hk;obtain⟨rv,jW⟩:=HE.out;rw[dI] at jW;have HF:Hid (RI bs w u4 u3 (bA Xs A).1 (bf Xs A) rv wr):=jW;clear jW HE HV YI OB OD HA
   go_wp2_with fail
   go_ret
   exact⟨u3,u4,_,rv,rfl,HF.out⟩
def bV(Xs:List PB)(r:List Nat):Bool:=decide (0<eT (xi Xs (r.getLastD 0)) (xi Xs (r.headD 0)))
theorem ajw(X1 X2 Y1 Y2 im:Nat)(B:Bool)(g n cap bL bF:Nat)(w:World)(hn:0<n)(hn':n<=85000000)(cl:w.cell? ⟨g,n-1,none⟩=some (.pointer (some ⟨bL,0,none⟩)))(cf:w.cell? ⟨g,0,none⟩=some (.pointer (some ⟨bF,0,none⟩)))(l0:w.cell? ⟨bL,0,none⟩=some (.complex .f64 X1 X2))(f0:w.cell? ⟨bF,0,none⟩=some (.complex .f64 Y1 Y2))
  (HL:Hid (∀w,Calls Tryz.prog 101 #[.complex .f64 X1 X2,.complex .f64 Y1 Y2] w fun e w'=>e=.returned (.float .f64 im)/\w'=w))(hB:(FloatKind.f64.format.order im 0 == some .gt)=B):
  Calls Tryz.prog 113 #[.slice (some ⟨g,0,none⟩) n cap] w fun e w'=>e=.returned (.bool B)/\Below w.heap.size w w':=by
 have hw1:IntKind.i64.wrap ((n:Int)-1)=((n-1:Nat):Int):=by rw[IntKind.wrap_i64];omega
 have hi:((n-1:Nat):Int)<(n:Int):=by omega
 have h0:(0:Int)<(n:Int):=by omega
 subst hB
 go_enter Tryz.func113,Tryz.ntmps113
 go_wp2_with fail
 go_region_held3 (fun w'=>w'.cell? ⟨g,n-1,none⟩=some (.pointer (some ⟨bL,0,none⟩))/\w'.cell? ⟨g,0,none⟩=some (.pointer (some ⟨bF,0,none⟩))/\w'.cell? ⟨bL,0,none⟩=some (.complex .f64 X1 X2)/\w'.cell? ⟨bF,0,none⟩=some (.complex .f64 Y1 Y2)) (go_keep) ((go_at_call 101;refine(HL.out _).mono ?_;rintro e w5 ⟨rfl,rX⟩;subst rX))
 all_goals
  go_wp2_with fail
  go_ret
  exact⟨rfl,(Below.refl _ _).drew⟩
theorem ajx(bs:List Nat)(Xs:List PB)(hB:BD Xs)(g:Nat)(mk:Nat->Bool)(ow:Nat->Option Nat)(w:World)(hW:SW g bs Xs mk ow w)(r:List Nat)(hr:r≠[])(hrl:r.length<=85000000)(hr':∀a∈r,a<bs.length)(base:Nat)(v:Value)(ho:w.ownsRow base 175 1 v r.length (aG (r.map (bx bs)))):
  Calls Tryz.prog 113 #[v] w fun e w'=>e=.returned (.bool (bV Xs r))/\Below w.heap.size w w':=by
 have hlen:=hW.len;obtain⟨gT,cT,rfl,_,dw,_,_,_,hcell⟩:=ny ho (by intro h;exact hr (rB.1 h))
 have hl0:0<r.length:=gL.2 hr;have hlast:r[r.length-1]?=some (r.getLastD 0):=by
  rw[oJ,pN,ay (by omega)];rfl
 have YX:r[0]?=some (r.headD 0):=by
  cases r with
  |nil=>exact absurd rfl hr
  |cons a l=>rfl
 have YY:r.getLastD 0<bs.length:=hr' _ (aY hlast);have YZ:r.headD 0<bs.length:=hr' _ (aY YX);have hL:=hW.rb.at (by rw[<-hlen];exact YY)
 have hF:=hW.rb.at (by rw[<-hlen];exact YZ)
 obtain⟨l1,d1⟩:=hB.ld _ (gh (by rw[<-hlen];exact YY))
 obtain⟨l2,d2⟩:=hB.ld _ (gh (by rw[<-hlen];exact YZ))
 obtain⟨im,f1,hl⟩:=Et d1 d2;have q:=GU f1 kE;have c1:=hcell (r.length-1) (bx bs (r.getLastD 0)) (by rw[gm,hlast];rfl)
 have c2:=hcell 0 (bx bs (r.headD 0)) (by rw[gm,YX];rfl)
 rw[jd] at c1 c2;refine ajw _ _ _ _ im (bV Xs r) gT r.length cT _ _ w hl0 hrl c1 c2 hL.c0 hF.c0 hl ?_;rw[q];unfold bV;rw[<-Es d1 d2];refine decide_eq_decide.2 ?_;have:=Ga.sg (l1.1*l2.2.1-l1.2.1*l2.1);omega
def oD(P:List Nat->Bool):List (List Nat)->Nat->Int
 |[],_=> -1
 |b::r,k=>if P b then(k:Int) else oD P r (k+1)
theorem ajy(P:List Nat->Bool)(Rs:List (List Nat))(rv:List Value)(hlen:rv.length=Rs.length)(g cap:Nat)(w:World)(hn:rv.length<=85000000)
  (HV:Hid (∀(i:Nat) v,rv[i]?=some v->w.cell? ⟨g,i,none⟩=some v/\∃so n c,v=.slice so n c))
  (HC:Hid (∀(i:Nat) v r,rv[i]?=some v->Rs[i]?=some r->∀w',Below w.heap.size w w'->Calls Tryz.prog 113 #[v] w' fun e w''=>e=.returned (.bool (P r))/\Below w'.heap.size w' w'')):
  Calls Tryz.prog 169 #[.slice (some ⟨g,0,none⟩) rv.length cap,.func (.func 113) #[] #[]] w fun e w'=>e=.returned (.int .i64 (oD P Rs 0))/\Below w.heap.size w w':=by
 go_enter Tryz.func169,Tryz.ntmps169
 have HS:Hid (oD P (Rs.drop 0) 0=oD P Rs 0):=rfl;have OJ:Hid (rv.length=Rs.length):=hlen;clear hlen
 go_wp2_with fail
 go_loopg [8] rv.length (fun m iv wr=>∃k:Nat,k+m=rv.length/\iv=.int .i64 k/\Hid (Below w.heap.size w wr/\oD P (Rs.drop k) k=oD P Rs 0))
 case atStart=>exact⟨0,by omega,rfl,Below.refl _ _,HS.out⟩
 case round=>
  obtain⟨k,hkn,rfl,HB⟩:=hrel;clear HS;by_cases hlt:k<rv.length
  ·obtain⟨v,hb⟩:∃v,rv[k]?=some v:=⟨_,ay hlt⟩;obtain⟨r,hr⟩:∃r,Rs[k]?=some r:=⟨_,ay (by rw[<-OJ.out];exact hlt)⟩
   obtain⟨c0,so,sn,sc,rfl⟩:=HV.out k v hb;have dw:g<w.heap.size:=lt_of_cell c0;have c1:=(HB.out.1.cell (p:=⟨g,k,none⟩) dw).trans c0;have ir:Hid (Calls Tryz.prog 113 #[.slice so sn sc] wr fun r' w''=>r'=.returned (.bool (P r))/\Below wr.heap.size wr w''):=HC.out k _ r hb hr wr HB.out.1
   have gG:Hid ((if P r then(k:Int) else oD P (Rs.drop (k+1)) (k+1))=oD P Rs 0):=by
    have:=HB.out.2;rw[vg hr] at this;exact this
   have eD:(k:Int)<(rv.length:Int):=by omega
   clear c0 hb hr
   go_wp2_with fail
   refine ir.out.mono ?_;rintro e w5 ⟨rfl,ai⟩;have eI:Hid (Below w.heap.size w w5):=HB.out.1.trans (ai.mono HB.out.1.size);clear ir ai c1;generalize P r=B at*;cases B
   ·have HM:Hid (oD P (Rs.drop (k+1)) (k+1)=oD P Rs 0):=gG.out;clear gG
    go_wp2_with fail
    go_roundg (gk-1)
    case measure=>omega
    case rel=>exact⟨k+1,by omega,by go_num,eI.out,HM.out⟩
   ·have HM:Hid ((k:Int)=oD P Rs 0):=gG.out;clear gG
    go_wp2_with fail
    go_ret
    exact⟨by rw[<-HM.out];rfl,eI.out⟩
  ·have hk:k=rv.length:=by omega
   subst hk;have HM:Hid ((-1:Int)=oD P Rs 0):=by
    have:=HB.out.2;rw[OJ.out,Rj] at this;exact this
   clear HC HV OJ
   go_wp2_with fail
   go_ret
   exact⟨by rw[<-HM.out];rfl,HB.out.1⟩
theorem Y0{P:List Nat->Bool}:∀(l:List (List Nat))(k:Nat),decide (0<=oD P l k)=l.any P
 |[],_=>rfl
 |a::l,k=>by
  show decide (0<=(if P a then(k:Int) else oD P l (k+1)))=(P a||l.any P)
  by_cases ha:P a=true
  ·rw[if_pos ha,ha];simp
  ·rw[if_neg ha,Y0 l (k+1)];have:P a=false:=by simpa using ha
   rw[this];rfl
theorem ajz(S:Int)(g n cap:Nat)(w:World)
  (HI:Hid (Calls Tryz.prog 169 #[.slice (some ⟨g,0,none⟩) n cap,.func (.func 113) #[] #[]] w fun e w'=>e=.returned (.int .i64 S)/\Below w.heap.size w w')):
  Calls Tryz.prog 112 #[.slice (some ⟨g,0,none⟩) n cap,.func (.func 113) #[] #[]] w fun e w'=>e=.returned (.bool (decide (0<=S)))/\Below w.heap.size w w':=by
 go_enter Tryz.func112,Tryz.ntmps112
 go_wp2_with fail
 refine HI.out.mono ?_;rintro e w1 ⟨rfl,hb⟩
 go_wp2_with fail
 go_ret
 exact⟨rfl,hb⟩
end Go.Proofs.YtkjhhooecopolaaGreatDoor

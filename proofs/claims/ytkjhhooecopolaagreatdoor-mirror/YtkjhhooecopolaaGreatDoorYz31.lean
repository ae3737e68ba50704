import Derived.Test.YtkjhhooecopolaaGreatDoorYz30
set_option maxRecDepth 100000
set_option maxHeartbeats 4000000
namespace Go.Proofs.YtkjhhooecopolaaGreatDoor
open Go.RowKit
theorem ajQ(Xs:List PB)(p:List Nat×List (List Nat))(s:Nat):∀j∈(jl Xs p s).1,j∈p.1\/j=s:=by
 intro j hj;unfold jl at hj;split at hj
 ·have:=nW hj;simpa using this
 ·simpa using hj
theorem JW(Xs:List PB)(A:List Nat):∀k,∀j∈(bI Xs (A.take k)).1,j∈A:=by
 intro k;induction k with
 |zero=>intro j hj;simp[bI] at hj
 |succ k ih=>
  intro j hj;by_cases hk:k<A.length
  ·have htk:A.take (k+1)=A.take k++[A[k]]:=by rw[jH,aD hk];rfl
   rw[htk,xB] at hj;rcases ajQ Xs _ _ j hj with h|h
   ·exact ih j h
   ·rw[h];exact iw hk
  ·rw[rV (by omega)] at hj
   rw[rV (by omega)] at ih
   exact ih j hj
theorem ajR(Xs:List PB)(p:List Nat×List (List Nat))(s:Nat):(jl Xs p s).1.length<=p.1.length+1/\(jl Xs p s).2.length<=p.2.length+1:=by
 unfold jl;split
 ·simp;omega
 ·simp
theorem Fm(Xs:List PB)(A:List Nat):∀k,(bI Xs (A.take k)).1.length<=k/\(bI Xs (A.take k)).2.length<=k:=by
 intro k;induction k with
 |zero=>simp[bI]
 |succ k ih=>
  by_cases hk:k<A.length
  ·have htk:A.take (k+1)=A.take k++[A[k]]:=by rw[jH,aD hk];rfl
   rw[htk,xB];have:=ajR Xs (bI Xs (A.take k)) A[k];omega
  ·rw[rV (by omega)]
   rw[rV (by omega)] at ih
   omega
theorem Ze{P:Nat->Bool}:∀(l:List Nat)(k:Nat),fG P l k= -1\/((k:Int)<=fG P l k/\fG P l k<(k:Int)+l.length)
 |[],_=>ae rfl
 |a::l,k=>by
  show(if P a then(k:Int) else fG P l (k+1))= -1\/((k:Int)<=(if P a then(k:Int) else fG P l (k+1))/\(if P a then(k:Int) else fG P l (k+1))<(k:Int)+(a::l).length)
  rw[bW];by_cases ha:P a=true
  ·rw[ah ha];omega
  ·rw[aa ha];have:=Ze (P:=P) l (k+1);omega
theorem ajS(Xs:List PB)(O:List Nat)(s:Nat)(h:0<=il Xs O s):(il Xs O s).toNat<O.length:=by
 have:=Ze (P:=ll Xs s) O 0;have e:il Xs O s=fG (ll Xs s) O 0:=rfl;rw[e] at h⊢;omega
theorem ajT(bs:List Nat)(Xs:List PB)(hB:BD Xs)(g:Nat)(mk:Nat->Bool)(ow:Nat->Option Nat)(w:World)(hW:SW g bs Xs mk ow w)(O:List Nat)(s gO cO:Nat)(w':World)(ho:w'.ownsRow w.heap.size 175 1 (.slice (some ⟨gO,0,none⟩) O.length cO) O.length (aL (O.map (bx bs))))(hb:Below w.heap.size w w')(hO:∀j∈O,j<bs.length)(hs:s<bs.length)(hne:O≠[])(hl:O.length<=85000000):
  Calls Tryz.prog 166 #[.slice (some ⟨gO,0,none⟩) O.length cO,.func (.func 167) #[.pointer (some ⟨bx bs s,0,none⟩)] #[]] w' fun e w''=>e=.returned (.int .i64 (il Xs O s))/\Below w'.heap.size w' w'':=by
 have hlen:=hW.len;obtain⟨lU,ki,hv,_,dE,_,_,_,hcell⟩:=nN ho (by intro h;exact hne (rN.1 h))
 have hgg:lU=gO/\ki=cO:=by
  injection hv with h1 _ h3;injection h1 with h1;injection h1 with h1;exact⟨h1.symm,h3.symm⟩
 obtain⟨rfl,rfl⟩:=hgg;have hm:=ajt (fun b=>decide ((xi Xs s).t=(xi Xs (bs.idxOf b)).f)) (O.map (bx bs)) lU 0 ki (bx bs s) w' (by rw[iQ];exact hl) (fun i b hi=>hcell i b hi) (fun b hb' w'' hw=>by
  obtain⟨j,hj,rfl⟩:=bh.1 hb';have hjl:=hO j hj;have hR:=(hW.rb.below hb).below hw;rw[mN hW.nd hjl];exact ajs _ _ (hB.v _ (gA (by rw[<-hlen];exact hs))) (hB.v _ (gA (by rw[<-hlen];exact hjl))) _ _ w'' (hR.at (by rw[<-hlen];exact hs)) (hR.at (by rw[<-hlen];exact hjl)))
 have e1:fU (fun b=>decide ((xi Xs s).t=(xi Xs (bs.idxOf b)).f)) (O.map (bx bs))=il Xs O s:=JU _ _ fun x hx=>by
  simp only[mN hW.nd (hO x hx)];rfl
 rw[e1,iQ] at hm;exact hm
theorem ajU(bs:List Nat)(Xs:List PB)(hB:BD Xs)(g:Nat)(mk:Nat->Bool)(ow:Nat->Option Nat)(w:World)(hW:SW g bs Xs mk ow w)(O:List Nat)(R gO cO:Nat)(w':World)(ho:w'.ownsRow w.heap.size 175 1 (.slice (some ⟨gO,0,none⟩) O.length cO) O.length (aL (O.map (bx bs))))(hb:Below w.heap.size w w')(hO:∀j∈O,j<bs.length)(hR:R<O.length)(hl:O.length<=85000000)(hT:dh Xs (O.drop R)≠[]):
  Calls Tryz.prog 168 #[.slice (some ⟨gO,R,none⟩) (O.length-R) (cO-R)] w' fun e w''=>∃lv,e=.returned lv/\w''.ownsRow w'.heap.size 175 1 lv (cV Xs (O.drop R)).length (aL ((cV Xs (O.drop R)).map (bx bs)))/\Below w'.heap.size w' w'':=by
 have hne:O≠[]:=by intro h;rw[h] at hR;simp at hR
 obtain⟨lU,ki,hv,_,dE,_,_,_,hcell⟩:=nN ho (by intro h;exact hne (rN.1 h))
 have hgg:lU=gO/\ki=cO:=by
  injection hv with h1 _ h3;injection h1 with h1;injection h1 with h1;exact⟨h1.symm,h3.symm⟩
 obtain⟨rfl,rfl⟩:=hgg;have hm:=ajL bs Xs hB g mk ow w' (hW.below hb) (O.drop R) (by rw[rP];omega) (by rw[rP];omega) (fun a ha=>hO a (Sc ha)) lU R (ki-R) (fun i a hi=>by
  rw[Lj] at hi;have h2:=hcell (R+i) (bx bs a) (by rw[gD,hi];rfl)
  rw[jn] at h2;exact h2) hT
 rw[rP] at hm;exact hm
theorem ajV(bs:List Nat)(Xs:List PB)(hB:BD Xs)(g:Nat)(mk:Nat->Bool)(ow:Nat->Option Nat)(w:World)(hW:SW g bs Xs mk ow w)(A:List Nat)(oF:A.length<=85000000)(hA:∀a∈A,a<bs.length)(g0 cap:Nat)
  (HV:Hid (∀(i:Nat) a,A[i]?=some a->w.cell? ⟨g0,0+i,none⟩=some (.pointer (some ⟨bx bs a,0,none⟩))))
  (Zf:Hid (∀(k:Nat) s,A[k]?=some s->0<=il Xs ((bI Xs (A.take k)).1++[s]) s->dh Xs (((bI Xs (A.take k)).1++[s]).drop (il Xs ((bI Xs (A.take k)).1++[s]) s).toNat)≠[])):
  Calls Tryz.prog 111 #[.slice (some ⟨g0,0,none⟩) A.length cap] w fun e w'=>∃lv lo O rv,e=.returned lv/\RI bs w lo lv O (bp Xs A) rv w':=by
 obtain⟨i0,hi0,hz0,hz1,hz2⟩:=info_parts zi;obtain⟨j0,pD,hy0,hy1,hy2⟩:=info_parts Zd;have O9:Hid (∀(O:List Nat)(s gO cO:Nat)(w':World),w'.ownsRow w.heap.size 175 1 (.slice (some ⟨gO,0,none⟩) O.length cO) O.length (aL (O.map (bx bs)))->Below w.heap.size w w'->(∀j∈O,j<bs.length)->s<bs.length->O≠[]->O.length<=85000000->Calls Tryz.prog 166 #[.slice (some ⟨gO,0,none⟩) O.length cO,.func (.func 167) #[.pointer (some ⟨bx bs s,0,none⟩)] #[]] w' fun e w''=>e=.returned (.int .i64 (il Xs O s))/\Below w'.heap.size w' w''):=fun O s gO cO w'=>ajT bs Xs hB g mk ow w hW O s gO cO w'
 have Pb:Hid (∀(O:List Nat)(R gO cO:Nat)(w':World),w'.ownsRow w.heap.size 175 1 (.slice (some ⟨gO,0,none⟩) O.length cO) O.length (aL (O.map (bx bs)))->Below w.heap.size w w'->(∀j∈O,j<bs.length)->R<O.length->O.length<=85000000->dh Xs (O.drop R)≠[]->Calls Tryz.prog 168 #[.slice (some ⟨gO,R,none⟩) (O.length-R) (cO-R)] w' fun e w''=>∃lv,e=.returned lv/\w''.ownsRow w'.heap.size 175 1 lv (cV Xs (O.drop R)).length (aL ((cV Xs (O.drop R)).map (bx bs)))/\Below w'.heap.size w' w''):=fun O R gO cO w'=>ajU bs Xs hB g mk ow w hW O R gO cO w'
 have HA:Hid (∀a∈A,a<bs.length):=hA;have bw:Hid (RI bs w (.slice none 0 0) (.slice none 0 0) (bI Xs (A.take 0)).1 (bI Xs (A.take 0)).2 [] w):=⟨World.ownsRow_nil _ _ _ _,World.ownsRow_nil _ _ _ _,rfl,fun i v r h=>by simp at h,fun k h=>by simp[Value.ownBlock] at h,Below.refl _ _⟩
 clear hA hW hB
 go_enter Tryz.func111,Tryz.ntmps111
 go_wp2_with fail
 go_loopg [3,4,10] A.length (fun m lr lo iv wr=>∃k:Nat,k+m=A.length/\iv=.int .i64 k/\Hid (∃rv,RI bs w lo lr (bI Xs (A.take k)).1 (bI Xs (A.take k)).2 rv wr))
 case atStart=>exact⟨0,by omega,rfl,[],bw.out⟩
 case round=>
  obtain⟨k,hkn,rfl,HE⟩:=hrel;clear bw;by_cases hlt:k<A.length
  ·obtain⟨s,hs⟩:∃s,A[k]?=some s:=⟨_,aD hlt⟩;obtain⟨rv,kj⟩:=HE.out;have Ep:Hid (RI bs w u4 u3 (bI Xs (A.take k)).1 (bI Xs (A.take k)).2 rv wr):=kj;have c1:=(kj.below.cell (p:=⟨g0,0+k,none⟩) (lt_of_cell (HV.out k s hs))).trans (HV.out k s hs);rw[jn] at c1;have hsl:s<bs.length:=HA.out s (bn hs);have Fq:=Zf.out k s hs;have htk:A.take (k+1)=A.take k++[s]:=by rw[jH,hs];rfl
   have hfl:=Fm Xs A k;have Pc:Hid (∀j∈(bI Xs (A.take k)).1++[s],j<bs.length):=fun j hj=>by
    rcases cu.1 hj with h|h
    ·exact HA.out j (JW Xs A k j h)
    ·rw[bU.1 h];exact hsl
   have HST:Hid (bI Xs (A.take (k+1))=jl Xs (bI Xs (A.take k)) s):=by
    show bI Xs (A.take (k+1))=_;rw[htk,xB]
   have uQ:Hid (0<=il Xs ((bI Xs (A.take k)).1++[s]) s->dh Xs (((bI Xs (A.take k)).1++[s]).drop (il Xs ((bI Xs (A.take k)).1++[s]) s).toNat)≠[]):=Fq;have eK:(k:Int)<(A.length:Int):=by omega
   have hrl:rv.length<=k:=by rw[kj.len];exact hfl.2
   have hol:=hfl.1;have lj:=kj.oo;have hbz:=kj.below.size;clear kj HE Fq htk hs hfl;generalize bI Xs (A.take k)=st at*;obtain⟨O,Rs⟩:=st;simp only at*;have hnb:(wr.alloc (.cells #[.pointer (some ⟨bx bs s,0,none⟩)] 175)).heap[wr.heap.size]?=some (.cells #[.pointer (some ⟨bx bs s,0,none⟩)] 175 (0,0)):=heap_alloc_new _ _;have oO:(wr.alloc (.cells #[.pointer (some ⟨bx bs s,0,none⟩)] 175)).ownsRow w.heap.size 175 1 u4 O.length (aL (O.map (bx bs))):=aO lj fun k hk=>Below.heap_alloc _ _ _ (aA lj k hk).2
   clear lj
   go_wp2_with (at_builtin;refine wpList_append_lies _ rfl (.tmp 14) (.tmp 16) 132 rfl w.heap.size 175 i0 _ 1 8 Tryz.underlying132 hi0 hz0 hz1 hz2 rfl (by decide) u4 O.length (aL (O.map (bx bs))) rfl oO ⟨wr.heap.size,0,none⟩ 1 1 [.pointer (some ⟨bx bs s,0,none⟩)] rfl rfl (World.news_of_block (cs:= #[.pointer (some ⟨bx bs s,0,none⟩)]) (t:=175) (fr:=(0,0)) hnb) (by simp[Value.oneCell']) (by decide) (by unfold maxLen;omega) (by omega) (by simp;omega) (wr.heap.size+1) (by simp) ?_;intro g' cap' w8 cM bo gK qp)
   have Fs:=Ep.out.ajM s _ bo cM gK;have hel:(O++[s]).length=O.length+1:=by simp
   have Zg:Hid (RI bs w (.slice (some ⟨g',0,none⟩) (O.length+1) cap') u3 (O++[s]) Rs rv w8):=Fs;obtain⟨gX,cX,Zh,_,_,hcX,hcm,hd1,hd2⟩:=nN Fs.oo (by simp)
   have hcap:O.length+1<=cap'/\cap'<=9223372036854775807:=by
    injection Zh with _ _ h3;unfold maxLen at hcm;omega
   have Pd:=O9.out (O++[s]) s g' cap' w8 (by rw[hel];have:=Fs.oo;rw[hel] at this;exact this) Fs.below Pc.out hsl (by simp) (by omega)
   rw[hel] at Pd;have Zi:Hid (Calls Tryz.prog 166 #[.slice (some ⟨g',0,none⟩) (O.length+1) cap',.func (.func 167) #[.pointer (some ⟨bx bs s,0,none⟩)] #[]] w8 fun e w''=>e=.returned (.int .i64 (il Xs (O++[s]) s))/\Below w8.heap.size w8 w''):=Pd
   clear Zh hcX hcm hd1 hd2 Pd Fs cM bo gK hnb oO Ep c1;refine Zi.out.mono ?_;rintro e w9 ⟨rfl,mP⟩;have vJ:Hid (RI bs w (.slice (some ⟨g',0,none⟩) (O.length+1) cap') u3 (O++[s]) Rs rv w9):=Zg.out.keep mP;clear Zg Zi mP;by_cases hS:0<=il Xs (O++[s]) s
   ·have vE:=ajS Xs (O++[s]) s hS;have Fu:=uQ.out hS;obtain⟨R,hRe⟩:=Ry hS;have Fv:Hid (bI Xs (A.take (k+1))=((O++[s]).take R,Rs++[cV Xs ((O++[s]).drop R)])):=by
     show bI Xs (A.take (k+1))=_;rw[HST.out];unfold jl;simp only;rw[ah hS,hRe];rfl
    rw[hRe,zK] at vE Fu;rw[hel] at vE;have Pe:=Pb.out (O++[s]) R g' cap' w9 (by rw[hel];have:=vJ.out.oo;rw[hel] at this;exact this) vJ.out.below Pc.out (by omega) (by omega) Fu
    rw[hel] at Pe;have Zj:Hid (Calls Tryz.prog 168 #[.slice (some ⟨g',R,none⟩) (O.length+1-R) (cap'-R)] w9 fun e w''=>∃lv,e=.returned lv/\w''.ownsRow w9.heap.size 175 1 lv (cV Xs ((O++[s]).drop R)).length (aL ((cV Xs ((O++[s]).drop R)).map (bx bs)))/\Below w9.heap.size w9 w''):=Pe
    rw[hRe];have zr:(R:Int)≥0:=by omega
    have hRi:(R:Int)<=((O.length+1:Nat):Int):=by omega
    have ao8:(R:Int)<=(O.length:Int)+1:=by omega
    have hTc:(O.length:Int)+1<=(cap':Int):=by omega
    have hRc:(R:Int)<=(cap':Int):=by omega
    have hcR:¬cap'=R:=by omega
    clear Pe Fu uQ HST hS hRe
    go_wp2_with fail
    refine Zj.out.mono ?_;rintro e wA ⟨lv,rfl,Ph,Bj⟩;have Bk:Hid (RI bs w (.slice (some ⟨g',0,none⟩) (O.length+1) cap') u3 (O++[s]) Rs rv wA):=vJ.out.keep Bj;obtain⟨so,ln,lc,rfl⟩:∃so ln lc,lv=.slice so ln lc:=by
     rcases Ph.2 with⟨h,_⟩|⟨_,_,_,h,_⟩
     ·exact⟨_,_,_,h⟩
     ·exact⟨_,_,_,h⟩
    have hro:=Bk.out.ro;have ao9:=Bk.out.below.size;have hB9:=vJ.out.below.size;have hlB:∀k,(Value.slice (some ⟨g',0,none⟩) (O.length+1) cap').ownBlock=some k\/u3.ownBlock=some k->k<w9.heap.size:=fun k hk=>by
     rcases hk with hk|hk
     ·exact(aA vJ.out.oo k hk).2
     ·exact(aA vJ.out.ro k hk).2
    have Zk:Hid (∀k,(Value.slice (some ⟨g',0,none⟩) (O.length+1) cap').ownBlock=some k\/u3.ownBlock=some k->k<w9.heap.size):=hlB;have Zl:Hid (wA.ownsRow w9.heap.size 175 1 (.slice so ln lc) (cV Xs ((O++[s]).drop R)).length (aL ((cV Xs ((O++[s]).drop R)).map (bx bs)))):=Ph;have hnb:(wA.alloc (.cells #[.slice so ln lc] 185)).heap[wA.heap.size]?=some (.cells #[.slice so ln lc] 185 (0,0)):=heap_alloc_new _ _;have oO:(wA.alloc (.cells #[.slice so ln lc] 185)).ownsRow w.heap.size 185 1 u3 rv.length rv:=aO hro fun k hk=>Below.heap_alloc _ _ _ (aA hro k hk).2
    clear Ph Bj Zj vJ hro hlB
    go_wp2_with (at_builtin;refine wpList_append_lies _ rfl (.tmp 24) (.tmp 29) 183 rfl w.heap.size 185 j0 _ 1 24 Tryz.underlying183 pD hy0 hy1 hy2 rfl (by decide) u3 rv.length rv rfl oO ⟨wA.heap.size,0,none⟩ 1 1 [.slice so ln lc] rfl rfl (World.news_of_block (cs:= #[.slice so ln lc]) (t:=185) (fr:=(0,0)) hnb) (by simp[Value.oneCell']) (by decide) (by unfold maxLen;omega) (by omega) (by simp;omega) (wA.heap.size+1) (by simp) ?_;intro gB Zm wB Zn Zo Zp V8)
    have Zq:Hid (RI bs w (.slice (some ⟨g',0,none⟩) R cap') (.slice (some ⟨gB,0,none⟩) (rv.length+1) Zm) ((O++[s]).take R) (Rs++[cV Xs ((O++[s]).drop R)]) (rv++[.slice so ln lc]) wB):=
     (Bk.out.ajN Zl.out hB9 Zk.out _ Zo Zn Zp).ajP (by rw[hel];omega) hel.symm
    have cI:Hid (∃Zr,RI bs w (.slice (some ⟨g',0,none⟩) R cap') (.slice (some ⟨gB,0,none⟩) (rv.length+1) Zm) (bI Xs (A.take (k+1))).1 (bI Xs (A.take (k+1))).2 Zr wB):=by
     show ∃Zr,_;rw[Fv.out];exact⟨_,Zq.out⟩
    clear Bk Zl Zk Zn Zo Zp hnb oO Zq Fv
    go_wp2_with fail
    go_roundg (gk-1)
    case measure=>omega
    case rel=>exact⟨k+1,by omega,by go_num,cI.out⟩
   ·have Fv:Hid (bI Xs (A.take (k+1))=(O++[s],Rs)):=by
     show bI Xs (A.take (k+1))=_;rw[HST.out];unfold jl;simp only;rw[aa hS]
    have cI:Hid (∃rv,RI bs w (.slice (some ⟨g',0,none⟩) (O.length+1) cap') u3 (bI Xs (A.take (k+1))).1 (bI Xs (A.take (k+1))).2 rv w9):=by
     show ∃rv,_;rw[Fv.out];exact⟨rv,vJ.out⟩
    have Zt:¬il Xs (O++[s]) s≥0:=hS;clear vJ Fv HST uQ Pc Pb O9;generalize il Xs (O++[s]) s=S at*
    go_wp2_with fail
    go_roundg (gk-1)
    case measure=>omega
    case rel=>exact⟨k+1,by omega,by go_num,cI.out⟩
  ·have hk:k=A.length:=by omega
   subst hk;obtain⟨rv,kj⟩:=HE.out;rw[dN] at kj;have HF:Hid (RI bs w u4 u3 (bI Xs A).1 (bp Xs A) rv wr):=kj;clear kj HE HV Zf O9 Pb HA
   go_wp2_with fail
   go_ret
   exact⟨u3,u4,_,rv,rfl,HF.out⟩
def cd(Xs:List PB)(r:List Nat):Bool:=decide (0<fq (xi Xs (r.getLastD 0)) (xi Xs (r.headD 0)))
theorem ajY(X1 X2 Y1 Y2 im:Nat)(B:Bool)(g n cap bL bF:Nat)(w:World)(hn:0<n)(hn':n<=85000000)(cl:w.cell? ⟨g,n-1,none⟩=some (.pointer (some ⟨bL,0,none⟩)))(cf:w.cell? ⟨g,0,none⟩=some (.pointer (some ⟨bF,0,none⟩)))(l0:w.cell? ⟨bL,0,none⟩=some (.complex .f64 X1 X2))(f0:w.cell? ⟨bF,0,none⟩=some (.complex .f64 Y1 Y2))
  (HL:Hid (∀w,Calls Tryz.prog 101 #[.complex .f64 X1 X2,.complex .f64 Y1 Y2] w fun e w'=>e=.returned (.float .f64 im)/\w'=w))(hB:(FloatKind.f64.format.order im 0 == some .gt)=B):
  Calls Tryz.prog 113 #[.slice (some ⟨g,0,none⟩) n cap] w fun e w'=>e=.returned (.bool B)/\Below w.heap.size w w':=by
 have hw1:IntKind.i64.wrap ((n:Int)-1)=((n-1:Nat):Int):=by rw[IntKind.wrap_i64];omega
 have hi:((n-1:Nat):Int)<(n:Int):=by omega
 have h0:(0:Int)<(n:Int):=by omega
 subst hB
 go_enter Tryz.func113,Tryz.ntmps113
 go_wp2_with fail
 go_region_held3 (fun w'=>w'.cell? ⟨g,n-1,none⟩=some (.pointer (some ⟨bL,0,none⟩))/\w'.cell? ⟨g,0,none⟩=some (.pointer (some ⟨bF,0,none⟩))/\w'.cell? ⟨bL,0,none⟩=some (.complex .f64 X1 X2)/\w'.cell? ⟨bF,0,none⟩=some (.complex .f64 Y1 Y2)) (go_keep) ((go_at_call 101;refine(HL.out _).mono ?_;rintro e w5 ⟨rfl,sH⟩;subst sH))
 all_goals
  go_wp2_with fail
  go_ret
  exact⟨rfl,(Below.refl _ _).drew⟩
theorem ajZ(bs:List Nat)(Xs:List PB)(hB:BD Xs)(g:Nat)(mk:Nat->Bool)(ow:Nat->Option Nat)(w:World)(hW:SW g bs Xs mk ow w)(r:List Nat)(hr:r≠[])(hrl:r.length<=85000000)(hr':∀a∈r,a<bs.length)(base:Nat)(v:Value)(ho:w.ownsRow base 175 1 v r.length (aL (r.map (bx bs)))):
  Calls Tryz.prog 113 #[v] w fun e w'=>e=.returned (.bool (cd Xs r))/\Below w.heap.size w w':=by
 have hlen:=hW.len;obtain⟨gT,cT,rfl,_,dE,_,_,_,hcell⟩:=nN ho (by intro h;exact hr (rN.1 h))
 have hl0:0<r.length:=gV.2 hr;have hlast:r[r.length-1]?=some (r.getLastD 0):=by
  rw[oX,pY,aD (by omega)];rfl
 have Zu:r[0]?=some (r.headD 0):=by
  cases r with
  |nil=>exact absurd rfl hr
  |cons a l=>rfl
 have Zv:r.getLastD 0<bs.length:=hr' _ (bn hlast);have Zw:r.headD 0<bs.length:=hr' _ (bn Zu);have hL:=hW.rb.at (by rw[<-hlen];exact Zv)
 have hF:=hW.rb.at (by rw[<-hlen];exact Zw)
 obtain⟨l1,d1⟩:=hB.ld _ (gA (by rw[<-hlen];exact Zv))
 obtain⟨l2,d2⟩:=hB.ld _ (gA (by rw[<-hlen];exact Zw))
 obtain⟨im,f1,hl⟩:=E0 d1 d2;have q:=Hs f1 kO;have c1:=hcell (r.length-1) (bx bs (r.getLastD 0)) (by rw[gD,hlast];rfl)
 have c2:=hcell 0 (bx bs (r.headD 0)) (by rw[gD,Zu];rfl)
 rw[jn] at c1 c2;refine ajY _ _ _ _ im (cd Xs r) gT r.length cT _ _ w hl0 hrl c1 c2 hL.c0 hF.c0 hl ?_;rw[q];unfold cd;rw[<-EZ d1 d2];refine decide_eq_decide.2 ?_;have:=Ga.sg (l1.1*l2.2.1-l1.2.1*l2.1);omega
def oP(P:List Nat->Bool):List (List Nat)->Nat->Int
 |[],_=> -1
 |b::r,k=>if P b then(k:Int) else oP P r (k+1)
theorem aj0(P:List Nat->Bool)(Rs:List (List Nat))(rv:List Value)(hlen:rv.length=Rs.length)(g cap:Nat)(w:World)(hn:rv.length<=85000000)
  (HV:Hid (∀(i:Nat) v,rv[i]?=some v->w.cell? ⟨g,i,none⟩=some v/\∃so n c,v=.slice so n c))
  (HC:Hid (∀(i:Nat) v r,rv[i]?=some v->Rs[i]?=some r->∀w',Below w.heap.size w w'->Calls Tryz.prog 113 #[v] w' fun e w''=>e=.returned (.bool (P r))/\Below w'.heap.size w' w'')):
  Calls Tryz.prog 169 #[.slice (some ⟨g,0,none⟩) rv.length cap,.func (.func 113) #[] #[]] w fun e w'=>e=.returned (.int .i64 (oP P Rs 0))/\Below w.heap.size w w':=by
 go_enter Tryz.func169,Tryz.ntmps169
 have HS:Hid (oP P (Rs.drop 0) 0=oP P Rs 0):=rfl;have Pj:Hid (rv.length=Rs.length):=hlen;clear hlen
 go_wp2_with fail
 go_loopg [8] rv.length (fun m iv wr=>∃k:Nat,k+m=rv.length/\iv=.int .i64 k/\Hid (Below w.heap.size w wr/\oP P (Rs.drop k) k=oP P Rs 0))
 case atStart=>exact⟨0,by omega,rfl,Below.refl _ _,HS.out⟩
 case round=>
  obtain⟨k,hkn,rfl,HB⟩:=hrel;clear HS;by_cases hlt:k<rv.length
  ·obtain⟨v,hb⟩:∃v,rv[k]?=some v:=⟨_,aD hlt⟩;obtain⟨r,hr⟩:∃r,Rs[k]?=some r:=⟨_,aD (by rw[<-Pj.out];exact hlt)⟩
   obtain⟨c0,so,sn,sc,rfl⟩:=HV.out k v hb;have dE:g<w.heap.size:=lt_of_cell c0;have c1:=(HB.out.1.cell (p:=⟨g,k,none⟩) dE).trans c0;have iE:Hid (Calls Tryz.prog 113 #[.slice so sn sc] wr fun r' w''=>r'=.returned (.bool (P r))/\Below wr.heap.size wr w''):=HC.out k _ r hb hr wr HB.out.1
   have gN:Hid ((if P r then(k:Int) else oP P (Rs.drop (k+1)) (k+1))=oP P Rs 0):=by
    have:=HB.out.2;rw[vI hr] at this;exact this
   have eK:(k:Int)<(rv.length:Int):=by omega
   clear c0 hb hr
   go_wp2_with fail
   refine iE.out.mono ?_;rintro e w5 ⟨rfl,ax⟩;have eT:Hid (Below w.heap.size w w5):=HB.out.1.trans (ax.mono HB.out.1.size);clear iE ax c1;generalize P r=B at*;cases B
   ·have HM:Hid (oP P (Rs.drop (k+1)) (k+1)=oP P Rs 0):=gN.out;clear gN
    go_wp2_with fail
    go_roundg (gk-1)
    case measure=>omega
    case rel=>exact⟨k+1,by omega,by go_num,eT.out,HM.out⟩
   ·have HM:Hid ((k:Int)=oP P Rs 0):=gN.out;clear gN
    go_wp2_with fail
    go_ret
    exact⟨by rw[<-HM.out];rfl,eT.out⟩
  ·have hk:k=rv.length:=by omega
   subst hk;have HM:Hid ((-1:Int)=oP P Rs 0):=by
    have:=HB.out.2;rw[Pj.out,Sb] at this;exact this
   clear HC HV Pj
   go_wp2_with fail
   go_ret
   exact⟨by rw[<-HM.out];rfl,HB.out.1⟩
theorem Zx{P:List Nat->Bool}:∀(l:List (List Nat))(k:Nat),decide (0<=oP P l k)=l.any P
 |[],_=>rfl
 |a::l,k=>by
  show decide (0<=(if P a then(k:Int) else oP P l (k+1)))=(P a||l.any P)
  by_cases ha:P a=true
  ·rw[ah ha,ha];simp
  ·rw[aa ha,Zx l (k+1)];have:P a=false:=by simpa using ha
   rw[this];rfl
theorem aj1(S:Int)(g n cap:Nat)(w:World)
  (HI:Hid (Calls Tryz.prog 169 #[.slice (some ⟨g,0,none⟩) n cap,.func (.func 113) #[] #[]] w fun e w'=>e=.returned (.int .i64 S)/\Below w.heap.size w w')):
  Calls Tryz.prog 112 #[.slice (some ⟨g,0,none⟩) n cap,.func (.func 113) #[] #[]] w fun e w'=>e=.returned (.bool (decide (0<=S)))/\Below w.heap.size w w':=by
 go_enter Tryz.func112,Tryz.ntmps112
 go_wp2_with fail
 refine HI.out.mono ?_;rintro e w1 ⟨rfl,hb⟩
 go_wp2_with fail
 go_ret
 exact⟨rfl,hb⟩
end Go.Proofs.YtkjhhooecopolaaGreatDoor

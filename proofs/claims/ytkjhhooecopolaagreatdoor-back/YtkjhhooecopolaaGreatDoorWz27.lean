import Derived.Test.YtkjhhooecopolaaGreatDoorWz26
set_option maxRecDepth 100000
set_option maxHeartbeats 4000000
namespace Go.Proofs.YtkjhhooecopolaaGreatDoor
open Go.RowKit
theorem ahN(Xs:List PB)(p:List Nat×List (List Nat))(s:Nat):∀j∈(jo Xs p s).1,j∈p.1\/j=s:=by
 intro j hj;unfold jo at hj;split at hj
 ·have:=qh hj;simpa using this
 ·simpa using hj
theorem Jt(Xs:List PB)(A:List Nat):∀k,∀j∈(bJ Xs (A.take k)).1,j∈A:=by
 intro k;induction k with
 |zero=>intro j hj;simp[bJ] at hj
 |succ k ih=>
  intro j hj;by_cases hk:k<A.length
  ·have htk:A.take (k+1)=A.take k++[A[k]]:=by rw[jF,aC hk];rfl
   rw[htk,wJ] at hj;rcases ahN Xs _ _ j hj with h|h
   ·exact ih j h
   ·rw[h];exact gw hk
  ·rw[uZ (by omega)] at hj
   rw[uZ (by omega)] at ih
   exact ih j hj
theorem ahO(Xs:List PB)(p:List Nat×List (List Nat))(s:Nat):(jo Xs p s).1.length<=p.1.length+1/\(jo Xs p s).2.length<=p.2.length+1:=by
 unfold jo;split
 ·simp;omega
 ·simp
theorem Ey(Xs:List PB)(A:List Nat):∀k,(bJ Xs (A.take k)).1.length<=k/\(bJ Xs (A.take k)).2.length<=k:=by
 intro k;induction k with
 |zero=>simp[bJ]
 |succ k ih=>
  by_cases hk:k<A.length
  ·have htk:A.take (k+1)=A.take k++[A[k]]:=by rw[jF,aC hk];rfl
   rw[htk,wJ];have:=ahO Xs (bJ Xs (A.take k)) A[k];omega
  ·rw[uZ (by omega)]
   rw[uZ (by omega)] at ih
   omega
theorem Xi{P:Nat->Bool}:∀(l:List Nat)(k:Nat),fG P l k= -1\/((k:Int)<=fG P l k/\fG P l k<(k:Int)+l.length)
 |[],_=>ag rfl
 |a::l,k=>by
  show(if P a then(k:Int) else fG P l (k+1))= -1\/((k:Int)<=(if P a then(k:Int) else fG P l (k+1))/\(if P a then(k:Int) else fG P l (k+1))<(k:Int)+(a::l).length)
  rw[cN];by_cases ha:P a=true
  ·rw[aj ha];omega
  ·rw[af ha];have:=Xi (P:=P) l (k+1);omega
theorem ahP(Xs:List PB)(O:List Nat)(s:Nat)(h:0<=ie Xs O s):(ie Xs O s).toNat<O.length:=by
 have:=Xi (P:=kV Xs s) O 0;have e:ie Xs O s=fG (kV Xs s) O 0:=rfl;rw[e] at h⊢;omega
theorem ahQ(bs:List Nat)(Xs:List PB)(hB:BD Xs)(g:Nat)(mk:Nat->Bool)(ow:Nat->Option Nat)(w:World)(hW:SW g bs Xs mk ow w)(O:List Nat)(s gO cO:Nat)(w':World)(ho:w'.ownsRow w.heap.size 175 1 (.slice (some ⟨gO,0,none⟩) O.length cO) O.length (aL (O.map (bx bs))))(hb:Below w.heap.size w w')(hO:∀j∈O,j<bs.length)(hs:s<bs.length)(hne:O≠[])(hl:O.length<=85000000):
  Calls Tryz.prog 166 #[.slice (some ⟨gO,0,none⟩) O.length cO,.func (.func 167) #[.pointer (some ⟨bx bs s,0,none⟩)] #[]] w' fun e w''=>e=.returned (.int .i64 (ie Xs O s))/\Below w'.heap.size w' w'':=by
 have hlen:=hW.len;obtain⟨lM,j4,hv,_,dH,_,_,_,hcell⟩:=mV ho (by intro h;exact hne (qg.1 h))
 have hgg:lM=gO/\j4=cO:=by
  injection hv with h1 _ h3;injection h1 with h1;injection h1 with h1;exact⟨h1.symm,h3.symm⟩
 obtain⟨rfl,rfl⟩:=hgg;have hm:=ahq (fun b=>decide ((xi Xs s).t=(xi Xs (bs.idxOf b)).f)) (O.map (bx bs)) lM 0 j4 (bx bs s) w' (by rw[iF];exact hl) (fun i b hi=>hcell i b hi) (fun b hb' w'' hw=>by
  obtain⟨j,hj,rfl⟩:=aN.1 hb';have hjl:=hO j hj;have hR:=(hW.rb.below hb).below hw;rw[mj hW.nd hjl];exact ahp _ _ (hB.v _ (gu (by rw[<-hlen];exact hs))) (hB.v _ (gu (by rw[<-hlen];exact hjl))) _ _ w'' (hR.at (by rw[<-hlen];exact hs)) (hR.at (by rw[<-hlen];exact hjl)))
 have e1:fR (fun b=>decide ((xi Xs s).t=(xi Xs (bs.idxOf b)).f)) (O.map (bx bs))=ie Xs O s:=Jq _ _ fun x hx=>by
  simp only[mj hW.nd (hO x hx)];rfl
 rw[e1,iF] at hm;exact hm
theorem ahR(bs:List Nat)(Xs:List PB)(hB:BD Xs)(g:Nat)(mk:Nat->Bool)(ow:Nat->Option Nat)(w:World)(hW:SW g bs Xs mk ow w)(O:List Nat)(R gO cO:Nat)(w':World)(ho:w'.ownsRow w.heap.size 175 1 (.slice (some ⟨gO,0,none⟩) O.length cO) O.length (aL (O.map (bx bs))))(hb:Below w.heap.size w w')(hO:∀j∈O,j<bs.length)(hR:R<O.length)(hl:O.length<=85000000)(hT:dw Xs (O.drop R)≠[]):
  Calls Tryz.prog 168 #[.slice (some ⟨gO,R,none⟩) (O.length-R) (cO-R)] w' fun e w''=>∃lv,e=.returned lv/\w''.ownsRow w'.heap.size 175 1 lv (di Xs (O.drop R)).length (aL ((di Xs (O.drop R)).map (bx bs)))/\Below w'.heap.size w' w'':=by
 have hne:O≠[]:=by intro h;rw[h] at hR;simp at hR
 obtain⟨lM,j4,hv,_,dH,_,_,_,hcell⟩:=mV ho (by intro h;exact hne (qg.1 h))
 have hgg:lM=gO/\j4=cO:=by
  injection hv with h1 _ h3;injection h1 with h1;injection h1 with h1;exact⟨h1.symm,h3.symm⟩
 obtain⟨rfl,rfl⟩:=hgg;have hm:=ahI bs Xs hB g mk ow w' (hW.below hb) (O.drop R) (by rw[rp];omega) (by rw[rp];omega) (fun a ha=>hO a (QD ha)) lM R (j4-R) (fun i a hi=>by
  rw[KH] at hi;have h2:=hcell (R+i) (bx bs a) (by rw[gz,hi];rfl)
  rw[ki] at h2;exact h2) hT
 rw[rp] at hm;exact hm
theorem ahS(bs:List Nat)(Xs:List PB)(hB:BD Xs)(g:Nat)(mk:Nat->Bool)(ow:Nat->Option Nat)(w:World)(hW:SW g bs Xs mk ow w)(A:List Nat)(Jr:A.length<=85000000)(hA:∀a∈A,a<bs.length)(g0 cap:Nat)
  (HV:Hid (∀(i:Nat) a,A[i]?=some a->w.cell? ⟨g0,0+i,none⟩=some (.pointer (some ⟨bx bs a,0,none⟩))))
  (Xj:Hid (∀(k:Nat) s,A[k]?=some s->0<=ie Xs ((bJ Xs (A.take k)).1++[s]) s->dw Xs (((bJ Xs (A.take k)).1++[s]).drop (ie Xs ((bJ Xs (A.take k)).1++[s]) s).toNat)≠[])):
  Calls Tryz.prog 111 #[.slice (some ⟨g0,0,none⟩) A.length cap] w fun e w'=>∃lv lo O rv,e=.returned lv/\RI bs w lo lv O (bp Xs A) rv w':=by
 obtain⟨i0,hi0,hz0,hz1,hz2⟩:=info_parts ym;obtain⟨j0,Ez,hy0,hy1,hy2⟩:=info_parts Xh;have NV:Hid (∀(O:List Nat)(s gO cO:Nat)(w':World),w'.ownsRow w.heap.size 175 1 (.slice (some ⟨gO,0,none⟩) O.length cO) O.length (aL (O.map (bx bs)))->Below w.heap.size w w'->(∀j∈O,j<bs.length)->s<bs.length->O≠[]->O.length<=85000000->Calls Tryz.prog 166 #[.slice (some ⟨gO,0,none⟩) O.length cO,.func (.func 167) #[.pointer (some ⟨bx bs s,0,none⟩)] #[]] w' fun e w''=>e=.returned (.int .i64 (ie Xs O s))/\Below w'.heap.size w' w''):=fun O s gO cO w'=>ahQ bs Xs hB g mk ow w hW O s gO cO w'
 have NW:Hid (∀(O:List Nat)(R gO cO:Nat)(w':World),w'.ownsRow w.heap.size 175 1 (.slice (some ⟨gO,0,none⟩) O.length cO) O.length (aL (O.map (bx bs)))->Below w.heap.size w w'->(∀j∈O,j<bs.length)->R<O.length->O.length<=85000000->dw Xs (O.drop R)≠[]->Calls Tryz.prog 168 #[.slice (some ⟨gO,R,none⟩) (O.length-R) (cO-R)] w' fun e w''=>∃lv,e=.returned lv/\w''.ownsRow w'.heap.size 175 1 lv (di Xs (O.drop R)).length (aL ((di Xs (O.drop R)).map (bx bs)))/\Below w'.heap.size w' w''):=fun O R gO cO w'=>ahR bs Xs hB g mk ow w hW O R gO cO w'
 have HA:Hid (∀a∈A,a<bs.length):=hA;have bW:Hid (RI bs w (.slice none 0 0) (.slice none 0 0) (bJ Xs (A.take 0)).1 (bJ Xs (A.take 0)).2 [] w):=⟨World.ownsRow_nil _ _ _ _,World.ownsRow_nil _ _ _ _,rfl,fun i v r h=>by simp at h,fun k h=>by simp[Value.ownBlock] at h,Below.refl _ _⟩
 clear hA hW hB
 go_enter Tryz.func111,Tryz.ntmps111
 go_wp2_with fail
 go_loopg [3,4,10] A.length (fun m lr lo iv wr=>∃k:Nat,k+m=A.length/\iv=.int .i64 k/\Hid (∃rv,RI bs w lo lr (bJ Xs (A.take k)).1 (bJ Xs (A.take k)).2 rv wr))
 case atStart=>exact⟨0,by omega,rfl,[],bW.out⟩
 case round=>
  obtain⟨k,hkn,rfl,HE⟩:=hrel;clear bW;by_cases hlt:k<A.length
  ·obtain⟨s,hs⟩:∃s,A[k]?=some s:=⟨_,aC hlt⟩;obtain⟨rv,nU⟩:=HE.out;have Dr:Hid (RI bs w u4 u3 (bJ Xs (A.take k)).1 (bJ Xs (A.take k)).2 rv wr):=nU;have c1:=(nU.below.cell (p:=⟨g0,0+k,none⟩) (lt_of_cell (HV.out k s hs))).trans (HV.out k s hs);rw[ki] at c1;have hsl:s<bs.length:=HA.out s (aZ hs);have Xk:=Xj.out k s hs;have htk:A.take (k+1)=A.take k++[s]:=by rw[jF,hs];rfl
   have hfl:=Ey Xs A k;have NY:Hid (∀j∈(bJ Xs (A.take k)).1++[s],j<bs.length):=fun j hj=>by
    rcases bQ.1 hj with h|h
    ·exact HA.out j (Jt Xs A k j h)
    ·rw[bY.1 h];exact hsl
   have HST:Hid (bJ Xs (A.take (k+1))=jo Xs (bJ Xs (A.take k)) s):=by
    show bJ Xs (A.take (k+1))=_;rw[htk,wJ]
   have AR:Hid (0<=ie Xs ((bJ Xs (A.take k)).1++[s]) s->dw Xs (((bJ Xs (A.take k)).1++[s]).drop (ie Xs ((bJ Xs (A.take k)).1++[s]) s).toNat)≠[]):=Xk;have fN:(k:Int)<(A.length:Int):=by omega
   have hrl:rv.length<=k:=by rw[nU.len];exact hfl.2
   have hol:=hfl.1;have kT:=nU.oo;have hbz:=nU.below.size;clear nU HE Xk htk hs hfl;generalize bJ Xs (A.take k)=st at*;obtain⟨O,Rs⟩:=st;simp only at*;have hnb:(wr.alloc (.cells #[.pointer (some ⟨bx bs s,0,none⟩)] 175)).heap[wr.heap.size]?=some (.cells #[.pointer (some ⟨bx bs s,0,none⟩)] 175 (0,0)):=heap_alloc_new _ _;have nT:(wr.alloc (.cells #[.pointer (some ⟨bx bs s,0,none⟩)] 175)).ownsRow w.heap.size 175 1 u4 O.length (aL (O.map (bx bs))):=aU kT fun k hk=>Below.heap_alloc _ _ _ (aB kT k hk).2
   clear kT
   go_wp2_with (at_builtin;refine wpList_append_lies _ rfl (.tmp 14) (.tmp 16) 132 rfl w.heap.size 175 i0 _ 1 8 Tryz.underlying132 hi0 hz0 hz1 hz2 rfl (by decide) u4 O.length (aL (O.map (bx bs))) rfl nT ⟨wr.heap.size,0,none⟩ 1 1 [.pointer (some ⟨bx bs s,0,none⟩)] rfl rfl (World.news_of_block (cs:= #[.pointer (some ⟨bx bs s,0,none⟩)]) (t:=175) (fr:=(0,0)) hnb) (by simp[Value.oneCell']) (by decide) (by unfold maxLen;omega) (by omega) (by simp;omega) (wr.heap.size+1) (by simp) ?_;intro g' cap' w8 cU bo gJ pP)
   have EA:=Dr.out.ahJ s _ bo cU gJ;have hel:(O++[s]).length=O.length+1:=by simp
   have Xl:Hid (RI bs w (.slice (some ⟨g',0,none⟩) (O.length+1) cap') u3 (O++[s]) Rs rv w8):=EA;obtain⟨gX,cX,Xm,_,_,hcX,hcm,hd1,hd2⟩:=mV EA.oo (by simp)
   have hcap:O.length+1<=cap'/\cap'<=9223372036854775807:=by
    injection Xm with _ _ h3;unfold maxLen at hcm;omega
   have NZ:=NV.out (O++[s]) s g' cap' w8 (by rw[hel];have:=EA.oo;rw[hel] at this;exact this) EA.below NY.out hsl (by simp) (by omega)
   rw[hel] at NZ;have Xn:Hid (Calls Tryz.prog 166 #[.slice (some ⟨g',0,none⟩) (O.length+1) cap',.func (.func 167) #[.pointer (some ⟨bx bs s,0,none⟩)] #[]] w8 fun e w''=>e=.returned (.int .i64 (ie Xs (O++[s]) s))/\Below w8.heap.size w8 w''):=NZ
   clear Xm hcX hcm hd1 hd2 NZ EA cU bo gJ hnb nT Dr c1;refine Xn.out.mono ?_;rintro e w9 ⟨rfl,oX⟩;have uG:Hid (RI bs w (.slice (some ⟨g',0,none⟩) (O.length+1) cap') u3 (O++[s]) Rs rv w9):=Xl.out.keep oX;clear Xl Xn oX;by_cases hS:0<=ie Xs (O++[s]) s
   ·have uD:=ahP Xs (O++[s]) s hS;have uj:=AR.out hS;obtain⟨R,hRe⟩:=Ql hS;have EC:Hid (bJ Xs (A.take (k+1))=((O++[s]).take R,Rs++[di Xs ((O++[s]).drop R)])):=by
     show bJ Xs (A.take (k+1))=_;rw[HST.out];unfold jo;simp only;rw[aj hS,hRe];rfl
    rw[hRe,yT] at uD uj;rw[hel] at uD;have N0:=NW.out (O++[s]) R g' cap' w9 (by rw[hel];have:=uG.out.oo;rw[hel] at this;exact this) uG.out.below NY.out (by omega) (by omega) uj
    rw[hel] at N0;have Xo:Hid (Calls Tryz.prog 168 #[.slice (some ⟨g',R,none⟩) (O.length+1-R) (cap'-R)] w9 fun e w''=>∃lv,e=.returned lv/\w''.ownsRow w9.heap.size 175 1 lv (di Xs ((O++[s]).drop R)).length (aL ((di Xs ((O++[s]).drop R)).map (bx bs)))/\Below w9.heap.size w9 w''):=N0
    rw[hRe];have yx:(R:Int)≥0:=by omega
    have hRi:(R:Int)<=((O.length+1:Nat):Int):=by omega
    have anT:(R:Int)<=(O.length:Int)+1:=by omega
    have hTc:(O.length:Int)+1<=(cap':Int):=by omega
    have hRc:(R:Int)<=(cap':Int):=by omega
    have hcR:¬cap'=R:=by omega
    clear N0 uj AR HST hS hRe
    go_wp2_with fail
    refine Xo.out.mono ?_;rintro e wA ⟨lv,rfl,N4,Aa⟩;have Ab:Hid (RI bs w (.slice (some ⟨g',0,none⟩) (O.length+1) cap') u3 (O++[s]) Rs rv wA):=uG.out.keep Aa;obtain⟨so,ln,lc,rfl⟩:∃so ln lc,lv=.slice so ln lc:=by
     rcases N4.2 with⟨h,_⟩|⟨_,_,_,h,_⟩
     ·exact⟨_,_,_,h⟩
     ·exact⟨_,_,_,h⟩
    have hro:=Ab.out.ro;have anU:=Ab.out.below.size;have hB9:=uG.out.below.size;have hlB:∀k,(Value.slice (some ⟨g',0,none⟩) (O.length+1) cap').ownBlock=some k\/u3.ownBlock=some k->k<w9.heap.size:=fun k hk=>by
     rcases hk with hk|hk
     ·exact(aB uG.out.oo k hk).2
     ·exact(aB uG.out.ro k hk).2
    have Xp:Hid (∀k,(Value.slice (some ⟨g',0,none⟩) (O.length+1) cap').ownBlock=some k\/u3.ownBlock=some k->k<w9.heap.size):=hlB;have Xq:Hid (wA.ownsRow w9.heap.size 175 1 (.slice so ln lc) (di Xs ((O++[s]).drop R)).length (aL ((di Xs ((O++[s]).drop R)).map (bx bs)))):=N4;have hnb:(wA.alloc (.cells #[.slice so ln lc] 185)).heap[wA.heap.size]?=some (.cells #[.slice so ln lc] 185 (0,0)):=heap_alloc_new _ _;have nT:(wA.alloc (.cells #[.slice so ln lc] 185)).ownsRow w.heap.size 185 1 u3 rv.length rv:=aU hro fun k hk=>Below.heap_alloc _ _ _ (aB hro k hk).2
    clear N4 Aa Xo uG hro hlB
    go_wp2_with (at_builtin;refine wpList_append_lies _ rfl (.tmp 24) (.tmp 29) 183 rfl w.heap.size 185 j0 _ 1 24 Tryz.underlying183 Ez hy0 hy1 hy2 rfl (by decide) u3 rv.length rv rfl nT ⟨wA.heap.size,0,none⟩ 1 1 [.slice so ln lc] rfl rfl (World.news_of_block (cs:= #[.slice so ln lc]) (t:=185) (fr:=(0,0)) hnb) (by simp[Value.oneCell']) (by decide) (by unfold maxLen;omega) (by omega) (by simp;omega) (wA.heap.size+1) (by simp) ?_;intro gB Xr wB Xt Xu Xv Uq)
    have Xw:Hid (RI bs w (.slice (some ⟨g',0,none⟩) R cap') (.slice (some ⟨gB,0,none⟩) (rv.length+1) Xr) ((O++[s]).take R) (Rs++[di Xs ((O++[s]).drop R)]) (rv++[.slice so ln lc]) wB):=
     (Ab.out.ahK Xq.out hB9 Xp.out _ Xu Xt Xv).ahM (by rw[hel];omega) hel.symm
    have cI:Hid (∃Xx,RI bs w (.slice (some ⟨g',0,none⟩) R cap') (.slice (some ⟨gB,0,none⟩) (rv.length+1) Xr) (bJ Xs (A.take (k+1))).1 (bJ Xs (A.take (k+1))).2 Xx wB):=by
     show ∃Xx,_;rw[EC.out];exact⟨_,Xw.out⟩
    clear Ab Xq Xp Xt Xu Xv hnb nT Xw EC
    go_wp2_with fail
    go_roundg (gk-1)
    case measure=>omega
    case rel=>exact⟨k+1,by omega,by go_num,cI.out⟩
   ·have EC:Hid (bJ Xs (A.take (k+1))=(O++[s],Rs)):=by
     show bJ Xs (A.take (k+1))=_;rw[HST.out];unfold jo;simp only;rw[af hS]
    have cI:Hid (∃rv,RI bs w (.slice (some ⟨g',0,none⟩) (O.length+1) cap') u3 (bJ Xs (A.take (k+1))).1 (bJ Xs (A.take (k+1))).2 rv w9):=by
     show ∃rv,_;rw[EC.out];exact⟨rv,uG.out⟩
    have hSd:¬ie Xs (O++[s]) s≥0:=hS;clear uG EC HST AR NY NW NV;generalize ie Xs (O++[s]) s=S at*
    go_wp2_with fail
    go_roundg (gk-1)
    case measure=>omega
    case rel=>exact⟨k+1,by omega,by go_num,cI.out⟩
  ·have hk:k=A.length:=by omega
   subst hk;obtain⟨rv,nU⟩:=HE.out;rw[gm] at nU;have HF:Hid (RI bs w u4 u3 (bJ Xs A).1 (bp Xs A) rv wr):=nU;clear nU HE HV Xj NV NW HA
   go_wp2_with fail
   go_ret
   exact⟨u3,u4,_,rv,rfl,HF.out⟩
def cC(Xs:List PB)(r:List Nat):Bool:=decide (0<eW (xi Xs (r.getLastD 0)) (xi Xs (r.headD 0)))
theorem ahV(X1 X2 Y1 Y2 im:Nat)(B:Bool)(g n cap bL bF:Nat)(w:World)(hn:0<n)(hn':n<=85000000)(cl:w.cell? ⟨g,n-1,none⟩=some (.pointer (some ⟨bL,0,none⟩)))(cf:w.cell? ⟨g,0,none⟩=some (.pointer (some ⟨bF,0,none⟩)))(l0:w.cell? ⟨bL,0,none⟩=some (.complex .f64 X1 X2))(f0:w.cell? ⟨bF,0,none⟩=some (.complex .f64 Y1 Y2))
  (HL:Hid (∀w,Calls Tryz.prog 101 #[.complex .f64 X1 X2,.complex .f64 Y1 Y2] w fun e w'=>e=.returned (.float .f64 im)/\w'=w))(hB:(FloatKind.f64.format.order im 0 == some .gt)=B):
  Calls Tryz.prog 113 #[.slice (some ⟨g,0,none⟩) n cap] w fun e w'=>e=.returned (.bool B)/\Below w.heap.size w w':=by
 have hw1:IntKind.i64.wrap ((n:Int)-1)=((n-1:Nat):Int):=by rw[IntKind.wrap_i64];omega
 have hi:((n-1:Nat):Int)<(n:Int):=by omega
 have h0:(0:Int)<(n:Int):=by omega
 subst hB
 go_enter Tryz.func113,Tryz.ntmps113
 go_wp2_with fail
 go_region_held3 (fun w'=>w'.cell? ⟨g,n-1,none⟩=some (.pointer (some ⟨bL,0,none⟩))/\w'.cell? ⟨g,0,none⟩=some (.pointer (some ⟨bF,0,none⟩))/\w'.cell? ⟨bL,0,none⟩=some (.complex .f64 X1 X2)/\w'.cell? ⟨bF,0,none⟩=some (.complex .f64 Y1 Y2)) (go_keep) ((go_at_call 101;refine(HL.out _).mono ?_;rintro e w5 ⟨rfl,rQ⟩;subst rQ))
 all_goals
  go_wp2_with fail
  go_ret
  exact⟨rfl,(Below.refl _ _).drew⟩
theorem ahW(bs:List Nat)(Xs:List PB)(hB:BD Xs)(g:Nat)(mk:Nat->Bool)(ow:Nat->Option Nat)(w:World)(hW:SW g bs Xs mk ow w)(r:List Nat)(hr:r≠[])(hrl:r.length<=85000000)(hr':∀a∈r,a<bs.length)(base:Nat)(v:Value)(ho:w.ownsRow base 175 1 v r.length (aL (r.map (bx bs)))):
  Calls Tryz.prog 113 #[v] w fun e w'=>e=.returned (.bool (cC Xs r))/\Below w.heap.size w w':=by
 have hlen:=hW.len;obtain⟨gT,cT,rfl,_,dH,_,_,_,hcell⟩:=mV ho (by intro h;exact hr (qg.1 h))
 have hl0:0<r.length:=iP.2 hr;have hlast:r[r.length-1]?=some (r.getLastD 0):=by
  rw[jE,mH,aC (by omega)];rfl
 have Xy:r[0]?=some (r.headD 0):=by
  cases r with
  |nil=>exact absurd rfl hr
  |cons a l=>rfl
 have Xz:r.getLastD 0<bs.length:=hr' _ (aZ hlast);have XA:r.headD 0<bs.length:=hr' _ (aZ Xy);have hL:=hW.rb.at (by rw[<-hlen];exact Xz)
 have hF:=hW.rb.at (by rw[<-hlen];exact XA)
 obtain⟨l1,d1⟩:=hB.ld _ (gu (by rw[<-hlen];exact Xz))
 obtain⟨l2,d2⟩:=hB.ld _ (gu (by rw[<-hlen];exact XA))
 obtain⟨im,f1,hl⟩:=Ee d1 d2;have q:=GX f1 kM;have c1:=hcell (r.length-1) (bx bs (r.getLastD 0)) (by rw[gz,hlast];rfl)
 have c2:=hcell 0 (bx bs (r.headD 0)) (by rw[gz,Xy];rfl)
 rw[ki] at c1 c2;refine ahV _ _ _ _ im (cC Xs r) gT r.length cT _ _ w hl0 hrl c1 c2 hL.c0 hF.c0 hl ?_;rw[q];unfold cC;rw[<-Ec d1 d2];refine decide_eq_decide.2 ?_;have:=Ga.sg (l1.1*l2.2.1-l1.2.1*l2.1);omega
def nV(P:List Nat->Bool):List (List Nat)->Nat->Int
 |[],_=> -1
 |b::r,k=>if P b then(k:Int) else nV P r (k+1)
theorem ahX(P:List Nat->Bool)(Rs:List (List Nat))(rv:List Value)(hlen:rv.length=Rs.length)(g cap:Nat)(w:World)(hn:rv.length<=85000000)
  (HV:Hid (∀(i:Nat) v,rv[i]?=some v->w.cell? ⟨g,i,none⟩=some v/\∃so n c,v=.slice so n c))
  (HC:Hid (∀(i:Nat) v r,rv[i]?=some v->Rs[i]?=some r->∀w',Below w.heap.size w w'->Calls Tryz.prog 113 #[v] w' fun e w''=>e=.returned (.bool (P r))/\Below w'.heap.size w' w'')):
  Calls Tryz.prog 169 #[.slice (some ⟨g,0,none⟩) rv.length cap,.func (.func 113) #[] #[]] w fun e w'=>e=.returned (.int .i64 (nV P Rs 0))/\Below w.heap.size w w':=by
 go_enter Tryz.func169,Tryz.ntmps169
 have HS:Hid (nV P (Rs.drop 0) 0=nV P Rs 0):=rfl;have N5:Hid (rv.length=Rs.length):=hlen;clear hlen
 go_wp2_with fail
 go_loopg [8] rv.length (fun m iv wr=>∃k:Nat,k+m=rv.length/\iv=.int .i64 k/\Hid (Below w.heap.size w wr/\nV P (Rs.drop k) k=nV P Rs 0))
 case atStart=>exact⟨0,by omega,rfl,Below.refl _ _,HS.out⟩
 case round=>
  obtain⟨k,hkn,rfl,HB⟩:=hrel;clear HS;by_cases hlt:k<rv.length
  ·obtain⟨v,hb⟩:∃v,rv[k]?=some v:=⟨_,aC hlt⟩;obtain⟨r,hr⟩:∃r,Rs[k]?=some r:=⟨_,aC (by rw[<-N5.out];exact hlt)⟩
   obtain⟨c0,so,sn,sc,rfl⟩:=HV.out k v hb;have dH:g<w.heap.size:=lt_of_cell c0;have c1:=(HB.out.1.cell (p:=⟨g,k,none⟩) dH).trans c0;have iz:Hid (Calls Tryz.prog 113 #[.slice so sn sc] wr fun r' w''=>r'=.returned (.bool (P r))/\Below wr.heap.size wr w''):=HC.out k _ r hb hr wr HB.out.1
   have gM:Hid ((if P r then(k:Int) else nV P (Rs.drop (k+1)) (k+1))=nV P Rs 0):=by
    have:=HB.out.2;rw[uF hr] at this;exact this
   have fN:(k:Int)<(rv.length:Int):=by omega
   clear c0 hb hr
   go_wp2_with fail
   refine iz.out.mono ?_;rintro e w5 ⟨rfl,az⟩;have fF:Hid (Below w.heap.size w w5):=HB.out.1.trans (az.mono HB.out.1.size);clear iz az c1;generalize P r=B at*;cases B
   ·have HM:Hid (nV P (Rs.drop (k+1)) (k+1)=nV P Rs 0):=gM.out;clear gM
    go_wp2_with fail
    go_roundg (gk-1)
    case measure=>omega
    case rel=>exact⟨k+1,by omega,by go_num,fF.out,HM.out⟩
   ·have HM:Hid ((k:Int)=nV P Rs 0):=gM.out;clear gM
    go_wp2_with fail
    go_ret
    exact⟨by rw[<-HM.out];rfl,fF.out⟩
  ·have hk:k=rv.length:=by omega
   subst hk;have HM:Hid ((-1:Int)=nV P Rs 0):=by
    have:=HB.out.2;rw[N5.out,QC] at this;exact this
   clear HC HV N5
   go_wp2_with fail
   go_ret
   exact⟨by rw[<-HM.out];rfl,HB.out.1⟩
theorem XB{P:List Nat->Bool}:∀(l:List (List Nat))(k:Nat),decide (0<=nV P l k)=l.any P
 |[],_=>rfl
 |a::l,k=>by
  show decide (0<=(if P a then(k:Int) else nV P l (k+1)))=(P a||l.any P)
  by_cases ha:P a=true
  ·rw[aj ha,ha];simp
  ·rw[af ha,XB l (k+1)];have:P a=false:=by simpa using ha
   rw[this];rfl
theorem ahY(S:Int)(g n cap:Nat)(w:World)
  (HI:Hid (Calls Tryz.prog 169 #[.slice (some ⟨g,0,none⟩) n cap,.func (.func 113) #[] #[]] w fun e w'=>e=.returned (.int .i64 S)/\Below w.heap.size w w')):
  Calls Tryz.prog 112 #[.slice (some ⟨g,0,none⟩) n cap,.func (.func 113) #[] #[]] w fun e w'=>e=.returned (.bool (decide (0<=S)))/\Below w.heap.size w w':=by
 go_enter Tryz.func112,Tryz.ntmps112
 go_wp2_with fail
 refine HI.out.mono ?_;rintro e w1 ⟨rfl,hb⟩
 go_wp2_with fail
 go_ret
 exact⟨rfl,hb⟩
end Go.Proofs.YtkjhhooecopolaaGreatDoor

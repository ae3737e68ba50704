import Derived.Test.YtkjhhooecopolaaGreatDoorZz28
set_option maxRecDepth 100000
set_option maxHeartbeats 4000000
namespace Go.Proofs.YtkjhhooecopolaaGreatDoor
open Go.RowKit
theorem agt(Xs:List PB)(p:List Nat×List (List Nat))(s:Nat):∀j∈(iQ Xs p s).1,j∈p.1\/j=s:=by
 intro j hj;unfold iQ at hj;split at hj
 ·have:=rU hj;simpa using this
 ·simpa using hj
theorem H9(Xs:List PB)(A:List Nat):∀k,∀j∈(bB Xs (A.take k)).1,j∈A:=by
 intro k;induction k with
 |zero=>intro j hj;simp[bB] at hj
 |succ k ih=>
  intro j hj;by_cases hk:k<A.length
  ·have htk:A.take (k+1)=A.take k++[A[k]]:=by rw[jh,aD hk];rfl
   rw[htk,vg] at hj;rcases agt Xs _ _ j hj with h|h
   ·exact ih j h
   ·rw[h];exact gF hk
  ·rw[ue (by omega)] at hj
   rw[ue (by omega)] at ih
   exact ih j hj
theorem agu(Xs:List PB)(p:List Nat×List (List Nat))(s:Nat):(iQ Xs p s).1.length<=p.1.length+1/\(iQ Xs p s).2.length<=p.2.length+1:=by
 unfold iQ;split
 ·simp;omega
 ·simp
theorem Dg(Xs:List PB)(A:List Nat):∀k,(bB Xs (A.take k)).1.length<=k/\(bB Xs (A.take k)).2.length<=k:=by
 intro k;induction k with
 |zero=>simp[bB]
 |succ k ih=>
  by_cases hk:k<A.length
  ·have htk:A.take (k+1)=A.take k++[A[k]]:=by rw[jh,aD hk];rfl
   rw[htk,vg];have:=agu Xs (bB Xs (A.take k)) A[k];omega
  ·rw[ue (by omega)]
   rw[ue (by omega)] at ih
   omega
theorem Wc{P:Nat->Bool}:∀(l:List Nat)(k:Nat),eW P l k= -1\/((k:Int)<=eW P l k/\eW P l k<(k:Int)+l.length)
 |[],_=>ae rfl
 |a::l,k=>by
  show(if P a then(k:Int) else eW P l (k+1))= -1\/((k:Int)<=(if P a then(k:Int) else eW P l (k+1))/\(if P a then(k:Int) else eW P l (k+1))<(k:Int)+(a::l).length)
  rw[cG];by_cases ha:P a=true
  ·rw[ah ha];omega
  ·rw[aa ha];have:=Wc (P:=P) l (k+1);omega
theorem agv(Xs:List PB)(O:List Nat)(s:Nat)(h:0<=gw Xs O s):(gw Xs O s).toNat<O.length:=by
 have:=Wc (P:=jZ Xs s) O 0;have e:gw Xs O s=eW (jZ Xs s) O 0:=rfl;rw[e] at h⊢;omega
theorem agw(bs:List Nat)(Xs:List PB)(hB:BD Xs)(g:Nat)(mk:Nat->Bool)(ow:Nat->Option Nat)(w:World)(hW:SW g bs Xs mk ow w)(O:List Nat)(s gO cO:Nat)(w':World)(ho:w'.ownsRow w.heap.size 175 1 (.slice (some ⟨gO,0,none⟩) O.length cO) O.length (aK (O.map (bx bs))))(hb:Below w.heap.size w w')(hO:∀j∈O,j<bs.length)(hs:s<bs.length)(hne:O≠[])(hl:O.length<=85000000):
  Calls Tryz.prog 166 #[.slice (some ⟨gO,0,none⟩) O.length cO,.func (.func 167) #[.pointer (some ⟨bx bs s,0,none⟩)] #[]] w' fun e w''=>e=.returned (.int .i64 (gw Xs O s))/\Below w'.heap.size w' w'':=by
 have hlen:=hW.len;obtain⟨kD,jG,hv,_,dh,_,_,_,hcell⟩:=lU ho (by intro h;exact hne (qh.1 h))
 have hgg:kD=gO/\jG=cO:=by
  injection hv with h1 _ h3;injection h1 with h1;injection h1 with h1;exact⟨h1.symm,h3.symm⟩
 obtain⟨rfl,rfl⟩:=hgg;have hm:=af5 (fun b=>decide ((xi Xs s).t=(xi Xs (bs.idxOf b)).f)) (O.map (bx bs)) kD 0 jG (bx bs s) w' (by rw[gV];exact hl) (fun i b hi=>hcell i b hi) (fun b hb' w'' hw=>by
  obtain⟨j,hj,rfl⟩:=bp.1 hb';have hjl:=hO j hj;have hR:=(hW.rb.below hb).below hw;rw[kZ hW.nd hjl];exact af4 _ _ (hB.v _ (fN (by rw[<-hlen];exact hs))) (hB.v _ (fN (by rw[<-hlen];exact hjl))) _ _ w'' (hR.at (by rw[<-hlen];exact hs)) (hR.at (by rw[<-hlen];exact hjl)))
 have e1:fA (fun b=>decide ((xi Xs s).t=(xi Xs (bs.idxOf b)).f)) (O.map (bx bs))=gw Xs O s:=H6 _ _ fun x hx=>by
  simp only[kZ hW.nd (hO x hx)];rfl
 rw[e1,gV] at hm;exact hm
theorem agx(bs:List Nat)(Xs:List PB)(hB:BD Xs)(g:Nat)(mk:Nat->Bool)(ow:Nat->Option Nat)(w:World)(hW:SW g bs Xs mk ow w)(O:List Nat)(R gO cO:Nat)(w':World)(ho:w'.ownsRow w.heap.size 175 1 (.slice (some ⟨gO,0,none⟩) O.length cO) O.length (aK (O.map (bx bs))))(hb:Below w.heap.size w w')(hO:∀j∈O,j<bs.length)(hR:R<O.length)(hl:O.length<=85000000)(hT:cN Xs (O.drop R)≠[]):
  Calls Tryz.prog 168 #[.slice (some ⟨gO,R,none⟩) (O.length-R) (cO-R)] w' fun e w''=>∃lv,e=.returned lv/\w''.ownsRow w'.heap.size 175 1 lv (cL Xs (O.drop R)).length (aK ((cL Xs (O.drop R)).map (bx bs)))/\Below w'.heap.size w' w'':=by
 have hne:O≠[]:=by intro h;rw[h] at hR;simp at hR
 obtain⟨kD,jG,hv,_,dh,_,_,_,hcell⟩:=lU ho (by intro h;exact hne (qh.1 h))
 have hgg:kD=gO/\jG=cO:=by
  injection hv with h1 _ h3;injection h1 with h1;injection h1 with h1;exact⟨h1.symm,h3.symm⟩
 obtain⟨rfl,rfl⟩:=hgg;have hm:=ago bs Xs hB g mk ow w' (hW.below hb) (O.drop R) (by rw[qi];omega) (by rw[qi];omega) (fun a ha=>hO a (O6 ha)) kD R (jG-R) (fun i a hi=>by
  rw[Jt] at hi;have h2:=hcell (R+i) (bx bs a) (by rw[fR,hi];rfl)
  rw[js] at h2;exact h2) hT
 rw[qi] at hm;exact hm
theorem agy(bs:List Nat)(Xs:List PB)(hB:BD Xs)(g:Nat)(mk:Nat->Bool)(ow:Nat->Option Nat)(w:World)(hW:SW g bs Xs mk ow w)(A:List Nat)(H7:A.length<=85000000)(hA:∀a∈A,a<bs.length)(g0 cap:Nat)
  (HV:Hid (∀(i:Nat) a,A[i]?=some a->w.cell? ⟨g0,0+i,none⟩=some (.pointer (some ⟨bx bs a,0,none⟩))))
  (We:Hid (∀(k:Nat) s,A[k]?=some s->0<=gw Xs ((bB Xs (A.take k)).1++[s]) s->cN Xs (((bB Xs (A.take k)).1++[s]).drop (gw Xs ((bB Xs (A.take k)).1++[s]) s).toNat)≠[])):
  Calls Tryz.prog 111 #[.slice (some ⟨g0,0,none⟩) A.length cap] w fun e w'=>∃lv lo O rv,e=.returned lv/\RI bs w lo lv O (bg Xs A) rv w':=by
 obtain⟨i0,hi0,hz0,hz1,hz2⟩:=info_parts xe;obtain⟨j0,Dh,hy0,hy1,hy2⟩:=info_parts Wb;have MJ:Hid (∀(O:List Nat)(s gO cO:Nat)(w':World),w'.ownsRow w.heap.size 175 1 (.slice (some ⟨gO,0,none⟩) O.length cO) O.length (aK (O.map (bx bs)))->Below w.heap.size w w'->(∀j∈O,j<bs.length)->s<bs.length->O≠[]->O.length<=85000000->Calls Tryz.prog 166 #[.slice (some ⟨gO,0,none⟩) O.length cO,.func (.func 167) #[.pointer (some ⟨bx bs s,0,none⟩)] #[]] w' fun e w''=>e=.returned (.int .i64 (gw Xs O s))/\Below w'.heap.size w' w''):=fun O s gO cO w'=>agw bs Xs hB g mk ow w hW O s gO cO w'
 have MK:Hid (∀(O:List Nat)(R gO cO:Nat)(w':World),w'.ownsRow w.heap.size 175 1 (.slice (some ⟨gO,0,none⟩) O.length cO) O.length (aK (O.map (bx bs)))->Below w.heap.size w w'->(∀j∈O,j<bs.length)->R<O.length->O.length<=85000000->cN Xs (O.drop R)≠[]->Calls Tryz.prog 168 #[.slice (some ⟨gO,R,none⟩) (O.length-R) (cO-R)] w' fun e w''=>∃lv,e=.returned lv/\w''.ownsRow w'.heap.size 175 1 lv (cL Xs (O.drop R)).length (aK ((cL Xs (O.drop R)).map (bx bs)))/\Below w'.heap.size w' w''):=fun O R gO cO w'=>agx bs Xs hB g mk ow w hW O R gO cO w'
 have HA:Hid (∀a∈A,a<bs.length):=hA;have bH:Hid (RI bs w (.slice none 0 0) (.slice none 0 0) (bB Xs (A.take 0)).1 (bB Xs (A.take 0)).2 [] w):=⟨World.ownsRow_nil _ _ _ _,World.ownsRow_nil _ _ _ _,rfl,fun i v r h=>by simp at h,fun k h=>by simp[Value.ownBlock] at h,Below.refl _ _⟩
 clear hA hW hB
 go_enter Tryz.func111,Tryz.ntmps111
 go_wp2_with fail
 go_loopg [3,4,10] A.length (fun m lr lo iv wr=>∃k:Nat,k+m=A.length/\iv=.int .i64 k/\Hid (∃rv,RI bs w lo lr (bB Xs (A.take k)).1 (bB Xs (A.take k)).2 rv wr))
 case atStart=>exact⟨0,by omega,rfl,[],bH.out⟩
 case round=>
  obtain⟨k,hkn,rfl,HE⟩:=hrel;clear bH;by_cases hlt:k<A.length
  ·obtain⟨s,hs⟩:∃s,A[k]?=some s:=⟨_,aD hlt⟩;obtain⟨rv,mN⟩:=HE.out;have Cn:Hid (RI bs w u4 u3 (bB Xs (A.take k)).1 (bB Xs (A.take k)).2 rv wr):=mN;have c1:=(mN.below.cell (p:=⟨g0,0+k,none⟩) (lt_of_cell (HV.out k s hs))).trans (HV.out k s hs);rw[js] at c1;have hsl:s<bs.length:=HA.out s (bh hs);have Wf:=We.out k s hs;have htk:A.take (k+1)=A.take k++[s]:=by rw[jh,hs];rfl
   have hfl:=Dg Xs A k;have ML:Hid (∀j∈(bB Xs (A.take k)).1++[s],j<bs.length):=fun j hj=>by
    rcases bT.1 hj with h|h
    ·exact HA.out j (H9 Xs A k j h)
    ·rw[bI.1 h];exact hsl
   have HST:Hid (bB Xs (A.take (k+1))=iQ Xs (bB Xs (A.take k)) s):=by
    show bB Xs (A.take (k+1))=_;rw[htk,vg]
   have zG:Hid (0<=gw Xs ((bB Xs (A.take k)).1++[s]) s->cN Xs (((bB Xs (A.take k)).1++[s]).drop (gw Xs ((bB Xs (A.take k)).1++[s]) s).toNat)≠[]):=Wf;have ez:(k:Int)<(A.length:Int):=by omega
   have hrl:rv.length<=k:=by rw[mN.len];exact hfl.2
   have hol:=hfl.1;have jY:=mN.oo;have hbz:=mN.below.size;clear mN HE Wf htk hs hfl;generalize bB Xs (A.take k)=st at*;obtain⟨O,Rs⟩:=st;simp only at*;have hnb:(wr.alloc (.cells #[.pointer (some ⟨bx bs s,0,none⟩)] 175)).heap[wr.heap.size]?=some (.cells #[.pointer (some ⟨bx bs s,0,none⟩)] 175 (0,0)):=heap_alloc_new _ _;have mM:(wr.alloc (.cells #[.pointer (some ⟨bx bs s,0,none⟩)] 175)).ownsRow w.heap.size 175 1 u4 O.length (aK (O.map (bx bs))):=aO jY fun k hk=>Below.heap_alloc _ _ _ (aB jY k hk).2
   clear jY
   go_wp2_with (at_builtin;refine wpList_append_lies _ rfl (.tmp 14) (.tmp 16) 132 rfl w.heap.size 175 i0 _ 1 8 Tryz.underlying132 hi0 hz0 hz1 hz2 rfl (by decide) u4 O.length (aK (O.map (bx bs))) rfl mM ⟨wr.heap.size,0,none⟩ 1 1 [.pointer (some ⟨bx bs s,0,none⟩)] rfl rfl (World.news_of_block (cs:= #[.pointer (some ⟨bx bs s,0,none⟩)]) (t:=175) (fr:=(0,0)) hnb) (by simp[Value.oneCell']) (by decide) (by unfold maxLen;omega) (by omega) (by simp;omega) (wr.heap.size+1) (by simp) ?_;intro g' cap' w8 cD bf fU oF)
   have Di:=Cn.out.agp s _ bf cD fU;have hel:(O++[s]).length=O.length+1:=by simp
   have Wh:Hid (RI bs w (.slice (some ⟨g',0,none⟩) (O.length+1) cap') u3 (O++[s]) Rs rv w8):=Di;obtain⟨gX,cX,Wi,_,_,hcX,hcm,hd1,hd2⟩:=lU Di.oo (by simp)
   have hcap:O.length+1<=cap'/\cap'<=9223372036854775807:=by
    injection Wi with _ _ h3;unfold maxLen at hcm;omega
   have MM:=MJ.out (O++[s]) s g' cap' w8 (by rw[hel];have:=Di.oo;rw[hel] at this;exact this) Di.below ML.out hsl (by simp) (by omega)
   rw[hel] at MM;have Wj:Hid (Calls Tryz.prog 166 #[.slice (some ⟨g',0,none⟩) (O.length+1) cap',.func (.func 167) #[.pointer (some ⟨bx bs s,0,none⟩)] #[]] w8 fun e w''=>e=.returned (.int .i64 (gw Xs (O++[s]) s))/\Below w8.heap.size w8 w''):=MM
   clear Wi hcX hcm hd1 hd2 MM Di cD bf fU hnb mM Cn c1;refine Wj.out.mono ?_;rintro e w9 ⟨rfl,lh⟩;have tO:Hid (RI bs w (.slice (some ⟨g',0,none⟩) (O.length+1) cap') u3 (O++[s]) Rs rv w9):=Wh.out.keep lh;clear Wh Wj lh;by_cases hS:0<=gw Xs (O++[s]) s
   ·have tK:=agv Xs (O++[s]) s hS;have sP:=zG.out hS;obtain⟨R,hRe⟩:=OP hS;have Dj:Hid (bB Xs (A.take (k+1))=((O++[s]).take R,Rs++[cL Xs ((O++[s]).drop R)])):=by
     show bB Xs (A.take (k+1))=_;rw[HST.out];unfold iQ;simp only;rw[ah hS,hRe];rfl
    rw[hRe,xL] at tK sP;rw[hel] at tK;have MN:=MK.out (O++[s]) R g' cap' w9 (by rw[hel];have:=tO.out.oo;rw[hel] at this;exact this) tO.out.below ML.out (by omega) (by omega) sP
    rw[hel] at MN;have Wl:Hid (Calls Tryz.prog 168 #[.slice (some ⟨g',R,none⟩) (O.length+1-R) (cap'-R)] w9 fun e w''=>∃lv,e=.returned lv/\w''.ownsRow w9.heap.size 175 1 lv (cL Xs ((O++[s]).drop R)).length (aK ((cL Xs ((O++[s]).drop R)).map (bx bs)))/\Below w9.heap.size w9 w''):=MN
    rw[hRe];have xq:(R:Int)≥0:=by omega
    have hRi:(R:Int)<=((O.length+1:Nat):Int):=by omega
    have alI:(R:Int)<=(O.length:Int)+1:=by omega
    have hTc:(O.length:Int)+1<=(cap':Int):=by omega
    have hRc:(R:Int)<=(cap':Int):=by omega
    have hcR:¬cap'=R:=by omega
    clear MN sP zG HST hS hRe
    go_wp2_with fail
    refine Wl.out.mono ?_;rintro e wA ⟨lv,rfl,MO,yX⟩;have yY:Hid (RI bs w (.slice (some ⟨g',0,none⟩) (O.length+1) cap') u3 (O++[s]) Rs rv wA):=tO.out.keep yX;obtain⟨so,ln,lc,rfl⟩:∃so ln lc,lv=.slice so ln lc:=by
     rcases MO.2 with⟨h,_⟩|⟨_,_,_,h,_⟩
     ·exact⟨_,_,_,h⟩
     ·exact⟨_,_,_,h⟩
    have hro:=yY.out.ro;have alJ:=yY.out.below.size;have hB9:=tO.out.below.size;have hlB:∀k,(Value.slice (some ⟨g',0,none⟩) (O.length+1) cap').ownBlock=some k\/u3.ownBlock=some k->k<w9.heap.size:=fun k hk=>by
     rcases hk with hk|hk
     ·exact(aB tO.out.oo k hk).2
     ·exact(aB tO.out.ro k hk).2
    have Wm:Hid (∀k,(Value.slice (some ⟨g',0,none⟩) (O.length+1) cap').ownBlock=some k\/u3.ownBlock=some k->k<w9.heap.size):=hlB;have Wn:Hid (wA.ownsRow w9.heap.size 175 1 (.slice so ln lc) (cL Xs ((O++[s]).drop R)).length (aK ((cL Xs ((O++[s]).drop R)).map (bx bs)))):=MO;have hnb:(wA.alloc (.cells #[.slice so ln lc] 185)).heap[wA.heap.size]?=some (.cells #[.slice so ln lc] 185 (0,0)):=heap_alloc_new _ _;have mM:(wA.alloc (.cells #[.slice so ln lc] 185)).ownsRow w.heap.size 185 1 u3 rv.length rv:=aO hro fun k hk=>Below.heap_alloc _ _ _ (aB hro k hk).2
    clear MO yX Wl tO hro hlB
    go_wp2_with (at_builtin;refine wpList_append_lies _ rfl (.tmp 24) (.tmp 29) 183 rfl w.heap.size 185 j0 _ 1 24 Tryz.underlying183 Dh hy0 hy1 hy2 rfl (by decide) u3 rv.length rv rfl mM ⟨wA.heap.size,0,none⟩ 1 1 [.slice so ln lc] rfl rfl (World.news_of_block (cs:= #[.slice so ln lc]) (t:=185) (fr:=(0,0)) hnb) (by simp[Value.oneCell']) (by decide) (by unfold maxLen;omega) (by omega) (by simp;omega) (wA.heap.size+1) (by simp) ?_;intro gB Wo wB Wp Wq Ws S7)
    have Wt:Hid (RI bs w (.slice (some ⟨g',0,none⟩) R cap') (.slice (some ⟨gB,0,none⟩) (rv.length+1) Wo) ((O++[s]).take R) (Rs++[cL Xs ((O++[s]).drop R)]) (rv++[.slice so ln lc]) wB):=
     (yY.out.agq Wn.out hB9 Wm.out _ Wq Wp Ws).ags (by rw[hel];omega) hel.symm
    have bW:Hid (∃Wu,RI bs w (.slice (some ⟨g',0,none⟩) R cap') (.slice (some ⟨gB,0,none⟩) (rv.length+1) Wo) (bB Xs (A.take (k+1))).1 (bB Xs (A.take (k+1))).2 Wu wB):=by
     show ∃Wu,_;rw[Dj.out];exact⟨_,Wt.out⟩
    clear yY Wn Wm Wp Wq Ws hnb mM Wt Dj
    go_wp2_with fail
    go_roundg (gk-1)
    case measure=>omega
    case rel=>exact⟨k+1,by omega,by go_num,bW.out⟩
   ·have Dj:Hid (bB Xs (A.take (k+1))=(O++[s],Rs)):=by
     show bB Xs (A.take (k+1))=_;rw[HST.out];unfold iQ;simp only;rw[aa hS]
    have bW:Hid (∃rv,RI bs w (.slice (some ⟨g',0,none⟩) (O.length+1) cap') u3 (bB Xs (A.take (k+1))).1 (bB Xs (A.take (k+1))).2 rv w9):=by
     show ∃rv,_;rw[Dj.out];exact⟨rv,tO.out⟩
    have Wv:¬gw Xs (O++[s]) s≥0:=hS;clear tO Dj HST zG ML MK MJ;generalize gw Xs (O++[s]) s=S at*
    go_wp2_with fail
    go_roundg (gk-1)
    case measure=>omega
    case rel=>exact⟨k+1,by omega,by go_num,bW.out⟩
  ·have hk:k=A.length:=by omega
   subst hk;obtain⟨rv,mN⟩:=HE.out;rw[fg] at mN;have HF:Hid (RI bs w u4 u3 (bB Xs A).1 (bg Xs A) rv wr):=mN;clear mN HE HV We MJ MK HA
   go_wp2_with fail
   go_ret
   exact⟨u3,u4,_,rv,rfl,HF.out⟩
def bQ(Xs:List PB)(r:List Nat):Bool:=decide (0<dX (xi Xs (r.getLastD 0)) (xi Xs (r.headD 0)))
theorem agB(X1 X2 Y1 Y2 im:Nat)(B:Bool)(g n cap bL bF:Nat)(w:World)(hn:0<n)(hn':n<=85000000)(cl:w.cell? ⟨g,n-1,none⟩=some (.pointer (some ⟨bL,0,none⟩)))(cf:w.cell? ⟨g,0,none⟩=some (.pointer (some ⟨bF,0,none⟩)))(l0:w.cell? ⟨bL,0,none⟩=some (.complex .f64 X1 X2))(f0:w.cell? ⟨bF,0,none⟩=some (.complex .f64 Y1 Y2))
  (HL:Hid (∀w,Calls Tryz.prog 101 #[.complex .f64 X1 X2,.complex .f64 Y1 Y2] w fun e w'=>e=.returned (.float .f64 im)/\w'=w))(hB:(FloatKind.f64.format.order im 0 == some .gt)=B):
  Calls Tryz.prog 113 #[.slice (some ⟨g,0,none⟩) n cap] w fun e w'=>e=.returned (.bool B)/\Below w.heap.size w w':=by
 have hw1:IntKind.i64.wrap ((n:Int)-1)=((n-1:Nat):Int):=by rw[IntKind.wrap_i64];omega
 have hi:((n-1:Nat):Int)<(n:Int):=by omega
 have h0:(0:Int)<(n:Int):=by omega
 subst hB
 go_enter Tryz.func113,Tryz.ntmps113
 go_wp2_with fail
 go_region_held3 (fun w'=>w'.cell? ⟨g,n-1,none⟩=some (.pointer (some ⟨bL,0,none⟩))/\w'.cell? ⟨g,0,none⟩=some (.pointer (some ⟨bF,0,none⟩))/\w'.cell? ⟨bL,0,none⟩=some (.complex .f64 X1 X2)/\w'.cell? ⟨bF,0,none⟩=some (.complex .f64 Y1 Y2)) (go_keep) ((go_at_call 101;refine(HL.out _).mono ?_;rintro e w5 ⟨rfl,qH⟩;subst qH))
 all_goals
  go_wp2_with fail
  go_ret
  exact⟨rfl,(Below.refl _ _).drew⟩
theorem agC(bs:List Nat)(Xs:List PB)(hB:BD Xs)(g:Nat)(mk:Nat->Bool)(ow:Nat->Option Nat)(w:World)(hW:SW g bs Xs mk ow w)(r:List Nat)(hr:r≠[])(hrl:r.length<=85000000)(hr':∀a∈r,a<bs.length)(base:Nat)(v:Value)(ho:w.ownsRow base 175 1 v r.length (aK (r.map (bx bs)))):
  Calls Tryz.prog 113 #[v] w fun e w'=>e=.returned (.bool (bQ Xs r))/\Below w.heap.size w w':=by
 have hlen:=hW.len;obtain⟨gT,cT,rfl,_,dh,_,_,_,hcell⟩:=lU ho (by intro h;exact hr (qh.1 h))
 have hl0:0<r.length:=il.2 hr;have hlast:r[r.length-1]?=some (r.getLastD 0):=by
  rw[mZ,nY,aD (by omega)];rfl
 have Ww:r[0]?=some (r.headD 0):=by
  cases r with
  |nil=>exact absurd rfl hr
  |cons a l=>rfl
 have Wx:r.getLastD 0<bs.length:=hr' _ (bh hlast);have Wy:r.headD 0<bs.length:=hr' _ (bh Ww);have hL:=hW.rb.at (by rw[<-hlen];exact Wx)
 have hF:=hW.rb.at (by rw[<-hlen];exact Wy)
 obtain⟨l1,d1⟩:=hB.ld _ (fN (by rw[<-hlen];exact Wx))
 obtain⟨l2,d2⟩:=hB.ld _ (fN (by rw[<-hlen];exact Wy))
 obtain⟨im,f1,hl⟩:=CZ d1 d2;have q:=Fe f1 jU;have c1:=hcell (r.length-1) (bx bs (r.getLastD 0)) (by rw[fR,hlast];rfl)
 have c2:=hcell 0 (bx bs (r.headD 0)) (by rw[fR,Ww];rfl)
 rw[js] at c1 c2;refine agB _ _ _ _ im (bQ Xs r) gT r.length cT _ _ w hl0 hrl c1 c2 hL.c0 hF.c0 hl ?_;rw[q];unfold bQ;rw[<-CW d1 d2];refine decide_eq_decide.2 ?_;have:=Ga.sg (l1.1*l2.2.1-l1.2.1*l2.1);omega
def mO(P:List Nat->Bool):List (List Nat)->Nat->Int
 |[],_=> -1
 |b::r,k=>if P b then(k:Int) else mO P r (k+1)
theorem agD(P:List Nat->Bool)(Rs:List (List Nat))(rv:List Value)(hlen:rv.length=Rs.length)(g cap:Nat)(w:World)(hn:rv.length<=85000000)
  (HV:Hid (∀(i:Nat) v,rv[i]?=some v->w.cell? ⟨g,i,none⟩=some v/\∃so n c,v=.slice so n c))
  (HC:Hid (∀(i:Nat) v r,rv[i]?=some v->Rs[i]?=some r->∀w',Below w.heap.size w w'->Calls Tryz.prog 113 #[v] w' fun e w''=>e=.returned (.bool (P r))/\Below w'.heap.size w' w'')):
  Calls Tryz.prog 169 #[.slice (some ⟨g,0,none⟩) rv.length cap,.func (.func 113) #[] #[]] w fun e w'=>e=.returned (.int .i64 (mO P Rs 0))/\Below w.heap.size w w':=by
 go_enter Tryz.func169,Tryz.ntmps169
 have HS:Hid (mO P (Rs.drop 0) 0=mO P Rs 0):=rfl;have MQ:Hid (rv.length=Rs.length):=hlen;clear hlen
 go_wp2_with fail
 go_loopg [8] rv.length (fun m iv wr=>∃k:Nat,k+m=rv.length/\iv=.int .i64 k/\Hid (Below w.heap.size w wr/\mO P (Rs.drop k) k=mO P Rs 0))
 case atStart=>exact⟨0,by omega,rfl,Below.refl _ _,HS.out⟩
 case round=>
  obtain⟨k,hkn,rfl,HB⟩:=hrel;clear HS;by_cases hlt:k<rv.length
  ·obtain⟨v,hb⟩:∃v,rv[k]?=some v:=⟨_,aD hlt⟩;obtain⟨r,hr⟩:∃r,Rs[k]?=some r:=⟨_,aD (by rw[<-MQ.out];exact hlt)⟩
   obtain⟨c0,so,sn,sc,rfl⟩:=HV.out k v hb;have dh:g<w.heap.size:=lt_of_cell c0;have c1:=(HB.out.1.cell (p:=⟨g,k,none⟩) dh).trans c0;have gP:Hid (Calls Tryz.prog 113 #[.slice so sn sc] wr fun r' w''=>r'=.returned (.bool (P r))/\Below wr.heap.size wr w''):=HC.out k _ r hb hr wr HB.out.1
   have fX:Hid ((if P r then(k:Int) else mO P (Rs.drop (k+1)) (k+1))=mO P Rs 0):=by
    have:=HB.out.2;rw[tN hr] at this;exact this
   have ez:(k:Int)<(rv.length:Int):=by omega
   clear c0 hb hr
   go_wp2_with fail
   refine gP.out.mono ?_;rintro e w5 ⟨rfl,az⟩;have eT:Hid (Below w.heap.size w w5):=HB.out.1.trans (az.mono HB.out.1.size);clear gP az c1;generalize P r=B at*;cases B
   ·have HM:Hid (mO P (Rs.drop (k+1)) (k+1)=mO P Rs 0):=fX.out;clear fX
    go_wp2_with fail
    go_roundg (gk-1)
    case measure=>omega
    case rel=>exact⟨k+1,by omega,by go_num,eT.out,HM.out⟩
   ·have HM:Hid ((k:Int)=mO P Rs 0):=fX.out;clear fX
    go_wp2_with fail
    go_ret
    exact⟨by rw[<-HM.out];rfl,eT.out⟩
  ·have hk:k=rv.length:=by omega
   subst hk;have HM:Hid ((-1:Int)=mO P Rs 0):=by
    have:=HB.out.2;rw[MQ.out,O5] at this;exact this
   clear HC HV MQ
   go_wp2_with fail
   go_ret
   exact⟨by rw[<-HM.out];rfl,HB.out.1⟩
theorem Wz{P:List Nat->Bool}:∀(l:List (List Nat))(k:Nat),decide (0<=mO P l k)=l.any P
 |[],_=>rfl
 |a::l,k=>by
  show decide (0<=(if P a then(k:Int) else mO P l (k+1)))=(P a||l.any P)
  by_cases ha:P a=true
  ·rw[ah ha,ha];simp
  ·rw[aa ha,Wz l (k+1)];have:P a=false:=by simpa using ha
   rw[this];rfl
theorem agE(S:Int)(g n cap:Nat)(w:World)
  (HI:Hid (Calls Tryz.prog 169 #[.slice (some ⟨g,0,none⟩) n cap,.func (.func 113) #[] #[]] w fun e w'=>e=.returned (.int .i64 S)/\Below w.heap.size w w')):
  Calls Tryz.prog 112 #[.slice (some ⟨g,0,none⟩) n cap,.func (.func 113) #[] #[]] w fun e w'=>e=.returned (.bool (decide (0<=S)))/\Below w.heap.size w w':=by
 go_enter Tryz.func112,Tryz.ntmps112
 go_wp2_with fail
 refine HI.out.mono ?_;rintro e w1 ⟨rfl,hb⟩
 go_wp2_with fail
 go_ret
 exact⟨rfl,hb⟩
end Go.Proofs.YtkjhhooecopolaaGreatDoor

import Derived.Test.YtkjhhooecopolaaGreatDoorZz27
set_option maxRecDepth 100000
set_option maxHeartbeats 4000000
namespace Go.Proofs.YtkjhhooecopolaaGreatDoor
open Go.RowKit
def tI(Xs:List PB):Nat->List Nat->List Nat
 |_,[]=>[]
 |b,s::r=>(if dX (xi Xs s) (xi Xs b)=0 then[] else[s])++tI Xs s r
theorem VZ(Xs:List PB):∀(l:List Nat)(b s:Nat),tI Xs b (l++[s])=tI Xs b l++(if dX (xi Xs s) (xi Xs (l.getLastD b))=0 then[] else[s])
 |[],b,s=>by simp[tI]
 |a::l,b,s=>by
  show _++tI Xs a (l++[s])=(_++tI Xs a l)++_;rw[VZ Xs l a s,eF];cases l<;>rfl
theorem zF(Xs:List PB):∀(l:List Nat)(b:Nat),∀s∈tI Xs b l,s∈l
 |[],_,s,h=>by simp[tI] at h
 |a::l,b,s,h=>by
  rcases bT.1 h with h|h
  ·split at h
   ·simp at h
   ·have:s=a:=by simpa using h
    rw[this];simp
  ·exact bo _ (zF Xs l a s h)
theorem MA(Xs:List PB):∀(l:List Nat)(b:Nat),(tI Xs b l).length<=l.length
 |[],_=>by simp[tI]
 |a::l,b=>by
  have:=MA Xs l a;show(_++tI Xs a l).length<=_;rw[aT,cG];split<;>simp<;>omega
def cN(Xs:List PB)(A:List Nat):List Nat:=tI Xs (A.getLastD 0) A
def jF(Xs:List PB)(T:List Nat):Nat:=bw (fun i j=>aY (xi Xs i).f (xi Xs j).f) T.tail (T.headD 0)
def rB(Xs:List PB)(T:List Nat):Nat:=(fA (fun j=>j == jF Xs T) T).toNat
def cL(Xs:List PB)(A:List Nat):List Nat:=(cN Xs A).drop (rB Xs (cN Xs A))++(cN Xs A).take (rB Xs (cN Xs A))
theorem H6{P Q:Nat->Bool}{f:Nat->Nat}:∀(l:List Nat)(k:Nat),(∀x∈l,P (f x)=Q x)->eW P (l.map f) k=eW Q l k
 |[],_,_=>rfl
 |a::l,k,h=>by
  show(if P (f a) then(k:Int) else eW P (l.map f) (k+1))=if Q a then(k:Int) else eW Q l (k+1)
  rw[h a (by simp),H6 l (k+1) fun x hx=>h x (bo _ hx)]
theorem V2{P:Nat->Bool}:∀(l:List Nat)(k:Nat),(∃x∈l,P x=true)->(k:Int)<=eW P l k/\eW P l k<(k:Int)+l.length
 |[],_,h=>by obtain⟨x,hx,_⟩:=h;simp at hx
 |a::l,k,h=>by
  show(k:Int)<=(if P a then(k:Int) else eW P l (k+1))/\(if P a then(k:Int) else eW P l (k+1))<(k:Int)+(a::l).length
  by_cases ha:P a=true
  ·rw[ah ha,cG];omega
  ·rw[aa ha,cG];obtain⟨x,hx,hp⟩:=h;have:=V2 l (k+1) ⟨x,(aP.1 hx).resolve_left (fun e=>ha (e▸hp)),hp⟩
   omega
theorem lU{w:World}{base:Nat}{e:TypeId}{v:Value}{n:Nat}{bl:List Nat}(h:w.ownsRow base e 1 v n (aK bl))(hne:bl≠[]):
  ∃gT cT,v=.slice (some ⟨gT,0,none⟩) n cT/\base<=gT/\gT<w.heap.size/\n<=cT/\cT<=maxLen/\n=bl.length/\∀(i b:Nat),bl[i]?=some b->w.cell? ⟨gT,0+i,none⟩=some (.pointer (some ⟨b,0,none⟩)):=by
 obtain⟨h1,h2⟩:=h;have hl:(aK bl).length=bl.length:=by simp[aK]
 rcases h2 with⟨_,h0⟩|⟨g,cap,cur,hv,hg,hb,hc,hm,hs,ht⟩
 ·rw[h0,Ae,hl] at h1;exact absurd (fK.1 h1) hne
 ·refine⟨g,cap,hv,hg,lt_of_heap hb,hc,hm,by omega,fun i b hi=>?_⟩
  have hp:(aK bl)[i]?=some (.pointer (some ⟨b,0,none⟩)):=by unfold aK;rw[fR,hi];rfl
  rw[<-ht,jt] at hp;split at hp
  ·rw[js];unfold World.cell?;rw[hb];simpa using hp
  ·cases hp
theorem agh(bs:List Nat)(Xs:List PB)(hB:BD Xs)(g:Nat)(mk:Nat->Bool)(ow:Nat->Option Nat)(w:World)(hW:SW g bs Xs mk ow w)(A:List Nat)(Dd:0<A.length)(H7:A.length<=85000000)(hA:∀a∈A,a<bs.length)(g0 lo cap:Nat)
  (HV:Hid (∀(i:Nat) a,A[i]?=some a->w.cell? ⟨g0,lo+i,none⟩=some (.pointer (some ⟨bx bs a,0,none⟩))))(hT:cN Xs A≠[])(T:List Nat)(bM R:Nat)(MB:cN Xs A=T)(tK:R<T.length)(pW:T.length<=85000000)(wH:Hid (cL Xs A=T.drop R++T.take R))
  (HM:Hid (∀gT cT wr,wr.ownsRow w.heap.size 175 1 (.slice (some ⟨gT,0,none⟩) T.length cT) T.length (aK (T.map (bx bs)))->Below w.heap.size w wr->Calls Tryz.prog 213 #[.slice (some ⟨gT,0,none⟩) T.length cT,.func (.func 109) #[] #[]] wr fun e w''=>e=.returned (.pointer (some ⟨bM,0,none⟩))/\Below wr.heap.size wr w''))
  (HX:Hid (∀gT cT wr,wr.ownsRow w.heap.size 175 1 (.slice (some ⟨gT,0,none⟩) T.length cT) T.length (aK (T.map (bx bs)))->Below w.heap.size w wr->Calls Tryz.prog 212 #[.slice (some ⟨gT,0,none⟩) T.length cT,.pointer (some ⟨bM,0,none⟩)] wr fun e w''=>e=.returned (.int .i64 R)/\Below wr.heap.size wr w'')):
  Calls Tryz.prog 168 #[.slice (some ⟨g0,lo,none⟩) A.length cap] w fun e w'=>∃lv,e=.returned lv/\w'.ownsRow w.heap.size 175 1 lv (cL Xs A).length (aK ((cL Xs A).map (bx bs)))/\Below w.heap.size w w':=by
 obtain⟨i0,hi0,hz0,hz1,hz2⟩:=info_parts xe;have hlen:=hW.len;have MC:Hid (∀a∈A,ig w (bx bs a) (xi Xs a)):=fun a ha=>hW.rb.at (by rw[<-hlen];exact hA a ha)
 have MD:Hid (∀a∈A,∃l,LD (xi Xs a) l):=fun a ha=>hB.ld _ (fN (by rw[<-hlen];exact hA a ha))
 obtain⟨z,hz⟩:∃z,A[A.length-1]?=some z:=⟨_,aD (by omega)⟩
 have hzl:A.getLastD 0=z:=by
  rw[mZ,nY,hz];rfl
 have c0:=HV.out _ z hz;have hzA:z∈A:=bh hz;have hw1:IntKind.i64.wrap ((A.length:Int)-1)=((A.length-1:Nat):Int):=by rw[IntKind.wrap_i64];omega
 have bH:Hid (w.ownsRow w.heap.size 175 1 (.slice none 0 0) (tI Xs z (A.take 0)).length (aK ((tI Xs z (A.take 0)).map (bx bs)))/\Below w.heap.size w w):=⟨World.ownsRow_nil _ _ _ _,Below.refl _ _⟩
 go_enter Tryz.func168,Tryz.ntmps168
 go_wp2_with fail
 go_loopg [3,4,16] A.length (fun m lv pv iv wr=>∃k:Nat,k+m=A.length/\iv=.int .i64 k/\pv=.pointer (some ⟨bx bs ((A.take k).getLastD z),0,none⟩)/\Hid (wr.ownsRow w.heap.size 175 1 lv (tI Xs z (A.take k)).length (aK ((tI Xs z (A.take k)).map (bx bs)))/\Below w.heap.size w wr))
 case atStart=>exact⟨0,by omega,rfl,rfl,bH.out⟩
 case round=>
  obtain⟨k,hkn,rfl,rfl,HO⟩:=hrel;clear bH;by_cases hlt:k<A.length
  ·obtain⟨s,hs⟩:∃s,A[k]?=some s:=⟨_,aD hlt⟩;obtain⟨iM,hb2⟩:=HO.out;have V3:s∈A:=bh hs;have V4:(A.take k).getLastD z∈A:=by
    rw[mZ];cases hh:(A.take k).getLast? with
    |none=>exact hzA
    |some y=>exact rU (rS hh)
   have c1:=(hb2.cell (p:=⟨g0,lo+k,none⟩) (lt_of_cell (HV.out k s hs))).trans (HV.out k s hs);have hS:=(MC.out s V3).below hb2;have hP:=(MC.out _ V4).below hb2;have s0:=hS.c0;have s1:=hS.c1;have p0:=hP.c0;have p1:=hP.c1;obtain⟨l1,wC⟩:=MD.out s V3;obtain⟨l2,hl2⟩:=MD.out _ V4;have Cu:Hid (∀w',Calls Tryz.prog 179 #[.agg #[.complex .f64 (xi Xs s).wa (xi Xs s).wb,.float .f64 (xi Xs s).sh],.agg #[.complex .f64 (xi Xs ((A.take k).getLastD z)).wa (xi Xs ((A.take k).getLastD z)).wb,.float .f64 (xi Xs ((A.take k).getLastD z)).sh]] w' fun r w''=>r=.returned (.bool (decide (dX (xi Xs s) (xi Xs ((A.take k).getLastD z))=0)))/\Below w'.heap.size w' w''):=fun w'=>af6 _ _ wC hl2 w'
   have htk:A.take (k+1)=A.take k++[s]:=by rw[jh,hs];rfl
   have V5:Hid ((A.take (k+1)).getLastD z=s):=by
    show(A.take (k+1)).getLastD z=s;rw[htk];simp
   have kf:Hid (tI Xs z (A.take (k+1))=tI Xs z (A.take k)++(if decide (dX (xi Xs s) (xi Xs ((A.take k).getLastD z))=0)=true then[] else[s])):=by
    show tI Xs z (A.take (k+1))=_;rw[htk,VZ];simp only[uf]
   have pW:=MA Xs (A.take k) z;rw[ir] at pW;have hbz:=hb2.size;have ez:(k:Int)<(A.length:Int):=by omega
   have hsz:bx bs s<wr.heap.size:=lt_of_cell s0;have kz:bx bs ((A.take k).getLastD z)<wr.heap.size:=lt_of_cell p0;have nS:Below wr.heap.size wr wr.drew:=(Below.refl _ _).drew;have pX:Hid (wr.ownsRow w.heap.size 175 1 u3 (tI Xs z (A.take k)).length (aK ((tI Xs z (A.take k)).map (bx bs)))):=iM;have ie:Hid (Below w.heap.size w wr):=hb2;clear hS hP wC hl2 htk hs HO iM hb2 c0 hz hw1;generalize hbb:bx bs s=bS at*;generalize bx bs ((A.take k).getLastD z)=bP at*;generalize decide (dX (xi Xs s) (xi Xs ((A.take k).getLastD z))=0)=B at*;generalize(xi Xs s).wa=X1 at*;generalize(xi Xs s).wb=X2 at*;generalize(xi Xs s).sh=X3 at*;generalize(xi Xs ((A.take k).getLastD z)).wa=Y1 at*;generalize(xi Xs ((A.take k).getLastD z)).wb=Y2 at*;generalize(xi Xs ((A.take k).getLastD z)).sh=Y3 at*;generalize tI Xs z (A.take k)=T at*
   go_wp2_with fail
   go_region_held3 (fun w'=>w'.cell? ⟨bS,0,none⟩=some (.complex .f64 X1 X2)/\w'.cell? ⟨bS,1,none⟩=some (.float .f64 X3)/\w'.cell? ⟨bP,0,none⟩=some (.complex .f64 Y1 Y2)/\w'.cell? ⟨bP,1,none⟩=some (.float .f64 Y3)) (go_keep) ((go_at_call 179;refine(Cu.out _).mono ?_;rintro e w5 ⟨rfl,az⟩;have kX:Below wr.heap.size wr w5:=nS.trans az;have e0:=(kX.cell (p:=⟨bS,0,none⟩) hsz).trans s0;have e1:=(kX.cell (p:=⟨bS,1,none⟩) hsz).trans s1;have e2:=(kX.cell (p:=⟨bP,0,none⟩) kz).trans p0;have e3:=(kX.cell (p:=⟨bP,1,none⟩) kz).trans p1))
   all_goals
    have eT:Hid (Below w.heap.size w w5):=ie.out.trans (kX.mono hbz);have cI:w5.ownsRow w.heap.size 175 1 u3 T.length (aK (T.map (bx bs))):=aO pX.out fun k hk=>kX.block k (aB pX.out k hk).2
    have ze:=eT.out.size;clear e0 e1 e2 e3 s0 s1 p0 p1 nS kX pX ie Cu;cases B
    ·have xp:Hid (tI Xs z (A.take (k+1))=T++[s]):=kf.out;have hnb:(w5.alloc (.cells #[.pointer (some ⟨bS,0,none⟩)] 175)).heap[w5.heap.size]?=some (.cells #[.pointer (some ⟨bS,0,none⟩)] 175 (0,0)):=heap_alloc_new _ _;have eN:(w5.alloc (.cells #[.pointer (some ⟨bS,0,none⟩)] 175)).ownsRow w.heap.size 175 1 u3 T.length (aK (T.map (bx bs))):=aO cI fun k hk=>Below.heap_alloc _ _ _ (aB cI k hk).2
     have AX:=cI;clear kf cI
     go_wp2_with (at_builtin;refine wpList_append_lies _ rfl (.tmp 32) (.tmp 34) 185 rfl w.heap.size 175 i0 _ 1 8 Tryz.underlying185 hi0 hz0 hz1 hz2 rfl (by decide) u3 T.length (aK (T.map (bx bs))) rfl eN ⟨w5.heap.size,0,none⟩ 1 1 [.pointer (some ⟨bS,0,none⟩)] rfl rfl (World.news_of_block (cs:= #[.pointer (some ⟨bS,0,none⟩)]) (t:=175) (fr:=(0,0)) hnb) (by simp[Value.oneCell']) (by decide) (by unfold maxLen;omega) (by omega) (by simp;omega) (w5.heap.size+1) (by simp) ?_;intro g' cap' w8 cD bf fU oF)
     have bW:Hid (w8.ownsRow w.heap.size 175 1 (.slice (some ⟨g',0,none⟩) (T.length+1) cap') (tI Xs z (A.take (k+1))).length (aK ((tI Xs z (A.take (k+1))).map (bx bs)))/\Below w.heap.size w w8):=by
      show _/\_;rw[xp.out,aT,iD];refine⟨?_,(eT.out.alloc ze _).grown bf (by simp;omega) (fun k hk=>(aB AX k hk).1)⟩
      have e:aK (T.map (bx bs)++[s].map (bx bs))=aK (T.map (bx bs))++[.pointer (some ⟨bS,0,none⟩)]:=by simp[aK,hbb]
      rw[e];exact cD
     have De:Hid (bx bs s=bS):=hbb;clear cD bf fU hnb eN AX xp hbb
     go_wp2_with fail
     go_roundg (gk-1)
     case measure=>omega
     case rel=>exact⟨k+1,by omega,by go_num,by rw[V5.out,De.out],bW.out⟩
    ·have xp:Hid (tI Xs z (A.take (k+1))=T):=by
      have:=kf.out;rw[ah rfl,qg] at this;exact this
     have bW:Hid (w5.ownsRow w.heap.size 175 1 u3 (tI Xs z (A.take (k+1))).length (aK ((tI Xs z (A.take (k+1))).map (bx bs)))/\Below w.heap.size w w5):=by
      show _/\_;rw[xp.out];exact⟨cI,eT.out⟩
     have De:Hid (bx bs s=bS):=hbb;clear kf cI hbb xp
     go_wp2_with fail
     go_roundg (gk-1)
     case measure=>omega
     case rel=>exact⟨k+1,by omega,by go_num,by rw[V5.out,De.out],bW.out⟩
  ·have hk:k=A.length:=by omega
   subst hk;have iM:=HO.out.1;have ie:Hid (Below w.heap.size w wr):=HO.out.2;rw[fg] at iM;have V6:tI Xs z A=T:=by rw[<-MB];unfold cN;rw[hzl]
   rw[V6] at iM;obtain⟨gT,cT,rfl,hgT,dh,hcT,hcm,hd1,hd2⟩:=lU iM (by rw[<-MB];simpa using hT)
   clear hd1 hd2;have pX:Hid (wr.ownsRow w.heap.size 175 1 (.slice (some ⟨gT,0,none⟩) T.length cT) T.length (aK (T.map (bx bs)))):=iM;have alH:cT<=9223372036854775807:=by unfold maxLen at hcm;omega
   have V7:=HM.out gT cT wr pX.out ie.out;have Df:Hid (Calls Tryz.prog 213 #[.slice (some ⟨gT,0,none⟩) T.length cT,.func (.func 109) #[] #[]] wr fun e w''=>e=.returned (.pointer (some ⟨bM,0,none⟩))/\Below wr.heap.size wr w''):=V7
   clear HM V7 iM HO MC MD HV hW hB V6 MB hcm c0 hz hw1 hT hA hzA hzl
   go_wp2_with fail
   refine Df.out.mono ?_;rintro e w1 ⟨rfl,hb1⟩;have zE:w1.ownsRow w.heap.size 175 1 (.slice (some ⟨gT,0,none⟩) T.length cT) T.length (aK (T.map (bx bs))):=aO pX.out fun k hk=>hb1.block k (aB pX.out k hk).2
   have uG:Below w.heap.size w w1:=ie.out.trans (hb1.mono ie.out.size);have V8:Hid (Calls Tryz.prog 212 #[.slice (some ⟨gT,0,none⟩) T.length cT,.pointer (some ⟨bM,0,none⟩)] w1 fun e w''=>e=.returned (.int .i64 R)/\Below w1.heap.size w1 w''):=HX.out gT cT w1 zE uG
   have ME:Hid (w1.ownsRow w.heap.size 175 1 (.slice (some ⟨gT,0,none⟩) T.length cT) T.length (aK (T.map (bx bs)))):=zE;have uY:Hid (Below w.heap.size w w1):=uG;clear HX Df zE uG pX ie hb1
   go_wp2_with fail
   refine V8.out.mono ?_;rintro e w2 ⟨rfl,hb2⟩;have pX:Hid (w2.ownsRow w.heap.size 175 1 (.slice (some ⟨gT,0,none⟩) T.length cT) T.length (aK (T.map (bx bs)))):=aO ME.out fun k hk=>hb2.block k (aB ME.out k hk).2
   have ie:Hid (Below w.heap.size w w2):=uY.out.trans (hb2.mono uY.out.size);clear V8 ME uY hb2;have V9:Hid (∀w' sb,Below w2.heap.size w2 w'->w'.cell? ⟨sb,0,none⟩=some (.slice (some ⟨gT,R,none⟩) (T.length-R) (cT-R))->w'.cell? ⟨sb,1,none⟩=some (.slice (some ⟨gT,0,none⟩) R cT)->Calls Tryz.prog 214 #[.slice (some ⟨sb,0,none⟩) 2 2] w' fun e w''=>∃lv,e=.returned lv/\w''.ownsRow w'.heap.size 175 1 lv (cL Xs A).length (aK ((cL Xs A).map (bx bs)))/\Below w'.heap.size w' w''):=fun w' sb hb c0 c1=>by
    obtain⟨kD,jG,hv,_,Sa,_,_,_,hcell⟩:=lU pX.out (by intro h;have:=aw List.length h;simp at this;rw[this] at tK;simp at tK)
    have hgg:kD=gT/\jG=cT:=by
     injection hv with h1 _ h3;injection h1 with h1;injection h1 with h1;exact⟨h1.symm,h3.symm⟩
    obtain⟨rfl,rfl⟩:=hgg;have MF:fZ [(R,jG-R,(T.drop R).map (bx bs)),(0,jG,(T.take R).map (bx bs))]=(cL Xs A).map (bx bs):=by
     rw[wH.out,iD];simp[fZ]
    have wC:((T.drop R).map (bx bs)).length=T.length-R:=by simp
    have hl2:((T.take R).map (bx bs)).length=R:=by simp;omega
    have hcl:((cL Xs A).map (bx bs)).length=T.length:=by
     rw[wH.out,gV,aT];simp;omega
    have hk:=agc [(R,jG-R,(T.drop R).map (bx bs)),(0,jG,(T.take R).map (bx bs))] kD sb 2 w' (by rw[MF,hcl];omega) (by rw[MF,hcl];exact pW) (by simp)
     (fun k it hk=>by
      rcases k with _|_|k
      ·have e:it=(R,jG-R,(T.drop R).map (bx bs)):=by simpa using hk.symm
       rw[e];unfold Dc;simp only[wC];exact c0
      ·have e:it=(0,jG,(T.take R).map (bx bs)):=by simpa using hk.symm
       rw[e];unfold Dc;simp only[hl2];exact c1
      ·simp at hk)
     (fun it hit i b hi=>by
      have hgl:kD<w2.heap.size:=Sa;rcases aP.1 hit with e|hit
      ·rw[e] at hi⊢;simp only at hi⊢;have h2:=hcell (R+i) b (by rw[<-hi,List.map_drop,Jt])
       rw[js] at h2;exact(hb.cell (p:=⟨kD,R+i,none⟩) hgl).trans h2
      ·have e:it=(0,jG,(T.take R).map (bx bs)):=by simpa using hit
       rw[e] at hi⊢;simp only at hi⊢;have h2:=hcell i b (by
        rw[ZO,jt] at hi;split at hi
        ·exact hi
        ·cases hi)
       exact(hb.cell (p:=⟨kD,0+i,none⟩) hgl).trans h2)
    rw[MF,gV] at hk;exact hk
   have xq:(0:Int)<=(R:Int):=by omega
   have hRi:(R:Int)<=(T.length:Int):=by omega
   have hTc:(T.length:Int)<=(cT:Int):=by omega
   have hRc:(R:Int)<=(cT:Int):=by omega
   have hcR:¬cT=R:=by omega
   have H0:Hid (∀o,Below w2.heap.size w2 (w2.alloc o).drew):=fun o=>((Below.refl _ _).alloc (ax _) o).drew
   have HBD:Hid (Below w2.heap.size w2 w2.drew):=(Below.refl _ _).drew;have MG:Below w2.heap.size w2 (w2.alloc (.cells #[.slice (some ⟨gT,R,none⟩) (T.length-R) (cT-R),.slice (some ⟨gT,0,none⟩) R cT] 185)).drew:=((Below.refl _ _).alloc (ax _) _).drew;have hcc:=V9.out _ w2.heap.size MG (cell_of (w:=(w2.alloc (.cells #[.slice (some ⟨gT,R,none⟩) (T.length-R) (cT-R),.slice (some ⟨gT,0,none⟩) R cT] 185)).drew) (heap_alloc_new _ _) 0) (cell_of (w:=(w2.alloc (.cells #[.slice (some ⟨gT,R,none⟩) (T.length-R) (cT-R),.slice (some ⟨gT,0,none⟩) R cT] 185)).drew) (heap_alloc_new _ _) 1);have agm:=ie.out.size;have rf:Hid (Calls Tryz.prog 214 #[.slice (some ⟨w2.heap.size,0,none⟩) 2 2] (w2.alloc (.cells #[.slice (some ⟨gT,R,none⟩) (T.length-R) (cT-R),.slice (some ⟨gT,0,none⟩) R cT] 185)).drew fun e w''=>∃lv,e=.returned lv/\w''.ownsRow w.heap.size 175 1 lv (cL Xs A).length (aK ((cL Xs A).map (bx bs)))/\Below w.heap.size w w''):=by
    refine hcc.mono ?_;rintro e w9 ⟨H8,rfl,wT,lh⟩;exact⟨H8,rfl,td wT (by simp[World.drew];omega),ie.out.trans ((MG.trans (lh.mono (by simp[World.drew]))).mono agm)⟩
   clear pX wH V9 hcc MG H0 HBD
   go_wp2_with fail
   go_region_held3 (fun _=>True) (go_keep) ((go_at_call 214;refine rf.out.mono ?_;rintro e w9 ⟨H8,rfl,wT,lh⟩))
   all_goals
    have HF:Hid (w9.ownsRow w.heap.size 175 1 H8 (cL Xs A).length (aK ((cL Xs A).map (bx bs)))/\Below w.heap.size w w9):=⟨wT,lh⟩;clear wT lh ie rf
    go_wp2_with fail
    go_ret
    exact⟨H8,rfl,HF.out⟩
theorem Wa(Xs:List PB){T:List Nat}(hT:T≠[]):jF Xs T∈T:=by
 cases T with
 |nil=>exact absurd rfl hT
 |cons t0 tr=>
  unfold jF;rcases uX (fun i j=>aY (xi Xs i).f (xi Xs j).f) tr t0 with e|e
  ·rw[show(t0::tr).tail=tr from rfl,show(t0::tr).headD 0=t0 from rfl,e];simp
  ·exact bo _ e
theorem agn(Xs:List PB){T:List Nat}(hT:T≠[]):fA (fun j=>j == jF Xs T) T=(rB Xs T:Int)/\rB Xs T<T.length:=by
 have hbd:=V2 (P:=fun j=>j == jF Xs T) T 0 ⟨_,Wa Xs hT,by simp⟩
 have e2:fA (fun j=>j == jF Xs T) T=eW (fun j=>j == jF Xs T) T 0:=rfl
 have e3:rB Xs T=(eW (fun j=>j == jF Xs T) T 0).toNat:=rfl
 rw[e2,e3];omega
theorem MH(Xs:List PB)(A:List Nat):∀j∈cN Xs A,j∈A:=fun j hj=>zF Xs A _ j hj
theorem MI(Xs:List PB)(A:List Nat):(cN Xs A).length<=A.length:=MA Xs A _
theorem ago(bs:List Nat)(Xs:List PB)(hB:BD Xs)(g:Nat)(mk:Nat->Bool)(ow:Nat->Option Nat)(w:World)(hW:SW g bs Xs mk ow w)(A:List Nat)(Dd:0<A.length)(H7:A.length<=85000000)(hA:∀a∈A,a<bs.length)(g0 lo cap:Nat)
  (HV:∀(i:Nat) a,A[i]?=some a->w.cell? ⟨g0,lo+i,none⟩=some (.pointer (some ⟨bx bs a,0,none⟩)))(hT:cN Xs A≠[]):
  Calls Tryz.prog 168 #[.slice (some ⟨g0,lo,none⟩) A.length cap] w fun e w'=>∃lv,e=.returned lv/\w'.ownsRow w.heap.size 175 1 lv (cL Xs A).length (aK ((cL Xs A).map (bx bs)))/\Below w.heap.size w w':=by
 have hlen:=hW.len;have nJ:∀j∈cN Xs A,j<bs.length:=fun j hj=>hA j (MH Xs A j hj)
 have pW:(cN Xs A).length<=85000000:=dY (MI Xs A) H7;have hlm:=Wa Xs hT;obtain⟨hr1,hr2⟩:=agn Xs hT;refine agh bs Xs hB g mk ow w hW A Dd H7 hA g0 lo cap HV hT (cN Xs A) (bx bs (jF Xs (cN Xs A))) (rB Xs (cN Xs A)) rfl hr2 pW rfl ?_ ?_
 ·intro gT cT wr ho hb;generalize cN Xs A=T at*;obtain⟨kD,jG,hv,_,dh,_,_,_,hcell⟩:=lU ho (by intro h;exact hT (qh.1 h))
  have hgg:kD=gT/\jG=cT:=by
   injection hv with h1 _ h3;injection h1 with h1;injection h1 with h1;exact⟨h1.symm,h3.symm⟩
  obtain⟨rfl,rfl⟩:=hgg;obtain⟨t0,tr,rfl⟩:∃t0 tr,T=t0::tr:=by
   cases T with
   |nil=>exact absurd rfl hT
   |cons a r=>exact⟨a,r,rfl⟩
  have hR:=hW.rb.below hb;have hm:=af7 (fun b b'=>aY (xi Xs (bs.idxOf b)).f (xi Xs (bs.idxOf b')).f) (bx bs t0) (tr.map (bx bs)) kD 0 jG wr (by rw[gV];simp only[cG] at pW;omega)
   (fun i b hi=>hcell i b hi)
   (fun b h1 c h2 w'' hw=>by
    have key:∀b,b∈bx bs t0::tr.map (bx bs)->∃j,j<bs.length/\b=bx bs j:=fun b hb=>by
     have hb2:b∈(t0::tr).map (bx bs):=hb;obtain⟨j,hj,rfl⟩:=bp.1 hb2;exact⟨j,nJ j hj,rfl⟩
    obtain⟨j1,q1,rfl⟩:=key b h1;obtain⟨j2,q2,rfl⟩:=key c h2;have zA:=hR.below hw;rw[kZ hW.nd q1,kZ hW.nd q2];refine(L8 _ _ (hB.v _ (fN (by rw[<-hlen];exact q1))) (hB.v _ (fN (by rw[<-hlen];exact q2))) _ _ w'' (zA.at (by rw[<-hlen];exact q1)) (zA.at (by rw[<-hlen];exact q2))).mono ?_
    rintro e w3 ⟨rfl,hb3,_⟩;exact⟨rfl,hb3⟩)
  have e1:bw (fun b b'=>aY (xi Xs (bs.idxOf b)).f (xi Xs (bs.idxOf b')).f) (tr.map (bx bs)) (bx bs t0)=bx bs (jF Xs (t0::tr)):=by
   unfold jF;refine C5 _ _ fun j hj k hk=>?_
   simp only[kZ hW.nd (nJ j hj),kZ hW.nd (nJ k hk)]
  rw[e1,gV] at hm;exact hm
 ·intro gT cT wr ho hb;generalize cN Xs A=T at*;obtain⟨kD,jG,hv,_,dh,_,_,_,hcell⟩:=lU ho (by intro h;exact hT (qh.1 h))
  have hgg:kD=gT/\jG=cT:=by
   injection hv with h1 _ h3;injection h1 with h1;injection h1 with h1;exact⟨h1.symm,h3.symm⟩
  obtain⟨rfl,rfl⟩:=hgg;have hm:=aga (bx bs (jF Xs T)) (T.map (bx bs)) kD 0 jG wr (by rw[gV];exact pW) (fun i b hi=>hcell i b hi) (fun b hb'=>by
   have VT:∃j,j<bs.length/\b=bx bs j:=by
    rcases hb' with rfl|hb'
    ·exact⟨_,nJ _ hlm,rfl⟩
    ·obtain⟨j,hj,rfl⟩:=bp.1 hb';exact⟨j,nJ j hj,rfl⟩
   obtain⟨j,hj,rfl⟩:=VT;exact⟨_,(hb.block _ (hW.lt (oL hj))).trans (hW.side j hj)⟩)
  have e1:fA (fun b=>b == bx bs (jF Xs T)) (T.map (bx bs))=fA (fun j=>j == jF Xs T) T:=H6 _ _ fun x hx=>by
   by_cases e:x=jF Xs T
   ·rw[e];simp
   ·have h1:(x == jF Xs T)=false:=by simpa using e
    have h2:(bx bs x == bx bs (jF Xs T))=false:=by simpa using fun h=>e (Mv hW.nd (nJ x hx) (nJ _ hlm) h)
    rw[h1,h2]
  rw[e1,hr1,gV] at hm;exact hm
def jZ(Xs:List PB)(s j:Nat):Bool:=decide ((xi Xs s).t=(xi Xs j).f)
def gw(Xs:List PB)(O:List Nat)(s:Nat):Int:=fA (jZ Xs s) O
def iQ(Xs:List PB)(p:List Nat×List (List Nat))(s:Nat):List Nat×List (List Nat):=
 if 0<=gw Xs (p.1++[s]) s then((p.1++[s]).take (gw Xs (p.1++[s]) s).toNat,p.2++[cL Xs ((p.1++[s]).drop (gw Xs (p.1++[s]) s).toNat)]) else(p.1++[s],p.2)
def bB(Xs:List PB)(W:List Nat):List Nat×List (List Nat):=W.foldl (iQ Xs) ([],[])
def bg(Xs:List PB)(W:List Nat):List (List Nat):=(bB Xs W).2
theorem vg(Xs:List PB)(W:List Nat)(s:Nat):bB Xs (W++[s])=iQ Xs (bB Xs W) s:=by unfold bB;rw[Ju];rfl
theorem Wb:(Tryz.prog.info? 185).map (fun i=>(i.zero,i.size,i.bytes))=some (some (.slice none 0 0),1,24):=by kernel_rfl
structure RI(bs:List Nat)(w:World)(lo lr:Value)(O:List Nat)(Rs:List (List Nat))(rv:List Value)(wr:World):Prop where
 oo:wr.ownsRow w.heap.size 175 1 lo O.length (aK (O.map (bx bs)))
 ro:wr.ownsRow w.heap.size 185 1 lr rv.length rv
 len:rv.length=Rs.length
 ring:∀(i:Nat) v r,rv[i]?=some v->Rs[i]?=some r->wr.ownsRow w.heap.size 175 1 v r.length (aK (r.map (bx bs)))/\∀k,v.ownBlock=some k->lo.ownBlock≠some k/\lr.ownBlock≠some k
 ne:∀k,lo.ownBlock=some k->lr.ownBlock≠some k
 below:Below w.heap.size w wr
theorem RI.keep{bs:List Nat}{w:World}{lo lr:Value}{O:List Nat}{Rs:List (List Nat)}{rv:List Value}{wr w':World}(h:RI bs w lo lr O Rs rv wr)(hb:Below wr.heap.size wr w'):RI bs w lo lr O Rs rv w':=
 ⟨aO h.oo fun k hk=>hb.block k (aB h.oo k hk).2,aO h.ro fun k hk=>hb.block k (aB h.ro k hk).2,h.len,fun i v r h1 h2=>⟨aO (h.ring i v r h1 h2).1 fun k hk=>hb.block k (aB (h.ring i v r h1 h2).1 k hk).2,(h.ring i v r h1 h2).2⟩,h.ne,h.below.trans (hb.mono h.below.size)⟩
theorem RI.agp{bs:List Nat}{w:World}{lo lr:Value}{O:List Nat}{Rs:List (List Nat)}{rv:List Value}{wr:World}(h:RI bs w lo lr O Rs rv wr)(s:Nat)(o:Obj){g' cap':Nat}{w8:World}(bf:(wr.alloc o).grownBy w8 lo.ownBlock)
  (cD:w8.ownsRow w.heap.size 175 1 (.slice (some ⟨g',0,none⟩) (O.length+1) cap') (O.length+1) (aK (O.map (bx bs))++[.pointer (some ⟨bx bs s,0,none⟩)]))(hat:lo.ownBlock=some g'\/g'=wr.heap.size+1):
  RI bs w (.slice (some ⟨g',0,none⟩) (O.length+1) cap') lr (O++[s]) Rs rv w8:=by
 have hold:∀k,k<wr.heap.size->lo.ownBlock≠some k->w8.heap[k]?=wr.heap[k]?:=fun k hk hne=>(bf.block k (by simp;omega) (fun e=>hne e.symm)).trans (Below.heap_alloc _ _ _ hk)
 refine⟨?_,aO h.ro fun k hk=>hold k (aB h.ro k hk).2 (fun e=>h.ne k e hk),h.len,fun i v r h1 h2=>?_,fun k hk=>?_,?_⟩
 ·rw[iD,aT];have e:aK (O.map (bx bs)++[s].map (bx bs))=aK (O.map (bx bs))++[.pointer (some ⟨bx bs s,0,none⟩)]:=by simp[aK]
  rw[e];exact cD
 ·obtain⟨k1,k2⟩:=h.ring i v r h1 h2;refine⟨aO k1 fun k hk=>hold k (aB k1 k hk).2 (k2 k hk).1,fun k hk=>⟨fun e=>?_,(k2 k hk).2⟩⟩
  have e':g'=k:=by simpa[Value.ownBlock] using e
  subst e';rcases hat with hat|hat
  ·exact(k2 _ hk).1 hat
  ·have:=(aB k1 _ hk).2;omega
 ·have e':g'=k:=by simpa[Value.ownBlock] using hk
  subst e';intro hr;rcases hat with hat|hat
  ·exact h.ne _ hat hr
  ·have:=(aB h.ro _ hr).2;omega
 ·exact(h.below.alloc h.below.size _).grown bf (by have:=h.below.size;simp;omega) (fun k hk=>(aB h.oo k hk).1)
theorem RI.agq{bs:List Nat}{w:World}{lo lr:Value}{O:List Nat}{Rs:List (List Nat)}{rv:List Value}{wr:World}(h:RI bs w lo lr O Rs rv wr){v:Value}{r:List Nat}{B:Nat}(hv:wr.ownsRow B 175 1 v r.length (aK (r.map (bx bs))))(hB:w.heap.size<=B)(hlB:∀k,lo.ownBlock=some k\/lr.ownBlock=some k->k<B)(o:Obj){g' cap':Nat}{w8:World}(bf:(wr.alloc o).grownBy w8 lr.ownBlock)
  (cD:w8.ownsRow w.heap.size 185 1 (.slice (some ⟨g',0,none⟩) (rv.length+1) cap') (rv.length+1) (rv++[v]))(hat:lr.ownBlock=some g'\/g'=wr.heap.size+1):
  RI bs w lo (.slice (some ⟨g',0,none⟩) (rv.length+1) cap') O (Rs++[r]) (rv++[v]) w8:=by
 have hold:∀k,k<wr.heap.size->lr.ownBlock≠some k->w8.heap[k]?=wr.heap[k]?:=fun k hk hne=>(bf.block k (by simp;omega) (fun e=>hne e.symm)).trans (Below.heap_alloc _ _ _ hk)
 have hvk:∀k,v.ownBlock=some k->B<=k/\k<wr.heap.size:=fun k hk=>aB hv k hk
 refine⟨aO h.oo fun k hk=>hold k (aB h.oo k hk).2 (h.ne k hk),?_,by rw[aT,aT,h.len];rfl,fun i u q h1 h2=>?_,fun k hk e=>?_,?_⟩
 ·rw[aT];exact cD
 ·by_cases hi:i<rv.length
  ·rw[eG hi] at h1;rw[eG (by rw[<-h.len];exact hi)] at h2
   obtain⟨k1,k2⟩:=h.ring i u q h1 h2;refine⟨aO k1 fun k hk=>hold k (aB k1 k hk).2 (k2 k hk).2,fun k hk=>⟨(k2 k hk).1,fun e=>?_⟩⟩
   have e':g'=k:=by simpa[Value.ownBlock] using e
   subst e';rcases hat with hat|hat
   ·exact(k2 _ hk).2 hat
   ·have:=(aB k1 _ hk).2;omega
  ·have hi2:i=rv.length:=by
    have:=(bU.1 h1).1;simp at this;omega
   subst hi2;have e1:u=v:=by simpa using h1.symm
   have e2:q=r:=by rw[h.len] at h2;simpa using h2.symm
   subst e1 e2;refine⟨td (aO hv fun k hk=>hold k (hvk k hk).2 (fun e=>by have:=hlB k (af e);have:=(hvk k hk).1;omega)) hB,fun k hk=>⟨fun e=>by have:=hlB k (ae e);have:=(hvk k hk).1;omega,fun e=>?_⟩⟩
   have e':g'=k:=by simpa[Value.ownBlock] using e
   subst e';rcases hat with hat|hat
   ·have:=hlB _ (af hat);have:=(hvk _ hk).1;omega
   ·have:=(hvk _ hk).2;omega
 ·have e':g'=k:=by simpa[Value.ownBlock] using e
  subst e';rcases hat with hat|hat
  ·exact h.ne _ hk hat
  ·have:=(aB h.oo _ hk).2;omega
 ·exact(h.below.alloc h.below.size _).grown bf (by have:=h.below.size;simp;omega) (fun k hk=>(aB h.ro k hk).1)
theorem agr{w:World}{base:Nat}{e:TypeId}{g n cap:Nat}{xs:List Value}(h:w.ownsRow base e 1 (.slice (some ⟨g,0,none⟩) n cap) n xs){k:Nat}(hk:k<=n):w.ownsRow base e 1 (.slice (some ⟨g,0,none⟩) k cap) k (xs.take k):=by
 obtain⟨h1,h2⟩:=h;rcases h2 with⟨h0,_⟩|⟨g1,c1,cur,hv,hg,hb,hc,hm,hs,ht⟩
 ·cases h0
 ·refine⟨by rw[ir,h1];omega,af ⟨g1,c1,cur,?_,hg,hb,by omega,hm,hs,?_⟩⟩
  ·injection hv with a1 _ a3;rw[a1,a3]
  ·rw[<-ht,Ai];congr 1;omega
theorem RI.ags{bs:List Nat}{w:World}{lr:Value}{g n cap:Nat}{O:List Nat}{Rs:List (List Nat)}{rv:List Value}{wr:World}(h:RI bs w (.slice (some ⟨g,0,none⟩) n cap) lr O Rs rv wr){k:Nat}(hk:k<=O.length)(hn:n=O.length):RI bs w (.slice (some ⟨g,0,none⟩) k cap) lr (O.take k) Rs rv wr:=by
 subst hn;refine⟨?_,h.ro,h.len,h.ring,h.ne,h.below⟩;have:=agr h.oo hk;have e:(aK (O.map (bx bs))).take k=aK ((O.take k).map (bx bs)):=by unfold aK;rw[ZO,ZO]
 rw[e] at this;have hl:(O.take k).length=k:=by rw[ir];omega
 rw[hl];exact this
end Go.Proofs.YtkjhhooecopolaaGreatDoor

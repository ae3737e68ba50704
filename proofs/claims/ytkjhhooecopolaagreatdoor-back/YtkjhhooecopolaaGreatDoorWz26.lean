import Derived.Test.YtkjhhooecopolaaGreatDoorWz25
set_option maxRecDepth 100000
set_option maxHeartbeats 4000000
namespace Go.Proofs.YtkjhhooecopolaaGreatDoor
open Go.RowKit
def tI(Xs:List PB):Nat->List Nat->List Nat
 |_,[]=>[]
 |b,s::r=>(if eW (xi Xs s) (xi Xs b)=0 then[] else[s])++tI Xs s r
theorem W7(Xs:List PB):∀(l:List Nat)(b s:Nat),tI Xs b (l++[s])=tI Xs b l++(if eW (xi Xs s) (xi Xs (l.getLastD b))=0 then[] else[s])
 |[],b,s=>by simp[tI]
 |a::l,b,s=>by
  show _++tI Xs a (l++[s])=(_++tI Xs a l)++_;rw[W7 Xs l a s,fB];cases l<;>rfl
theorem AQ(Xs:List PB):∀(l:List Nat)(b:Nat),∀s∈tI Xs b l,s∈l
 |[],_,s,h=>by simp[tI] at h
 |a::l,b,s,h=>by
  rcases bQ.1 h with h|h
  ·split at h
   ·simp at h
   ·have:s=a:=by simpa using h
    rw[this];simp
  ·exact aT _ (AQ Xs l a s h)
theorem NG(Xs:List PB):∀(l:List Nat)(b:Nat),(tI Xs b l).length<=l.length
 |[],_=>by simp[tI]
 |a::l,b=>by
  have:=NG Xs l a;show(_++tI Xs a l).length<=_;rw[aX,cN];split<;>simp<;>omega
def dw(Xs:List PB)(A:List Nat):List Nat:=tI Xs (A.getLastD 0) A
def jZ(Xs:List PB)(T:List Nat):Nat:=bG (fun i j=>bn (xi Xs i).f (xi Xs j).f) T.tail (T.headD 0)
def sO(Xs:List PB)(T:List Nat):Nat:=(fR (fun j=>j == jZ Xs T) T).toNat
def di(Xs:List PB)(A:List Nat):List Nat:=(dw Xs A).drop (sO Xs (dw Xs A))++(dw Xs A).take (sO Xs (dw Xs A))
theorem Jq{P Q:Nat->Bool}{f:Nat->Nat}:∀(l:List Nat)(k:Nat),(∀x∈l,P (f x)=Q x)->fG P (l.map f) k=fG Q l k
 |[],_,_=>rfl
 |a::l,k,h=>by
  show(if P (f a) then(k:Int) else fG P (l.map f) (k+1))=if Q a then(k:Int) else fG Q l (k+1)
  rw[h a (by simp),Jq l (k+1) fun x hx=>h x (aT _ hx)]
theorem W8{P:Nat->Bool}:∀(l:List Nat)(k:Nat),(∃x∈l,P x=true)->(k:Int)<=fG P l k/\fG P l k<(k:Int)+l.length
 |[],_,h=>by obtain⟨x,hx,_⟩:=h;simp at hx
 |a::l,k,h=>by
  show(k:Int)<=(if P a then(k:Int) else fG P l (k+1))/\(if P a then(k:Int) else fG P l (k+1))<(k:Int)+(a::l).length
  by_cases ha:P a=true
  ·rw[aj ha,cN];omega
  ·rw[af ha,cN];obtain⟨x,hx,hp⟩:=h;have:=W8 l (k+1) ⟨x,(aP.1 hx).resolve_left (fun e=>ha (e▸hp)),hp⟩
   omega
theorem mV{w:World}{base:Nat}{e:TypeId}{v:Value}{n:Nat}{bl:List Nat}(h:w.ownsRow base e 1 v n (aL bl))(hne:bl≠[]):
  ∃gT cT,v=.slice (some ⟨gT,0,none⟩) n cT/\base<=gT/\gT<w.heap.size/\n<=cT/\cT<=maxLen/\n=bl.length/\∀(i b:Nat),bl[i]?=some b->w.cell? ⟨gT,0+i,none⟩=some (.pointer (some ⟨b,0,none⟩)):=by
 obtain⟨h1,h2⟩:=h;have hl:(aL bl).length=bl.length:=by simp[aL]
 rcases h2 with⟨_,h0⟩|⟨g,cap,cur,hv,hg,hb,hc,hm,hs,ht⟩
 ·rw[h0,BA,hl] at h1;exact absurd (gF.1 h1) hne
 ·refine⟨g,cap,hv,hg,lt_of_heap hb,hc,hm,by omega,fun i b hi=>?_⟩
  have hp:(aL bl)[i]?=some (.pointer (some ⟨b,0,none⟩)):=by unfold aL;rw[gz,hi];rfl
  rw[<-ht,kj] at hp;split at hp
  ·rw[ki];unfold World.cell?;rw[hb];simpa using hp
  ·cases hp
theorem ahB(bs:List Nat)(Xs:List PB)(hB:BD Xs)(g:Nat)(mk:Nat->Bool)(ow:Nat->Option Nat)(w:World)(hW:SW g bs Xs mk ow w)(A:List Nat)(Eu:0<A.length)(Jr:A.length<=85000000)(hA:∀a∈A,a<bs.length)(g0 lo cap:Nat)
  (HV:Hid (∀(i:Nat) a,A[i]?=some a->w.cell? ⟨g0,lo+i,none⟩=some (.pointer (some ⟨bx bs a,0,none⟩))))(hT:dw Xs A≠[])(T:List Nat)(bM R:Nat)(NH:dw Xs A=T)(uD:R<T.length)(qR:T.length<=85000000)(xN:Hid (di Xs A=T.drop R++T.take R))
  (HM:Hid (∀gT cT wr,wr.ownsRow w.heap.size 175 1 (.slice (some ⟨gT,0,none⟩) T.length cT) T.length (aL (T.map (bx bs)))->Below w.heap.size w wr->Calls Tryz.prog 213 #[.slice (some ⟨gT,0,none⟩) T.length cT,.func (.func 109) #[] #[]] wr fun e w''=>e=.returned (.pointer (some ⟨bM,0,none⟩))/\Below wr.heap.size wr w''))
  (HX:Hid (∀gT cT wr,wr.ownsRow w.heap.size 175 1 (.slice (some ⟨gT,0,none⟩) T.length cT) T.length (aL (T.map (bx bs)))->Below w.heap.size w wr->Calls Tryz.prog 212 #[.slice (some ⟨gT,0,none⟩) T.length cT,.pointer (some ⟨bM,0,none⟩)] wr fun e w''=>e=.returned (.int .i64 R)/\Below wr.heap.size wr w'')):
  Calls Tryz.prog 168 #[.slice (some ⟨g0,lo,none⟩) A.length cap] w fun e w'=>∃lv,e=.returned lv/\w'.ownsRow w.heap.size 175 1 lv (di Xs A).length (aL ((di Xs A).map (bx bs)))/\Below w.heap.size w w':=by
 obtain⟨i0,hi0,hz0,hz1,hz2⟩:=info_parts ym;have hlen:=hW.len;have NI:Hid (∀a∈A,iK w (bx bs a) (xi Xs a)):=fun a ha=>hW.rb.at (by rw[<-hlen];exact hA a ha)
 have NK:Hid (∀a∈A,∃l,LD (xi Xs a) l):=fun a ha=>hB.ld _ (gu (by rw[<-hlen];exact hA a ha))
 obtain⟨z,hz⟩:∃z,A[A.length-1]?=some z:=⟨_,aC (by omega)⟩
 have hzl:A.getLastD 0=z:=by
  rw[jE,mH,hz];rfl
 have c0:=HV.out _ z hz;have hzA:z∈A:=aZ hz;have hw1:IntKind.i64.wrap ((A.length:Int)-1)=((A.length-1:Nat):Int):=by rw[IntKind.wrap_i64];omega
 have bW:Hid (w.ownsRow w.heap.size 175 1 (.slice none 0 0) (tI Xs z (A.take 0)).length (aL ((tI Xs z (A.take 0)).map (bx bs)))/\Below w.heap.size w w):=⟨World.ownsRow_nil _ _ _ _,Below.refl _ _⟩
 go_enter Tryz.func168,Tryz.ntmps168
 go_wp2_with fail
 go_loopg [3,4,16] A.length (fun m lv pv iv wr=>∃k:Nat,k+m=A.length/\iv=.int .i64 k/\pv=.pointer (some ⟨bx bs ((A.take k).getLastD z),0,none⟩)/\Hid (wr.ownsRow w.heap.size 175 1 lv (tI Xs z (A.take k)).length (aL ((tI Xs z (A.take k)).map (bx bs)))/\Below w.heap.size w wr))
 case atStart=>exact⟨0,by omega,rfl,rfl,bW.out⟩
 case round=>
  obtain⟨k,hkn,rfl,rfl,HO⟩:=hrel;clear bW;by_cases hlt:k<A.length
  ·obtain⟨s,hs⟩:∃s,A[k]?=some s:=⟨_,aC hlt⟩;obtain⟨jk,hb2⟩:=HO.out;have W9:s∈A:=aZ hs;have Xa:(A.take k).getLastD z∈A:=by
    rw[jE];cases hh:(A.take k).getLast? with
    |none=>exact hzA
    |some y=>exact qh (pB hh)
   have c1:=(hb2.cell (p:=⟨g0,lo+k,none⟩) (lt_of_cell (HV.out k s hs))).trans (HV.out k s hs);have hS:=(NI.out s W9).below hb2;have hP:=(NI.out _ Xa).below hb2;have s0:=hS.c0;have s1:=hS.c1;have p0:=hP.c0;have p1:=hP.c1;obtain⟨l1,xG⟩:=NK.out s W9;obtain⟨l2,hl2⟩:=NK.out _ Xa;have Dz:Hid (∀w',Calls Tryz.prog 179 #[.agg #[.complex .f64 (xi Xs s).wa (xi Xs s).wb,.float .f64 (xi Xs s).sh],.agg #[.complex .f64 (xi Xs ((A.take k).getLastD z)).wa (xi Xs ((A.take k).getLastD z)).wb,.float .f64 (xi Xs ((A.take k).getLastD z)).sh]] w' fun r w''=>r=.returned (.bool (decide (eW (xi Xs s) (xi Xs ((A.take k).getLastD z))=0)))/\Below w'.heap.size w' w''):=fun w'=>ahr _ _ xG hl2 w'
   have htk:A.take (k+1)=A.take k++[s]:=by rw[jF,hs];rfl
   have Xb:Hid ((A.take (k+1)).getLastD z=s):=by
    show(A.take (k+1)).getLastD z=s;rw[htk];simp
   have mQ:Hid (tI Xs z (A.take (k+1))=tI Xs z (A.take k)++(if decide (eW (xi Xs s) (xi Xs ((A.take k).getLastD z))=0)=true then[] else[s])):=by
    show tI Xs z (A.take (k+1))=_;rw[htk,W7];simp only[xf]
   have qR:=NG Xs (A.take k) z;rw[iE] at qR;have hbz:=hb2.size;have fN:(k:Int)<(A.length:Int):=by omega
   have hsz:bx bs s<wr.heap.size:=lt_of_cell s0;have lH:bx bs ((A.take k).getLastD z)<wr.heap.size:=lt_of_cell p0;have oU:Below wr.heap.size wr wr.drew:=(Below.refl _ _).drew;have lL:Hid (wr.ownsRow w.heap.size 175 1 u3 (tI Xs z (A.take k)).length (aL ((tI Xs z (A.take k)).map (bx bs)))):=jk;have gL:Hid (Below w.heap.size w wr):=hb2;clear hS hP xG hl2 htk hs HO jk hb2 c0 hz hw1;generalize hbb:bx bs s=bS at*;generalize bx bs ((A.take k).getLastD z)=bP at*;generalize decide (eW (xi Xs s) (xi Xs ((A.take k).getLastD z))=0)=B at*;generalize(xi Xs s).wa=X1 at*;generalize(xi Xs s).wb=X2 at*;generalize(xi Xs s).sh=X3 at*;generalize(xi Xs ((A.take k).getLastD z)).wa=Y1 at*;generalize(xi Xs ((A.take k).getLastD z)).wb=Y2 at*;generalize(xi Xs ((A.take k).getLastD z)).sh=Y3 at*;generalize tI Xs z (A.take k)=T at*
   go_wp2_with fail
   go_region_held3 (fun w'=>w'.cell? ⟨bS,0,none⟩=some (.complex .f64 X1 X2)/\w'.cell? ⟨bS,1,none⟩=some (.float .f64 X3)/\w'.cell? ⟨bP,0,none⟩=some (.complex .f64 Y1 Y2)/\w'.cell? ⟨bP,1,none⟩=some (.float .f64 Y3)) (go_keep) ((go_at_call 179;refine(Dz.out _).mono ?_;rintro e w5 ⟨rfl,az⟩;have mi:Below wr.heap.size wr w5:=oU.trans az;have e0:=(mi.cell (p:=⟨bS,0,none⟩) hsz).trans s0;have e1:=(mi.cell (p:=⟨bS,1,none⟩) hsz).trans s1;have e2:=(mi.cell (p:=⟨bP,0,none⟩) lH).trans p0;have e3:=(mi.cell (p:=⟨bP,1,none⟩) lH).trans p1))
   all_goals
    have fF:Hid (Below w.heap.size w w5):=gL.out.trans (mi.mono hbz);have dN:w5.ownsRow w.heap.size 175 1 u3 T.length (aL (T.map (bx bs))):=aU lL.out fun k hk=>mi.block k (aB lL.out k hk).2
    have Ah:=fF.out.size;clear e0 e1 e2 e3 s0 s1 p0 p1 oU mi lL gL Dz;cases B
    ·have Ev:Hid (tI Xs z (A.take (k+1))=T++[s]):=mQ.out;have hnb:(w5.alloc (.cells #[.pointer (some ⟨bS,0,none⟩)] 175)).heap[w5.heap.size]?=some (.cells #[.pointer (some ⟨bS,0,none⟩)] 175 (0,0)):=heap_alloc_new _ _;have fY:(w5.alloc (.cells #[.pointer (some ⟨bS,0,none⟩)] 175)).ownsRow w.heap.size 175 1 u3 T.length (aL (T.map (bx bs))):=aU dN fun k hk=>Below.heap_alloc _ _ _ (aB dN k hk).2
     have Cw:=dN;clear mQ dN
     go_wp2_with (at_builtin;refine wpList_append_lies _ rfl (.tmp 32) (.tmp 34) 185 rfl w.heap.size 175 i0 _ 1 8 Tryz.underlying185 hi0 hz0 hz1 hz2 rfl (by decide) u3 T.length (aL (T.map (bx bs))) rfl fY ⟨w5.heap.size,0,none⟩ 1 1 [.pointer (some ⟨bS,0,none⟩)] rfl rfl (World.news_of_block (cs:= #[.pointer (some ⟨bS,0,none⟩)]) (t:=175) (fr:=(0,0)) hnb) (by simp[Value.oneCell']) (by decide) (by unfold maxLen;omega) (by omega) (by simp;omega) (w5.heap.size+1) (by simp) ?_;intro g' cap' w8 cU bo gJ pP)
     have cI:Hid (w8.ownsRow w.heap.size 175 1 (.slice (some ⟨g',0,none⟩) (T.length+1) cap') (tI Xs z (A.take (k+1))).length (aL ((tI Xs z (A.take (k+1))).map (bx bs)))/\Below w.heap.size w w8):=by
      show _/\_;rw[Ev.out,aX,ja];refine⟨?_,(fF.out.alloc Ah _).grown bo (by simp;omega) (fun k hk=>(aB Cw k hk).1)⟩
      have e:aL (T.map (bx bs)++[s].map (bx bs))=aL (T.map (bx bs))++[.pointer (some ⟨bS,0,none⟩)]:=by simp[aL,hbb]
      rw[e];exact cU
     have Ew:Hid (bx bs s=bS):=hbb;clear cU bo gJ hnb fY Cw Ev hbb
     go_wp2_with fail
     go_roundg (gk-1)
     case measure=>omega
     case rel=>exact⟨k+1,by omega,by go_num,by rw[Xb.out,Ew.out],cI.out⟩
    ·have Ev:Hid (tI Xs z (A.take (k+1))=T):=by
      have:=mQ.out;rw[aj rfl,q9] at this;exact this
     have cI:Hid (w5.ownsRow w.heap.size 175 1 u3 (tI Xs z (A.take (k+1))).length (aL ((tI Xs z (A.take (k+1))).map (bx bs)))/\Below w.heap.size w w5):=by
      show _/\_;rw[Ev.out];exact⟨dN,fF.out⟩
     have Ew:Hid (bx bs s=bS):=hbb;clear mQ dN hbb Ev
     go_wp2_with fail
     go_roundg (gk-1)
     case measure=>omega
     case rel=>exact⟨k+1,by omega,by go_num,by rw[Xb.out,Ew.out],cI.out⟩
  ·have hk:k=A.length:=by omega
   subst hk;have jk:=HO.out.1;have gL:Hid (Below w.heap.size w wr):=HO.out.2;rw[gm] at jk;have Xc:tI Xs z A=T:=by rw[<-NH];unfold dw;rw[hzl]
   rw[Xc] at jk;obtain⟨gT,cT,rfl,hgT,dH,hcT,hcm,hd1,hd2⟩:=mV jk (by rw[<-NH];simpa using hT)
   clear hd1 hd2;have lL:Hid (wr.ownsRow w.heap.size 175 1 (.slice (some ⟨gT,0,none⟩) T.length cT) T.length (aL (T.map (bx bs)))):=jk;have anS:cT<=9223372036854775807:=by unfold maxLen at hcm;omega
   have Xd:=HM.out gT cT wr lL.out gL.out;have Ex:Hid (Calls Tryz.prog 213 #[.slice (some ⟨gT,0,none⟩) T.length cT,.func (.func 109) #[] #[]] wr fun e w''=>e=.returned (.pointer (some ⟨bM,0,none⟩))/\Below wr.heap.size wr w''):=Xd
   clear HM Xd jk HO NI NK HV hW hB Xc NH hcm c0 hz hw1 hT hA hzA hzl
   go_wp2_with fail
   refine Ex.out.mono ?_;rintro e w1 ⟨rfl,hb1⟩;have AO:w1.ownsRow w.heap.size 175 1 (.slice (some ⟨gT,0,none⟩) T.length cT) T.length (aL (T.map (bx bs))):=aU lL.out fun k hk=>hb1.block k (aB lL.out k hk).2
   have vM:Below w.heap.size w w1:=gL.out.trans (hb1.mono gL.out.size);have Xe:Hid (Calls Tryz.prog 212 #[.slice (some ⟨gT,0,none⟩) T.length cT,.pointer (some ⟨bM,0,none⟩)] w1 fun e w''=>e=.returned (.int .i64 R)/\Below w1.heap.size w1 w''):=HX.out gT cT w1 AO vM
   have NM:Hid (w1.ownsRow w.heap.size 175 1 (.slice (some ⟨gT,0,none⟩) T.length cT) T.length (aL (T.map (bx bs)))):=AO;have wz:Hid (Below w.heap.size w w1):=vM;clear HX Ex AO vM lL gL hb1
   go_wp2_with fail
   refine Xe.out.mono ?_;rintro e w2 ⟨rfl,hb2⟩;have lL:Hid (w2.ownsRow w.heap.size 175 1 (.slice (some ⟨gT,0,none⟩) T.length cT) T.length (aL (T.map (bx bs)))):=aU NM.out fun k hk=>hb2.block k (aB NM.out k hk).2
   have gL:Hid (Below w.heap.size w w2):=wz.out.trans (hb2.mono wz.out.size);clear Xe NM wz hb2;have Xf:Hid (∀w' sb,Below w2.heap.size w2 w'->w'.cell? ⟨sb,0,none⟩=some (.slice (some ⟨gT,R,none⟩) (T.length-R) (cT-R))->w'.cell? ⟨sb,1,none⟩=some (.slice (some ⟨gT,0,none⟩) R cT)->Calls Tryz.prog 214 #[.slice (some ⟨sb,0,none⟩) 2 2] w' fun e w''=>∃lv,e=.returned lv/\w''.ownsRow w'.heap.size 175 1 lv (di Xs A).length (aL ((di Xs A).map (bx bs)))/\Below w'.heap.size w' w''):=fun w' sb hb c0 c1=>by
    obtain⟨lM,j4,hv,_,Ty,_,_,_,hcell⟩:=mV lL.out (by intro h;have:=au List.length h;simp at this;rw[this] at uD;simp at uD)
    have hgg:lM=gT/\j4=cT:=by
     injection hv with h1 _ h3;injection h1 with h1;injection h1 with h1;exact⟨h1.symm,h3.symm⟩
    obtain⟨rfl,rfl⟩:=hgg;have NN:gN [(R,j4-R,(T.drop R).map (bx bs)),(0,j4,(T.take R).map (bx bs))]=(di Xs A).map (bx bs):=by
     rw[xN.out,ja];simp[gN]
    have xG:((T.drop R).map (bx bs)).length=T.length-R:=by simp
    have hl2:((T.take R).map (bx bs)).length=R:=by simp;omega
    have hcl:((di Xs A).map (bx bs)).length=T.length:=by
     rw[xN.out,iF,aX];simp;omega
    have hk:=ahx [(R,j4-R,(T.drop R).map (bx bs)),(0,j4,(T.take R).map (bx bs))] lM sb 2 w' (by rw[NN,hcl];omega) (by rw[NN,hcl];exact qR) (by simp)
     (fun k it hk=>by
      rcases k with _|_|k
      ·have e:it=(R,j4-R,(T.drop R).map (bx bs)):=by simpa using hk.symm
       rw[e];unfold Et;simp only[xG];exact c0
      ·have e:it=(0,j4,(T.take R).map (bx bs)):=by simpa using hk.symm
       rw[e];unfold Et;simp only[hl2];exact c1
      ·simp at hk)
     (fun it hit i b hi=>by
      have hgl:lM<w2.heap.size:=Ty;rcases aP.1 hit with e|hit
      ·rw[e] at hi⊢;simp only at hi⊢;have h2:=hcell (R+i) b (by rw[<-hi,List.map_drop,KH])
       rw[ki] at h2;exact(hb.cell (p:=⟨lM,R+i,none⟩) hgl).trans h2
      ·have e:it=(0,j4,(T.take R).map (bx bs)):=by simpa using hit
       rw[e] at hi⊢;simp only at hi⊢;have h2:=hcell i b (by
        rw[abp,kj] at hi;split at hi
        ·exact hi
        ·cases hi)
       exact(hb.cell (p:=⟨lM,0+i,none⟩) hgl).trans h2)
    rw[NN,iF] at hk;exact hk
   have yx:(0:Int)<=(R:Int):=by omega
   have hRi:(R:Int)<=(T.length:Int):=by omega
   have hTc:(T.length:Int)<=(cT:Int):=by omega
   have hRc:(R:Int)<=(cT:Int):=by omega
   have hcR:¬cT=R:=by omega
   have Jo:Hid (∀o,Below w2.heap.size w2 (w2.alloc o).drew):=fun o=>((Below.refl _ _).alloc (ay _) o).drew
   have HBD:Hid (Below w2.heap.size w2 w2.drew):=(Below.refl _ _).drew;have NQ:Below w2.heap.size w2 (w2.alloc (.cells #[.slice (some ⟨gT,R,none⟩) (T.length-R) (cT-R),.slice (some ⟨gT,0,none⟩) R cT] 185)).drew:=((Below.refl _ _).alloc (ay _) _).drew;have hcc:=Xf.out _ w2.heap.size NQ (cell_of (w:=(w2.alloc (.cells #[.slice (some ⟨gT,R,none⟩) (T.length-R) (cT-R),.slice (some ⟨gT,0,none⟩) R cT] 185)).drew) (heap_alloc_new _ _) 0) (cell_of (w:=(w2.alloc (.cells #[.slice (some ⟨gT,R,none⟩) (T.length-R) (cT-R),.slice (some ⟨gT,0,none⟩) R cT] 185)).drew) (heap_alloc_new _ _) 1);have ahG:=gL.out.size;have sJ:Hid (Calls Tryz.prog 214 #[.slice (some ⟨w2.heap.size,0,none⟩) 2 2] (w2.alloc (.cells #[.slice (some ⟨gT,R,none⟩) (T.length-R) (cT-R),.slice (some ⟨gT,0,none⟩) R cT] 185)).drew fun e w''=>∃lv,e=.returned lv/\w''.ownsRow w.heap.size 175 1 lv (di Xs A).length (aL ((di Xs A).map (bx bs)))/\Below w.heap.size w w''):=by
    refine hcc.mono ?_;rintro e w9 ⟨Js,rfl,xZ,oX⟩;exact⟨Js,rfl,ur xZ (by simp[World.drew];omega),gL.out.trans ((NQ.trans (oX.mono (by simp[World.drew]))).mono ahG)⟩
   clear lL xN Xf hcc NQ Jo HBD
   go_wp2_with fail
   go_region_held3 (fun _=>True) (go_keep) ((go_at_call 214;refine sJ.out.mono ?_;rintro e w9 ⟨Js,rfl,xZ,oX⟩))
   all_goals
    have HF:Hid (w9.ownsRow w.heap.size 175 1 Js (di Xs A).length (aL ((di Xs A).map (bx bs)))/\Below w.heap.size w w9):=⟨xZ,oX⟩;clear xZ oX gL sJ
    go_wp2_with fail
    go_ret
    exact⟨Js,rfl,HF.out⟩
theorem Xg(Xs:List PB){T:List Nat}(hT:T≠[]):jZ Xs T∈T:=by
 cases T with
 |nil=>exact absurd rfl hT
 |cons t0 tr=>
  unfold jZ;rcases wu (fun i j=>bn (xi Xs i).f (xi Xs j).f) tr t0 with e|e
  ·rw[show(t0::tr).tail=tr from rfl,show(t0::tr).headD 0=t0 from rfl,e];simp
  ·exact aT _ e
theorem ahH(Xs:List PB){T:List Nat}(hT:T≠[]):fR (fun j=>j == jZ Xs T) T=(sO Xs T:Int)/\sO Xs T<T.length:=by
 have hbd:=W8 (P:=fun j=>j == jZ Xs T) T 0 ⟨_,Xg Xs hT,by simp⟩
 have e2:fR (fun j=>j == jZ Xs T) T=fG (fun j=>j == jZ Xs T) T 0:=rfl
 have e3:sO Xs T=(fG (fun j=>j == jZ Xs T) T 0).toNat:=rfl
 rw[e2,e3];omega
theorem NR(Xs:List PB)(A:List Nat):∀j∈dw Xs A,j∈A:=fun j hj=>AQ Xs A _ j hj
theorem NU(Xs:List PB)(A:List Nat):(dw Xs A).length<=A.length:=NG Xs A _
theorem ahI(bs:List Nat)(Xs:List PB)(hB:BD Xs)(g:Nat)(mk:Nat->Bool)(ow:Nat->Option Nat)(w:World)(hW:SW g bs Xs mk ow w)(A:List Nat)(Eu:0<A.length)(Jr:A.length<=85000000)(hA:∀a∈A,a<bs.length)(g0 lo cap:Nat)
  (HV:∀(i:Nat) a,A[i]?=some a->w.cell? ⟨g0,lo+i,none⟩=some (.pointer (some ⟨bx bs a,0,none⟩)))(hT:dw Xs A≠[]):
  Calls Tryz.prog 168 #[.slice (some ⟨g0,lo,none⟩) A.length cap] w fun e w'=>∃lv,e=.returned lv/\w'.ownsRow w.heap.size 175 1 lv (di Xs A).length (aL ((di Xs A).map (bx bs)))/\Below w.heap.size w w':=by
 have hlen:=hW.len;have oI:∀j∈dw Xs A,j<bs.length:=fun j hj=>hA j (NR Xs A j hj)
 have qR:(dw Xs A).length<=85000000:=fg (NU Xs A) Jr;have hlm:=Xg Xs hT;obtain⟨hr1,hr2⟩:=ahH Xs hT;refine ahB bs Xs hB g mk ow w hW A Eu Jr hA g0 lo cap HV hT (dw Xs A) (bx bs (jZ Xs (dw Xs A))) (sO Xs (dw Xs A)) rfl hr2 qR rfl ?_ ?_
 ·intro gT cT wr ho hb;generalize dw Xs A=T at*;obtain⟨lM,j4,hv,_,dH,_,_,_,hcell⟩:=mV ho (by intro h;exact hT (qg.1 h))
  have hgg:lM=gT/\j4=cT:=by
   injection hv with h1 _ h3;injection h1 with h1;injection h1 with h1;exact⟨h1.symm,h3.symm⟩
  obtain⟨rfl,rfl⟩:=hgg;obtain⟨t0,tr,rfl⟩:∃t0 tr,T=t0::tr:=by
   cases T with
   |nil=>exact absurd rfl hT
   |cons a r=>exact⟨a,r,rfl⟩
  have hR:=hW.rb.below hb;have hm:=ahs (fun b b'=>bn (xi Xs (bs.idxOf b)).f (xi Xs (bs.idxOf b')).f) (bx bs t0) (tr.map (bx bs)) lM 0 j4 wr (by rw[iF];simp only[cN] at qR;omega)
   (fun i b hi=>hcell i b hi)
   (fun b h1 c h2 w'' hw=>by
    have key:∀b,b∈bx bs t0::tr.map (bx bs)->∃j,j<bs.length/\b=bx bs j:=fun b hb=>by
     have hb2:b∈(t0::tr).map (bx bs):=hb;obtain⟨j,hj,rfl⟩:=aN.1 hb2;exact⟨j,oI j hj,rfl⟩
    obtain⟨j1,q1,rfl⟩:=key b h1;obtain⟨j2,q2,rfl⟩:=key c h2;have AB:=hR.below hw;rw[mj hW.nd q1,mj hW.nd q2];refine(M5 _ _ (hB.v _ (gu (by rw[<-hlen];exact q1))) (hB.v _ (gu (by rw[<-hlen];exact q2))) _ _ w'' (AB.at (by rw[<-hlen];exact q1)) (AB.at (by rw[<-hlen];exact q2))).mono ?_
    rintro e w3 ⟨rfl,hb3,_⟩;exact⟨rfl,hb3⟩)
  have e1:bG (fun b b'=>bn (xi Xs (bs.idxOf b)).f (xi Xs (bs.idxOf b')).f) (tr.map (bx bs)) (bx bs t0)=bx bs (jZ Xs (t0::tr)):=by
   unfold jZ;refine Eh _ _ fun j hj k hk=>?_
   simp only[mj hW.nd (oI j hj),mj hW.nd (oI k hk)]
  rw[e1,iF] at hm;exact hm
 ·intro gT cT wr ho hb;generalize dw Xs A=T at*;obtain⟨lM,j4,hv,_,dH,_,_,_,hcell⟩:=mV ho (by intro h;exact hT (qg.1 h))
  have hgg:lM=gT/\j4=cT:=by
   injection hv with h1 _ h3;injection h1 with h1;injection h1 with h1;exact⟨h1.symm,h3.symm⟩
  obtain⟨rfl,rfl⟩:=hgg;have hm:=ahv (bx bs (jZ Xs T)) (T.map (bx bs)) lM 0 j4 wr (by rw[iF];exact qR) (fun i b hi=>hcell i b hi) (fun b hb'=>by
   have WV:∃j,j<bs.length/\b=bx bs j:=by
    rcases hb' with rfl|hb'
    ·exact⟨_,oI _ hlm,rfl⟩
    ·obtain⟨j,hj,rfl⟩:=aN.1 hb';exact⟨j,oI j hj,rfl⟩
   obtain⟨j,hj,rfl⟩:=WV;exact⟨_,(hb.block _ (hW.lt (pT hj))).trans (hW.side j hj)⟩)
  have e1:fR (fun b=>b == bx bs (jZ Xs T)) (T.map (bx bs))=fR (fun j=>j == jZ Xs T) T:=Jq _ _ fun x hx=>by
   by_cases e:x=jZ Xs T
   ·rw[e];simp
   ·have h1:(x == jZ Xs T)=false:=by simpa using e
    have h2:(bx bs x == bx bs (jZ Xs T))=false:=by simpa using fun h=>e (Nz hW.nd (oI x hx) (oI _ hlm) h)
    rw[h1,h2]
  rw[e1,hr1,iF] at hm;exact hm
def kV(Xs:List PB)(s j:Nat):Bool:=decide ((xi Xs s).t=(xi Xs j).f)
def ie(Xs:List PB)(O:List Nat)(s:Nat):Int:=fR (kV Xs s) O
def jo(Xs:List PB)(p:List Nat×List (List Nat))(s:Nat):List Nat×List (List Nat):=
 if 0<=ie Xs (p.1++[s]) s then((p.1++[s]).take (ie Xs (p.1++[s]) s).toNat,p.2++[di Xs ((p.1++[s]).drop (ie Xs (p.1++[s]) s).toNat)]) else(p.1++[s],p.2)
def bJ(Xs:List PB)(W:List Nat):List Nat×List (List Nat):=W.foldl (jo Xs) ([],[])
def bp(Xs:List PB)(W:List Nat):List (List Nat):=(bJ Xs W).2
theorem wJ(Xs:List PB)(W:List Nat)(s:Nat):bJ Xs (W++[s])=jo Xs (bJ Xs W) s:=by unfold bJ;rw[KJ];rfl
theorem Xh:(Tryz.prog.info? 185).map (fun i=>(i.zero,i.size,i.bytes))=some (some (.slice none 0 0),1,24):=by kernel_rfl
structure RI(bs:List Nat)(w:World)(lo lr:Value)(O:List Nat)(Rs:List (List Nat))(rv:List Value)(wr:World):Prop where
 oo:wr.ownsRow w.heap.size 175 1 lo O.length (aL (O.map (bx bs)))
 ro:wr.ownsRow w.heap.size 185 1 lr rv.length rv
 len:rv.length=Rs.length
 ring:∀(i:Nat) v r,rv[i]?=some v->Rs[i]?=some r->wr.ownsRow w.heap.size 175 1 v r.length (aL (r.map (bx bs)))/\∀k,v.ownBlock=some k->lo.ownBlock≠some k/\lr.ownBlock≠some k
 ne:∀k,lo.ownBlock=some k->lr.ownBlock≠some k
 below:Below w.heap.size w wr
theorem RI.keep{bs:List Nat}{w:World}{lo lr:Value}{O:List Nat}{Rs:List (List Nat)}{rv:List Value}{wr w':World}(h:RI bs w lo lr O Rs rv wr)(hb:Below wr.heap.size wr w'):RI bs w lo lr O Rs rv w':=
 ⟨aU h.oo fun k hk=>hb.block k (aB h.oo k hk).2,aU h.ro fun k hk=>hb.block k (aB h.ro k hk).2,h.len,fun i v r h1 h2=>⟨aU (h.ring i v r h1 h2).1 fun k hk=>hb.block k (aB (h.ring i v r h1 h2).1 k hk).2,(h.ring i v r h1 h2).2⟩,h.ne,h.below.trans (hb.mono h.below.size)⟩
theorem RI.ahJ{bs:List Nat}{w:World}{lo lr:Value}{O:List Nat}{Rs:List (List Nat)}{rv:List Value}{wr:World}(h:RI bs w lo lr O Rs rv wr)(s:Nat)(o:Obj){g' cap':Nat}{w8:World}(bo:(wr.alloc o).grownBy w8 lo.ownBlock)
  (cU:w8.ownsRow w.heap.size 175 1 (.slice (some ⟨g',0,none⟩) (O.length+1) cap') (O.length+1) (aL (O.map (bx bs))++[.pointer (some ⟨bx bs s,0,none⟩)]))(hat:lo.ownBlock=some g'\/g'=wr.heap.size+1):
  RI bs w (.slice (some ⟨g',0,none⟩) (O.length+1) cap') lr (O++[s]) Rs rv w8:=by
 have hold:∀k,k<wr.heap.size->lo.ownBlock≠some k->w8.heap[k]?=wr.heap[k]?:=fun k hk hne=>(bo.block k (by simp;omega) (fun e=>hne e.symm)).trans (Below.heap_alloc _ _ _ hk)
 refine⟨?_,aU h.ro fun k hk=>hold k (aB h.ro k hk).2 (fun e=>h.ne k e hk),h.len,fun i v r h1 h2=>?_,fun k hk=>?_,?_⟩
 ·rw[ja,aX];have e:aL (O.map (bx bs)++[s].map (bx bs))=aL (O.map (bx bs))++[.pointer (some ⟨bx bs s,0,none⟩)]:=by simp[aL]
  rw[e];exact cU
 ·obtain⟨k1,k2⟩:=h.ring i v r h1 h2;refine⟨aU k1 fun k hk=>hold k (aB k1 k hk).2 (k2 k hk).1,fun k hk=>⟨fun e=>?_,(k2 k hk).2⟩⟩
  have e':g'=k:=by simpa[Value.ownBlock] using e
  subst e';rcases hat with hat|hat
  ·exact(k2 _ hk).1 hat
  ·have:=(aB k1 _ hk).2;omega
 ·have e':g'=k:=by simpa[Value.ownBlock] using hk
  subst e';intro hr;rcases hat with hat|hat
  ·exact h.ne _ hat hr
  ·have:=(aB h.ro _ hr).2;omega
 ·exact(h.below.alloc h.below.size _).grown bo (by have:=h.below.size;simp;omega) (fun k hk=>(aB h.oo k hk).1)
theorem RI.ahK{bs:List Nat}{w:World}{lo lr:Value}{O:List Nat}{Rs:List (List Nat)}{rv:List Value}{wr:World}(h:RI bs w lo lr O Rs rv wr){v:Value}{r:List Nat}{B:Nat}(hv:wr.ownsRow B 175 1 v r.length (aL (r.map (bx bs))))(hB:w.heap.size<=B)(hlB:∀k,lo.ownBlock=some k\/lr.ownBlock=some k->k<B)(o:Obj){g' cap':Nat}{w8:World}(bo:(wr.alloc o).grownBy w8 lr.ownBlock)
  (cU:w8.ownsRow w.heap.size 185 1 (.slice (some ⟨g',0,none⟩) (rv.length+1) cap') (rv.length+1) (rv++[v]))(hat:lr.ownBlock=some g'\/g'=wr.heap.size+1):
  RI bs w lo (.slice (some ⟨g',0,none⟩) (rv.length+1) cap') O (Rs++[r]) (rv++[v]) w8:=by
 have hold:∀k,k<wr.heap.size->lr.ownBlock≠some k->w8.heap[k]?=wr.heap[k]?:=fun k hk hne=>(bo.block k (by simp;omega) (fun e=>hne e.symm)).trans (Below.heap_alloc _ _ _ hk)
 have hvk:∀k,v.ownBlock=some k->B<=k/\k<wr.heap.size:=fun k hk=>aB hv k hk
 refine⟨aU h.oo fun k hk=>hold k (aB h.oo k hk).2 (h.ne k hk),?_,by rw[aX,aX,h.len];rfl,fun i u q h1 h2=>?_,fun k hk e=>?_,?_⟩
 ·rw[aX];exact cU
 ·by_cases hi:i<rv.length
  ·rw[fC hi] at h1;rw[fC (by rw[<-h.len];exact hi)] at h2
   obtain⟨k1,k2⟩:=h.ring i u q h1 h2;refine⟨aU k1 fun k hk=>hold k (aB k1 k hk).2 (k2 k hk).2,fun k hk=>⟨(k2 k hk).1,fun e=>?_⟩⟩
   have e':g'=k:=by simpa[Value.ownBlock] using e
   subst e';rcases hat with hat|hat
   ·exact(k2 _ hk).2 hat
   ·have:=(aB k1 _ hk).2;omega
  ·have hi2:i=rv.length:=by
    have:=(bZ.1 h1).1;simp at this;omega
   subst hi2;have e1:u=v:=by simpa using h1.symm
   have e2:q=r:=by rw[h.len] at h2;simpa using h2.symm
   subst e1 e2;refine⟨ur (aU hv fun k hk=>hold k (hvk k hk).2 (fun e=>by have:=hlB k (ah e);have:=(hvk k hk).1;omega)) hB,fun k hk=>⟨fun e=>by have:=hlB k (ag e);have:=(hvk k hk).1;omega,fun e=>?_⟩⟩
   have e':g'=k:=by simpa[Value.ownBlock] using e
   subst e';rcases hat with hat|hat
   ·have:=hlB _ (ah hat);have:=(hvk _ hk).1;omega
   ·have:=(hvk _ hk).2;omega
 ·have e':g'=k:=by simpa[Value.ownBlock] using e
  subst e';rcases hat with hat|hat
  ·exact h.ne _ hk hat
  ·have:=(aB h.oo _ hk).2;omega
 ·exact(h.below.alloc h.below.size _).grown bo (by have:=h.below.size;simp;omega) (fun k hk=>(aB h.ro k hk).1)
theorem ahL{w:World}{base:Nat}{e:TypeId}{g n cap:Nat}{xs:List Value}(h:w.ownsRow base e 1 (.slice (some ⟨g,0,none⟩) n cap) n xs){k:Nat}(hk:k<=n):w.ownsRow base e 1 (.slice (some ⟨g,0,none⟩) k cap) k (xs.take k):=by
 obtain⟨h1,h2⟩:=h;rcases h2 with⟨h0,_⟩|⟨g1,c1,cur,hv,hg,hb,hc,hm,hs,ht⟩
 ·cases h0
 ·refine⟨by rw[iE,h1];omega,ah ⟨g1,c1,cur,?_,hg,hb,by omega,hm,hs,?_⟩⟩
  ·injection hv with a1 _ a3;rw[a1,a3]
  ·rw[<-ht,BI];congr 1;omega
theorem RI.ahM{bs:List Nat}{w:World}{lr:Value}{g n cap:Nat}{O:List Nat}{Rs:List (List Nat)}{rv:List Value}{wr:World}(h:RI bs w (.slice (some ⟨g,0,none⟩) n cap) lr O Rs rv wr){k:Nat}(hk:k<=O.length)(hn:n=O.length):RI bs w (.slice (some ⟨g,0,none⟩) k cap) lr (O.take k) Rs rv wr:=by
 subst hn;refine⟨?_,h.ro,h.len,h.ring,h.ne,h.below⟩;have:=ahL h.oo hk;have e:(aL (O.map (bx bs))).take k=aL ((O.take k).map (bx bs)):=by unfold aL;rw[abp,abp]
 rw[e] at this;have hl:(O.take k).length=k:=by rw[iE];omega
 rw[hl];exact this
end Go.Proofs.YtkjhhooecopolaaGreatDoor

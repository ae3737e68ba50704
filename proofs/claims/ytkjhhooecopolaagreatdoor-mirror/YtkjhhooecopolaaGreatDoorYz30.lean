import Derived.Test.YtkjhhooecopolaaGreatDoorYz29
set_option maxRecDepth 100000
set_option maxHeartbeats 4000000
namespace Go.Proofs.YtkjhhooecopolaaGreatDoor
open Go.RowKit
def tI(Xs:List PB):Nat->List Nat->List Nat
 |_,[]=>[]
 |b,s::r=>(if fq (xi Xs s) (xi Xs b)=0 then[] else[s])++tI Xs s r
theorem Y0(Xs:List PB):∀(l:List Nat)(b s:Nat),tI Xs b (l++[s])=tI Xs b l++(if fq (xi Xs s) (xi Xs (l.getLastD b))=0 then[] else[s])
 |[],b,s=>by simp[tI]
 |a::l,b,s=>by
  show _++tI Xs a (l++[s])=(_++tI Xs a l)++_;rw[Y0 Xs l a s,fI];cases l<;>rfl
theorem BR(Xs:List PB):∀(l:List Nat)(b:Nat),∀s∈tI Xs b l,s∈l
 |[],_,s,h=>by simp[tI] at h
 |a::l,b,s,h=>by
  rcases cu.1 h with h|h
  ·split at h
   ·simp at h
   ·have:s=a:=by simpa using h
    rw[this];simp
  ·exact bz _ (BR Xs l a s h)
theorem OZ(Xs:List PB):∀(l:List Nat)(b:Nat),(tI Xs b l).length<=l.length
 |[],_=>by simp[tI]
 |a::l,b=>by
  have:=OZ Xs l a;show(_++tI Xs a l).length<=_;rw[aX,bW];split<;>simp<;>omega
def dh(Xs:List PB)(A:List Nat):List Nat:=tI Xs (A.getLastD 0) A
def kf(Xs:List PB)(T:List Nat):Nat:=bC (fun i j=>bg (xi Xs i).f (xi Xs j).f) T.tail (T.headD 0)
def tV(Xs:List PB)(T:List Nat):Nat:=(fU (fun j=>j == kf Xs T) T).toNat
def cV(Xs:List PB)(A:List Nat):List Nat:=(dh Xs A).drop (tV Xs (dh Xs A))++(dh Xs A).take (tV Xs (dh Xs A))
theorem JU{P Q:Nat->Bool}{f:Nat->Nat}:∀(l:List Nat)(k:Nat),(∀x∈l,P (f x)=Q x)->fG P (l.map f) k=fG Q l k
 |[],_,_=>rfl
 |a::l,k,h=>by
  show(if P (f a) then(k:Int) else fG P (l.map f) (k+1))=if Q a then(k:Int) else fG Q l (k+1)
  rw[h a (by simp),JU l (k+1) fun x hx=>h x (bz _ hx)]
theorem Y4{P:Nat->Bool}:∀(l:List Nat)(k:Nat),(∃x∈l,P x=true)->(k:Int)<=fG P l k/\fG P l k<(k:Int)+l.length
 |[],_,h=>by obtain⟨x,hx,_⟩:=h;simp at hx
 |a::l,k,h=>by
  show(k:Int)<=(if P a then(k:Int) else fG P l (k+1))/\(if P a then(k:Int) else fG P l (k+1))<(k:Int)+(a::l).length
  by_cases ha:P a=true
  ·rw[ah ha,bW];omega
  ·rw[aa ha,bW];obtain⟨x,hx,hp⟩:=h;have:=Y4 l (k+1) ⟨x,(aV.1 hx).resolve_left (fun e=>ha (e▸hp)),hp⟩
   omega
theorem nN{w:World}{base:Nat}{e:TypeId}{v:Value}{n:Nat}{bl:List Nat}(h:w.ownsRow base e 1 v n (aL bl))(hne:bl≠[]):
  ∃gT cT,v=.slice (some ⟨gT,0,none⟩) n cT/\base<=gT/\gT<w.heap.size/\n<=cT/\cT<=maxLen/\n=bl.length/\∀(i b:Nat),bl[i]?=some b->w.cell? ⟨gT,0+i,none⟩=some (.pointer (some ⟨b,0,none⟩)):=by
 obtain⟨h1,h2⟩:=h;have hl:(aL bl).length=bl.length:=by simp[aL]
 rcases h2 with⟨_,h0⟩|⟨g,cap,cur,hv,hg,hb,hc,hm,hs,ht⟩
 ·rw[h0,zO,hl] at h1;exact absurd (gF.1 h1) hne
 ·refine⟨g,cap,hv,hg,lt_of_heap hb,hc,hm,by omega,fun i b hi=>?_⟩
  have hp:(aL bl)[i]?=some (.pointer (some ⟨b,0,none⟩)):=by unfold aL;rw[gD,hi];rfl
  rw[<-ht,kC] at hp;split at hp
  ·rw[jn];unfold World.cell?;rw[hb];simpa using hp
  ·cases hp
theorem ajE(bs:List Nat)(Xs:List PB)(hB:BD Xs)(g:Nat)(mk:Nat->Bool)(ow:Nat->Option Nat)(w:World)(hW:SW g bs Xs mk ow w)(A:List Nat)(qm:0<A.length)(oF:A.length<=85000000)(hA:∀a∈A,a<bs.length)(g0 lo cap:Nat)
  (HV:Hid (∀(i:Nat) a,A[i]?=some a->w.cell? ⟨g0,lo+i,none⟩=some (.pointer (some ⟨bx bs a,0,none⟩))))(hT:dh Xs A≠[])(T:List Nat)(bM R:Nat)(O0:dh Xs A=T)(vE:R<T.length)(rI:T.length<=85000000)(vh:Hid (cV Xs A=T.drop R++T.take R))
  (HM:Hid (∀gT cT wr,wr.ownsRow w.heap.size 175 1 (.slice (some ⟨gT,0,none⟩) T.length cT) T.length (aL (T.map (bx bs)))->Below w.heap.size w wr->Calls Tryz.prog 213 #[.slice (some ⟨gT,0,none⟩) T.length cT,.func (.func 109) #[] #[]] wr fun e w''=>e=.returned (.pointer (some ⟨bM,0,none⟩))/\Below wr.heap.size wr w''))
  (HX:Hid (∀gT cT wr,wr.ownsRow w.heap.size 175 1 (.slice (some ⟨gT,0,none⟩) T.length cT) T.length (aL (T.map (bx bs)))->Below w.heap.size w wr->Calls Tryz.prog 212 #[.slice (some ⟨gT,0,none⟩) T.length cT,.pointer (some ⟨bM,0,none⟩)] wr fun e w''=>e=.returned (.int .i64 R)/\Below wr.heap.size wr w'')):
  Calls Tryz.prog 168 #[.slice (some ⟨g0,lo,none⟩) A.length cap] w fun e w'=>∃lv,e=.returned lv/\w'.ownsRow w.heap.size 175 1 lv (cV Xs A).length (aL ((cV Xs A).map (bx bs)))/\Below w.heap.size w w':=by
 obtain⟨i0,hi0,hz0,hz1,hz2⟩:=info_parts zi;have hlen:=hW.len;have O2:Hid (∀a∈A,iN w (bx bs a) (xi Xs a)):=fun a ha=>hW.rb.at (by rw[<-hlen];exact hA a ha)
 have O3:Hid (∀a∈A,∃l,LD (xi Xs a) l):=fun a ha=>hB.ld _ (gA (by rw[<-hlen];exact hA a ha))
 obtain⟨z,hz⟩:∃z,A[A.length-1]?=some z:=⟨_,aD (by omega)⟩
 have hzl:A.getLastD 0=z:=by
  rw[oX,pY,hz];rfl
 have c0:=HV.out _ z hz;have hzA:z∈A:=bn hz;have hw1:IntKind.i64.wrap ((A.length:Int)-1)=((A.length-1:Nat):Int):=by rw[IntKind.wrap_i64];omega
 have bw:Hid (w.ownsRow w.heap.size 175 1 (.slice none 0 0) (tI Xs z (A.take 0)).length (aL ((tI Xs z (A.take 0)).map (bx bs)))/\Below w.heap.size w w):=⟨World.ownsRow_nil _ _ _ _,Below.refl _ _⟩
 go_enter Tryz.func168,Tryz.ntmps168
 go_wp2_with fail
 go_loopg [3,4,16] A.length (fun m lv pv iv wr=>∃k:Nat,k+m=A.length/\iv=.int .i64 k/\pv=.pointer (some ⟨bx bs ((A.take k).getLastD z),0,none⟩)/\Hid (wr.ownsRow w.heap.size 175 1 lv (tI Xs z (A.take k)).length (aL ((tI Xs z (A.take k)).map (bx bs)))/\Below w.heap.size w wr))
 case atStart=>exact⟨0,by omega,rfl,rfl,bw.out⟩
 case round=>
  obtain⟨k,hkn,rfl,rfl,HO⟩:=hrel;clear bw;by_cases hlt:k<A.length
  ·obtain⟨s,hs⟩:∃s,A[k]?=some s:=⟨_,aD hlt⟩;obtain⟨gw,hb2⟩:=HO.out;have Y5:s∈A:=bn hs;have Y6:(A.take k).getLastD z∈A:=by
    rw[oX];cases hh:(A.take k).getLast? with
    |none=>exact hzA
    |some y=>exact nW (uu hh)
   have c1:=(hb2.cell (p:=⟨g0,lo+k,none⟩) (lt_of_cell (HV.out k s hs))).trans (HV.out k s hs);have hS:=(O2.out s Y5).below hb2;have hP:=(O2.out _ Y6).below hb2;have s0:=hS.c0;have s1:=hS.c1;have p0:=hP.c0;have p1:=hP.c1;obtain⟨l1,kQ⟩:=O3.out s Y5;obtain⟨l2,hl2⟩:=O3.out _ Y6;have Ew:Hid (∀w',Calls Tryz.prog 179 #[.agg #[.complex .f64 (xi Xs s).wa (xi Xs s).wb,.float .f64 (xi Xs s).sh],.agg #[.complex .f64 (xi Xs ((A.take k).getLastD z)).wa (xi Xs ((A.take k).getLastD z)).wb,.float .f64 (xi Xs ((A.take k).getLastD z)).sh]] w' fun r w''=>r=.returned (.bool (decide (fq (xi Xs s) (xi Xs ((A.take k).getLastD z))=0)))/\Below w'.heap.size w' w''):=fun w'=>aju _ _ kQ hl2 w'
   have htk:A.take (k+1)=A.take k++[s]:=by rw[jH,hs];rfl
   have Y7:Hid ((A.take (k+1)).getLastD z=s):=by
    show(A.take (k+1)).getLastD z=s;rw[htk];simp
   have om:Hid (tI Xs z (A.take (k+1))=tI Xs z (A.take k)++(if decide (fq (xi Xs s) (xi Xs ((A.take k).getLastD z))=0)=true then[] else[s])):=by
    show tI Xs z (A.take (k+1))=_;rw[htk,Y0];simp only[wh]
   have rI:=OZ Xs (A.take k) z;rw[iy] at rI;have hbz:=hb2.size;have eK:(k:Int)<(A.length:Int):=by omega
   have hsz:bx bs s<wr.heap.size:=lt_of_cell s0;have lS:bx bs ((A.take k).getLastD z)<wr.heap.size:=lt_of_cell p0;have pS:Below wr.heap.size wr wr.drew:=(Below.refl _ _).drew;have kJ:Hid (wr.ownsRow w.heap.size 175 1 u3 (tI Xs z (A.take k)).length (aL ((tI Xs z (A.take k)).map (bx bs)))):=gw;have gz:Hid (Below w.heap.size w wr):=hb2;clear hS hP kQ hl2 htk hs HO gw hb2 c0 hz hw1;generalize hbb:bx bs s=bS at*;generalize bx bs ((A.take k).getLastD z)=bP at*;generalize decide (fq (xi Xs s) (xi Xs ((A.take k).getLastD z))=0)=B at*;generalize(xi Xs s).wa=X1 at*;generalize(xi Xs s).wb=X2 at*;generalize(xi Xs s).sh=X3 at*;generalize(xi Xs ((A.take k).getLastD z)).wa=Y1 at*;generalize(xi Xs ((A.take k).getLastD z)).wb=Y2 at*;generalize(xi Xs ((A.take k).getLastD z)).sh=Y3 at*;generalize tI Xs z (A.take k)=T at*
   go_wp2_with fail
   go_region_held3 (fun w'=>w'.cell? ⟨bS,0,none⟩=some (.complex .f64 X1 X2)/\w'.cell? ⟨bS,1,none⟩=some (.float .f64 X3)/\w'.cell? ⟨bP,0,none⟩=some (.complex .f64 Y1 Y2)/\w'.cell? ⟨bP,1,none⟩=some (.float .f64 Y3)) (go_keep) ((go_at_call 179;refine(Ew.out _).mono ?_;rintro e w5 ⟨rfl,ax⟩;have mM:Below wr.heap.size wr w5:=pS.trans ax;have e0:=(mM.cell (p:=⟨bS,0,none⟩) hsz).trans s0;have e1:=(mM.cell (p:=⟨bS,1,none⟩) hsz).trans s1;have e2:=(mM.cell (p:=⟨bP,0,none⟩) lS).trans p0;have e3:=(mM.cell (p:=⟨bP,1,none⟩) lS).trans p1))
   all_goals
    have eT:Hid (Below w.heap.size w w5):=gz.out.trans (mM.mono hbz);have dG:w5.ownsRow w.heap.size 175 1 u3 T.length (aL (T.map (bx bs))):=aO kJ.out fun k hk=>mM.block k (aA kJ.out k hk).2
    have Br:=eT.out.size;clear e0 e1 e2 e3 s0 s1 p0 p1 pS mM kJ gz Ew;cases B
    ·have Fi:Hid (tI Xs z (A.take (k+1))=T++[s]):=om.out;have hnb:(w5.alloc (.cells #[.pointer (some ⟨bS,0,none⟩)] 175)).heap[w5.heap.size]?=some (.cells #[.pointer (some ⟨bS,0,none⟩)] 175 (0,0)):=heap_alloc_new _ _;have gm:(w5.alloc (.cells #[.pointer (some ⟨bS,0,none⟩)] 175)).ownsRow w.heap.size 175 1 u3 T.length (aL (T.map (bx bs))):=aO dG fun k hk=>Below.heap_alloc _ _ _ (aA dG k hk).2
     have Dd:=dG;clear om dG
     go_wp2_with (at_builtin;refine wpList_append_lies _ rfl (.tmp 32) (.tmp 34) 185 rfl w.heap.size 175 i0 _ 1 8 Tryz.underlying185 hi0 hz0 hz1 hz2 rfl (by decide) u3 T.length (aL (T.map (bx bs))) rfl gm ⟨w5.heap.size,0,none⟩ 1 1 [.pointer (some ⟨bS,0,none⟩)] rfl rfl (World.news_of_block (cs:= #[.pointer (some ⟨bS,0,none⟩)]) (t:=175) (fr:=(0,0)) hnb) (by simp[Value.oneCell']) (by decide) (by unfold maxLen;omega) (by omega) (by simp;omega) (w5.heap.size+1) (by simp) ?_;intro g' cap' w8 cM bo gK qp)
     have cI:Hid (w8.ownsRow w.heap.size 175 1 (.slice (some ⟨g',0,none⟩) (T.length+1) cap') (tI Xs z (A.take (k+1))).length (aL ((tI Xs z (A.take (k+1))).map (bx bs)))/\Below w.heap.size w w8):=by
      show _/\_;rw[Fi.out,aX,iH];refine⟨?_,(eT.out.alloc Br _).grown bo (by simp;omega) (fun k hk=>(aA Dd k hk).1)⟩
      have e:aL (T.map (bx bs)++[s].map (bx bs))=aL (T.map (bx bs))++[.pointer (some ⟨bS,0,none⟩)]:=by simp[aL,hbb]
      rw[e];exact cM
     have Fj:Hid (bx bs s=bS):=hbb;clear cM bo gK hnb gm Dd Fi hbb
     go_wp2_with fail
     go_roundg (gk-1)
     case measure=>omega
     case rel=>exact⟨k+1,by omega,by go_num,by rw[Y7.out,Fj.out],cI.out⟩
    ·have Fi:Hid (tI Xs z (A.take (k+1))=T):=by
      have:=om.out;rw[ah rfl,rM] at this;exact this
     have cI:Hid (w5.ownsRow w.heap.size 175 1 u3 (tI Xs z (A.take (k+1))).length (aL ((tI Xs z (A.take (k+1))).map (bx bs)))/\Below w.heap.size w w5):=by
      show _/\_;rw[Fi.out];exact⟨dG,eT.out⟩
     have Fj:Hid (bx bs s=bS):=hbb;clear om dG hbb Fi
     go_wp2_with fail
     go_roundg (gk-1)
     case measure=>omega
     case rel=>exact⟨k+1,by omega,by go_num,by rw[Y7.out,Fj.out],cI.out⟩
  ·have hk:k=A.length:=by omega
   subst hk;have gw:=HO.out.1;have gz:Hid (Below w.heap.size w wr):=HO.out.2;rw[dN] at gw;have Y8:tI Xs z A=T:=by rw[<-O0];unfold dh;rw[hzl]
   rw[Y8] at gw;obtain⟨gT,cT,rfl,hgT,dE,hcT,hcm,hd1,hd2⟩:=nN gw (by rw[<-O0];simpa using hT)
   clear hd1 hd2;have kJ:Hid (wr.ownsRow w.heap.size 175 1 (.slice (some ⟨gT,0,none⟩) T.length cT) T.length (aL (T.map (bx bs)))):=gw;have ao6:cT<=9223372036854775807:=by unfold maxLen at hcm;omega
   have Y9:=HM.out gT cT wr kJ.out gz.out;have Fk:Hid (Calls Tryz.prog 213 #[.slice (some ⟨gT,0,none⟩) T.length cT,.func (.func 109) #[] #[]] wr fun e w''=>e=.returned (.pointer (some ⟨bM,0,none⟩))/\Below wr.heap.size wr w''):=Y9
   clear HM Y9 gw HO O2 O3 HV hW hB Y8 O0 hcm c0 hz hw1 hT hA hzA hzl
   go_wp2_with fail
   refine Fk.out.mono ?_;rintro e w1 ⟨rfl,hb1⟩;have qo:w1.ownsRow w.heap.size 175 1 (.slice (some ⟨gT,0,none⟩) T.length cT) T.length (aL (T.map (bx bs))):=aO kJ.out fun k hk=>hb1.block k (aA kJ.out k hk).2
   have O4:Below w.heap.size w w1:=gz.out.trans (hb1.mono gz.out.size);have Za:Hid (Calls Tryz.prog 212 #[.slice (some ⟨gT,0,none⟩) T.length cT,.pointer (some ⟨bM,0,none⟩)] w1 fun e w''=>e=.returned (.int .i64 R)/\Below w1.heap.size w1 w''):=HX.out gT cT w1 qo O4
   have qY:Hid (w1.ownsRow w.heap.size 175 1 (.slice (some ⟨gT,0,none⟩) T.length cT) T.length (aL (T.map (bx bs)))):=qo;have qy:Hid (Below w.heap.size w w1):=O4;clear HX Fk qo O4 kJ gz hb1
   go_wp2_with fail
   refine Za.out.mono ?_;rintro e w2 ⟨rfl,hb2⟩;have kJ:Hid (w2.ownsRow w.heap.size 175 1 (.slice (some ⟨gT,0,none⟩) T.length cT) T.length (aL (T.map (bx bs)))):=aO qY.out fun k hk=>hb2.block k (aA qY.out k hk).2
   have gz:Hid (Below w.heap.size w w2):=qy.out.trans (hb2.mono qy.out.size);clear Za qY qy hb2;have Zb:Hid (∀w' sb,Below w2.heap.size w2 w'->w'.cell? ⟨sb,0,none⟩=some (.slice (some ⟨gT,R,none⟩) (T.length-R) (cT-R))->w'.cell? ⟨sb,1,none⟩=some (.slice (some ⟨gT,0,none⟩) R cT)->Calls Tryz.prog 214 #[.slice (some ⟨sb,0,none⟩) 2 2] w' fun e w''=>∃lv,e=.returned lv/\w''.ownsRow w'.heap.size 175 1 lv (cV Xs A).length (aL ((cV Xs A).map (bx bs)))/\Below w'.heap.size w' w''):=fun w' sb hb c0 c1=>by
    obtain⟨lU,ki,hv,_,Vo,_,_,_,hcell⟩:=nN kJ.out (by intro h;have:=aw List.length h;simp at this;rw[this] at vE;simp at vE)
    have hgg:lU=gT/\ki=cT:=by
     injection hv with h1 _ h3;injection h1 with h1;injection h1 with h1;exact⟨h1.symm,h3.symm⟩
    obtain⟨rfl,rfl⟩:=hgg;have O5:gQ [(R,ki-R,(T.drop R).map (bx bs)),(0,ki,(T.take R).map (bx bs))]=(cV Xs A).map (bx bs):=by
     rw[vh.out,iH];simp[gQ]
    have kQ:((T.drop R).map (bx bs)).length=T.length-R:=by simp
    have hl2:((T.take R).map (bx bs)).length=R:=by simp;omega
    have hcl:((cV Xs A).map (bx bs)).length=T.length:=by
     rw[vh.out,iQ,aX];simp;omega
    have hk:=ajA [(R,ki-R,(T.drop R).map (bx bs)),(0,ki,(T.take R).map (bx bs))] lU sb 2 w' (by rw[O5,hcl];omega) (by rw[O5,hcl];exact rI) (by simp)
     (fun k it hk=>by
      rcases k with _|_|k
      ·have e:it=(R,ki-R,(T.drop R).map (bx bs)):=by simpa using hk.symm
       rw[e];unfold Fh;simp only[kQ];exact c0
      ·have e:it=(0,ki,(T.take R).map (bx bs)):=by simpa using hk.symm
       rw[e];unfold Fh;simp only[hl2];exact c1
      ·simp at hk)
     (fun it hit i b hi=>by
      have hgl:lU<w2.heap.size:=Vo;rcases aV.1 hit with e|hit
      ·rw[e] at hi⊢;simp only at hi⊢;have h2:=hcell (R+i) b (by rw[<-hi,List.map_drop,Lj])
       rw[jn] at h2;exact(hb.cell (p:=⟨lU,R+i,none⟩) hgl).trans h2
      ·have e:it=(0,ki,(T.take R).map (bx bs)):=by simpa using hit
       rw[e] at hi⊢;simp only at hi⊢;have h2:=hcell i b (by
        rw[acR,kC] at hi;split at hi
        ·exact hi
        ·cases hi)
       exact(hb.cell (p:=⟨lU,0+i,none⟩) hgl).trans h2)
    rw[O5,iQ] at hk;exact hk
   have zr:(0:Int)<=(R:Int):=by omega
   have hRi:(R:Int)<=(T.length:Int):=by omega
   have hTc:(T.length:Int)<=(cT:Int):=by omega
   have hRc:(R:Int)<=(cT:Int):=by omega
   have hcR:¬cT=R:=by omega
   have JS:Hid (∀o,Below w2.heap.size w2 (w2.alloc o).drew):=fun o=>((Below.refl _ _).alloc (ai _) o).drew
   have HBD:Hid (Below w2.heap.size w2 w2.drew):=(Below.refl _ _).drew;have O6:Below w2.heap.size w2 (w2.alloc (.cells #[.slice (some ⟨gT,R,none⟩) (T.length-R) (cT-R),.slice (some ⟨gT,0,none⟩) R cT] 185)).drew:=((Below.refl _ _).alloc (ai _) _).drew;have hcc:=Zb.out _ w2.heap.size O6 (cell_of (w:=(w2.alloc (.cells #[.slice (some ⟨gT,R,none⟩) (T.length-R) (cT-R),.slice (some ⟨gT,0,none⟩) R cT] 185)).drew) (heap_alloc_new _ _) 0) (cell_of (w:=(w2.alloc (.cells #[.slice (some ⟨gT,R,none⟩) (T.length-R) (cT-R),.slice (some ⟨gT,0,none⟩) R cT] 185)).drew) (heap_alloc_new _ _) 1);have ajJ:=gz.out.size;have tQ:Hid (Calls Tryz.prog 214 #[.slice (some ⟨w2.heap.size,0,none⟩) 2 2] (w2.alloc (.cells #[.slice (some ⟨gT,R,none⟩) (T.length-R) (cT-R),.slice (some ⟨gT,0,none⟩) R cT] 185)).drew fun e w''=>∃lv,e=.returned lv/\w''.ownsRow w.heap.size 175 1 lv (cV Xs A).length (aL ((cV Xs A).map (bx bs)))/\Below w.heap.size w w''):=by
    refine hcc.mono ?_;rintro e w9 ⟨JV,rfl,yZ,mP⟩;exact⟨JV,rfl,vt yZ (by simp[World.drew];omega),gz.out.trans ((O6.trans (mP.mono (by simp[World.drew]))).mono ajJ)⟩
   clear kJ vh Zb hcc O6 JS HBD
   go_wp2_with fail
   go_region_held3 (fun _=>True) (go_keep) ((go_at_call 214;refine tQ.out.mono ?_;rintro e w9 ⟨JV,rfl,yZ,mP⟩))
   all_goals
    have HF:Hid (w9.ownsRow w.heap.size 175 1 JV (cV Xs A).length (aL ((cV Xs A).map (bx bs)))/\Below w.heap.size w w9):=⟨yZ,mP⟩;clear yZ mP gz tQ
    go_wp2_with fail
    go_ret
    exact⟨JV,rfl,HF.out⟩
theorem Zc(Xs:List PB){T:List Nat}(hT:T≠[]):kf Xs T∈T:=by
 cases T with
 |nil=>exact absurd rfl hT
 |cons t0 tr=>
  unfold kf;rcases xt (fun i j=>bg (xi Xs i).f (xi Xs j).f) tr t0 with e|e
  ·rw[show(t0::tr).tail=tr from rfl,show(t0::tr).headD 0=t0 from rfl,e];simp
  ·exact bz _ e
theorem ajK(Xs:List PB){T:List Nat}(hT:T≠[]):fU (fun j=>j == kf Xs T) T=(tV Xs T:Int)/\tV Xs T<T.length:=by
 have hbd:=Y4 (P:=fun j=>j == kf Xs T) T 0 ⟨_,Zc Xs hT,by simp⟩
 have e2:fU (fun j=>j == kf Xs T) T=fG (fun j=>j == kf Xs T) T 0:=rfl
 have e3:tV Xs T=(fG (fun j=>j == kf Xs T) T 0).toNat:=rfl
 rw[e2,e3];omega
theorem O7(Xs:List PB)(A:List Nat):∀j∈dh Xs A,j∈A:=fun j hj=>BR Xs A _ j hj
theorem O8(Xs:List PB)(A:List Nat):(dh Xs A).length<=A.length:=OZ Xs A _
theorem ajL(bs:List Nat)(Xs:List PB)(hB:BD Xs)(g:Nat)(mk:Nat->Bool)(ow:Nat->Option Nat)(w:World)(hW:SW g bs Xs mk ow w)(A:List Nat)(qm:0<A.length)(oF:A.length<=85000000)(hA:∀a∈A,a<bs.length)(g0 lo cap:Nat)
  (HV:∀(i:Nat) a,A[i]?=some a->w.cell? ⟨g0,lo+i,none⟩=some (.pointer (some ⟨bx bs a,0,none⟩)))(hT:dh Xs A≠[]):
  Calls Tryz.prog 168 #[.slice (some ⟨g0,lo,none⟩) A.length cap] w fun e w'=>∃lv,e=.returned lv/\w'.ownsRow w.heap.size 175 1 lv (cV Xs A).length (aL ((cV Xs A).map (bx bs)))/\Below w.heap.size w w':=by
 have hlen:=hW.len;have pC:∀j∈dh Xs A,j<bs.length:=fun j hj=>hA j (O7 Xs A j hj)
 have rI:(dh Xs A).length<=85000000:=dY (O8 Xs A) oF;have hlm:=Zc Xs hT;obtain⟨hr1,hr2⟩:=ajK Xs hT;refine ajE bs Xs hB g mk ow w hW A qm oF hA g0 lo cap HV hT (dh Xs A) (bx bs (kf Xs (dh Xs A))) (tV Xs (dh Xs A)) rfl hr2 rI rfl ?_ ?_
 ·intro gT cT wr ho hb;generalize dh Xs A=T at*;obtain⟨lU,ki,hv,_,dE,_,_,_,hcell⟩:=nN ho (by intro h;exact hT (rN.1 h))
  have hgg:lU=gT/\ki=cT:=by
   injection hv with h1 _ h3;injection h1 with h1;injection h1 with h1;exact⟨h1.symm,h3.symm⟩
  obtain⟨rfl,rfl⟩:=hgg;obtain⟨t0,tr,rfl⟩:∃t0 tr,T=t0::tr:=by
   cases T with
   |nil=>exact absurd rfl hT
   |cons a r=>exact⟨a,r,rfl⟩
  have hR:=hW.rb.below hb;have hm:=ajv (fun b b'=>bg (xi Xs (bs.idxOf b)).f (xi Xs (bs.idxOf b')).f) (bx bs t0) (tr.map (bx bs)) lU 0 ki wr (by rw[iQ];simp only[bW] at rI;omega)
   (fun i b hi=>hcell i b hi)
   (fun b h1 c h2 w'' hw=>by
    have key:∀b,b∈bx bs t0::tr.map (bx bs)->∃j,j<bs.length/\b=bx bs j:=fun b hb=>by
     have hb2:b∈(t0::tr).map (bx bs):=hb;obtain⟨j,hj,rfl⟩:=bh.1 hb2;exact⟨j,pC j hj,rfl⟩
    obtain⟨j1,q1,rfl⟩:=key b h1;obtain⟨j2,q2,rfl⟩:=key c h2;have BM:=hR.below hw;rw[mN hW.nd q1,mN hW.nd q2];refine(Ot _ _ (hB.v _ (gA (by rw[<-hlen];exact q1))) (hB.v _ (gA (by rw[<-hlen];exact q2))) _ _ w'' (BM.at (by rw[<-hlen];exact q1)) (BM.at (by rw[<-hlen];exact q2))).mono ?_
    rintro e w3 ⟨rfl,hb3,_⟩;exact⟨rfl,hb3⟩)
  have e1:bC (fun b b'=>bg (xi Xs (bs.idxOf b)).f (xi Xs (bs.idxOf b')).f) (tr.map (bx bs)) (bx bs t0)=bx bs (kf Xs (t0::tr)):=by
   unfold kf;refine E9 _ _ fun j hj k hk=>?_
   simp only[mN hW.nd (pC j hj),mN hW.nd (pC k hk)]
  rw[e1,iQ] at hm;exact hm
 ·intro gT cT wr ho hb;generalize dh Xs A=T at*;obtain⟨lU,ki,hv,_,dE,_,_,_,hcell⟩:=nN ho (by intro h;exact hT (rN.1 h))
  have hgg:lU=gT/\ki=cT:=by
   injection hv with h1 _ h3;injection h1 with h1;injection h1 with h1;exact⟨h1.symm,h3.symm⟩
  obtain⟨rfl,rfl⟩:=hgg;have hm:=ajy (bx bs (kf Xs T)) (T.map (bx bs)) lU 0 ki wr (by rw[iQ];exact rI) (fun i b hi=>hcell i b hi) (fun b hb'=>by
   have YU:∃j,j<bs.length/\b=bx bs j:=by
    rcases hb' with rfl|hb'
    ·exact⟨_,pC _ hlm,rfl⟩
    ·obtain⟨j,hj,rfl⟩:=bh.1 hb';exact⟨j,pC j hj,rfl⟩
   obtain⟨j,hj,rfl⟩:=YU;exact⟨_,(hb.block _ (hW.lt (qz hj))).trans (hW.side j hj)⟩)
  have e1:fU (fun b=>b == bx bs (kf Xs T)) (T.map (bx bs))=fU (fun j=>j == kf Xs T) T:=JU _ _ fun x hx=>by
   by_cases e:x=kf Xs T
   ·rw[e];simp
   ·have h1:(x == kf Xs T)=false:=by simpa using e
    have h2:(bx bs x == bx bs (kf Xs T))=false:=by simpa using fun h=>e (OV hW.nd (pC x hx) (pC _ hlm) h)
    rw[h1,h2]
  rw[e1,hr1,iQ] at hm;exact hm
def ll(Xs:List PB)(s j:Nat):Bool:=decide ((xi Xs s).t=(xi Xs j).f)
def il(Xs:List PB)(O:List Nat)(s:Nat):Int:=fU (ll Xs s) O
def jl(Xs:List PB)(p:List Nat×List (List Nat))(s:Nat):List Nat×List (List Nat):=
 if 0<=il Xs (p.1++[s]) s then((p.1++[s]).take (il Xs (p.1++[s]) s).toNat,p.2++[cV Xs ((p.1++[s]).drop (il Xs (p.1++[s]) s).toNat)]) else(p.1++[s],p.2)
def bI(Xs:List PB)(W:List Nat):List Nat×List (List Nat):=W.foldl (jl Xs) ([],[])
def bp(Xs:List PB)(W:List Nat):List (List Nat):=(bI Xs W).2
theorem xB(Xs:List PB)(W:List Nat)(s:Nat):bI Xs (W++[s])=jl Xs (bI Xs W) s:=by unfold bI;rw[Ll];rfl
theorem Zd:(Tryz.prog.info? 185).map (fun i=>(i.zero,i.size,i.bytes))=some (some (.slice none 0 0),1,24):=by kernel_rfl
structure RI(bs:List Nat)(w:World)(lo lr:Value)(O:List Nat)(Rs:List (List Nat))(rv:List Value)(wr:World):Prop where
 oo:wr.ownsRow w.heap.size 175 1 lo O.length (aL (O.map (bx bs)))
 ro:wr.ownsRow w.heap.size 185 1 lr rv.length rv
 len:rv.length=Rs.length
 ring:∀(i:Nat) v r,rv[i]?=some v->Rs[i]?=some r->wr.ownsRow w.heap.size 175 1 v r.length (aL (r.map (bx bs)))/\∀k,v.ownBlock=some k->lo.ownBlock≠some k/\lr.ownBlock≠some k
 ne:∀k,lo.ownBlock=some k->lr.ownBlock≠some k
 below:Below w.heap.size w wr
theorem RI.keep{bs:List Nat}{w:World}{lo lr:Value}{O:List Nat}{Rs:List (List Nat)}{rv:List Value}{wr w':World}(h:RI bs w lo lr O Rs rv wr)(hb:Below wr.heap.size wr w'):RI bs w lo lr O Rs rv w':=
 ⟨aO h.oo fun k hk=>hb.block k (aA h.oo k hk).2,aO h.ro fun k hk=>hb.block k (aA h.ro k hk).2,h.len,fun i v r h1 h2=>⟨aO (h.ring i v r h1 h2).1 fun k hk=>hb.block k (aA (h.ring i v r h1 h2).1 k hk).2,(h.ring i v r h1 h2).2⟩,h.ne,h.below.trans (hb.mono h.below.size)⟩
theorem RI.ajM{bs:List Nat}{w:World}{lo lr:Value}{O:List Nat}{Rs:List (List Nat)}{rv:List Value}{wr:World}(h:RI bs w lo lr O Rs rv wr)(s:Nat)(o:Obj){g' cap':Nat}{w8:World}(bo:(wr.alloc o).grownBy w8 lo.ownBlock)
  (cM:w8.ownsRow w.heap.size 175 1 (.slice (some ⟨g',0,none⟩) (O.length+1) cap') (O.length+1) (aL (O.map (bx bs))++[.pointer (some ⟨bx bs s,0,none⟩)]))(hat:lo.ownBlock=some g'\/g'=wr.heap.size+1):
  RI bs w (.slice (some ⟨g',0,none⟩) (O.length+1) cap') lr (O++[s]) Rs rv w8:=by
 have hold:∀k,k<wr.heap.size->lo.ownBlock≠some k->w8.heap[k]?=wr.heap[k]?:=fun k hk hne=>(bo.block k (by simp;omega) (fun e=>hne e.symm)).trans (Below.heap_alloc _ _ _ hk)
 refine⟨?_,aO h.ro fun k hk=>hold k (aA h.ro k hk).2 (fun e=>h.ne k e hk),h.len,fun i v r h1 h2=>?_,fun k hk=>?_,?_⟩
 ·rw[iH,aX];have e:aL (O.map (bx bs)++[s].map (bx bs))=aL (O.map (bx bs))++[.pointer (some ⟨bx bs s,0,none⟩)]:=by simp[aL]
  rw[e];exact cM
 ·obtain⟨k1,k2⟩:=h.ring i v r h1 h2;refine⟨aO k1 fun k hk=>hold k (aA k1 k hk).2 (k2 k hk).1,fun k hk=>⟨fun e=>?_,(k2 k hk).2⟩⟩
  have e':g'=k:=by simpa[Value.ownBlock] using e
  subst e';rcases hat with hat|hat
  ·exact(k2 _ hk).1 hat
  ·have:=(aA k1 _ hk).2;omega
 ·have e':g'=k:=by simpa[Value.ownBlock] using hk
  subst e';intro hr;rcases hat with hat|hat
  ·exact h.ne _ hat hr
  ·have:=(aA h.ro _ hr).2;omega
 ·exact(h.below.alloc h.below.size _).grown bo (by have:=h.below.size;simp;omega) (fun k hk=>(aA h.oo k hk).1)
theorem RI.ajN{bs:List Nat}{w:World}{lo lr:Value}{O:List Nat}{Rs:List (List Nat)}{rv:List Value}{wr:World}(h:RI bs w lo lr O Rs rv wr){v:Value}{r:List Nat}{B:Nat}(hv:wr.ownsRow B 175 1 v r.length (aL (r.map (bx bs))))(hB:w.heap.size<=B)(hlB:∀k,lo.ownBlock=some k\/lr.ownBlock=some k->k<B)(o:Obj){g' cap':Nat}{w8:World}(bo:(wr.alloc o).grownBy w8 lr.ownBlock)
  (cM:w8.ownsRow w.heap.size 185 1 (.slice (some ⟨g',0,none⟩) (rv.length+1) cap') (rv.length+1) (rv++[v]))(hat:lr.ownBlock=some g'\/g'=wr.heap.size+1):
  RI bs w lo (.slice (some ⟨g',0,none⟩) (rv.length+1) cap') O (Rs++[r]) (rv++[v]) w8:=by
 have hold:∀k,k<wr.heap.size->lr.ownBlock≠some k->w8.heap[k]?=wr.heap[k]?:=fun k hk hne=>(bo.block k (by simp;omega) (fun e=>hne e.symm)).trans (Below.heap_alloc _ _ _ hk)
 have hvk:∀k,v.ownBlock=some k->B<=k/\k<wr.heap.size:=fun k hk=>aA hv k hk
 refine⟨aO h.oo fun k hk=>hold k (aA h.oo k hk).2 (h.ne k hk),?_,by rw[aX,aX,h.len];rfl,fun i u q h1 h2=>?_,fun k hk e=>?_,?_⟩
 ·rw[aX];exact cM
 ·by_cases hi:i<rv.length
  ·rw[eD hi] at h1;rw[eD (by rw[<-h.len];exact hi)] at h2
   obtain⟨k1,k2⟩:=h.ring i u q h1 h2;refine⟨aO k1 fun k hk=>hold k (aA k1 k hk).2 (k2 k hk).2,fun k hk=>⟨(k2 k hk).1,fun e=>?_⟩⟩
   have e':g'=k:=by simpa[Value.ownBlock] using e
   subst e';rcases hat with hat|hat
   ·exact(k2 _ hk).2 hat
   ·have:=(aA k1 _ hk).2;omega
  ·have hi2:i=rv.length:=by
    have:=(bY.1 h1).1;simp at this;omega
   subst hi2;have e1:u=v:=by simpa using h1.symm
   have e2:q=r:=by rw[h.len] at h2;simpa using h2.symm
   subst e1 e2;refine⟨vt (aO hv fun k hk=>hold k (hvk k hk).2 (fun e=>by have:=hlB k (af e);have:=(hvk k hk).1;omega)) hB,fun k hk=>⟨fun e=>by have:=hlB k (ae e);have:=(hvk k hk).1;omega,fun e=>?_⟩⟩
   have e':g'=k:=by simpa[Value.ownBlock] using e
   subst e';rcases hat with hat|hat
   ·have:=hlB _ (af hat);have:=(hvk _ hk).1;omega
   ·have:=(hvk _ hk).2;omega
 ·have e':g'=k:=by simpa[Value.ownBlock] using e
  subst e';rcases hat with hat|hat
  ·exact h.ne _ hk hat
  ·have:=(aA h.oo _ hk).2;omega
 ·exact(h.below.alloc h.below.size _).grown bo (by have:=h.below.size;simp;omega) (fun k hk=>(aA h.ro k hk).1)
theorem ajO{w:World}{base:Nat}{e:TypeId}{g n cap:Nat}{xs:List Value}(h:w.ownsRow base e 1 (.slice (some ⟨g,0,none⟩) n cap) n xs){k:Nat}(hk:k<=n):w.ownsRow base e 1 (.slice (some ⟨g,0,none⟩) k cap) k (xs.take k):=by
 obtain⟨h1,h2⟩:=h;rcases h2 with⟨h0,_⟩|⟨g1,c1,cur,hv,hg,hb,hc,hm,hs,ht⟩
 ·cases h0
 ·refine⟨by rw[iy,h1];omega,af ⟨g1,c1,cur,?_,hg,hb,by omega,hm,hs,?_⟩⟩
  ·injection hv with a1 _ a3;rw[a1,a3]
  ·rw[<-ht,CE];congr 1;omega
theorem RI.ajP{bs:List Nat}{w:World}{lr:Value}{g n cap:Nat}{O:List Nat}{Rs:List (List Nat)}{rv:List Value}{wr:World}(h:RI bs w (.slice (some ⟨g,0,none⟩) n cap) lr O Rs rv wr){k:Nat}(hk:k<=O.length)(hn:n=O.length):RI bs w (.slice (some ⟨g,0,none⟩) k cap) lr (O.take k) Rs rv wr:=by
 subst hn;refine⟨?_,h.ro,h.len,h.ring,h.ne,h.below⟩;have:=ajO h.oo hk;have e:(aL (O.map (bx bs))).take k=aL ((O.take k).map (bx bs)):=by unfold aL;rw[acR,acR]
 rw[e] at this;have hl:(O.take k).length=k:=by rw[iy];omega
 rw[hl];exact this
end Go.Proofs.YtkjhhooecopolaaGreatDoor

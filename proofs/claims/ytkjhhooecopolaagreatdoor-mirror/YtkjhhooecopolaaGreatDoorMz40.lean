import Derived.Test.YtkjhhooecopolaaGreatDoorMz39
import Derived.Shelf.LaySoft
import Derived.Shelf.Lay
import Derived.Shelf.SlGeneric
import Derived.Shelf.SlSortCmp.NoneTotal
import Derived.Ground.SlsfProg
import Derived.Test.YtkjhhooecopolaaGreatDoorProg
set_option maxRecDepth 100000
set_option maxHeartbeats 4000000
namespace Go.Proofs.YtkjhhooecopolaaGreatDoor
open Go.RowKit
open Ge
section
variable{rg:List (List Pt)}{l:List Nd}{r:Int}{Xs:List PB}{bs:List Nat}{g cap:Nat}{w0:World}
theorem akB(h:SX rg l r Xs)(hB:BD Xs)(hbb:∀b∈bs,b<w0.heap.size)(hg0:g<w0.heap.size)(k:Nat)(lv:Value)(gW cW:Nat)(L:List Nat)(gR cR n ob:Nat)(w5:World)(he:Zy bs Xs g w0 k lv gW cW L gR cR n ob w5):
  Calls Tryz.prog 115 #[.pointer (some ⟨ob,0,none⟩),.slice (some ⟨gR,0,none⟩) n cR] w5 fun e w6=>e=.returned (.tuple #[])/\FQ bs Xs g w0 k lv gW cW L ob 0 w6:=by
 obtain⟨PH,T,ow,wr,w1,w2,lo,O,rv,ph,hM,jI,fR,rfl,nY,akx,Pr⟩:=he;obtain⟨hW,jE,hrl,qV,Pv⟩:=ZF h hB hM;have yV:=h.JE hW;have hs:=hM.sz;have hen:=hM.en;subst hen;have hP:=h.pv hB k (by have:=hM.kl;omega)
 generalize hq:(aK Xs k).ow (ic Xs (xi Xs k).f)=q at*;have mH:q<PH.length:=(bT.1 fR).1;have EY:q<(aK Xs k).ps.length:=by rw[<-hM.hi.pi.len];exact mH
 have hps:(aK Xs k).ps[q]?=some ((aK Xs k).ps.getD q ([],[])):=by
  rw[lQ,ay EY];rfl
 generalize akC:(aK Xs k).ps.getD q ([],[])=ps at*;have hA:=hM.hi.pi.pg q ph ps fR hps;have lH:=lt_of_heap hA.blk;have k5:∀b,b<w2.heap.size->w5.heap[b]?=w2.heap[b]?:=fun b hb=>(nY b (by omega)).trans (Below.heap_alloc _ _ _ hb)
 have Py:∀b,w0.heap.size<=b->b<wr.heap.size->w5.heap[b]?=wr.heap[b]?:=fun b h1 h2=>(k5 b (by omega)).trans (hM.same hbb h1 h2)
 obtain⟨gX,cX,hv,hgl,dw,_,hcell⟩:=nD hM.ri.ro qV;have yX:gX=gR:=by
  injection hv with h1;injection h1 with h1;injection h1 with h1;exact h1.symm
 subst yX;have hzl:(rv.zip (bf Xs L)).length=rv.length:=by rw[List.length_zip];omega
 have Fh:∀b,ph.hv.ownBlock=some b->w0.heap.size<=b/\b<wr.heap.size:=fun b e=>au hA.ho b e
 have akD:ph.hv.ownBlock≠some ph.pb:=fun e=>by
  have h1:=hA.th _ e;rw[hA.tp] at h1;cases h1
 have Px:TK w5 w0.heap.size ph.pb ph.hv ph.sv ph.hv ph.hvs w5:=⟨(Py _ hA.ge lH).trans hA.blk,aJ hA.ho fun b e=>Py b (Fh b e).1 (Fh b e).2,Mo.refl _ _,fun b e=>Or.inl e,akD⟩
 have akE:∀p∈rv.zip (bf Xs L),bV Xs p.2=false:=fun p hp=>by
  obtain⟨i,hi,e⟩:=j5.1 hp;have hm:=aY (EX (by rw[ay hi,e]:(rv.zip (bf Xs L))[i]?=some p)).2
  cases hsh:bV Xs p.2
  ·rfl
  ·rw[xn.2 ⟨p.2,hm,hsh⟩] at jI;cases jI
 obtain⟨akF,akG⟩:=aks (bV Xs) (ph.sv,ps.1) (rv.zip (bf Xs L)) akE;have ZH:∀b,b<w2.heap.size->wr.heap.size<=b\/b<w0.heap.size->b∉ph.pb::ph.hv.ownBlock.toList:=fun b _ hb hk=>by
  have hge:=hA.ge;rcases aQ.1 hk with e|e
  ·omega
  ·have e':ph.hv.ownBlock=some b:=by simpa using e
   have:=Fh b e';omega
 have yT:ph.hvs.length<=85000000:=by
  have h1:=hP.hol q ps hps;have h2:=hA.hl;have h3:=hB.len;omega
 have hcall:=Y9 (bV Xs) (rv.zip (bf Xs L)) (ph.sv,ps.1) ph.pb gX cR w0.heap.size ph.hv ph.hvs w5 (by rw[hzl];exact hrl) yT (by omega) Px ⟨by omega,fun e=>by have:=Fh gX e;omega⟩
  (fun i p hp=>by
   obtain⟨h1,h2⟩:=EX hp;exact⟨(World.cell?_of_block (w:=w2) (k5 gX dw)).trans (hcell i p.1 h1),Fa (hM.ri.ring i p.1 p.2 h1 h2).1⟩)
  (fun p hp w' hm=>by
   have km:∀b,b<w2.heap.size->wr.heap.size<=b\/b<w0.heap.size->w'.heap[b]?=w2.heap[b]?:=fun b hb hb'=>(hm.block b (by omega) (ZH b hb hb')).trans (k5 b hb)
   exact hM.shell hB yV hW.lt jE p hp w' (km g (by omega) (Or.inr hg0)) (fun b hb=>km b (by have:=hbb b hb;omega) (Or.inr (hbb b hb))) (fun b h1 h2=>km b h2 (Or.inl (by omega))))
 rw[hzl,akF,akG] at hcall;refine hcall.mono ?_;rintro e w6 ⟨rfl,hv',jt⟩;have k6:∀b,b<w2.heap.size->wr.heap.size<=b\/b<w0.heap.size->w6.heap[b]?=w2.heap[b]?:=fun b hb hb'=>(jt.mo.block b (by omega) (ZH b hb hb')).trans (k5 b hb)
 have o9:=hM.hi.pi.more (w5:=w5) (w6:=w6) (rv.zip (bf Xs L)) w1.heap.size w2.heap.size q ph ps fR hps hv' (by omega) (by omega) (by omega) (by omega)
  (hM.Pn.keep (w':=w6) fun b h1 h2=>k6 b h2 (Or.inl (by omega)))
  (fun b h1 h2 ht1 ht2=>(jt.mo.block b (by omega) (fun hk=>by
   rcases aQ.1 hk with e|e
   ·rw[e] at ht1;exact ht1 hA.tp
   ·have e':ph.hv.ownBlock=some b:=by simpa using e
    exact ht2 (hA.th b e'))).trans (Py b h1 h2))
  jt.jX jt.own jt.fresh
 obtain⟨T',kR⟩:=o9;have hst:aK Xs (k+1)=⟨fun j=>(aK Xs k).aF j||L.contains j,fun j=>if L.contains j then q else(aK Xs k).ow j,(aK Xs k).ps.set q (ps.1,ps.2++bf Xs L)⟩:=by
  rw[yU];unfold oG;rw[<-hM.eL,if_neg (by rw[hM.un];simp),if_neg (by rw[jI];simp),hq,akC]
 have hz2:(rv.zip (bf Xs L)).map (·.2)=bf Xs L:=List.map_snd_zip (by omega)
 rw[hz2] at kR;refine⟨rfl,hM.kl,hW.lt,by rw[hst];exact fun _=>rfl,by rw[hst];exact fun j hj=>by simp only[hj,iP,if_false],_,T',ow,q,⟨ph.pb,ph.sv,hv',ph.hvs++(rv.zip (bf Xs L)).map (·.1)⟩,by rw[hst];exact kR,by rw[hst];exact fun j hj=>by simp only[hj,if_true],rF mH,rfl,fun j hj lL=>?_,?_,fun t s hts=>?_,?_,?_⟩
 ·obtain⟨tN,Fi,how⟩:=hM.hi.own j hj lL;by_cases Br:q=(aK Xs k).ow j
  ·refine⟨⟨ph.pb,ph.sv,hv',ph.hvs++(rv.zip (bf Xs L)).map (·.1)⟩,by rw[<-Br];exact rF mH,?_⟩
   rw[how];rw[<-Br,fR] at Fi;injection Fi with Fi;rw[Fi]
  ·exact⟨tN,by rw[xk Br];exact Fi,how⟩
 ·have hsw:=hM.JF;refine SW.congr (mk:=fun j=>(aK Xs k).aF j||L.contains j) (ow:=ow) ⟨hsw.len,hsw.nd,hsw.ng,fun i hi=>?_,fun i hi=>?_⟩ (fun _ _=>rfl) (fun i _=>by unfold Bq;simp)
  ·exact(World.cell?_of_block (w:=w2) (k6 g (by omega) (Or.inr hg0))).trans (hsw.row i hi)
  ·have:=hbb _ (qj hi);exact(k6 _ (by omega) (Or.inr this)).trans (hsw.side i hi)
 ·obtain⟨gY,cY,yZ,JI,gD,_,_,_,hcl⟩:=ny hM.ws.own (by
   intro e;have:=rB.1 e;rw[this] at hts;simp at hts)
  have Fg:gY=gW:=by
   injection yZ with h1;injection h1 with h1;injection h1 with h1;exact h1.symm
  subst Fg;have hc:=hcl t (bx bs s) (by rw[gm,hts];rfl)
  rw[jd] at hc;refine(World.cell?_of_block (w:=w1) (?_:w6.heap[gY]?=w1.heap[gY]?)).trans hc;exact(k6 gY (by omega) (Or.inl JI)).trans (hM.ri.below.block gY gD)
 ·have hne:L≠[]:=fun e=>by have:=hW.head;rw[e] at this;simp at this
  obtain⟨gY,cY,yZ,JI,_⟩:=ny hM.ws.own (by intro e;exact hne (rB.1 e))
  have Fg:gY=gW:=by
   injection yZ with h1;injection h1 with h1;injection h1 with h1;exact h1.symm
  omega
 ·exact Pr.below (jt.mo) fun b hb hb'=>by
   have hge:=hA.ge;rcases aQ.1 hb' with e|e
   ·omega
   ·have e':ph.hv.ownBlock=some b:=by simpa using e
    have:=Fh b e';omega
theorem akH(hbb:∀b∈bs,b<w0.heap.size)(k:Nat)(lv:Value)(gW cW:Nat)(L:List Nat)(ob t:Nat)(wr:World)(hF:FQ bs Xs g w0 k lv gW cW L ob t wr)(ht:t<L.length):∃b o,wr.cell? ⟨gW,t,none⟩=some (.pointer (some ⟨b,0,none⟩))/\wr.cell? ⟨b,7,none⟩=some o/\wr.frozen? ⟨b,7,none⟩=false/\FQ bs Xs g w0 k lv gW cW L ob (t+1) (wr.setCell ⟨b,7,none⟩ (.pointer (some ⟨ob,0,none⟩))):=by
 obtain⟨hk,hlt,hmk,Pz,PH,T,ow,q,ph,kR,hq,fR,hpb,hown,hsw,hcell,PA,hmo⟩:=hF;obtain⟨s,hs⟩:∃s,L[t]?=some s:=⟨_,ay ht⟩;have hsl:s<bs.length:=by rw[hsw.len];exact hlt s (aY hs)
 have Ff:=hsw.side s hsl;have hbs:=hbb _ (qj hsl);have kk:∀b,w0.heap.size<=b->(wr.setCell ⟨bx bs s,7,none⟩ (.pointer (some ⟨ob,0,none⟩))).heap[b]?=wr.heap[b]?:=fun b hb=>Below.heap_setCell _ _ _ _ (by show b≠bx bs s;omega)
 refine⟨bx bs s,_,hcell t s hs,cell_of Ff 7,aB Ff 7,hk,hlt,hmk,Pz,PH,T,ow,q,ph,kR.keep (fun b hb _=>kk b hb),hq,fR,hpb,hown,?_,fun t' s' hs'=>(World.cell?_of_block (w:=wr) (kk gW PA)).trans (hcell t' s' hs'),PA,hmo.trans (Mo.setCell bs wr (p:=⟨bx bs s,7,none⟩) (qj hsl) _)⟩
 refine(hsw.own hsl ob).congr (fun _ _=>rfl) (fun i _=>?_)
 have htk:L.take (t+1)=L.take t++[s]:=by rw[jx,hs];rfl
 unfold Bq;rw[htk];by_cases hi:i=s
 ·rw[if_pos hi,if_pos (by rw[hi];simp)]
 ·rw[if_neg hi];have:(L.take t++[s]).contains i=(L.take t).contains i:=by
   simp only[List.contains_eq_mem,bW,bJ];simp[hi]
  rw[this]
theorem akI(k:Nat)(lv:Value)(gW cW:Nat)(L:List Nat)(ob:Nat)(wr:World)(hF:FQ bs Xs g w0 k lv gW cW L ob L.length wr):JG bs Xs g w0 (k+1) lv wr:=by
 obtain⟨hk,hlt,hmk,Pz,PH,T,ow,q,ph,kR,hq,fR,hpb,hown,hsw,hcell,PA,hmo⟩:=hF;rw[dI] at hsw;refine⟨by omega,PH,T,Bq ow L ob,hsw.congr (fun i _=>hmk i) (fun _ _=>rfl),kR,fun j hj lL=>?_,hmo⟩
 rw[hmk] at lL;unfold Bq;cases hc:L.contains j
 ·rw[hc,F8] at lL;obtain⟨tN,h1,h2⟩:=hown j hj lL;exact⟨tN,by rw[Pz j hc];exact h1,by simp only[iP,if_false];exact h2⟩
 ·exact⟨ph,by rw[hq j hc];exact fR,by simp only[if_true];rw[hpb]⟩
theorem akJ(h:SX rg l r Xs)(hB:BD Xs)(hbb:∀b∈bs,b<w0.heap.size)(hg0:g<w0.heap.size)(hbc:bs.length<=cap)(hsw:SW g bs Xs (fun _=>false) (fun _=>none) w0)(Q:Value->World->Prop)
  (HS:∀lv PH T wr,PI bs w0.heap.size lv (aK Xs Xs.length).ps PH T wr->RB wr g bs Xs->bs.Nodup->Mo bs w0 wr->PH.length<=85000000->Calls Tryz.prog 116 #[lv] wr fun e w'=>e=.returned (.tuple #[])/\Q lv w'):
  Calls Tryz.prog 69 #[.slice (some ⟨g,0,none⟩) bs.length cap] w0 fun e w'=>∃lv,e=.returned lv/\Q lv w':=by
 have hlen:=hsw.len;have hC:Zn bs g cap (JG bs Xs g w0) (BQ bs Xs g w0) (Po bs Xs g w0) (Pq bs Xs g w0) (DQ bs Xs g w0 true) (DQ bs Xs g w0 false) (EQ bs Xs g w0) (FQ bs Xs g w0) Q w0.heap.size:=
  ⟨fun k lv wr hI hk=>akn k lv wr hI hk,fun k lv wr hb=>ako h hB hg0 hbc k lv wr hb,fun k lv gW cW L w1 hc=>akq h hB k lv gW cW L w1 hc,fun k lv gW cW L gR cR n w2 hc=>akr h hB hbb hg0 k lv gW cW L gR cR n w2 hc,fun k lv gW cW L gR cR n N w4 hd=>akt h hB hbb k lv gW cW L gR cR n N w4 hd,fun k lv gW cW L gR cR n N w4 hd=>aku h hB hbb k lv gW cW L gR cR n N w4 hd,
   fun k lv gW cW L gR cR n ob w5 he=>by
    rcases he with he|he
    ·exact akw h hB hbb hg0 k lv gW cW L gR cR n ob w5 he
    ·exact akB h hB hbb hg0 k lv gW cW L gR cR n ob w5 he,
   fun k lv gW cW L ob t wr hF ht=>akH hbb k lv gW cW L ob t wr hF ht,fun k lv gW cW L ob wr hF _=>akI k lv gW cW L ob wr hF,fun lv wr hI=>by
    obtain⟨_,PH,T,ow,hH⟩:=hI;rw[hlen] at hH;refine HS lv PH T wr hH.pi hH.sw.rb hH.sw.nd hH.mo ?_;rw[hH.pi.len];have h1:=(h.pv hB Xs.length (ae _)).len;have h2:=hB.len;omega⟩
 refine akh bs g cap _ _ _ _ _ _ _ _ Q w0.heap.size hC w0 (by rw[hlen];exact hB.len) ⟨iz _,[],fun _=>.ring,fun _=>none,?_⟩
 exact⟨hsw,⟨World.ownsRow_nil _ _ _ _,fun k e=>by simp[Value.ownBlock] at e,rfl,fun q ph ps hq=>by simp at hq⟩,fun j _ hm=>by simp[aK] at hm,Mo.refl _ _⟩
end
end Go.Proofs.YtkjhhooecopolaaGreatDoor
namespace Go.Proofs.YtkjhhooecopolaaGreatDoor
open Go.RowKit
def mI(Xs:List PB):List Nat->List Nat->Int
 |[],[]=>0
 |[],_::_=> -1
 |_::_,[]=>1
 |a::r,b::s=>if aW (xi Xs a).f (xi Xs b).f=0 then mI Xs r s else aW (xi Xs a).f (xi Xs b).f
def Gr(w w':World):Prop:=Below w.heap.size w w'/\w.drawn<=w'.drawn
theorem Gr.refl(w:World):Gr w w:=⟨Below.refl _ _,ae _⟩
theorem Gr.trans{a b c:World}(h:Gr a b)(k:Gr b c):Gr a c:=⟨h.1.trans (k.1.mono h.1.size),dS h.2 k.2⟩
theorem akK(Xs:List PB)(bs:List Nat)(r1 r2:List Nat)(g1 c1 g2 c2:Nat)(w:World)(_h1:r1.length<=85000000)(h2:r2.length<=85000000)
  (wG:Hid (∀(i:Nat) a,r1[i]?=some a->w.cell? ⟨g1,i,none⟩=some (.pointer (some ⟨bx bs a,0,none⟩))))(wH:Hid (∀(i:Nat) a,r2[i]?=some a->w.cell? ⟨g2,i,none⟩=some (.pointer (some ⟨bx bs a,0,none⟩))))
  (HC:Hid (∀a∈r1,∀b∈r2,∀w',Gr w w'->Calls Tryz.prog 109 #[.pointer (some ⟨bx bs a,0,none⟩),.pointer (some ⟨bx bs b,0,none⟩)] w' fun e w''=>e=.returned (.int .i64 (aW (xi Xs a).f (xi Xs b).f))/\Gr w' w'')):
  Calls Tryz.prog 216 #[.slice (some ⟨g1,0,none⟩) r1.length c1,.slice (some ⟨g2,0,none⟩) r2.length c2,.func (.func 109) #[] #[]] w fun e w'=>e=.returned (.int .i64 (mI Xs r1 r2))/\Gr w w':=by
 have bh:Hid (mI Xs (r1.drop 0) (r2.drop 0)=mI Xs r1 r2):=rfl
 go_enter Tryz.func216,Tryz.ntmps216
 go_wp2_with fail
 go_loopg [13] r1.length (fun m iv wr=>∃k:Nat,k+m=r1.length/\iv=.int .i64 k/\Hid (Gr w wr/\k<=r2.length/\mI Xs (r1.drop k) (r2.drop k)=mI Xs r1 r2))
 case atStart=>exact⟨0,by omega,rfl,Gr.refl _,iz _,bh.out⟩
 case round=>
  obtain⟨k,hkn,rfl,HB⟩:=hrel;clear bh;obtain⟨hb0,hk2,hcm⟩:=HB.out;by_cases hlt:k<r1.length
  ·obtain⟨a,ha⟩:∃a,r1[k]?=some a:=⟨_,ay hlt⟩;have d1:=(hb0.1.cell (p:=⟨g1,k,none⟩) (lt_of_cell (wG.out k a ha))).trans (wG.out k a ha);have eD:(k:Int)<(r1.length:Int):=by omega
   by_cases nR:k<r2.length
   ·obtain⟨b,hb⟩:∃b,r2[k]?=some b:=⟨_,ay nR⟩;have d2:=(hb0.1.cell (p:=⟨g2,k,none⟩) (lt_of_cell (wH.out k b hb))).trans (wH.out k b hb);have WC:(k:Int)<(r2.length:Int):=by omega
    have Ao:¬((k:Int)≥(r2.length:Int)):=by omega
    have ir:Hid (Calls Tryz.prog 109 #[.pointer (some ⟨bx bs a,0,none⟩),.pointer (some ⟨bx bs b,0,none⟩)] wr fun e w''=>e=.returned (.int .i64 (aW (xi Xs a).f (xi Xs b).f))/\Gr wr w''):=HC.out a (aY ha) b (aY hb) wr hb0
    have gG:Hid ((if aW (xi Xs a).f (xi Xs b).f=0 then mI Xs (r1.drop (k+1)) (r2.drop (k+1)) else aW (xi Xs a).f (xi Xs b).f)=mI Xs r1 r2):=by
     have:=hcm;rw[vg ha,vg hb] at this;exact this
    have nT:Hid (Gr w wr):=hb0;clear ha hb hcm hb0 HB;generalize aW (xi Xs a).f (xi Xs b).f=V at*
    go_wp2_with fail
    refine ir.out.mono ?_;rintro e w5 ⟨rfl,ai⟩;have eI:Hid (Gr w w5):=nT.out.trans ai;clear ir ai d1 d2 nT;by_cases hV:V=0
    ·have HM:Hid (mI Xs (r1.drop (k+1)) (r2.drop (k+1))=mI Xs r1 r2):=by
      have:=gG.out;rw[if_pos hV] at this;exact this
     subst hV;clear gG
     go_wp2_with fail
     go_roundg (gk-1)
     case measure=>omega
     case rel=>exact⟨k+1,by omega,by go_num,eI.out,by omega,HM.out⟩
    ·have HM:Hid (V=mI Xs r1 r2):=by
      have:=gG.out;rw[if_neg hV] at this;exact this
     clear gG
     go_wp2_with fail
     go_ret
     exact⟨by rw[<-HM.out];rfl,eI.out⟩
   ·have Ao:(k:Int)≥(r2.length:Int):=by omega
    have HM:Hid ((1:Int)=mI Xs r1 r2):=by
     have:=hcm;rw[vg ha,show r2.drop k=[] from anx (by omega)] at this
     exact this
    have nT:Hid (Gr w wr):=hb0;clear ha hcm hb0 HB HC wG wH
    go_wp2_with fail
    go_ret
    exact⟨by rw[<-HM.out];rfl,nT.out⟩
  ·have hk:k=r1.length:=by omega
   subst hk;rw[Rj] at hcm;have nT:Hid (Gr w wr):=hb0;by_cases nR:r1.length<r2.length
   ·have Ao:(r1.length:Int)<(r2.length:Int):=by omega
    have HM:Hid ((-1:Int)=mI Xs r1 r2):=by
     obtain⟨b,hb⟩:∃b,r2[r1.length]?=some b:=⟨_,ay nR⟩;rw[vg hb] at hcm;exact hcm
    clear hcm hb0 HB HC wG wH
    go_wp2_with fail
    go_ret
    exact⟨by rw[<-HM.out];rfl,nT.out⟩
   ·have Ao:¬(r1.length:Int)<(r2.length:Int):=by omega
    have HM:Hid ((0:Int)=mI Xs r1 r2):=by
     rw[anx (by omega)] at hcm
     exact hcm
    clear hcm hb0 HB HC wG wH
    go_wp2_with fail
    go_ret
    exact⟨by rw[<-HM.out];rfl,nT.out⟩
def fC:List Ge.Nd->List Ge.Nd->Int
 |[],[]=>0
 |[],_::_=> -1
 |_::_,[]=>1
 |a::r,b::s=>if aW a b=0 then fC r s else aW a b
def fr(Xs:List PB)(r:List Nat):List Ge.Nd:=r.map fun a=>(xi Xs a).f
theorem ZI(Xs:List PB):∀r s,mI Xs r s=fC (fr Xs r) (fr Xs s)
 |[],[]=>rfl
 |[],_::_=>rfl
 |_::_,[]=>rfl
 |a::r,b::s=>by
  show(if aW (xi Xs a).f (xi Xs b).f=0 then mI Xs r s else _)=(if aW (xi Xs a).f (xi Xs b).f=0 then fC (fr Xs r) (fr Xs s) else _)
  rw[ZI Xs r s]
theorem JJ:∀r,fC r r=0
 |[]=>rfl
 |a::r=>by
  show(if aW a a=0 then fC r r else _)=0
  rw[if_pos (wR a)];exact JJ r
theorem JK:∀r s,(∀a∈r,Ge.Can a)->(∀a∈s,Ge.Can a)->fC r s<0\/fC s r<0\/r=s
 |[],[],_,_=>Or.inr (Or.inr rfl)
 |[],_::_,_,_=>Or.inl (by show(-1:Int)<0;omega)
 |_::_,[],_,_=>Or.inr (Or.inl (by show(-1:Int)<0;omega))
 |a::r,b::s,h1,h2=>by
  show(if aW a b=0 then fC r s else aW a b)<0\/(if aW b a=0 then fC s r else aW b a)<0\/_
  by_cases h0:aW a b=0
  ·have e:=Ge.uM (h1 a (by simp)) (h2 b (by simp)) h0
   subst e;rw[if_pos h0,if_pos h0];rcases JK r s (fun a ha=>h1 a (by simp[ha])) (fun a ha=>h2 a (by simp[ha])) with h|h|h
   ·exact Or.inl h
   ·exact Or.inr (Or.inl h)
   ·exact Or.inr (Or.inr (by rw[h]))
  ·have hs:=N5 a b;rw[if_neg h0,if_neg (by omega)]
   by_cases hl:aW a b<0
   ·exact Or.inl hl
   ·exact Or.inr (Or.inl (by omega))
theorem JL:∀r s t,(∀a∈r,Ge.Can a)->(∀a∈s,Ge.Can a)->(∀a∈t,Ge.Can a)->fC r s<0->fC s t<0->fC r t<0
 |[],[],_,_,_,_,h,_=>by exact absurd h (by show ¬(0:Int)<0;omega)
 |[],_::_,[],_,_,_,_,h=>by exact absurd h (by show ¬(1:Int)<0;omega)
 |[],_::_,_::_,_,_,_,_,_=>by show(-1:Int)<0;omega
 |_::_,[],_,_,_,_,h,_=>by exact absurd h (by show ¬(1:Int)<0;omega)
 |_::_,_::_,[],_,_,_,_,h=>by exact absurd h (by show ¬(1:Int)<0;omega)
 |a::r,b::s,c::t,h1,h2,h3,k1,k2=>by
  have ca:=h1 a (by simp)
  have cb:=h2 b (by simp)
  have cc:=h3 c (by simp)
  have xa:(if aW a b=0 then fC r s else aW a b)<0:=k1
  have xd:(if aW b c=0 then fC s t else aW b c)<0:=k2
  show(if aW a c=0 then fC r t else aW a c)<0
  by_cases e1:aW a b=0
  ·have e:=Ge.uM ca cb e1;subst e;rw[if_pos e1] at xa;by_cases e2:aW a c=0
   ·rw[if_pos e2] at xd⊢;exact JL r s t (fun a ha=>h1 a (by simp[ha])) (fun a ha=>h2 a (by simp[ha])) (fun a ha=>h3 a (by simp[ha])) xa xd
   ·rw[if_neg e2] at xd⊢;exact xd
  ·rw[if_neg e1] at xa;by_cases e2:aW b c=0
   ·have e:=Ge.uM cb cc e2;subst e;rw[if_neg e1];exact xa
   ·rw[if_neg e2] at xd;have:=Bh.2 (Ge.lt_trans (Ge.cL ca) (Ge.cL cb) (Ge.cL cc) (Bh.1 xa) (Bh.1 xd));rw[if_neg (by omega)]
    exact this
theorem Bt{ι:Type}(key:ι->List Ge.Nd)(hc:∀i,∀a∈key i,Ge.Can a):Sort.SWO (ltOf fun i j=>fC (key i) (key j)):=by
 have e:∀i j,ltOf (fun i j=>fC (key i) (key j)) i j=true↔fC (key i) (key j)<0:=fun i j=>decide_eq_true_iff
 have e':∀i j,ltOf (fun i j=>fC (key i) (key j)) i j=false↔¬fC (key i) (key j)<0:=fun i j=>by rw[<-e];simp
 exact{
  irrefl:=fun x=>(e' x x).2 (by rw[JJ];omega)
  trans:=fun x y z h1 h2=>(e x z).2 (JL _ _ _ (hc x) (hc y) (hc z) ((e x y).1 h1) ((e y z).1 h2))
  ntrans:=fun x y z h1 h2=>(e' x z).2 fun h=>by
   rcases JK _ _ (hc x) (hc y) with k|k|k
   ·exact(e' x y).1 h1 k
   ·exact(e' y z).1 h2 (JL _ _ _ (hc y) (hc x) (hc z) k h)
   ·rw[k] at h;exact(e' y z).1 h2 h}
theorem akL(v1 v2:Value)(w:World)(c:Int)
  (HC:Hid (Calls Tryz.prog 216 #[v1,v2,.func (.func 109) #[] #[]] w fun e w'=>e=.returned (.int .i64 c)/\Gr w w')):
  Calls Tryz.prog 174 #[v1,v2] w fun e w'=>e=.returned (.int .i64 c)/\Gr w w':=by
 go_enter Tryz.func174,Tryz.ntmps174
 go_wp2_with fail
 refine HC.out.mono ?_;rintro e w5 ⟨rfl,ai⟩;have eI:Hid (Gr w w5):=ai;clear ai HC
 go_wp2_with fail
 go_ret
 exact⟨rfl,eI.out⟩
theorem akM(b1 b2 g1 n1 c1 g2 n2 c2:Nat)(w:World)(c:Int)(a1:w.cell? ⟨b1,0,none⟩=some (.slice (some ⟨g1,0,none⟩) n1 c1))(a2:w.cell? ⟨b2,0,none⟩=some (.slice (some ⟨g2,0,none⟩) n2 c2))
  (HC:Hid (∀w',Gr w w'->Calls Tryz.prog 174 #[.slice (some ⟨g1,0,none⟩) n1 c1,.slice (some ⟨g2,0,none⟩) n2 c2] w' fun e w''=>e=.returned (.int .i64 c)/\Gr w' w'')):
  Calls Tryz.prog 176 #[.pointer (some ⟨b1,0,none⟩),.pointer (some ⟨b2,0,none⟩)] w fun e w'=>e=.returned (.int .i64 c)/\Gr w w':=by
 go_enter Tryz.func176,Tryz.ntmps176
 go_wp2_with fail
 have hz1:b1<w.heap.size:=lt_of_cell a1;have hz2:b2<w.heap.size:=lt_of_cell a2;have HG:Hid (Gr w w.drew):=⟨(Below.refl _ _).drew,lO _⟩
 go_region_held3 (fun w'=>w'.cell? ⟨b1,0,none⟩=some (.slice (some ⟨g1,0,none⟩) n1 c1)/\w'.cell? ⟨b2,0,none⟩=some (.slice (some ⟨g2,0,none⟩) n2 c2)) (go_keep) (first
   |(go_at_call 174;refine(HC.out _ HG.out).mono ?_;rintro e w5 ⟨rfl,ai⟩;have e0:=(ai.1.cell (p:=⟨b1,0,none⟩) hz1).trans a1;have e1:=(ai.1.cell (p:=⟨b2,0,none⟩) hz2).trans a2))
 all_goals
  have eI:Hid (Gr w w5):=HG.out.trans ai;clear ai HC HG
  go_wp2_with fail
  go_ret
  exact⟨rfl,eI.out⟩
theorem ZJ{g:Nat}{bs:List Nat}{Xs:List PB}{b1 b2:Nat}{v1 v2:Value}{r1 r2:List Nat}{w:World}(hB:BD Xs)(hR:RB w g bs Xs)
  (o1:w.ownsRow b1 175 1 v1 r1.length (aG (r1.map (bx bs))))(o2:w.ownsRow b2 175 1 v2 r2.length (aG (r2.map (bx bs))))(n1:r1≠[])(n2:r2≠[])(i1:∀a∈r1,a<Xs.length)(i2:∀a∈r2,a<Xs.length)(l1:r1.length<=85000000)(l2:r2.length<=85000000):
  Calls Tryz.prog 174 #[v1,v2] w fun e w'=>e=.returned (.int .i64 (fC (fr Xs r1) (fr Xs r2)))/\Gr w w':=by
 obtain⟨g1,c1,rfl,_,_,_,f1⟩:=nD o1 (gL.2 n1);obtain⟨g2,c2,rfl,_,_,_,f2⟩:=nD o2 (gL.2 n2);rw[<-ZI];refine akL _ _ _ _ (akK Xs bs r1 r2 g1 c1 g2 c2 w l1 l2 (fun i a h=>f1 i _ (by simp[aG,h])) (fun i a h=>f2 i _ (by simp[aG,h])) (fun a ha b hb w' hG=>?_))
 have hR':=hR.below hG.1;have sd:∀a,a<Xs.length->iE w' (bx bs a) (xi Xs a):=fun a ha=>hR'.side a _ _ (wQ (by rw[hR.len];exact ha)) (uY ha)
 exact(NN _ _ (hB.v _ (gh (i1 a ha))) (hB.v _ (gh (i2 b hb))) _ _ w' (sd a (i1 a ha)) (sd b (i2 b hb))).mono fun _ _⟨h1,h2,h3⟩=>⟨h1,h2,h3⟩
end Go.Proofs.YtkjhhooecopolaaGreatDoor
namespace Go.Proofs
open Go.Shelf
shelf_try shelf_lay_g SlLaysF.n6 Slsf 6 at Tryz 173 as Tryz.sortRg
shelf_tried
shelf_try shelf_lay_g SlLaysF.n6 Slsf 6 at Tryz 175 as Tryz.sortPg
shelf_tried
end Go.Proofs
namespace Go.Proofs.YtkjhhooecopolaaGreatDoor
open Go.RowKit Go.Shelf
def oI{n:Nat}(cf:Fin n->Fin n->Int)(h:0<n):Array (Fin n):=
 haveI:Inhabited (Fin n):=⟨⟨0,h⟩⟩
 Sort.pdq (ltOf cf) (Array.ofFn id) 0 n (Lib.bitLen n) true true
def jY{β:Type}(cf:β->β->Int)(l:List β):List β:=if h:0<l.length then(oI (fun i j:Fin l.length=>cf l[i] l[j]) h).toList.map (fun i=>l[i]) else[]
theorem PC{n:Nat}(cf:Fin n->Fin n->Int)(hO:Sort.SWO (ltOf cf))(h:0<n):(oI cf h).size=n/\(oI cf h).toList.Perm (Array.ofFn (id:Fin n->Fin n)).toList/\
  ∀i j(hi:i<(oI cf h).size)(hj:j<(oI cf h).size),i<j->¬cf (oI cf h)[j] (oI cf h)[i]<0:=by
 letI:Inhabited (Fin n):=⟨⟨0,h⟩⟩
 have hs:(Array.ofFn (id:Fin n->Fin n)).size=n:=Ri;have key:=Sort.pdq_sorts (ltOf cf) hO (Array.ofFn id) 0 n (Lib.bitLen n) true true (iz _) (by rw[hs];exact ae _) (Or.inl rfl)
 have e:oI cf h=Sort.pdq (ltOf cf) (Array.ofFn id) 0 n (Lib.bitLen n) true true:=rfl;rw[<-e] at key;obtain⟨⟨p1,_,p3⟩,p4⟩:=key;have hd:(oI cf h).size=n:=by rw[p1,hs]
 rw[Jg _ hd,Jg _ hs] at p3;refine⟨hd,p3,fun i j hi hj hij=>?_⟩
 have hx:=p4 i j (iz _) hij (by omega)
 rw[getElem!_pos (oI cf h) i hi,getElem!_pos (oI cf h) j hj] at hx;exact of_decide_eq_false hx
theorem ZK{ρ:Ren}(L:SlLaysF.n6 Tryz.prog ρ)(fn:Nat)(eg:∀args w,(callFunc fn args).run Tryz.prog w=.ok (.enter fn args) w){β:Type}(cf:β->β->Int)(l:List β)(vals:List Value)(hone:∀v∈vals,v.oneCell'=true){base:Nat}{t:TypeId}{lv:Value}{wr:World}(ho:wr.ownsRow base t 1 lv vals.length vals)(hl:vals.length=l.length)(hsz:l.length<=85000000)
  (hO:Sort.SWO (ltOf fun i j:Fin l.length=>cf l[i] l[j]))
  (wz:∀w',wr.heap.size<=w'.heap.size->(∀k,k<wr.heap.size->lv.ownBlock≠some k->w'.heap[k]?=wr.heap[k]?)->∀(i j:Nat) u v x y,vals[i]?=some u->vals[j]?=some v->l[i]?=some x->l[j]?=some y->Calls Tryz.prog fn #[u,v] w' fun e w''=>e=.returned (.int .i64 (cf x y))/\Gr w' w''):
  Calls Tryz.prog (ρ.f 6) #[lv,.func (.func fn) #[] #[]] wr fun e w'=>e=.returned (.tuple #[])/\∃d:List Nat,d.Perm (List.range l.length)/\jY cf l=d.filterMap (fun i=>l[i]?)/\(jY cf l).length=l.length/\w'.ownsRow base t 1 lv vals.length (d.filterMap (fun i=>vals[i]?))/\(∀(i:Nat) u x,(d.filterMap (fun i=>vals[i]?))[i]?=some u->(jY cf l)[i]?=some x->∃j,j<l.length/\d[i]?=some j/\vals[j]?=some u/\l[j]?=some x)/\
   Mo lv.ownBlock.toList wr w':=by
 obtain⟨hlen,jC⟩:=id ho;rcases jC with⟨rfl,h0⟩|⟨g,cap,cur,rfl,hg,hblk,hnc,hcm,hcs,htk⟩
 ·have hv0:vals=[]:=gq.1 h0;have hl0:l=[]:=gq.1 (by rw[<-hl];exact h0)
  subst hv0;subst hl0;refine(AnyF.slices_SortFunc_none {L with} none 0 _ wr).mono ?_;rintro e w' ⟨rfl,rfl⟩;exact⟨rfl,[],xw _,rfl,rfl,ho,fun i u x h=>by simp at h,Mo.refl _ _⟩
 ·by_cases hn:0<l.length
  ·letI:Inhabited (Fin l.length):=⟨⟨0,hn⟩⟩
   have hgl:g<wr.heap.size:=lt_of_heap hblk;have hs:(Array.ofFn (id:Fin l.length->Fin l.length)).size=l.length:=Ri;have q8:∀i:Fin l.length,i.1<vals.length:=fun i=>by rw[hl];exact i.2
   obtain⟨enc,Fj⟩:∃enc:Fin l.length->Value,enc=fun i=>vals[i.1]'(q8 i):=⟨_,rfl⟩
   have henc:(Array.ofFn (id:Fin l.length->Fin l.length)).toList.map enc=vals:=by
    apply xx
    ·simp[hl]
    ·intro i h1 h2;simp[Fj]
   have hH:Sort.Holds enc wr g 0 (Array.ofFn id):=by
    intro j hj;have hj':j<vals.length:=by rw[hl,<-hs];exact hj
    have e1:(cur.toList.take (vals.length*1))[j]?=((Array.ofFn (id:Fin l.length->Fin l.length)).toList.map enc)[j]?:=by rw[htk,henc]
    rw[j6,if_pos (by omega),iQ,gm,iQ,nM hj] at e1
    refine⟨?_,aB hblk _⟩;rw[jd];unfold World.cell?;rw[hblk,getElem!_pos (Array.ofFn (id:Fin l.length->Fin l.length)) j hj];exact e1
   have hC:CmpLays1 Tryz.prog fn #[] enc (fun i j:Fin l.length=>cf l[i] l[j]) g 0 l.length wr:=by
    intro m os dk hdk x y;refine(wz (sortWorld enc wr g 0 m dk os) (NQ enc dk m os wr g) (fun k hk hne=>Ep enc dk m os hk (fun e=>hne (congrArg some e))) x.1 y.1 (enc x) (enc y) l[x] l[y] (by rw[Fj];exact ay _) (by rw[Fj];exact ay _) (ay x.2) (ay y.2)).mono ?_
    exact fun _ _⟨h1,h2⟩=>⟨h1,IG h2.1 h2.2⟩
   have hcon:=Any.slices_SortFunc_eq L enc (fun x=>hone _ (by rw[Fj];exact ie _)) (fun i j:Fin l.length=>cf l[i] l[j]) hO fn #[] g 0 cap (Array.ofFn id) wr eg (by rw[hs];exact hC) hH hgl (by rw[hs];omega)
   rw[hs] at hcon;rw[hl];refine hcon.mono ?_;rintro r w' ⟨rfl,m,os,rfl⟩;refine⟨rfl,?_⟩;have e:Sort.pdq (ltOf fun i j:Fin l.length=>cf l[i] l[j]) (Array.ofFn id) 0 l.length (Lib.bitLen l.length) true true=oI (fun i j:Fin l.length=>cf l[i] l[j]) hn:=rfl
   rw[e];have hsp:=PC (fun i j:Fin l.length=>cf l[i] l[j]) hO hn
   have hd:=hsp.1;have p3:=hsp.2.1;clear hsp hcon e;have eX:jY cf l=(oI (fun i j:Fin l.length=>cf l[i] l[j]) hn).toList.map (fun i=>l[i]):=by unfold jY;rw[dif_pos hn]
   rw[eX];clear eX;obtain⟨d',hd'⟩:∃d',d'=oI (fun i j:Fin l.length=>cf l[i] l[j]) hn:=⟨_,rfl⟩
   rw[<-hd'] at hd p3⊢;have fm:∀{γ:Type}(q:List γ)(hq:q.length=l.length),(d'.toList.map (·.1)).filterMap (fun i=>q[i]?)=d'.toList.map (fun i:Fin l.length=>q[i.1]'(by rw[hq];exact i.2)):=fun q hq=>by
    rw[List.filterMap_map];rw[<-List.filterMap_eq_map];congr 1;funext i;simp
   refine⟨d'.toList.map (·.1),?_,?_,by simp[hd],?_,?_,?_⟩
   ·have k:=p3.map (fun i:Fin l.length=>i.1)
    have e3:(Array.ofFn (id:Fin l.length->Fin l.length)).toList.map (fun i:Fin l.length=>i.1)=List.range l.length:=by
     apply xx
     ·simp
     ·intro i h1 h2;simp
    rw[e3] at k;exact k
   ·rw[fm l rfl];rfl
   ·rw[fm vals hl];refine⟨by simp[hd],Or.inr ⟨g,cap,_,rfl,hg,XF enc d' m os hblk,by rw[<-hl];exact hnc,hcm,?_,?_⟩⟩
    ·unfold Sort.putCells;rw[Re];exact hcs
    ·have e1:l.length*1=d'.size:=by rw[hd];omega
     rw[e1,XG _ _ _ (by rw[hcs,hd,<-hl];omega),Fj]
   ·intro i u x h1 h2;rw[fm vals hl,gm] at h1;rw[gm] at h2;cases hj:d'.toList[i]? with
    |none=>rw[hj] at h1;cases h1
    |some j=>
     rw[hj] at h1 h2;have hb:vals[j.1]'(q8 j)=u:=by simpa using h1
     have hx:l[j]=x:=by simpa using h2
     exact⟨j.1,j.2,by rw[gm,hj];rfl,by rw[ay (q8 j),hb],by rw[ay j.2];exact congrArg some hx⟩
   ·exact⟨rfl,rfl,rfl,NQ enc d' m os wr g,fun k hk hne=>Ep enc d' m os hk (fun e=>hne (by simp[Value.ownBlock,e]))⟩
  ·have hl0:l=[]:=gq.1 (by omega)
   have hv0:vals=[]:=gq.1 (by rw[hl];omega)
   subst hv0;subst hl0;refine(AnyF.slices_SortFunc_none {L with} (some ⟨g,0,none⟩) cap _ wr).mono ?_;rintro r w' ⟨rfl,rfl⟩;exact⟨rfl,[],xw _,rfl,rfl,ho,fun i u x h=>by simp at h,Mo.refl _ _⟩
theorem akN(g n cap:Nat)(Inv:Nat->World->Prop)(Q:World->Prop)(w:World)(hn:n<=85000000)
  (HK:Hid (∀k wr,Inv k wr->k<n->∃pb so m c,wr.cell? ⟨g,k,none⟩=some (.pointer (some ⟨pb,0,none⟩))/\wr.cell? ⟨pb,1,none⟩=some (.slice so m c)/\Calls Tryz.prog 173 #[.slice so m c,.func (.func 174) #[] #[]] wr fun e w'=>e=.returned (.tuple #[])/\Inv (k+1) w'))
  (HL:Hid (∀wr,Inv n wr->Calls Tryz.prog 175 #[.slice (some ⟨g,0,none⟩) n cap,.func (.func 176) #[] #[]] wr fun e w'=>e=.returned (.tuple #[])/\Q w'))
  (DK:Hid (Inv 0 w)):
  Calls Tryz.prog 116 #[.slice (some ⟨g,0,none⟩) n cap] w fun e w'=>e=.returned (.tuple #[])/\Q w':=by
 go_enter Tryz.func116,Tryz.ntmps116
 go_wp2_with fail
 go_loopg [6] n (fun m iv wr=>∃k:Nat,k+m=n/\iv=.int .i64 k/\Hid (Inv k wr))
 case atStart=>exact⟨0,by omega,rfl,DK.out⟩
 case round=>
  obtain⟨k,hkn,rfl,HE⟩:=hrel;clear DK;by_cases hlt:k<n
  ·obtain⟨pb,so,m,c,c1,c2,hc⟩:=HK.out k wr HE.out hlt;have HC:Hid (Calls Tryz.prog 173 #[.slice so m c,.func (.func 174) #[] #[]] wr fun e w'=>e=.returned (.tuple #[])/\Inv (k+1) w'):=hc
   have eD:(k:Int)<(n:Int):=by omega
   clear hc HE
   go_wp2_with fail
   refine HC.out.mono ?_;rintro e w5 ⟨rfl,h5⟩;have H5:Hid (Inv (k+1) w5):=h5;clear h5 HC c1 c2
   go_wp2_with fail
   go_roundg (gk-1)
   case measure=>omega
   case rel=>exact⟨k+1,by omega,by go_num,H5.out⟩
  ·have hk:k=n:=by omega
   subst hk;have HC:Hid (Calls Tryz.prog 175 #[.slice (some ⟨g,0,none⟩) k cap,.func (.func 176) #[] #[]] wr fun e w'=>e=.returned (.tuple #[])/\Q w'):=HL.out wr HE.out
   clear HL HK HE
   go_wp2_with fail
   refine HC.out.mono ?_;rintro e w5 ⟨rfl,h5⟩;have H5:Hid (Q w5):=h5;clear h5 HC
   go_wp2_with fail
   go_end0
   exact⟨rfl,H5.out⟩
theorem ZL(w:World):
  Calls Tryz.prog 116 #[.slice none 0 0] w fun e w'=>e=.returned (.tuple #[])/\w'=w:=by
 have HC:Hid (Calls Tryz.prog 175 #[.slice none 0 0,.func (.func 176) #[] #[]] w fun e w'=>e=.returned (.tuple #[])/\w'=w):=AnyF.slices_SortFunc_none {Tryz.sortPg with} none 0 _ w
 go_enter Tryz.func116,Tryz.ntmps116
 go_wp2_with fail
 go_loopg [6] 0 (fun m iv wr=>m=0/\iv=.int .i64 0/\wr=w)
 case atStart=>exact⟨rfl,rfl,rfl⟩
 case round=>
  obtain⟨_,rfl,rfl⟩:=hrel
  go_wp2_with fail
  refine HC.out.mono ?_;rintro e w5 ⟨rfl,rfl⟩;clear HC
  go_wp2_with fail
  go_end0
  exact⟨rfl,rfl⟩
end Go.Proofs.YtkjhhooecopolaaGreatDoor
namespace Go.Proofs.YtkjhhooecopolaaGreatDoor
open Go.RowKit
open Ge
structure RG(Xs:List PB)(r:List Nat):Prop where
 ne:r≠[]
 lt:∀a∈r,a<Xs.length
 len:r.length<=Xs.length
def nE(Xs:List PB)(p:Pg):Prop:=RG Xs p.1/\∀r∈p.2,RG Xs r
theorem akO(P:List Nat->Bool)(Rs:List (List Nat))(h:Rs.any P=true):tO P Rs∈Rs:=by
 have key:∀(Rs:List (List Nat)) acc,(Rs.foldl (fun acc r=>if P r then r else acc) acc=acc/\Rs.any P=false)\/Rs.foldl (fun acc r=>if P r then r else acc) acc∈Rs:=by
  intro Rs;induction Rs with
  |nil=>intro acc;exact Or.inl ⟨rfl,rfl⟩
  |cons r Rs ih=>
   intro acc;rw[rE];cases hp:P r
   ·simp only[iP,if_false];rcases ih acc with⟨h1,h2⟩|h1
    ·exact Or.inl ⟨h1,by simp[hp,h2]⟩
    ·exact Or.inr (bn _ h1)
   ·simp only[if_true];rcases ih r with⟨h1,_⟩|h1
    ·rw[h1];exact Or.inr (by simp)
    ·exact Or.inr (bn _ h1)
 rcases key Rs [] with⟨_,h2⟩|h1
 ·rw[h2] at h;cases h
 ·exact h1
section
variable{rg:List (List Pt)}{l:List Ge.Nd}{r:Int}{Xs:List PB}
theorem SX.pn(h:SX rg l r Xs)(hB:BD Xs):∀k,k<=Xs.length->∀p∈(aK Xs k).ps,nE Xs p
 |0,_,p,hp=>by simp[aK] at hp
 |k+1,hk,p,hp=>by
  have ih:=h.pn hB k (by omega)
  have hP:=h.pv hB k (by omega)
  rw[yU] at hp;generalize aK Xs k=st at*;cases hm:st.aF k
  ·obtain⟨hc,hW⟩:=h.walk hB hP (by omega) hm
   have hF:=h.JE hW;have hleft:iN Xs.length st.aF (cD Xs st.aF k)+(cD Xs st.aF k).length<=iN Xs.length st.aF []+0:=wZ (mk:=st.aF) (fun j hj=>(h.next hB hj).1) Xs.length [] k (by omega)
   have hl0:=vd Xs.length st.aF [];have hR:∀ring∈bf Xs (cD Xs st.aF k),RG Xs ring:=fun ring hr=>by
    obtain⟨h1,h2,h3⟩:=hF ring hr;exact⟨h1,fun a ha=>hW.lt a (h2 a ha),by omega⟩
   unfold oG at hp;rw[hm] at hp;simp only[iP,if_false] at hp;split at hp
   ·rename_i jI
    simp only[bW,bJ] at hp;rcases hp with hp|rfl
    ·exact ih p hp
    ·exact⟨hR _ (akO _ _ jI),fun r hr=>hR r (jw.1 hr).1⟩
   ·simp only at hp;rcases anz hp with hp'|rfl
    ·exact ih p hp'
    ·by_cases hq:st.ow (ic Xs (xi Xs k).f)<st.ps.length
     ·have hmem:st.ps.getD (st.ow (ic Xs (xi Xs k).f)) ([],[])∈st.ps:=by
       rw[lQ,ay hq];exact ie hq
      obtain⟨k1,k2⟩:=ih _ hmem;refine⟨k1,fun r hr=>?_⟩
      rcases bW.1 hr with hr|hr
      ·exact k2 r hr
      ·exact hR r hr
     ·rw[List.set_eq_of_length_le (by omega)] at hp
      exact ih _ hp
  ·unfold oG at hp;rw[hm] at hp;exact ih p hp
end
end Go.Proofs.YtkjhhooecopolaaGreatDoor

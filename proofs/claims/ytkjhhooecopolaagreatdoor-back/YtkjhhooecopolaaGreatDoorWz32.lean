import Derived.Test.YtkjhhooecopolaaGreatDoorWz31
import Derived.Test.YtkjhhooecopolaaGreatDoorProg
set_option maxRecDepth 100000
set_option maxHeartbeats 4000000
namespace Go.Proofs.YtkjhhooecopolaaGreatDoor
open Go.RowKit
def mB(Xs:List PB):List Nat->List Nat->Int
 |[],[]=>0
 |[],_::_=> -1
 |_::_,[]=>1
 |a::r,b::s=>if bn (xi Xs a).f (xi Xs b).f=0 then mB Xs r s else bn (xi Xs a).f (xi Xs b).f
def Gr(w w':World):Prop:=Below w.heap.size w w'/\w.drawn<=w'.drawn
theorem Gr.refl(w:World):Gr w w:=⟨Below.refl _ _,ay _⟩
theorem Gr.trans{a b c:World}(h:Gr a b)(k:Gr b c):Gr a c:=⟨h.1.trans (k.1.mono h.1.size),fg h.2 k.2⟩
theorem ajd(Xs:List PB)(bs:List Nat)(r1 r2:List Nat)(g1 c1 g2 c2:Nat)(w:World)(_h1:r1.length<=85000000)(h2:r2.length<=85000000)
  (vS:Hid (∀(i:Nat) a,r1[i]?=some a->w.cell? ⟨g1,i,none⟩=some (.pointer (some ⟨bx bs a,0,none⟩))))(vT:Hid (∀(i:Nat) a,r2[i]?=some a->w.cell? ⟨g2,i,none⟩=some (.pointer (some ⟨bx bs a,0,none⟩))))
  (HC:Hid (∀a∈r1,∀b∈r2,∀w',Gr w w'->Calls Tryz.prog 109 #[.pointer (some ⟨bx bs a,0,none⟩),.pointer (some ⟨bx bs b,0,none⟩)] w' fun e w''=>e=.returned (.int .i64 (bn (xi Xs a).f (xi Xs b).f))/\Gr w' w'')):
  Calls Tryz.prog 216 #[.slice (some ⟨g1,0,none⟩) r1.length c1,.slice (some ⟨g2,0,none⟩) r2.length c2,.func (.func 109) #[] #[]] w fun e w'=>e=.returned (.int .i64 (mB Xs r1 r2))/\Gr w w':=by
 have bW:Hid (mB Xs (r1.drop 0) (r2.drop 0)=mB Xs r1 r2):=rfl
 go_enter Tryz.func216,Tryz.ntmps216
 go_wp2_with fail
 go_loopg [13] r1.length (fun m iv wr=>∃k:Nat,k+m=r1.length/\iv=.int .i64 k/\Hid (Gr w wr/\k<=r2.length/\mB Xs (r1.drop k) (r2.drop k)=mB Xs r1 r2))
 case atStart=>exact⟨0,by omega,rfl,Gr.refl _,iD _,bW.out⟩
 case round=>
  obtain⟨k,hkn,rfl,HB⟩:=hrel;clear bW;obtain⟨hb0,hk2,hcm⟩:=HB.out;by_cases hlt:k<r1.length
  ·obtain⟨a,ha⟩:∃a,r1[k]?=some a:=⟨_,aC hlt⟩;have d1:=(hb0.1.cell (p:=⟨g1,k,none⟩) (lt_of_cell (vS.out k a ha))).trans (vS.out k a ha);have fN:(k:Int)<(r1.length:Int):=by omega
   by_cases qw:k<r2.length
   ·obtain⟨b,hb⟩:∃b,r2[k]?=some b:=⟨_,aC qw⟩;have d2:=(hb0.1.cell (p:=⟨g2,k,none⟩) (lt_of_cell (vT.out k b hb))).trans (vT.out k b hb);have afO:(k:Int)<(r2.length:Int):=by omega
    have CV:¬((k:Int)≥(r2.length:Int)):=by omega
    have iz:Hid (Calls Tryz.prog 109 #[.pointer (some ⟨bx bs a,0,none⟩),.pointer (some ⟨bx bs b,0,none⟩)] wr fun e w''=>e=.returned (.int .i64 (bn (xi Xs a).f (xi Xs b).f))/\Gr wr w''):=HC.out a (aZ ha) b (aZ hb) wr hb0
    have gM:Hid ((if bn (xi Xs a).f (xi Xs b).f=0 then mB Xs (r1.drop (k+1)) (r2.drop (k+1)) else bn (xi Xs a).f (xi Xs b).f)=mB Xs r1 r2):=by
     have:=hcm;rw[uF ha,uF hb] at this;exact this
    have yH:Hid (Gr w wr):=hb0;clear ha hb hcm hb0 HB;generalize bn (xi Xs a).f (xi Xs b).f=V at*
    go_wp2_with fail
    refine iz.out.mono ?_;rintro e w5 ⟨rfl,az⟩;have fF:Hid (Gr w w5):=yH.out.trans az;clear iz az d1 d2 yH;by_cases hV:V=0
    ·have HM:Hid (mB Xs (r1.drop (k+1)) (r2.drop (k+1))=mB Xs r1 r2):=by
      have:=gM.out;rw[aj hV] at this;exact this
     subst hV;clear gM
     go_wp2_with fail
     go_roundg (gk-1)
     case measure=>omega
     case rel=>exact⟨k+1,by omega,by go_num,fF.out,by omega,HM.out⟩
    ·have HM:Hid (V=mB Xs r1 r2):=by
      have:=gM.out;rw[af hV] at this;exact this
     clear gM
     go_wp2_with fail
     go_ret
     exact⟨by rw[<-HM.out];rfl,fF.out⟩
   ·have CV:(k:Int)≥(r2.length:Int):=by omega
    have HM:Hid ((1:Int)=mB Xs r1 r2):=by
     have:=hcm;rw[uF ha,show r2.drop k=[] from amD (by omega)] at this
     exact this
    have yH:Hid (Gr w wr):=hb0;clear ha hcm hb0 HB HC vS vT
    go_wp2_with fail
    go_ret
    exact⟨by rw[<-HM.out];rfl,yH.out⟩
  ·have hk:k=r1.length:=by omega
   subst hk;rw[QC] at hcm;have yH:Hid (Gr w wr):=hb0;by_cases qw:r1.length<r2.length
   ·have CV:(r1.length:Int)<(r2.length:Int):=by omega
    have HM:Hid ((-1:Int)=mB Xs r1 r2):=by
     obtain⟨b,hb⟩:∃b,r2[r1.length]?=some b:=⟨_,aC qw⟩;rw[uF hb] at hcm;exact hcm
    clear hcm hb0 HB HC vS vT
    go_wp2_with fail
    go_ret
    exact⟨by rw[<-HM.out];rfl,yH.out⟩
   ·have CV:¬(r1.length:Int)<(r2.length:Int):=by omega
    have HM:Hid ((0:Int)=mB Xs r1 r2):=by
     rw[amD (by omega)] at hcm
     exact hcm
    clear hcm hb0 HB HC vS vT
    go_wp2_with fail
    go_ret
    exact⟨by rw[<-HM.out];rfl,yH.out⟩
def fH:List Ge.Nd->List Ge.Nd->Int
 |[],[]=>0
 |[],_::_=> -1
 |_::_,[]=>1
 |a::r,b::s=>if bn a b=0 then fH r s else bn a b
def fr(Xs:List PB)(r:List Nat):List Ge.Nd:=r.map fun a=>(xi Xs a).f
theorem Yo(Xs:List PB):∀r s,mB Xs r s=fH (fr Xs r) (fr Xs s)
 |[],[]=>rfl
 |[],_::_=>rfl
 |_::_,[]=>rfl
 |a::r,b::s=>by
  show(if bn (xi Xs a).f (xi Xs b).f=0 then mB Xs r s else _)=(if bn (xi Xs a).f (xi Xs b).f=0 then fH (fr Xs r) (fr Xs s) else _)
  rw[Yo Xs r s]
theorem JH:∀r,fH r r=0
 |[]=>rfl
 |a::r=>by
  show(if bn a a=0 then fH r r else _)=0
  rw[aj (wD a)];exact JH r
theorem JI:∀r s,(∀a∈r,Ge.Can a)->(∀a∈s,Ge.Can a)->fH r s<0\/fH s r<0\/r=s
 |[],[],_,_=>ah (ah rfl)
 |[],_::_,_,_=>ag (by show(-1:Int)<0;omega)
 |_::_,[],_,_=>ah (ag (by show(-1:Int)<0;omega))
 |a::r,b::s,h1,h2=>by
  show(if bn a b=0 then fH r s else bn a b)<0\/(if bn b a=0 then fH s r else bn b a)<0\/_
  by_cases h0:bn a b=0
  ·have e:=Ge.um (h1 a (by simp)) (h2 b (by simp)) h0
   subst e;rw[aj h0,aj h0];rcases JI r s (fun a ha=>h1 a (by simp[ha])) (fun a ha=>h2 a (by simp[ha])) with h|h|h
   ·exact ag h
   ·exact ah (ag h)
   ·exact ah (ah (by rw[h]))
  ·have hs:=Nh a b;rw[af h0,af (by omega)]
   by_cases hl:bn a b<0
   ·exact ag hl
   ·exact ah (ag (by omega))
theorem JJ:∀r s t,(∀a∈r,Ge.Can a)->(∀a∈s,Ge.Can a)->(∀a∈t,Ge.Can a)->fH r s<0->fH s t<0->fH r t<0
 |[],[],_,_,_,_,h,_=>by exact absurd h (by show ¬(0:Int)<0;omega)
 |[],_::_,[],_,_,_,_,h=>by exact absurd h (by show ¬(1:Int)<0;omega)
 |[],_::_,_::_,_,_,_,_,_=>by show(-1:Int)<0;omega
 |_::_,[],_,_,_,_,h,_=>by exact absurd h (by show ¬(1:Int)<0;omega)
 |_::_,_::_,[],_,_,_,_,h=>by exact absurd h (by show ¬(1:Int)<0;omega)
 |a::r,b::s,c::t,h1,h2,h3,k1,k2=>by
  have ca:=h1 a (by simp)
  have cb:=h2 b (by simp)
  have cc:=h3 c (by simp)
  have Ba:(if bn a b=0 then fH r s else bn a b)<0:=k1
  have wP:(if bn b c=0 then fH s t else bn b c)<0:=k2
  show(if bn a c=0 then fH r t else bn a c)<0
  by_cases e1:bn a b=0
  ·have e:=Ge.um ca cb e1;subst e;rw[aj e1] at Ba;by_cases e2:bn a c=0
   ·rw[aj e2] at wP⊢;exact JJ r s t (fun a ha=>h1 a (by simp[ha])) (fun a ha=>h2 a (by simp[ha])) (fun a ha=>h3 a (by simp[ha])) Ba wP
   ·rw[af e2] at wP⊢;exact wP
  ·rw[af e1] at Ba;by_cases e2:bn b c=0
   ·have e:=Ge.um cb cc e2;subst e;rw[af e1];exact Ba
   ·rw[af e2] at wP;have:=AA.2 (Ge.lt_trans (Ge.df ca) (Ge.df cb) (Ge.df cc) (AA.1 Ba) (AA.1 wP));rw[af (by omega)]
    exact this
theorem uM{ι:Type}(key:ι->List Ge.Nd)(hc:∀i,∀a∈key i,Ge.Can a):Sort.SWO (ltOf fun i j=>fH (key i) (key j)):=by
 have e:∀i j,ltOf (fun i j=>fH (key i) (key j)) i j=true↔fH (key i) (key j)<0:=fun i j=>pE
 have e':∀i j,ltOf (fun i j=>fH (key i) (key j)) i j=false↔¬fH (key i) (key j)<0:=fun i j=>by rw[<-e];simp
 exact{
  irrefl:=fun x=>(e' x x).2 (by rw[JH];omega)
  trans:=fun x y z h1 h2=>(e x z).2 (JJ _ _ _ (hc x) (hc y) (hc z) ((e x y).1 h1) ((e y z).1 h2))
  ntrans:=fun x y z h1 h2=>(e' x z).2 fun h=>by
   rcases JI _ _ (hc x) (hc y) with k|k|k
   ·exact(e' x y).1 h1 k
   ·exact(e' y z).1 h2 (JJ _ _ _ (hc y) (hc x) (hc z) k h)
   ·rw[k] at h;exact(e' y z).1 h2 h}
theorem aje(v1 v2:Value)(w:World)(c:Int)
  (HC:Hid (Calls Tryz.prog 216 #[v1,v2,.func (.func 109) #[] #[]] w fun e w'=>e=.returned (.int .i64 c)/\Gr w w')):
  Calls Tryz.prog 174 #[v1,v2] w fun e w'=>e=.returned (.int .i64 c)/\Gr w w':=by
 go_enter Tryz.func174,Tryz.ntmps174
 go_wp2_with fail
 refine HC.out.mono ?_;rintro e w5 ⟨rfl,az⟩;have fF:Hid (Gr w w5):=az;clear az HC
 go_wp2_with fail
 go_ret
 exact⟨rfl,fF.out⟩
theorem ajf(b1 b2 g1 n1 c1 g2 n2 c2:Nat)(w:World)(c:Int)(a1:w.cell? ⟨b1,0,none⟩=some (.slice (some ⟨g1,0,none⟩) n1 c1))(a2:w.cell? ⟨b2,0,none⟩=some (.slice (some ⟨g2,0,none⟩) n2 c2))
  (HC:Hid (∀w',Gr w w'->Calls Tryz.prog 174 #[.slice (some ⟨g1,0,none⟩) n1 c1,.slice (some ⟨g2,0,none⟩) n2 c2] w' fun e w''=>e=.returned (.int .i64 c)/\Gr w' w'')):
  Calls Tryz.prog 176 #[.pointer (some ⟨b1,0,none⟩),.pointer (some ⟨b2,0,none⟩)] w fun e w'=>e=.returned (.int .i64 c)/\Gr w w':=by
 go_enter Tryz.func176,Tryz.ntmps176
 go_wp2_with fail
 have hz1:b1<w.heap.size:=lt_of_cell a1;have hz2:b2<w.heap.size:=lt_of_cell a2;have HG:Hid (Gr w w.drew):=⟨(Below.refl _ _).drew,ny _⟩
 go_region_held3 (fun w'=>w'.cell? ⟨b1,0,none⟩=some (.slice (some ⟨g1,0,none⟩) n1 c1)/\w'.cell? ⟨b2,0,none⟩=some (.slice (some ⟨g2,0,none⟩) n2 c2)) (go_keep) (first
   |(go_at_call 174;refine(HC.out _ HG.out).mono ?_;rintro e w5 ⟨rfl,az⟩;have e0:=(az.1.cell (p:=⟨b1,0,none⟩) hz1).trans a1;have e1:=(az.1.cell (p:=⟨b2,0,none⟩) hz2).trans a2))
 all_goals
  have fF:Hid (Gr w w5):=HG.out.trans az;clear az HC HG
  go_wp2_with fail
  go_ret
  exact⟨rfl,fF.out⟩
theorem Yp{g:Nat}{bs:List Nat}{Xs:List PB}{b1 b2:Nat}{v1 v2:Value}{r1 r2:List Nat}{w:World}(hB:BD Xs)(hR:RB w g bs Xs)
  (o1:w.ownsRow b1 175 1 v1 r1.length (aL (r1.map (bx bs))))(o2:w.ownsRow b2 175 1 v2 r2.length (aL (r2.map (bx bs))))(n1:r1≠[])(n2:r2≠[])(i1:∀a∈r1,a<Xs.length)(i2:∀a∈r2,a<Xs.length)(l1:r1.length<=85000000)(l2:r2.length<=85000000):
  Calls Tryz.prog 174 #[v1,v2] w fun e w'=>e=.returned (.int .i64 (fH (fr Xs r1) (fr Xs r2)))/\Gr w w':=by
 obtain⟨g1,c1,rfl,_,_,_,f1⟩:=mZ o1 (iP.2 n1);obtain⟨g2,c2,rfl,_,_,_,f2⟩:=mZ o2 (iP.2 n2);rw[<-Yo];refine aje _ _ _ _ (ajd Xs bs r1 r2 g1 c1 g2 c2 w l1 l2 (fun i a h=>f1 i _ (by simp[aL,h])) (fun i a h=>f2 i _ (by simp[aL,h])) (fun a ha b hb w' hG=>?_))
 have hR':=hR.below hG.1;have sd:∀a,a<Xs.length->iK w' (bx bs a) (xi Xs a):=fun a ha=>hR'.side a _ _ (wC (by rw[hR.len];exact ha)) (uC ha)
 exact(M5 _ _ (hB.v _ (gu (i1 a ha))) (hB.v _ (gu (i2 b hb))) _ _ w' (sd a (i1 a ha)) (sd b (i2 b hb))).mono fun _ _⟨h1,h2,h3⟩=>⟨h1,h2,h3⟩
end Go.Proofs.YtkjhhooecopolaaGreatDoor
namespace Go.Proofs
open Go.Shelf
def Tryz.sortRg_ren:Go.Shelf.Ren:=⟨fun |6=>173|15=>164|14=>215|28=>208|29=>209|20=>258|21=>259|22=>260|23=>261|24=>262|25=>263|26=>264|27=>265|46=>291|47=>249|48=>250|49=>292|50=>293|57=>305|n=>n,fun |22=>183|24=>185|25=>246|3=>3|39=>238|0=>0|53=>280|55=>282|4=>4|46=>274|45=>273|50=>70|5=>5|9=>9|66=>313|70=>317|76=>346|77=>172|n=>n,fun |n=>n⟩
theorem Tryz.sortRg:Go.Proofs.SlLaysF.n6 Tryz.prog Tryz.sortRg_ren:={
 mixed:=by kernel_rfl
 f6:=⟨Tryz.f173.name,by decide,Tryz.func173.trans (au some (by kernel_rfl))⟩
 f14:=⟨Tryz.f215.name,by decide,Tryz.func215.trans (au some (by kernel_rfl))⟩
 f15:=Tryz.func164.trans (au some (by kernel_rfl))
 f20:=⟨Tryz.f258.name,by decide,Tryz.func258.trans (au some (by kernel_rfl))⟩
 f21:=⟨Tryz.f259.name,by decide,Tryz.func259.trans (au some (by kernel_rfl))⟩
 f22:=⟨Tryz.f260.name,by decide,Tryz.func260.trans (au some (by kernel_rfl))⟩
 f23:=⟨Tryz.f261.name,by decide,Tryz.func261.trans (au some (by kernel_rfl))⟩
 f24:=⟨Tryz.f262.name,by decide,Tryz.func262.trans (au some (by kernel_rfl))⟩
 f25:=⟨Tryz.f263.name,by decide,Tryz.func263.trans (au some (by kernel_rfl))⟩
 f26:=⟨Tryz.f264.name,by decide,Tryz.func264.trans (au some (by kernel_rfl))⟩
 f27:=⟨Tryz.f265.name,by decide,Tryz.func265.trans (au some (by kernel_rfl))⟩
 f28:=Tryz.func208.trans (au some (by kernel_rfl))
 f29:=Tryz.func209.trans (au some (by kernel_rfl))
 f46:=⟨Tryz.f291.name,by decide,Tryz.func291.trans (au some (by kernel_rfl))⟩
 f47:=Tryz.func249.trans (au some (by kernel_rfl))
 f48:=Tryz.func250.trans (au some (by kernel_rfl))
 f49:=⟨Tryz.f292.name,by decide,Tryz.func292.trans (au some (by kernel_rfl))⟩
 f50:=⟨Tryz.f293.name,by decide,Tryz.func293.trans (au some (by kernel_rfl))⟩
 f57:=⟨Tryz.f305.name,by decide,Tryz.func305.trans (au some (by kernel_rfl))⟩
 t0:=Tryz.underlying0
 a0:=Tryz.isAgg0
 z0:=Tryz.sizeOf0
 v0:=Tryz.zeroValue0
 t3:=Tryz.underlying3
 a3:=Tryz.isAgg3
 z3:=Tryz.sizeOf3
 v3:=Tryz.zeroValue3
 t4:=Tryz.underlying4
 a4:=Tryz.isAgg4
 z4:=Tryz.sizeOf4
 v4:=Tryz.zeroValue4
 t5:=Tryz.underlying5
 a5:=Tryz.isAgg5
 z5:=Tryz.sizeOf5
 v5:=Tryz.zeroValue5
 t9:=Tryz.underlying9
 a9:=Tryz.isAgg9
 z9:=Tryz.sizeOf9
 v9:=Tryz.zeroValue9
 t22:=Tryz.underlying183
 a22:=Tryz.isAgg183
 z22:=Tryz.sizeOf183
 v22:=Tryz.zeroValue183
 a24:=Tryz.isAgg185
 z24:=Tryz.sizeOf185
 t25:=Tryz.underlying246
 a25:=Tryz.isAgg246
 z25:=Tryz.sizeOf246
 v25:=Tryz.zeroValue246
 t39:=Tryz.underlying238
 a39:=Tryz.isAgg238
 z39:=Tryz.sizeOf238
 v39:=Tryz.zeroValue238
 t45:=Tryz.underlying273
 a45:=Tryz.isAgg273
 z45:=Tryz.sizeOf273
 v45:=Tryz.zeroValue273
 t46:=Tryz.underlying274
 a46:=Tryz.isAgg274
 z46:=Tryz.sizeOf274
 v46:=Tryz.zeroValue274
 t50:=Tryz.underlying70
 a50:=Tryz.isAgg70
 z50:=Tryz.sizeOf70
 v50:=Tryz.zeroValue70
 t53:=Tryz.underlying280
 a53:=Tryz.isAgg280
 z53:=Tryz.sizeOf280
 v53:=Tryz.zeroValue280
 t55:=Tryz.underlying282
 a55:=Tryz.isAgg282
 z55:=Tryz.sizeOf282
 v55:=Tryz.zeroValue282
 t66:=Tryz.underlying313
 a66:=Tryz.isAgg313
 z66:=Tryz.sizeOf313
 v66:=Tryz.zeroValue313
 t70:=Tryz.underlying317
 a70:=Tryz.isAgg317
 z70:=Tryz.sizeOf317
 v70:=Tryz.zeroValue317
 t76:=Tryz.underlying346
 a76:=Tryz.isAgg346
 z76:=Tryz.sizeOf346
 v76:=Tryz.zeroValue346
 t77:=Tryz.underlying172
 a77:=Tryz.isAgg172
 z77:=Tryz.sizeOf172
 v77:=Tryz.zeroValue172}
def Tryz.sortPg_ren:Go.Shelf.Ren:=⟨fun |6=>175|15=>164|14=>217|28=>208|29=>209|20=>266|21=>267|22=>268|23=>269|24=>270|25=>271|26=>272|27=>273|46=>294|47=>249|48=>250|49=>295|50=>296|57=>306|n=>n,fun |22=>131|24=>165|25=>249|3=>3|39=>238|0=>0|53=>280|55=>282|4=>4|46=>274|45=>273|50=>70|5=>5|9=>9|66=>313|70=>317|76=>346|77=>172|n=>n,fun |n=>n⟩
theorem Tryz.sortPg:Go.Proofs.SlLaysF.n6 Tryz.prog Tryz.sortPg_ren:={
 mixed:=by kernel_rfl
 f6:=⟨Tryz.f175.name,by decide,Tryz.func175.trans (au some (by kernel_rfl))⟩
 f14:=⟨Tryz.f217.name,by decide,Tryz.func217.trans (au some (by kernel_rfl))⟩
 f15:=Tryz.func164.trans (au some (by kernel_rfl))
 f20:=⟨Tryz.f266.name,by decide,Tryz.func266.trans (au some (by kernel_rfl))⟩
 f21:=⟨Tryz.f267.name,by decide,Tryz.func267.trans (au some (by kernel_rfl))⟩
 f22:=⟨Tryz.f268.name,by decide,Tryz.func268.trans (au some (by kernel_rfl))⟩
 f23:=⟨Tryz.f269.name,by decide,Tryz.func269.trans (au some (by kernel_rfl))⟩
 f24:=⟨Tryz.f270.name,by decide,Tryz.func270.trans (au some (by kernel_rfl))⟩
 f25:=⟨Tryz.f271.name,by decide,Tryz.func271.trans (au some (by kernel_rfl))⟩
 f26:=⟨Tryz.f272.name,by decide,Tryz.func272.trans (au some (by kernel_rfl))⟩
 f27:=⟨Tryz.f273.name,by decide,Tryz.func273.trans (au some (by kernel_rfl))⟩
 f28:=Tryz.func208.trans (au some (by kernel_rfl))
 f29:=Tryz.func209.trans (au some (by kernel_rfl))
 f46:=⟨Tryz.f294.name,by decide,Tryz.func294.trans (au some (by kernel_rfl))⟩
 f47:=Tryz.func249.trans (au some (by kernel_rfl))
 f48:=Tryz.func250.trans (au some (by kernel_rfl))
 f49:=⟨Tryz.f295.name,by decide,Tryz.func295.trans (au some (by kernel_rfl))⟩
 f50:=⟨Tryz.f296.name,by decide,Tryz.func296.trans (au some (by kernel_rfl))⟩
 f57:=⟨Tryz.f306.name,by decide,Tryz.func306.trans (au some (by kernel_rfl))⟩
 t0:=Tryz.underlying0
 a0:=Tryz.isAgg0
 z0:=Tryz.sizeOf0
 v0:=Tryz.zeroValue0
 t3:=Tryz.underlying3
 a3:=Tryz.isAgg3
 z3:=Tryz.sizeOf3
 v3:=Tryz.zeroValue3
 t4:=Tryz.underlying4
 a4:=Tryz.isAgg4
 z4:=Tryz.sizeOf4
 v4:=Tryz.zeroValue4
 t5:=Tryz.underlying5
 a5:=Tryz.isAgg5
 z5:=Tryz.sizeOf5
 v5:=Tryz.zeroValue5
 t9:=Tryz.underlying9
 a9:=Tryz.isAgg9
 z9:=Tryz.sizeOf9
 v9:=Tryz.zeroValue9
 t22:=Tryz.underlying131
 a22:=Tryz.isAgg131
 z22:=Tryz.sizeOf131
 v22:=Tryz.zeroValue131
 a24:=Tryz.isAgg165
 z24:=Tryz.sizeOf165
 t25:=Tryz.underlying249
 a25:=Tryz.isAgg249
 z25:=Tryz.sizeOf249
 v25:=Tryz.zeroValue249
 t39:=Tryz.underlying238
 a39:=Tryz.isAgg238
 z39:=Tryz.sizeOf238
 v39:=Tryz.zeroValue238
 t45:=Tryz.underlying273
 a45:=Tryz.isAgg273
 z45:=Tryz.sizeOf273
 v45:=Tryz.zeroValue273
 t46:=Tryz.underlying274
 a46:=Tryz.isAgg274
 z46:=Tryz.sizeOf274
 v46:=Tryz.zeroValue274
 t50:=Tryz.underlying70
 a50:=Tryz.isAgg70
 z50:=Tryz.sizeOf70
 v50:=Tryz.zeroValue70
 t53:=Tryz.underlying280
 a53:=Tryz.isAgg280
 z53:=Tryz.sizeOf280
 v53:=Tryz.zeroValue280
 t55:=Tryz.underlying282
 a55:=Tryz.isAgg282
 z55:=Tryz.sizeOf282
 v55:=Tryz.zeroValue282
 t66:=Tryz.underlying313
 a66:=Tryz.isAgg313
 z66:=Tryz.sizeOf313
 v66:=Tryz.zeroValue313
 t70:=Tryz.underlying317
 a70:=Tryz.isAgg317
 z70:=Tryz.sizeOf317
 v70:=Tryz.zeroValue317
 t76:=Tryz.underlying346
 a76:=Tryz.isAgg346
 z76:=Tryz.sizeOf346
 v76:=Tryz.zeroValue346
 t77:=Tryz.underlying172
 a77:=Tryz.isAgg172
 z77:=Tryz.sizeOf172
 v77:=Tryz.zeroValue172}
end Go.Proofs
namespace Go.Proofs.YtkjhhooecopolaaGreatDoor
open Go.RowKit Go.Shelf
def nZ{n:Nat}(cf:Fin n->Fin n->Int)(h:0<n):Array (Fin n):=
 haveI:Inhabited (Fin n):=⟨⟨0,h⟩⟩
 Sort.pdq (ltOf cf) (Array.ofFn id) 0 n (Lib.bitLen n) true true
def iZ{β:Type}(cf:β->β->Int)(l:List β):List β:=if h:0<l.length then(nZ (fun i j:Fin l.length=>cf l[i] l[j]) h).toList.map (fun i=>l[i]) else[]
theorem OS{n:Nat}(cf:Fin n->Fin n->Int)(hO:Sort.SWO (ltOf cf))(h:0<n):(nZ cf h).size=n/\(nZ cf h).toList.Perm (Array.ofFn (id:Fin n->Fin n)).toList/\
  ∀i j(hi:i<(nZ cf h).size)(hj:j<(nZ cf h).size),i<j->¬cf (nZ cf h)[j] (nZ cf h)[i]<0:=by
 letI:Inhabited (Fin n):=⟨⟨0,h⟩⟩
 have hs:(Array.ofFn (id:Fin n->Fin n)).size=n:=QB;have key:=Sort.pdq_sorts (ltOf cf) hO (Array.ofFn id) 0 n (Lib.bitLen n) true true (iD _) (by rw[hs];exact ay _) (ag rfl)
 have e:nZ cf h=Sort.pdq (ltOf cf) (Array.ofFn id) 0 n (Lib.bitLen n) true true:=rfl;rw[<-e] at key;obtain⟨⟨p1,_,p3⟩,p4⟩:=key;have hd:(nZ cf h).size=n:=by rw[p1,hs]
 rw[Jd _ hd,Jd _ hs] at p3;refine⟨hd,p3,fun i j hi hj hij=>?_⟩
 have hx:=p4 i j (iD _) hij (by omega)
 rw[ik (nZ cf h) i hi,ik (nZ cf h) j hj] at hx;exact of_decide_eq_false hx
theorem Yq{ρ:Ren}(L:SlLaysF.n6 Tryz.prog ρ)(fn:Nat)(eg:∀args w,(callFunc fn args).run Tryz.prog w=.ok (.enter fn args) w){β:Type}(cf:β->β->Int)(l:List β)(vals:List Value)(hone:∀v∈vals,v.oneCell'=true){base:Nat}{t:TypeId}{lv:Value}{wr:World}(ho:wr.ownsRow base t 1 lv vals.length vals)(hl:vals.length=l.length)(hsz:l.length<=85000000)
  (hO:Sort.SWO (ltOf fun i j:Fin l.length=>cf l[i] l[j]))
  (vO:∀w',wr.heap.size<=w'.heap.size->(∀k,k<wr.heap.size->lv.ownBlock≠some k->w'.heap[k]?=wr.heap[k]?)->∀(i j:Nat) u v x y,vals[i]?=some u->vals[j]?=some v->l[i]?=some x->l[j]?=some y->Calls Tryz.prog fn #[u,v] w' fun e w''=>e=.returned (.int .i64 (cf x y))/\Gr w' w''):
  Calls Tryz.prog (ρ.f 6) #[lv,.func (.func fn) #[] #[]] wr fun e w'=>e=.returned (.tuple #[])/\∃d:List Nat,d.Perm (List.range l.length)/\iZ cf l=d.filterMap (fun i=>l[i]?)/\(iZ cf l).length=l.length/\w'.ownsRow base t 1 lv vals.length (d.filterMap (fun i=>vals[i]?))/\(∀(i:Nat) u x,(d.filterMap (fun i=>vals[i]?))[i]?=some u->(iZ cf l)[i]?=some x->∃j,j<l.length/\d[i]?=some j/\vals[j]?=some u/\l[j]?=some x)/\
   Mo lv.ownBlock.toList wr w':=by
 obtain⟨hlen,ux⟩:=id ho;rcases ux with⟨rfl,h0⟩|⟨g,cap,cur,rfl,hg,hblk,hnc,hcm,hcs,htk⟩
 ·have hv0:vals=[]:=gF.1 h0;have hl0:l=[]:=gF.1 (by rw[<-hl];exact h0)
  subst hv0;subst hl0;refine(AnyF.slices_SortFunc_none {L with} none 0 _ wr).mono ?_;rintro e w' ⟨rfl,rfl⟩;exact⟨rfl,[],FP _,rfl,rfl,ho,fun i u x h=>by simp at h,Mo.refl _ _⟩
 ·by_cases hn:0<l.length
  ·letI:Inhabited (Fin l.length):=⟨⟨0,hn⟩⟩
   have hgl:g<wr.heap.size:=lt_of_heap hblk;have hs:(Array.ofFn (id:Fin l.length->Fin l.length)).size=l.length:=QB;have qO:∀i:Fin l.length,i.1<vals.length:=fun i=>by rw[hl];exact i.2
   obtain⟨enc,E0⟩:∃enc:Fin l.length->Value,enc=fun i=>vals[i.1]'(qO i):=⟨_,rfl⟩
   have henc:(Array.ofFn (id:Fin l.length->Fin l.length)).toList.map enc=vals:=by
    apply xg
    ·simp[hl]
    ·intro i h1 h2;simp[E0]
   have hH:Sort.Holds enc wr g 0 (Array.ofFn id):=by
    intro j hj;have hj':j<vals.length:=by rw[hl,<-hs];exact hj
    have e1:(cur.toList.take (vals.length*1))[j]?=((Array.ofFn (id:Fin l.length->Fin l.length)).toList.map enc)[j]?:=by rw[htk,henc]
    rw[kj,aj (by omega),jb,gz,jb,nB hj] at e1
    refine⟨?_,bw hblk _⟩;rw[ki];unfold World.cell?;rw[hblk,ik (Array.ofFn (id:Fin l.length->Fin l.length)) j hj];exact e1
   have hC:CmpLays1 Tryz.prog fn #[] enc (fun i j:Fin l.length=>cf l[i] l[j]) g 0 l.length wr:=by
    intro m os dk hdk x y;refine(vO (sortWorld enc wr g 0 m dk os) (M6 enc dk m os wr g) (fun k hk hne=>Ea enc dk m os hk (fun e=>hne (au some e))) x.1 y.1 (enc x) (enc y) l[x] l[y] (by rw[E0];exact aC _) (by rw[E0];exact aC _) (aC x.2) (aC y.2)).mono ?_
    exact fun _ _⟨h1,h2⟩=>⟨h1,IB h2.1 h2.2⟩
   have hcon:=Any.slices_SortFunc_eq L enc (fun x=>hone _ (by rw[E0];exact gw _)) (fun i j:Fin l.length=>cf l[i] l[j]) hO fn #[] g 0 cap (Array.ofFn id) wr eg (by rw[hs];exact hC) hH hgl (by rw[hs];omega)
   rw[hs] at hcon;rw[hl];refine hcon.mono ?_;rintro r w' ⟨rfl,m,os,rfl⟩;refine⟨rfl,?_⟩;have e:Sort.pdq (ltOf fun i j:Fin l.length=>cf l[i] l[j]) (Array.ofFn id) 0 l.length (Lib.bitLen l.length) true true=nZ (fun i j:Fin l.length=>cf l[i] l[j]) hn:=rfl
   rw[e];have hsp:=OS (fun i j:Fin l.length=>cf l[i] l[j]) hO hn
   have hd:=hsp.1;have p3:=hsp.2.1;clear hsp hcon e;have eX:iZ cf l=(nZ (fun i j:Fin l.length=>cf l[i] l[j]) hn).toList.map (fun i=>l[i]):=by unfold iZ;rw[u7 hn]
   rw[eX];clear eX;obtain⟨d',hd'⟩:∃d',d'=nZ (fun i j:Fin l.length=>cf l[i] l[j]) hn:=⟨_,rfl⟩
   rw[<-hd'] at hd p3⊢;have fm:∀{γ:Type}(q:List γ)(hq:q.length=l.length),(d'.toList.map (·.1)).filterMap (fun i=>q[i]?)=d'.toList.map (fun i:Fin l.length=>q[i.1]'(by rw[hq];exact i.2)):=fun q hq=>by
    rw[List.filterMap_map];rw[<-List.filterMap_eq_map];congr 1;funext i;simp
   refine⟨d'.toList.map (·.1),?_,?_,by simp[hd],?_,?_,?_⟩
   ·have k:=p3.map (fun i:Fin l.length=>i.1)
    have e3:(Array.ofFn (id:Fin l.length->Fin l.length)).toList.map (fun i:Fin l.length=>i.1)=List.range l.length:=by
     apply xg
     ·simp
     ·intro i h1 h2;simp
    rw[e3] at k;exact k
   ·rw[fm l rfl];rfl
   ·rw[fm vals hl];refine⟨by simp[hd],ah ⟨g,cap,_,rfl,hg,We enc d' m os hblk,by rw[<-hl];exact hnc,hcm,?_,?_⟩⟩
    ·unfold Sort.putCells;rw[Qx];exact hcs
    ·have e1:l.length*1=d'.size:=by rw[hd];omega
     rw[e1,Wf _ _ _ (by rw[hcs,hd,<-hl];omega),E0]
   ·intro i u x h1 h2;rw[fm vals hl,gz] at h1;rw[gz] at h2;cases hj:d'.toList[i]? with
    |none=>rw[hj] at h1;cases h1
    |some j=>
     rw[hj] at h1 h2;have hb:vals[j.1]'(qO j)=u:=by simpa using h1
     have hx:l[j]=x:=by simpa using h2
     exact⟨j.1,j.2,by rw[gz,hj];rfl,by rw[aC (qO j),hb],by rw[aC j.2];exact au some hx⟩
   ·exact⟨rfl,rfl,rfl,M6 enc d' m os wr g,fun k hk hne=>Ea enc d' m os hk (fun e=>hne (by simp[Value.ownBlock,e]))⟩
  ·have hl0:l=[]:=gF.1 (by omega)
   have hv0:vals=[]:=gF.1 (by rw[hl];omega)
   subst hv0;subst hl0;refine(AnyF.slices_SortFunc_none {L with} (some ⟨g,0,none⟩) cap _ wr).mono ?_;rintro r w' ⟨rfl,rfl⟩;exact⟨rfl,[],FP _,rfl,rfl,ho,fun i u x h=>by simp at h,Mo.refl _ _⟩
theorem ajg(g n cap:Nat)(Inv:Nat->World->Prop)(Q:World->Prop)(w:World)(hn:n<=85000000)
  (HK:Hid (∀k wr,Inv k wr->k<n->∃pb so m c,wr.cell? ⟨g,k,none⟩=some (.pointer (some ⟨pb,0,none⟩))/\wr.cell? ⟨pb,1,none⟩=some (.slice so m c)/\Calls Tryz.prog 173 #[.slice so m c,.func (.func 174) #[] #[]] wr fun e w'=>e=.returned (.tuple #[])/\Inv (k+1) w'))
  (HL:Hid (∀wr,Inv n wr->Calls Tryz.prog 175 #[.slice (some ⟨g,0,none⟩) n cap,.func (.func 176) #[] #[]] wr fun e w'=>e=.returned (.tuple #[])/\Q w'))
  (Dk:Hid (Inv 0 w)):
  Calls Tryz.prog 116 #[.slice (some ⟨g,0,none⟩) n cap] w fun e w'=>e=.returned (.tuple #[])/\Q w':=by
 go_enter Tryz.func116,Tryz.ntmps116
 go_wp2_with fail
 go_loopg [6] n (fun m iv wr=>∃k:Nat,k+m=n/\iv=.int .i64 k/\Hid (Inv k wr))
 case atStart=>exact⟨0,by omega,rfl,Dk.out⟩
 case round=>
  obtain⟨k,hkn,rfl,HE⟩:=hrel;clear Dk;by_cases hlt:k<n
  ·obtain⟨pb,so,m,c,c1,c2,hc⟩:=HK.out k wr HE.out hlt;have HC:Hid (Calls Tryz.prog 173 #[.slice so m c,.func (.func 174) #[] #[]] wr fun e w'=>e=.returned (.tuple #[])/\Inv (k+1) w'):=hc
   have fN:(k:Int)<(n:Int):=by omega
   clear hc HE
   go_wp2_with fail
   refine HC.out.mono ?_;rintro e w5 ⟨rfl,h5⟩;have H5:Hid (Inv (k+1) w5):=h5;clear h5 HC c1 c2
   go_wp2_with fail
   go_roundg (gk-1)
   case measure=>omega
   case rel=>exact⟨k+1,by omega,by go_num,H5.out⟩
  ·have hk:k=n:=by omega
   subst hk;have HC:Hid (Calls Tryz.prog 175 #[.slice (some ⟨g,0,none⟩) k cap,.func (.func 176) #[] #[]] wr fun e w'=>e=.returned (.tuple #[])/\Q w'):=HL.out wr HE.out
   clear HL HK HE
   go_wp2_with fail
   refine HC.out.mono ?_;rintro e w5 ⟨rfl,h5⟩;have H5:Hid (Q w5):=h5;clear h5 HC
   go_wp2_with fail
   go_end0
   exact⟨rfl,H5.out⟩
theorem Yr(w:World):
  Calls Tryz.prog 116 #[.slice none 0 0] w fun e w'=>e=.returned (.tuple #[])/\w'=w:=by
 have HC:Hid (Calls Tryz.prog 175 #[.slice none 0 0,.func (.func 176) #[] #[]] w fun e w'=>e=.returned (.tuple #[])/\w'=w):=AnyF.slices_SortFunc_none {Tryz.sortPg with} none 0 _ w
 go_enter Tryz.func116,Tryz.ntmps116
 go_wp2_with fail
 go_loopg [6] 0 (fun m iv wr=>m=0/\iv=.int .i64 0/\wr=w)
 case atStart=>exact⟨rfl,rfl,rfl⟩
 case round=>
  obtain⟨_,rfl,rfl⟩:=hrel
  go_wp2_with fail
  refine HC.out.mono ?_;rintro e w5 ⟨rfl,rfl⟩;clear HC
  go_wp2_with fail
  go_end0
  exact⟨rfl,rfl⟩
end Go.Proofs.YtkjhhooecopolaaGreatDoor
namespace Go.Proofs.YtkjhhooecopolaaGreatDoor
open Go.RowKit
open Ge
structure RG(Xs:List PB)(r:List Nat):Prop where
 ne:r≠[]
 lt:∀a∈r,a<Xs.length
 len:r.length<=Xs.length
def ni(Xs:List PB)(p:Pg):Prop:=RG Xs p.1/\∀r∈p.2,RG Xs r
theorem ajh(P:List Nat->Bool)(Rs:List (List Nat))(h:Rs.any P=true):tz P Rs∈Rs:=by
 have key:∀(Rs:List (List Nat)) acc,(Rs.foldl (fun acc r=>if P r then r else acc) acc=acc/\Rs.any P=false)\/Rs.foldl (fun acc r=>if P r then r else acc) acc∈Rs:=by
  intro Rs;induction Rs with
  |nil=>intro acc;exact ag ⟨rfl,rfl⟩
  |cons r Rs ih=>
   intro acc;rw[rq];cases hp:P r
   ·simp only[js,jR];rcases ih acc with⟨h1,h2⟩|h1
    ·exact ag ⟨h1,by simp[hp,h2]⟩
    ·exact ah (aT _ h1)
   ·simp only[gD];rcases ih r with⟨h1,_⟩|h1
    ·rw[h1];exact ah (by simp)
    ·exact ah (aT _ h1)
 rcases key Rs [] with⟨_,h2⟩|h1
 ·rw[h2] at h;cases h
 ·exact h1
section
variable{rg:List (List Pt)}{l:List Ge.Nd}{r:Int}{Xs:List PB}
theorem SX.pn(h:SX rg l r Xs)(hB:BD Xs):∀k,k<=Xs.length->∀p∈(aM Xs k).ps,ni Xs p
 |0,_,p,hp=>by simp[aM] at hp
 |k+1,hk,p,hp=>by
  have ih:=h.pn hB k (by omega)
  have hP:=h.pv hB k (by omega)
  rw[yD] at hp;generalize aM Xs k=st at*;cases hm:st.aK k
  ·obtain⟨hc,hW⟩:=h.walk hB hP (by omega) hm
   have hF:=h.JC hW;have hleft:iY Xs.length st.aK (cM Xs st.aK k)+(cM Xs st.aK k).length<=iY Xs.length st.aK []+0:=wO (mk:=st.aK) (fun j hj=>(h.next hB hj).1) Xs.length [] k (by omega)
   have hl0:=uE Xs.length st.aK [];have hR:∀ring∈bp Xs (cM Xs st.aK k),RG Xs ring:=fun ring hr=>by
    obtain⟨h1,h2,h3⟩:=hF ring hr;exact⟨h1,fun a ha=>hW.lt a (h2 a ha),by omega⟩
   unfold nX at hp;rw[hm] at hp;simp only[js,jR] at hp;split at hp
   ·rename_i kz
    simp only[bQ,bY] at hp;rcases hp with hp|rfl
    ·exact ih p hp
    ·exact⟨hR _ (ajh _ _ kz),fun r hr=>hR r (eY.1 hr).1⟩
   ·simp only at hp;rcases amE hp with hp'|rfl
    ·exact ih p hp'
    ·by_cases hq:st.ow (ij Xs (xi Xs k).f)<st.ps.length
     ·have hmem:st.ps.getD (st.ow (ij Xs (xi Xs k).f)) ([],[])∈st.ps:=by
       rw[lS,aC hq];exact gw hq
      obtain⟨k1,k2⟩:=ih _ hmem;refine⟨k1,fun r hr=>?_⟩
      rcases bQ.1 hr with hr|hr
      ·exact k2 r hr
      ·exact hR r hr
     ·rw[List.set_eq_of_length_le (by omega)] at hp
      exact ih _ hp
  ·unfold nX at hp;rw[hm] at hp;exact ih p hp
end
end Go.Proofs.YtkjhhooecopolaaGreatDoor
namespace Go.Proofs.YtkjhhooecopolaaGreatDoor
open Go.RowKit Go.Shelf
def qc(Xs:List PB)(r s:List Nat):Int:=fH (fr Xs r) (fr Xs s)
def dA(Xs:List PB)(p:Pg):Pg:=(p.1,iZ (qc Xs) p.2)
def mD(Xs:List PB)(p q:Pg):Int:=qc Xs p.1 q.1
def tA(Xs:List PB)(ps:List Pg):List Pg:=iZ (mD Xs) (ps.map (dA Xs))
theorem JK{Xs:List PB}(hB:BD Xs){r:List Nat}(h:RG Xs r):∀a∈fr Xs r,Ge.Can a:=fun a ha=>by
 unfold fr at ha;obtain⟨i,hi,rfl⟩:=aN.1 ha;exact(hB.v _ (gu (h.lt i hi))).cf
theorem RB.low{w w':World}{g base:Nat}{bs:List Nat}{Xs:List PB}(h:RB w g bs Xs)(hg:g<base)(hbb:∀b∈bs,b<base)(hb:∀k,k<base->w'.heap[k]?=w.heap[k]?):RB w' g bs Xs:=
 ⟨h.len,fun i b h1=>(World.cell?_of_block (a:=⟨g,i,none⟩) (hb g hg)).trans (h.row i b h1),fun i b x h1 h2=>by
  have hk:=hb b (hbb b (aZ h1));have hs:=h.side i b x h1 h2;exact⟨(World.cell?_of_block (a:=⟨b,0,none⟩) hk).trans hs.c0,(World.cell?_of_block (a:=⟨b,1,none⟩) hk).trans hs.c1,(World.cell?_of_block (a:=⟨b,2,none⟩) hk).trans hs.c2,(World.cell?_of_block (a:=⟨b,3,none⟩) hk).trans hs.c3,(World.cell?_of_block (a:=⟨b,4,none⟩) hk).trans hs.c4,(World.cell?_of_block (a:=⟨b,5,none⟩) hk).trans hs.c5⟩⟩
theorem JL{v:Value}{b:Nat}(h:v.ownBlock≠some b):b∉v.ownBlock.toList:=fun e=>h (by simpa using e)
theorem PI.sorted{bs:List Nat}{base:Nat}{fJ:Value}{PS:List Pg}{PH:List jC}{T:Nat->Tg}{wr w':World}(h:PI bs base fJ PS PH T wr){q:Nat}{ph:jC}{ps:Pg}(fU:PH[q]?=some ph)(hps:PS[q]?=some ps)(V:List Value)(rs:List (List Nat))(hlen:rs.length=ps.2.length)
  (uH:w'.ownsRow base 185 1 ph.hv ph.hvs.length V)(aji:∀(i:Nat) u x,V[i]?=some u->rs[i]?=some x->∃j:Nat,ph.hvs[j]?=some u/\ps.2[j]?=some x)(hmo:Mo ph.hv.ownBlock.toList wr w'):
  PI bs base fJ (PS.set q (ps.1,rs)) (PH.set q ⟨ph.pb,ph.sv,ph.hv,V⟩) T w':=by
 have mr:q<PH.length:=(bZ.1 fU).1;have EK:q<PS.length:=by rw[<-h.len];exact mr
 have hP:=h.pg q ph ps fU hps;have lH:=lt_of_heap hP.blk;have Yt:V.length=ph.hvs.length:=by rw[uH.1];omega
 have hold:∀b,b<wr.heap.size->T b≠.holes q->w'.heap[b]?=wr.heap[b]?:=fun b hb ht=>hmo.block b hb (JL fun e=>ht (hP.th b e))
 have hmap:(PH.set q ⟨ph.pb,ph.sv,ph.hv,V⟩).map jq=PH.map jq:=by
  rw[abq];have:jq ⟨ph.pb,ph.sv,ph.hv,V⟩=(PH.map jq)[q]'(by simpa using mr):=by
   rw[abr];have:=(bZ.1 fU).2;rw[this];rfl
  rw[this];exact amC _
 refine⟨?_,h.tl,by simp[h.len],fun q' sZ ps' h1 h2=>?_⟩
 ·rw[hmap,KF];exact aU h.row fun k e=>hold k (aB h.row k e).2 (by rw[h.tl k e];simp)
 ·by_cases oY:q=q'
  ·subst oY;rw[ru mr] at h1;rw[ru EK] at h2;injection h1 with h1;injection h2 with h2;subst h1 h2;refine⟨(hold _ lH (by rw[hP.tp];simp)).trans hP.blk,hP.ge,hP.tp,aU hP.sh fun k e=>hold k (aB hP.sh k e).2 (by rw[hP.ts k e];simp),hP.ts,by rw[<-Yt] at uH;exact uH,hP.th,by simp only;rw[Yt,hP.hl,hlen],fun i v r h3 h4=>?_⟩
   obtain⟨j,j1,j2⟩:=aji i v r h3 h4;obtain⟨k1,k2⟩:=hP.hr j v r j1 j2;exact⟨aU k1 fun k e=>hold k (aB k1 k e).2 (by rw[k2 k e];simp),k2⟩
  ·rw[wZ oY] at h1 h2;refine(h.pg q' sZ ps' h1 h2).keep (fun b _ hz ht=>hold b hz (fun e=>?_)) (fun _ _=>rfl)
   rw[e] at ht;simp at ht;exact oY ht
structure OT(bs:List Nat)(base:Nat)(ph:jC)(ps:Pg)(wr:World):Prop where
 blk:wr.heap[ph.pb]?=some (.cells #[ph.sv,ph.hv] 187 (0,0))
 sh:wr.ownsRow base 175 1 ph.sv ps.1.length (aL (ps.1.map (bx bs)))
 ho:wr.ownsRow base 185 1 ph.hv ph.hvs.length ph.hvs
 hl:ph.hvs.length=ps.2.length
 hr:∀(i:Nat) v r,ph.hvs[i]?=some v->ps.2[i]?=some r->wr.ownsRow base 175 1 v r.length (aL (r.map (bx bs)))
structure PO(bs:List Nat)(base:Nat)(fJ:Value)(PS:List Pg)(PH:List jC)(wr:World):Prop where
 row:wr.ownsRow base 165 1 fJ PH.length (PH.map jq)
 len:PH.length=PS.length
 pg:∀(q:Nat) ph ps,PH[q]?=some ph->PS[q]?=some ps->OT bs base ph ps wr
theorem Yu{α β:Type}(f:α->Option β):∀(d:List α),(∀a∈d,∃b,f a=some b)->∀i:Nat,(d.filterMap f)[i]?=d[i]?.bind f
 |[],_,i=>by simp
 |a::d,h,i=>by
  obtain⟨b,hb⟩:=h a (by simp)
  rw[amF hb];cases i with
  |zero=>simp[hb]
  |succ i=>simp only[List.getElem?_cons_succ];exact Yu f d (fun a ha=>h a (by simp[ha])) i
theorem Yv{α β:Type}(f:α->Option β):∀(d:List α),(∀a∈d,∃b,f a=some b)->(d.filterMap f).length=d.length
 |[],_=>rfl
 |a::d,h=>by
  obtain⟨b,hb⟩:=h a (by simp)
  rw[amF hb,cN,cN,Yv f d (fun a ha=>h a (by simp[ha]))]
section
variable{bs:List Nat}{base:Nat}{PS:List Pg}{PH:List jC}{T:Nat->Tg}{g:Nat}{Xs:List PB}
theorem ajj{fJ:Value}{wr:World}(hB:BD Xs)(hg:g<base)(hbb:∀b∈bs,b<base)(h:PI bs base fJ PS PH T wr)(hR:RB wr g bs Xs){q:Nat}{ph:jC}{ps:Pg}(fU:PH[q]?=some ph)(hps:PS[q]?=some ps)(hd:ni Xs ps)(hl:ps.2.length<=85000000):
  Calls Tryz.prog 173 #[ph.hv,.func (.func 174) #[] #[]] wr fun e w'=>e=.returned (.tuple #[])/\(∃sZ,PI bs base fJ (PS.set q (dA Xs ps)) (PH.set q sZ) T w')/\Below base wr w':=by
 have hP:=h.pg q ph ps fU hps;have eg:∀args w,(callFunc 174 args).run Tryz.prog w=.ok (.enter 174 args) w:=enters_of Tryz.func174 (by kernel_rfl) rfl
 have Jv:=hB.len;have hone:∀v∈ph.hvs,v.oneCell'=true:=fun v hv=>by
  obtain⟨i,hi⟩:=abu.1 hv;have hi2:i<ps.2.length:=by rw[<-hP.hl];exact(bZ.1 hi).1
  obtain⟨so,m,c,rfl⟩:=ER (hP.hr i v _ hi (aC hi2)).1;rfl
 have hsw:Sort.SWO (ltOf fun i j:Fin ps.2.length=>qc Xs ps.2[i] ps.2[j]):=uM (fun i:Fin ps.2.length=>fr Xs ps.2[i]) (fun i=>JK hB (hd.2 _ (gw i.2)))
 refine(Yq Tryz.sortRg 174 eg (qc Xs) ps.2 ph.hvs hone hP.ho hP.hl hl hsw ?_).mono ?_
 ·intro w' hz hk i j u v x y h1 h2 h3 h4;obtain⟨o1,t1⟩:=hP.hr i u x h1 h3;obtain⟨o2,t2⟩:=hP.hr j v y h2 h4;have kr:∀b,b<wr.heap.size->T b=.ring->w'.heap[b]?=wr.heap[b]?:=fun b hb ht=>hk b hb (fun e=>by rw[hP.th b e] at ht;cases ht)
  have gx:=hd.2 x (aZ h3);have gy:=hd.2 y (aZ h4);have hzb:base<=wr.heap.size:=fg hP.ge (eJ (lt_of_heap hP.blk));have hR':RB w' g bs Xs:=hR.low hg hbb (fun k hkb=>hk k (by omega) (rN hP.ho k hkb))
  exact Yp hB hR' (aU o1 fun k e=>kr k (aB o1 k e).2 (t1 k e)) (aU o2 fun k e=>kr k (aB o2 k e).2 (t2 k e)) gx.ne gy.ne gx.lt gy.lt (by have:=gx.len;omega) (by have:=gy.len;omega)
 ·rintro e w' ⟨rfl,d,p1,p2,p3,p4,p5,p6⟩;refine⟨rfl,⟨_,h.sorted fU hps _ _ p3 p4 (fun i u x h1 h2=>?_) p6⟩,p6.os,p6.tape,p6.output,p6.size,fun k hk=>p6.block k (by have:=lt_of_heap hP.blk;have:=hP.ge;omega) (JL (rN hP.ho k hk))⟩
  obtain⟨j,_,_,j1,j2⟩:=p5 i u x h1 h2;exact⟨j,j1,j2⟩
end
end Go.Proofs.YtkjhhooecopolaaGreatDoor

import Derived.Test.YtkjhhooecopolaaGreatDoorMz41
set_option maxRecDepth 100000
set_option maxHeartbeats 4000000
namespace Go.Proofs.YtkjhhooecopolaaGreatDoor
open Go.RowKit
def JO:List UInt8:=[77,85,76,84,73,80,79,76,89,71,79,78,32,40]
def Z0:List UInt8:=[77,85,76,84,73,80,79,76,89,71,79,78,32,69,77,80,84,89]
def Fq(TS:List (List UInt8)):List UInt8:=if TS=[] then Z0 else JO++(Lib.join TS [44,32]++[41])
theorem Z3(so:Option Addr)(c:Nat)(TS:List (List UInt8))(w:World)(hl:TS.length<=85000000)(hlen:(Lib.join TS [44,32]).length<=140737488355328)
  (HH:Hid (∀(k:Nat) t,TS[k]?=some t->∃b pb,so=some ⟨b,0,none⟩/\w.cell? ⟨b,k,none⟩=some (.pointer (some ⟨pb,0,none⟩))/\∀w1,Below w.heap.size w w1->Calls Tryz.prog 102 #[.pointer (some ⟨pb,0,none⟩)] w1 fun e w'=>e=.returned (.string (ba t))/\Below w1.heap.size w1 w')):
  Calls Tryz.prog 67 #[.slice so TS.length c] w fun e w'=>e=.returned (.string (ba (Fq TS)))/\Below w.heap.size w w':=by
 obtain⟨i0,hi,hz0,hz1,hz2⟩:=info_parts MN;by_cases hT0:TS=[]
 ·subst hT0;clear HH
  go_enter Tryz.func67,Tryz.ntmps67
  go_wp2_with fail
  go_ret
  exact⟨rfl,Below.refl _ _⟩
 ·have sK:Hid (TS≠[]):=hT0;have hne:¬TS.length=0:=fun e=>hT0 (gq.1 e)
  have aoW:((TS.length:Int) == 0)=false:=by rw[beq_eq_false_iff_ne];omega
  clear hT0;have bh:Hid (SI w (.slice none 0 0) ((TS.take 0).map ba) w):=⟨World.ownsRow_nil _ _ _ _,Below.refl _ _⟩
  go_enter Tryz.func67,Tryz.ntmps67
  go_wp2_with fail
  go_loopg [3,11] TS.length (fun m lv iv wr=>∃k:Nat,k+m=TS.length/\iv=.int .i64 k/\Hid (SI w lv ((TS.take k).map ba) wr))
  case atStart=>exact⟨0,by omega,rfl,bh⟩
  case round=>
   obtain⟨k,hkn,rfl,HE⟩:=hrel;have ag:=HE.out.2;clear bh;by_cases hlt:k<TS.length
   ·obtain⟨t,ht⟩:∃t,TS[k]?=some t:=⟨_,ay hlt⟩;obtain⟨b,pb,rfl,v0,hc⟩:=HH.out k t ht;have r0:=(ag.cell (p:=⟨b,k,none⟩) (lt_of_cell v0)).trans v0;have eD:(k:Int)<(TS.length:Int):=by omega
    have HC:Hid (Calls Tryz.prog 102 #[.pointer (some ⟨pb,0,none⟩)] wr fun e w'=>e=.returned (.string (ba t))/\Below wr.heap.size wr w'):=hc wr ag
    have hT':(TS.take (k+1)).map ba=(TS.take k).map ba++[ba t]:=by
     rw[jx,ht];simp
    have HT:Hid ((TS.take (k+1)).map ba=(TS.take k).map ba++[ba t]):=hT';have hxl:((TS.take k).map ba).length<=85000001:=by simp;omega
    obtain⟨ho,_⟩:=HE.out;clear hT' v0 ht hc HE HH sK;generalize(TS.take k).map ba=A1 at*;generalize ba t=X at*
    go_wp2_with fail
    refine HC.out.mono ?_;rintro e w5 ⟨rfl,ai⟩;have kA:Below w.heap.size w w5:=ag.trans (ai.mono ag.size);have dB:w5.ownsRow w.heap.size 9 1 u3 A1.length (A1.map Value.string):=aJ ho fun k hk=>ai.block k (au ho k hk).2
    have hs5:=kA.size;clear ho HC ai ag
    go_wp2_with (at_builtin;refine wpList_append_lies _ rfl (.tmp 15) (.tmp 18) 164 rfl w.heap.size 9 i0 _ 1 16 Tryz.underlying164 hi hz0 hz1 hz2 rfl (by decide) u3 A1.length (A1.map Value.string) rfl (aJ dB (fun k hk=>Below.heap_alloc _ _ _ (au dB k hk).2)) ⟨w5.heap.size,0,none⟩ 1 1 [.string X] rfl rfl (World.news_of_block (cs:= #[.string X]) (t:=9) (fr:=(0,0)) (heap_alloc_new w5 _)) (by simp[Value.oneCell']) (by decide) (by unfold maxLen;omega) (by omega) (by simp;omega) (w5.heap.size+1) (by simp) ?_;intro g' cap' w6 fW lC Dp Dq)
    have HN:Hid (SI w (.slice (some ⟨g',0,none⟩) (A1.length+1) cap') ((TS.take (k+1)).map ba) w6):=by
     rw[HT.out];refine⟨?_,(kA.alloc kA.size _).grown lC (by simp;omega) (fun k hk=>(au dB k hk).1)⟩
     rw[aS,iy];exact fW
    clear fW lC dB HT
    go_roundg (gk-1)
    case measure=>omega
    case rel=>exact⟨k+1,by omega,by go_num,HN⟩
   ·have hk:k=TS.length:=by omega
    subst hk;have HF:=HE.out;rw[dI] at HF;have HJ:Hid (Calls Tryz.prog 103 #[u3,.string ⟨#[44,32]⟩] wr fun e w'=>e=.returned (.string ⟨(Lib.join TS [44,32]).toArray⟩)/\Below wr.heap.size wr w'):=ZY HF (by omega) hlen
    have lh:Hid (Fq TS=JO++(Lib.join TS [44,32]++[41])):=if_neg sK.out;generalize Lib.join TS [44,32]=TX at*;have hs1:¬9223372036854775807<14+TX.length:=by omega
    have hs2:¬9223372036854775807<14+TX.length+1:=by omega
    have HB:Hid (Below w.heap.size w wr):=ag;clear HE HH HF ag sK
    go_wp2_with fail
    refine HJ.out.mono ?_;rintro e w7 ⟨rfl,aT⟩;have Fm:Hid (Below w.heap.size w w7):=HB.out.trans (aT.mono HB.out.size);clear HJ aT HB
    go_wp2_with fail
    go_ret
    exact⟨by rw[lh.out];simp[ba,JO,ByteArray.mk_append_mk],Fm.out⟩
def bH(Xs:List PB)(p:Pg):List UInt8:=Bx (bZ Xs p.1) (p.2.map (bZ Xs))
def JP(Xs:List PB)(ps:List Pg):List UInt8:=Fq (ps.map (bH Xs))
theorem PK:∀l:List (List UInt8),(Lib.join l [44,32]).length<=(l.map fun t=>t.length+2).sum
 |[]=>by simp[Lib.join,List.intercalate]
 |[x]=>by simp[Lib.join_one]
 |x::y::r=>by
  have ih:=PK (y::r);have e:Lib.join (x::y::r) [44,32]=x++([44,32]++Lib.join (y::r) [44,32]):=by simp[Lib.join,List.intercalate]
  rw[e];simp only[aS,gK,Ca,bO,fE] at ih⊢;omega
section
variable{Xs:List PB}
theorem Z4(hB:BD Xs){r:List Nat}(h:RG Xs r):∀n∈fr Xs r,dm n.1 n.2.1 n.2.2:=fun n hn=>by
 unfold fr at hn;obtain⟨i,hi,rfl⟩:=aX.1 hn;exact(hB.v _ (gh (h.lt i hi))).f.az
theorem Z5(hB:BD Xs){r:List Nat}(h:RG Xs r):(bZ Xs r).length<=208*r.length:=by
 have h0:0<r.length:=gL.2 h.ne;have hn:=Z4 hB h;have h1:=Pl.x8 Pl.iU 101 ((fr Xs r++(fr Xs r).take 1).map Ge.aj) (fun q hq=>by
  obtain⟨n,hm,rfl⟩:=aX.1 hq;refine MO ?_;rcases bW.1 hm with hn'|hn'
  ·exact hn n hn'
  ·exact hn n (nL hn'))
 have h2:(fr Xs r).length=r.length:=by simp[fr]
 rw[iH,aS,ig,h2] at h1;unfold bZ;simp only[bO,aS,fE];omega
theorem PQ{α:Type}(f g:α->Nat):∀l:List α,(∀x∈l,f x<=g x)->(l.map f).sum<=(l.map g).sum
 |[],_=>by simp
 |a::l,h=>by
  have h1:=h a (by simp)
  have h2:=PQ f g l fun x hx=>h x (by simp[hx])
  simp only[gK,Ca];omega
theorem PR{α:Type}(c:Nat)(f:α->Nat):∀l:List α,(l.map fun x=>c*f x).sum=c*(l.map f).sum
 |[]=>by simp
 |a::l=>by simp only[gK,Ca,PR c f l,Nat.mul_add]
theorem Z6(hB:BD Xs){p:Pg}(h:nE Xs p):(Lib.join (bZ Xs p.1::p.2.map (bZ Xs)) [44,32]).length<=210*(p.1.length+dF p.2):=by
 have h1:=PK (bZ Xs p.1::p.2.map (bZ Xs));have h2:=Z5 hB h.1;have h0:0<p.1.length:=gL.2 h.1.ne;rw[gK,Ca,ke] at h1;have h3:=PQ ((fun t:List UInt8=>t.length+2)∘bZ Xs) (fun r=>210*r.length) p.2 (fun r hr=>by
  have h4:=Z5 hB (h.2 r hr);have h5:0<r.length:=gL.2 (h.2 r hr).ne;show(bZ Xs r).length+2<=210*r.length;omega)
 rw[PR] at h3;have h6:(p.2.map fun r=>r.length).sum=dF p.2:=rfl
 rw[h6] at h3;omega
theorem ak5(hB:BD Xs){p:Pg}(h:nE Xs p):(bH Xs p).length+2<=214*(p.1.length+dF p.2):=by
 have h1:=Z6 hB h;have h0:0<p.1.length:=gL.2 h.1.ne;unfold bH Bx;simp only[bO,aS,fE];omega
theorem ak6(hB:BD Xs){ps:List Pg}(h:∀p∈ps,nE Xs p):(Lib.join (ps.map (bH Xs)) [44,32]).length<=214*iu ps:=by
 have h1:=PK (ps.map (bH Xs));rw[ke] at h1;have h3:=PQ ((fun t:List UInt8=>t.length+2)∘bH Xs) (fun p=>214*(p.1.length+dF p.2)) ps (fun p hp=>ak5 hB (h p hp))
 rw[PR] at h3;exact dS h1 h3
theorem Z7{β:Type}(cf:β->β->Int)(l:List β)(hO:Sort.SWO (ltOf fun i j:Fin l.length=>cf l[i] l[j])):(jY cf l).Perm l:=by
 unfold jY;by_cases h:0<l.length
 ·rw[dif_pos h];obtain⟨_,p3,_⟩:=PC (fun i j:Fin l.length=>cf l[i] l[j]) hO h
  have k:=p3.map (fun i:Fin l.length=>l[i])
  have e3:(Array.ofFn (id:Fin l.length->Fin l.length)).toList.map (fun i:Fin l.length=>l[i])=l:=by
   apply xx
   ·simp
   ·intro i h1 h2;simp
  rw[e3] at k;exact k
 ·rw[dif_neg h];have:l=[]:=gq.1 (by omega)
  rw[this]
theorem Z8(hB:BD Xs){p:Pg}(h:nE Xs p):(gJ Xs p).2.Perm p.2:=
 Z7 _ _ (Bt (fun i:Fin p.2.length=>fr Xs p.2[i]) (fun i=>JM hB (h.2 _ (ie i.2))))
theorem Z9(hB:BD Xs){p:Pg}(h:nE Xs p):nE Xs (gJ Xs p):=⟨h.1,fun r hr=>h.2 r ((Z8 hB h).mem_iff.1 hr)⟩
theorem PU(hB:BD Xs){ps:List Pg}(h:∀p∈ps,nE Xs p):(vt Xs ps).Perm (ps.map (gJ Xs)):=
 Z7 _ _ (Bt (fun i:Fin (ps.map (gJ Xs)).length=>fr Xs (ps.map (gJ Xs))[i].1) (fun i=>by
  have hm:=ie (l:=ps.map (gJ Xs)) i.2;obtain⟨p,hp,e⟩:=aX.1 hm;have hg:=(Z9 hB (h p hp)).1;rw[e] at hg;exact JM hB hg))
theorem ak7(hB:BD Xs){ps:List Pg}(h:∀p∈ps,nE Xs p):∀p∈vt Xs ps,nE Xs p:=fun p hp=>by
 have:=(PU hB h).mem_iff.1 hp;obtain⟨q,hq,rfl⟩:=aX.1 this;exact Z9 hB (h q hq)
theorem ak8(hB:BD Xs){ps:List Pg}(h:∀p∈ps,nE Xs p):iu (vt Xs ps)=iu ps:=by
 have h1:iu (vt Xs ps)=iu (ps.map (gJ Xs)):=((PU hB h).map _).sum_nat;rw[h1];unfold iu;rw[ke];congr 1;apply KG;intro p hp;have h2:dF (gJ Xs p).2=dF p.2:=((Z8 hB (h p hp)).map _).sum_nat;show(gJ Xs p).1.length+dF (gJ Xs p).2=_;rw[h2];rfl
end
theorem aaa:∀l:List (List Nat),(∀r∈l,0<r.length)->l.length<=dF l
 |[],_=>iz _
 |a::l,h=>by
  have h1:=h a (by simp)
  have h2:=aaa l fun r hr=>h r (by simp[hr])
  have e:dF (a::l)=a.length+dF l:=by simp[dF]
  rw[e,bO];omega
section
variable{bs:List Nat}{Xs:List PB}{g base:Nat}{w:World}
theorem aab(hB:BD Xs)(hR:RB w g bs Xs){v:Value}{r:List Nat}(o:w.ownsRow base 175 1 v r.length (aG (r.map (bx bs))))(h:RG Xs r)(hG:Gl w):
  Calls Tryz.prog 153 #[v] w fun e w'=>e=.returned (.string (ba (bZ Xs r)))/\Below w.heap.size w w':=by
 have h0:0<r.length:=gL.2 h.ne;obtain⟨g1,c1,rfl,_,_,_,f1⟩:=nD o h0;have hl:=h.len;have hX:=hB.len;refine akX bs Xs r g1 c1 w (by omega) h0 hG (fun i a ha=>?_) (Z4 hB h)
 have hs:=hR.at (h.lt a (aY ha));exact⟨f1 i _ (by simp[aG,ha]),hs.c2,hs.c3⟩
theorem ak9(hB:BD Xs)(hR:RB w g bs Xs){ph:ju}{p:Pg}(o:PD bs base ph p w)(h:nE Xs p)(ht:iu [p]<=Xs.length)(hG:Gl w):
  Calls Tryz.prog 102 #[.pointer (some ⟨ph.pb,0,none⟩)] w fun e w'=>e=.returned (.string (ba (bH Xs p)))/\Below w.heap.size w w':=by
 have h0:0<p.1.length:=gL.2 h.1.ne;have hX:=hB.len;have ht':p.1.length+dF p.2<=Xs.length:=by simpa[iu] using ht
 have hl:=Z6 hB h;have yT:p.2.length<=dF p.2:=aaa p.2 (fun r hr=>gL.2 (h.2 r hr).ne)
 obtain⟨gs,cs,e1,_⟩:=nD o.sh h0;obtain⟨so,c,e2⟩:∃so c,ph.hv=.slice so (p.2.map (bZ Xs)).length c:=by
  rw[iH,<-o.hl];rcases o.ho.2 with⟨hv,h0⟩|⟨b,cap,cur,hv,_⟩
  ·exact⟨none,0,by rw[hv,h0]⟩
  ·exact⟨_,cap,hv⟩
 refine ak4 ph.pb gs p.1.length cs so c (bZ Xs p.1) (p.2.map (bZ Xs)) w (by rw[iH];omega) (by omega) hG ?_ ?_ (fun w1 hb cz=>?_) (fun k t hk=>?_)
 ·rw[cell_of o.blk 0,<-e1];rfl
 ·rw[cell_of o.blk 1,<-e2];rfl
 ·rw[<-e1];exact aab hB (hR.below hb) (aJ o.sh fun k e=>hb.block k (au o.sh k e).2) h.1 cz
 ·rw[gm] at hk;obtain⟨r,hr,rfl⟩:=rC.1 hk;have hkl:k<ph.hvs.length:=by rw[o.hl];exact(bT.1 hr).1
  obtain⟨v,hv⟩:∃v,ph.hvs[k]?=some v:=⟨_,ay hkl⟩;have hgr:=h.2 r (aY hr);have ow:=o.hr k v r hv hr;obtain⟨gk,ck,rfl,_⟩:=nD ow (gL.2 hgr.ne);obtain⟨b,cT,e3,_,_,_,f⟩:=nD o.ho (by omega)
  rw[e2] at e3;injection e3 with e3;exact⟨b,gk,_,ck,e3,f k _ hv,fun w1 hb cz=>aab hB (hR.below hb) (aJ ow fun k e=>hb.block k (au ow k e).2) hgr cz⟩
theorem ala{ps:List Pg}{p:Pg}(h:p∈ps):iu [p]<=iu ps:=by
 induction ps with
 |nil=>simp at h
 |cons a ps ih=>
  rcases aQ.1 h with rfl|h
  ·simp[iu]
  ·have:=ih h;simp only[iu,gK,Ca,QY,List.sum_nil] at this⊢;omega
theorem alb(hB:BD Xs)(hR:RB w g bs Xs){fG:Value}{PS:List Pg}{PH:List ju}(o:PO bs base fG PS PH w)(h:∀p∈PS,nE Xs p)(ht:iu PS<=Xs.length)(hl:PS.length<=85000000)(hG:Gl w):
  Calls Tryz.prog 67 #[fG] w fun e w'=>e=.returned (.string (ba (JP Xs PS)))/\Below w.heap.size w w':=by
 have hX:=hB.len;have hJ:=ak6 hB h;obtain⟨so,c,rfl⟩:∃so c,fG=.slice so (PS.map (bH Xs)).length c:=by
  rw[iH,<-o.len];rcases o.row.2 with⟨hv,h0⟩|⟨b,cap,cur,hv,_⟩
  ·exact⟨none,0,by rw[hv,h0]⟩
  ·exact⟨_,cap,hv⟩
 refine Z3 so c (PS.map (bH Xs)) w (by rw[iH];exact hl) (by omega) (fun k t hk=>?_)
 rw[gm] at hk;obtain⟨p,hp,rfl⟩:=rC.1 hk;have hkl:k<PH.length:=by rw[o.len];exact(bT.1 hp).1
 obtain⟨ph,fR⟩:∃ph,PH[k]?=some ph:=⟨_,ay hkl⟩;have hmem:=aY hp;obtain⟨b,cT,e3,_,_,_,f⟩:=nD o.row (by omega)
 injection e3 with e3;refine⟨b,ph.pb,e3,f k _ (by rw[gm,fR];rfl),fun w1 hb=>?_⟩
 have q:=o.pg k ph p fR hp;have q1:PD bs base ph p w1:=⟨(hb.block _ (lt_of_heap q.blk)).trans q.blk,aJ q.sh fun k e=>hb.block k (au q.sh k e).2,aJ q.ho fun k e=>hb.block k (au q.ho k e).2,q.hl,fun i v r h1 h2=>aJ (q.hr i v r h1 h2) fun k e=>hb.block k (au (q.hr i v r h1 h2) k e).2⟩
 exact ak9 hB (hR.below hb) q1 (h p hmem) (dS (ala hmem) ht) (hG.below hb hG.sz)
end
end Go.Proofs.YtkjhhooecopolaaGreatDoor
namespace Go.Proofs.YtkjhhooecopolaaGreatDoor
open Go.RowKit
open Ge
theorem alc(w:World):
  Calls Tryz.prog 69 #[.slice none 0 0] w fun e w'=>e=.returned (.slice none 0 0)/\w'=w:=by
 have HC:Hid (Calls Tryz.prog 116 #[.slice none 0 0] w fun e w'=>e=.returned (.tuple #[])/\w'=w):=ZL w
 go_enter Tryz.func69,Tryz.ntmps69
 go_wp2_with fail
 go_loopg [3,13] 0 (fun m lv iv wr=>m=0/\lv=.slice none 0 0/\iv=.int .i64 0/\wr=w)
 case atStart=>exact⟨rfl,rfl,rfl,rfl⟩
 case round=>
  obtain⟨_,rfl,rfl,rfl⟩:=hrel
  go_wp2_with fail
  refine HC.out.mono ?_;rintro e w5 ⟨rfl,rfl⟩;clear HC
  go_wp2_with fail
  go_ret
  exact⟨rfl,rfl⟩
section
variable{rg:List (List Pt)}{l:List Nd}{r:Int}{Ps:List PB}
theorem PW(hl:l.map aj=fX (aa rg))(hs:∀e∈aa rg,fg e)(h:og (aa rg) l Ps)(hlen:(ov r (aa rg) Ps).length<=85000000):BD (ov r (aa rg) Ps):=by
 have hne:∀e∈aa rg,e.1≠e.2:=fun e he=>LW he
 have hv:∀x∈Ps.flatMap (fh r (aa rg)),cM x:=fun x hx=>by
  obtain⟨p,hp,uW⟩:=tW.1 hx;exact NR (h.v p hp) uW
 obtain⟨hperm,ald⟩:=XI (Ps.flatMap (fh r (aa rg))) hv;refine⟨fun x hx=>hv x (hperm.mem_iff.1 hx),fun x hx=>?_,?_,hlen⟩
 ·obtain⟨p,hp,uW⟩:=tW.1 (hperm.mem_iff.1 hx);obtain⟨k,hk⟩:=aie hne hs h hl p hp;rcases Jl uW with⟨rfl,_⟩|⟨rfl,_⟩
  ·exact⟨k,hk⟩
  ·exact⟨_,hk.rev⟩
 ·refine ald.imp fun{a b} hab=>?_
  rw[Bh];exact hab
def xe(Xs:List PB):List UInt8:=JP Xs (vt Xs (aK Xs Xs.length).ps)
theorem ale(hl:l.map aj=fX (aa rg))(hc:∀n∈l,Ge.Can n)(hs:∀e∈aa rg,fg e)(h:og (aa rg) l Ps){w1 w0:World}{lv:Value}{bs:List Nat}(jq:BS w1 lv bs (ov r (aa rg) Ps) w0)(hbl:bs.length<=85000000)(cz:Gl w1):
  Calls Tryz.prog 69 #[lv] w0 fun e w'=>∃lp,e=.returned lp/\Below w1.heap.size w1 w'/\Calls Tryz.prog 67 #[lp] w' fun e w''=>e=.returned (.string (ba (xe (ov r (aa rg) Ps))))/\Below w'.heap.size w' w'':=by
 have hX:=N8 (r:=r) hl hc h;have hB:=PW (r:=r) hl hs h (by rw[<-jq.len];exact hbl)
 generalize ov r (aa rg) Ps=Xs at*;have hb1:=jq.below;rcases jq.own.2 with⟨rfl,h0⟩|⟨g,cap,cur,rfl,hg,hblk,hnc,hcm,hcs,htk⟩
 ·have hb0:bs=[]:=gq.1 h0;have Er:Xs=[]:=gq.1 (by rw[<-jq.len];exact h0)
  subst Er;refine(alc w0).mono ?_;rintro e w' ⟨rfl,rfl⟩;exact⟨_,rfl,hb1,Z3 none 0 [] w' (by simp) (by simp[Lib.join,List.intercalate]) (fun k t hk=>by simp at hk)⟩
 ·have hlt:∀b∈bs,b<w0.heap.size:=fun b hb=>jq.lt hb
  have hsw:SW g bs Xs (fun _=>false) (fun _=>none) w0:=by
   refine⟨jq.len,jq.nd,fun hgb=>jq.ne g hgb rfl,fun i hi=>?_,fun i hi=>?_⟩
   ·obtain⟨gT,cT,e,_,_,_,f⟩:=nD jq.own (by omega)
    injection e with e;injection e with e;injection e with e;subst e;exact f i _ (by simp[aG,wQ hi])
   ·exact(jq.lies i _ _ (wQ hi) (uY (by rw[<-jq.len];exact hi))).2
  have htot:=hX.dF hB Xs.length (ae _);have hgd:=hX.pn hB Xs.length (ae _);have hpv:=hX.pv hB Xs.length (ae _);have Jx:=hB.len;have hpl:=hpv.len;refine akJ (cap:=cap) hX hB hlt (lt_of_heap hblk) hnc hsw (fun lp w'=>Below w1.heap.size w1 w'/\Calls Tryz.prog 67 #[lp] w' fun e w''=>e=.returned (.string (ba (xe Xs)))/\Below w'.heap.size w' w'') ?_
  intro lv PH T wr kR EN hnd hmo wM;refine(akS hB (lt_of_heap hblk) hlt hmo.size kR EN hgd (by omega) (fun p hp=>?_)).mono ?_
  ·obtain⟨i,hi⟩:=acr.1 hp;have:=hpv.hol i p hi;omega
  ·rintro e w' ⟨rfl,⟨ru,PE⟩,alf,ag⟩;have hb2:Below w1.heap.size w1 w':=by
    have alg:Below w1.heap.size w1 wr:=hb1.trans ⟨hmo.os,hmo.tape,hmo.output,hmo.size,fun k hk=>hmo.block k (aL hk hb1.size) (fun hm=>by
     obtain⟨i,hi⟩:=acr.1 hm;have hiX:i<Xs.length:=by rw[<-jq.len];exact(bT.1 hi).1
     have:=(jq.lies i k _ hi (uY hiX)).1;omega)⟩
    exact alg.trans (ag.mono hb1.size)
   refine⟨rfl,hb2,?_⟩;refine alb hB alf PE (ak7 hB hgd) ?_ ?_ (cz.below hb2 cz.sz)
   ·rw[ak8 hB hgd];omega
   ·have:=(PU hB hgd).length_eq;rw[iH] at this;omega
end
end Go.Proofs.YtkjhhooecopolaaGreatDoor
namespace Go.Proofs.YtkjhhooecopolaaGreatDoor.Gb
open Ge Ga
section
variable{S:List Sg}{nx:Sg->Sg}
theorem Wd.PX(h:Wd S nx):∀(T:List Sg)(b c:Sg)(e:Pt),b∈S->(∀s∈T,s∈S)->Path b.2 T e->ak (dr c) (dr b)=true->ak (dr ((tG b T).getLastD c)) (dr (T.getLastD b))=true
 |[],_,_,_,_,_,_,hc=>hc
 |s::T,b,c,e,hb,hm,hp,hc=>by
  have hs:=hm s (by simp)
  have e1:(s::T).getLastD b=T.getLastD s:=by cases T<;>rfl
  rw[e1];unfold tG;by_cases hcr:cr (dr b) (dr s)=0
  ·rw[if_pos hcr];exact h.PX T s c e hs (fun u hu=>hm u (bn _ hu)) hp.2 (Lu hc (h.Sm hb hs hp.1 hcr))
  ·rw[if_neg hcr];have e2:(s::tG s T).getLastD c=(tG s T).getLastD s:=by cases tG s T<;>rfl
   rw[e2];exact h.PX T s s e hs (fun u hu=>hm u (bn _ hu)) hp.2 (Cy (h.gN hs))
end
def pJ(c:Nat->Nat->Bool)(p:List Nat×List (List Nat))(s:Nat):List Nat×List (List Nat):=
 if 0<=fM (c s) (p.1++[s]) then((p.1++[s]).take (fM (c s) (p.1++[s])).toNat,p.2++[(p.1++[s]).drop (fM (c s) (p.1++[s])).toNat]) else(p.1++[s],p.2)
def nG(c:Nat->Nat->Bool)(W:List Nat):List Nat×List (List Nat):=W.foldl (pJ c) ([],[])
theorem aac(c:Nat->Nat->Bool)(W:List Nat)(s:Nat):nG c (W++[s])=pJ c (nG c W) s:=by unfold nG;rw[KR];rfl
theorem ali(Xs:List PB)(W:List Nat):bA Xs W=((nG (kQ Xs) W).1,(nG (kQ Xs) W).2.map (cN Xs)):=by
 have key:∀(W:List Nat)(p:List Nat×List (List Nat)),W.foldl (jb Xs) (p.1,p.2.map (cN Xs))=((W.foldl (pJ (kQ Xs)) p).1,(W.foldl (pJ (kQ Xs)) p).2.map (cN Xs)):=by
  intro W;induction W with
  |nil=>intro p;rfl
  |cons s W ih=>
   intro p;rw[rE,rE,<-ih];congr 1;unfold jb pJ ia;simp only;by_cases h:0<=fM (kQ Xs s) (p.1++[s])
   ·rw[if_pos h,if_pos h];simp
   ·rw[if_neg h,if_neg h]
 exact key W ([],[])
theorem alj(Xs:List PB)(W:List Nat):bf Xs W=(nG (kQ Xs) W).2.map (cN Xs):=by unfold bf;rw[ali]
theorem alk{P:Nat->Bool}(g:Nat->Nat)(l:List Nat):fM P (l.map g)=fM (fun x=>P (g x)) l:=Jt l 0 fun _ _=>rfl
theorem alm(c:Nat->Nat->Bool)(g:Nat->Nat)(W:List Nat):nG c (W.map g)=((nG (fun i j=>c (g i) (g j)) W).1.map g,(nG (fun i j=>c (g i) (g j)) W).2.map (·.map g)):=by
 have key:∀(W:List Nat)(p:List Nat×List (List Nat)),(W.map g).foldl (pJ c) (p.1.map g,p.2.map (·.map g))=((W.foldl (pJ fun i j=>c (g i) (g j)) p).1.map g,(W.foldl (pJ fun i j=>c (g i) (g j)) p).2.map (·.map g)):=by
  intro W;induction W with
  |nil=>intro p;rfl
  |cons s W ih=>
   intro p;rw[gK,rE,rE,<-ih];congr 1;unfold pJ;simp only;have e:p.1.map g++[g s]=(p.1++[s]).map g:=by simp
   rw[e,alk];by_cases h:0<=fM (fun x=>c (g s) (g x)) (p.1++[s])
   ·rw[if_pos h,if_pos h];simp
   ·rw[if_neg h,if_neg h]
 exact key W ([],[])
theorem aln(c:Nat->Nat->Bool)(p:List Nat×List (List Nat))(s:Nat):∀o∈(pJ c p s).1,o∈p.1++[s]:=by
 intro o ho;unfold pJ at ho;split at ho
 ·exact nL ho
 ·exact ho
theorem aad(c:Nat->Nat->Bool):∀(i:Nat),∀o∈(nG c (List.range i)).1,o<i
 |0,o,ho=>by simp[nG] at ho
 |i+1,o,ho=>by
  rw[FP,aac] at ho;rcases bW.1 (aln c _ i o ho) with q|q
  ·have:=aad c i o q;omega
  ·have:=bJ.1 q;omega
theorem alo{ν:Type}{f:Nat->ν}(c:Nat->Nat->Bool)(i:Nat)(p:List Nat×List (List Nat))(hc:∀o∈p.1++[i],c i o=true↔f o=f (i+1)):xH f i p (pJ c p i):=by
 unfold pJ fM;rcases JD (P:=c i) (p.1++[i]) 0 with⟨h1,h2⟩|⟨R,x,h1,h2,h3,h4⟩
 ·rw[if_neg (by omega)]
  refine Or.inl ⟨fun o ho e=>?_,rfl⟩
  have:=(hc o ho).2 e;rw[h2 o ho] at this;cases this
 ·have e:(fB (c i) (p.1++[i]) 0).toNat=R:=by rw[h1];omega
  rw[if_pos (by omega),e]
  have hx:x∈p.1++[i]:=aY h2;refine Or.inr ⟨(p.1++[i]).take R,x,(p.1++[i]).drop (R+1),?_,(hc x hx).1 h3,fun o ho k=>?_,?_⟩
  ·rw[<-vg h2,Rb]
  ·obtain⟨t,ht,et⟩:=j5.1 ho;have htR:t<R:=by
    have:=ht;rw[ig] at this;omega
   have hg:(p.1++[i])[t]?=some o:=by
    rw[<-et,List.getElem_take];exact ay _
   have:=h4 t o htR hg;rw[(hc o (aY hg)).2 k] at this;cases this
  ·rw[<-vg h2]
theorem PY(Xs:List PB):∀(A:List Nat)(b:Nat)(B:List Nat),tI Xs b (A++B)=tI Xs b A++tI Xs (A.getLastD b) B
 |[],_,_=>rfl
 |a::A,b,B=>by
  have ih:=PY Xs A a B;have e:(a::A).getLastD b=A.getLastD a:=by cases A<;>rfl
  show _++tI Xs a (A++B)=(_++tI Xs a A)++_;rw[ih,e,fD]
theorem JQ{cf:Nat->Nat->Int}{d:Nat}:∀(l:List Nat)(m:Nat),d∈m::l->(∀x∈m::l,x≠d->cf d x<0)->(∀x∈m::l,¬cf x d<0)->bu cf l m=d
 |[],m,h,_,_=>(bJ.1 h).symm
 |b::l,m,h,h1,h2=>by
  unfold bu;by_cases e:m=d
  ·subst e;rw[if_neg (h2 b (by simp))]
   exact JQ l m (by simp) (fun x hx=>h1 x (by rcases aQ.1 hx with q|q<;>simp[q])) (fun x hx=>h2 x (by rcases aQ.1 hx with q|q<;>simp[q]))
  ·by_cases e2:b=d
   ·subst e2;rw[if_pos (h1 m (by simp) e)]
    exact JQ l b (by simp) (fun x hx=>h1 x (by rcases aQ.1 hx with q|q<;>simp[q])) (fun x hx=>h2 x (by rcases aQ.1 hx with q|q<;>simp[q]))
   ·have hd:d∈l:=by
     rcases aQ.1 h with q|q
     ·exact absurd q.symm e
     ·rcases aQ.1 q with q|q
      ·exact absurd q.symm e2
      ·exact q
    refine JQ l _ (bn _ hd) (fun x hx=>?_) (fun x hx=>?_)
    ·rcases aQ.1 hx with q|q
     ·rw[q];split
      ·exact h1 b (by simp)
      ·exact h1 m (by simp)
     ·exact h1 x (by simp[q])
    ·rcases aQ.1 hx with q|q
     ·rw[q];split
      ·exact h2 b (by simp)
      ·exact h2 m (by simp)
     ·exact h2 x (by simp[q])
section
variable{rg:List (List Pt)}{l:List Nd}{r:Int}{Xs:List PB}
abbrev pi(l:List Nd)(Xs:List PB)(i:Nat):Sg:=ph (af l) (xi Xs i)
theorem SX.pd(h:SX rg l r Xs){i:Nat}(hi:i<Xs.length):Pm (dr (pi l Xs i)) (wv (xi Xs i).f (xi Xs i).t):=
 jo (bQ.ok h.nl).1 ((bQ.ok h.nl).2 _ (gF h.nl (h.sd hi).pc).2.1) ((bQ.ok h.nl).2 _ (gF h.nl (h.sd hi).pc).2.2)
theorem SX.pK(h:SX rg l r Xs){i:Nat}(hi:i<Xs.length):(xi Xs i).f∈l/\(xi Xs i).t∈l:=(gF h.nl (h.sd hi).pc).2
theorem PZ(x:Int):(x.sign=0↔x=0)/\(0<x.sign↔0<x)/\(x.sign<0↔x<0):=by
 rcases sg x with⟨a,b⟩|⟨a,b⟩|⟨a,b⟩<;>rw[b]<;>omega
theorem SX.gH(h:SX rg l r Xs){i j:Nat}(hi:i<Xs.length)(hj:j<Xs.length):(eT (xi Xs i) (xi Xs j)=0↔cr (dr (pi l Xs i)) (dr (pi l Xs j))=0)/\(0<eT (xi Xs i) (xi Xs j)↔0<cr (dr (pi l Xs i)) (dr (pi l Xs j))):=by
 rw[wS];have a:=PZ (cr (wv (xi Xs i).f (xi Xs i).t) (wv (xi Xs j).f (xi Xs j).t));have b:=(SX.pd h hi).cr (SX.pd h hj);exact⟨a.1.trans b.2.2.symm,a.2.1.trans b.1.symm⟩
theorem SX.tG(h:SX rg l r Xs):∀(A:List Nat)(b:Nat),b<Xs.length->(∀a∈A,a<Xs.length)->(tI Xs b A).map (pi l Xs)=Gb.tG (pi l Xs b) (A.map (pi l Xs))
 |[],_,_,_=>rfl
 |s::A,b,hb,hm=>by
  have hs:=hm s (by simp)
  have ih:=SX.tG h A s hs (fun a ha=>hm a (bn _ ha))
  have k:=(SX.gH h hs hb).1;have k2:cr (dr (pi l Xs s)) (dr (pi l Xs b))=0↔cr (dr (pi l Xs b)) (dr (pi l Xs s))=0:=by rw[bU];omega
  show((if eT (xi Xs s) (xi Xs b)=0 then[] else[s])++tI Xs s A).map (pi l Xs)=if cr (dr (pi l Xs b)) (dr (pi l Xs s))=0 then Gb.tG (pi l Xs s) (A.map (pi l Xs)) else pi l Xs s::Gb.tG (pi l Xs s) (A.map (pi l Xs))
  by_cases hc:eT (xi Xs s) (xi Xs b)=0
  ·rw[if_pos hc,if_pos (k2.1 (k.1 hc)),vA,ih]
  ·rw[if_neg hc,if_neg (fun e=>hc (k.2 (k2.2 e))),iy,ih]
   rfl
theorem SX.geq(h:SX rg l r Xs){a b:Nd}(ha:a∈l)(hb:b∈l):ge (PM (af l) a) (PM (af l) b)->a≠b->aW a b<0:=by
 intro hg hne;have hr:=Lg hg (fun e=>hne (tF h.nl ha hb e))
 have:=(jo (bQ.ok h.nl).1 ((bQ.ok h.nl).2 a ha) ((bQ.ok h.nl).2 b hb)).aN.1 hr;rw[Bh];exact(nr (h.nl.can a ha) (h.nl.can b hb)).2 this
theorem aae{α:Type}(A:List α){B:List α}(hB:B≠[])(d e:α):(A++B).getLastD d=B.getLastD e:=by
 rw[oJ,oJ,Lr A hB];cases q:B.getLast? with
 |none=>exact absurd (ze.1 q) hB
 |some z=>rfl
theorem SX.ring(h:SX rg l r Xs)(hB:BD Xs){D1 D2:List Nat}(hl:∀a∈D1++D2,a<Xs.length)(hR:LR (sS (af l) Xs) (jT (af l) Xs) ((D2++D1).map (pi l Xs)))(h2:D2≠[]):cN Xs (D1++D2)=cS Xs (D2++D1):=by
 have hW:=SX.wd h hB;obtain⟨d,dW,rfl⟩:∃d dW,D2=d::dW:=by
  cases D2 with
  |nil=>exact absurd rfl h2
  |cons d D=>exact⟨d,D,rfl⟩
 have r9:=hl d (by simp)
 have hnd:(d::dW++D1).Nodup:=by
  have:=hR.ring.nd;exact List.Pairwise.of_map (pi l Xs) (fun a b k e=>k (by rw[e])) this
 have hz:∃z,(d::dW++D1).getLastD 0=z/\z∈d::dW++D1:=by
  refine⟨_,rfl,?_⟩;rw[oJ];cases q:(d::dW++D1).getLast? with
  |none=>exact absurd (ze.1 q) (by simp)
  |some z=>exact tX q
 obtain⟨z,hz1,hz2⟩:=hz;have hzl:z<Xs.length:=hl z (by simp at hz2⊢;rcases hz2 with q|q|q<;>simp[q])
 obtain⟨a,T,t,U,e1,e2,e3,_⟩:=hR.GH hW;have ha:a=pi l Xs d:=by
  have:(pi l Xs d::(dW++D1).map (pi l Xs))=a::T:=by rw[<-e1];simp
  injection this with q _;exact q.symm
 have hturn:eT (xi Xs d) (xi Xs z)≠0:=fun e=>by
  have hzz:((d::dW++D1).map (pi l Xs)).getLastD s0=pi l Xs z:=by
   rw[oJ,Cw];rw[oJ] at hz1;cases q:(d::dW++D1).getLast? with
   |none=>exact absurd (ze.1 q) (by simp)
   |some y=>rw[q] at hz1;rw[<-hz1];rfl
  have hc:=((SX.gH h r9 hzl).1).1 e;have:cr (dr (pi l Xs z)) (dr (pi l Xs d))=0:=by rw[bU];omega
  unfold jf at e3;rw[hzz,e1] at e3;have e4:Gb.tG (pi l Xs z) (a::T)=Gb.tG a T:=by
   show(if cr (dr (pi l Xs z)) (dr a)=0 then _ else _)=_
   rw[ha,if_pos this]
  rw[e4,e2] at e3;have e5:=congrArg List.length e3;simp at e5
 have hT:cS Xs (D1++d::dW)=tI Xs ((d::dW).getLastD 0) D1++d::tI Xs d dW:=by
  unfold cS;rw[PY,aae D1 (by simp) 0 0]
  congr 1;have:D1.getLastD ((d::dW).getLastD 0)=z:=by
   cases hD:D1 with
   |nil=>
    rw[hD] at hz1;simp only[rA] at hz1;rw[<-hz1];rfl
   |cons x D=>
    rw[<-hz1,hD,aae (d::dW) (by simp) 0 0]
    cases D<;>rfl
  rw[this];show(if eT (xi Xs d) (xi Xs z)=0 then[] else[d])++tI Xs d dW=_
  rw[if_neg hturn];rfl
 have hT':cS Xs (d::dW++D1)=(d::tI Xs d dW)++tI Xs ((d::dW).getLastD 0) D1:=by
  unfold cS;rw[hz1,PY];congr 1;show(if eT (xi Xs d) (xi Xs z)=0 then[] else[d])++tI Xs d dW=_
  rw[if_neg hturn];rfl
 have Qa:∀x∈cS Xs (D1++d::dW),x∈D1++d::dW:=fun x hx=>Bn Xs _ _ x hx
 have hmem:∀x,x∈D1++d::dW↔x∈d::dW++D1:=fun x=>by simp;constructor<;>(rintro(q|q|q)<;>simp[q])
 have aaf:∀x∈D1++d::dW,x≠d->aW (xi Xs d).f (xi Xs x).f<0:=fun x hx hne=>by
  have hx':=(hmem x).1 hx;have hg:=hR.least (pi l Xs d) (by simp) (pi l Xs x) (aX.2 ⟨x,hx',rfl⟩)
  refine SX.geq h (SX.pK h r9).1 (SX.pK h (hl x hx)).1 hg fun e=>?_
  have hx2:x∈dW++D1:=by
   rcases aQ.1 hx' with q|q
   ·exact absurd q hne
   ·exact q
  have zN:=hR.ring.pQ;simp only[lN,gK,fZ] at zN;exact zN.1 (pi l Xs x) (aX.2 ⟨x,hx2,rfl⟩) (congrArg (PM (af l)) e)
 have O6:jU Xs (cS Xs (D1++d::dW))=d:=by
  unfold jU;have hne:cS Xs (D1++d::dW)≠[]:=by rw[hT];simp
  obtain⟨m,U',eU⟩:∃m U',cS Xs (D1++d::dW)=m::U':=by
   cases q:cS Xs (D1++d::dW) with
   |nil=>exact absurd q hne
   |cons m U'=>exact⟨m,U',rfl⟩
  rw[eU];refine JQ U' m ?_ (fun x hx Qb=>?_) (fun x hx k=>?_)
  ·rw[<-eU,hT];simp
  ·rw[<-eU] at hx;exact aaf x (Qa x hx) Qb
  ·rw[<-eU] at hx;by_cases e:x=d
   ·subst e;rw[wR] at k;omega
   ·have:=aaf x (Qa x hx) e;rw[Bh] at k this;exact Ge.lt_irrefl _ (Ge.lt_trans (Ge.cL (h.nl.can _ (SX.pK h r9).1)) (Ge.cL (h.nl.can _ (SX.pK h (hl x (Qa x hx))).1)) (Ge.cL (h.nl.can _ (SX.pK h r9).1)) this k)
 have O7:tH Xs (cS Xs (D1++d::dW))=(tI Xs ((d::dW).getLastD 0) D1).length:=by
  unfold tH fM;rw[O6,hT];rcases JD (P:=fun j=>j == d) (tI Xs ((d::dW).getLastD 0) D1++d::tI Xs d dW) 0 with⟨_,q2⟩|⟨R,x,q1,q2,q3,q4⟩
  ·have:=q2 d (by simp)
   simp at this
  ·rw[q1];have Qb:x=d:=by simpa using q3
   subst Qb;have alq:x∉tI Xs ((x::dW).getLastD 0) D1:=fun k=>by
    have k1:=Bn Xs _ _ x k;rw[lN] at hnd;exact(KP.1 hnd).1 (by simp[k1])
   have h1:¬R<(tI Xs ((x::dW).getLastD 0) D1).length:=fun k=>by
    rw[dZ k] at q2;exact alq (aY q2)
   have h2:¬(tI Xs ((x::dW).getLastD 0) D1).length<R:=fun k=>by
    have:=q4 (tI Xs ((x::dW).getLastD 0) D1).length x k (by rw[nI (ae _)];simp)
    simp at this
   omega
 unfold cN;rw[O7,hT',hT,ace,List.take_left]
structure Rel(l:List Nd)(Xs:List PB)(q:List Nat)(R:List Sg):Prop where
 lr:LR (sS (af l) Xs) (jT (af l) Xs) R
 jf:(Go.Proofs.YtkjhhooecopolaaGreatDoor.fr Xs q).map (PM (af l))=jf R
 sh:bV Xs q=true↔shl R
theorem SX.rel(h:SX rg l r Xs)(hB:BD Xs){D:List Nat}(hl:∀a∈D,a<Xs.length)(hR:je (sS (af l) Xs) (jT (af l) Xs) (D.map (pi l Xs))):∃R,Rel l Xs (cN Xs D) R/\R.Perm (D.map (pi l Xs)):=by
 have hW:=SX.wd h hB;obtain⟨A,B,e,oz⟩:=hR.Sl;obtain⟨D1,D2,rfl,rfl,rfl⟩:=List.map_eq_append_iff.1 e;have aoX:D2≠[]\/D1=[]/\D2≠[]\/D2=[]:=by by_cases q:D2=[]<;>simp[q]
 have key:∀D1 D2:List Nat,(∀a∈D1++D2,a<Xs.length)->LR (sS (af l) Xs) (jT (af l) Xs) ((D2++D1).map (pi l Xs))->D2≠[]->Rel l Xs (cN Xs (D1++D2)) ((D2++D1).map (pi l Xs)):=by
  intro D1 D2 hl oz h2;have er:=SX.ring h hB hl oz h2;rw[er];have hne:D2++D1≠[]:=by simp[h2]
  obtain⟨z,hz⟩:∃z,(D2++D1).getLast?=some z:=by
   cases q:(D2++D1).getLast? with
   |none=>exact absurd (ze.1 q) hne
   |some z=>exact⟨z,rfl⟩
  have hl':∀a∈D2++D1,a<Xs.length:=fun a ha=>hl a (by simp at ha⊢;exact ha.symm)
  have hzl:=hl' z (tX hz);have hlast:(D2++D1).getLastD 0=z:=by rw[oJ,hz];rfl
  have aag:((D2++D1).map (pi l Xs)).getLastD s0=pi l Xs z:=by rw[oJ,Cw,hz];rfl
  have ht:(cS Xs (D2++D1)).map (pi l Xs)=Gb.tG (pi l Xs z) ((D2++D1).map (pi l Xs)):=by
   unfold cS;rw[hlast];exact SX.tG h _ z hzl hl'
  have aah:(Go.Proofs.YtkjhhooecopolaaGreatDoor.fr Xs (cS Xs (D2++D1))).map (PM (af l))=Gb.jf ((D2++D1).map (pi l Xs)):=by
   unfold Gb.jf;rw[aag,<-ht];unfold Go.Proofs.YtkjhhooecopolaaGreatDoor.fr;rw[ke,ke];rfl
  refine⟨oz,aah,?_⟩;obtain⟨a,T,t,U,e1,e2,e3,_⟩:=oz.GH hW;have EC:((D2++D1).map (pi l Xs)).getLast?=some (pi l Xs z):=by rw[Cw,hz];rfl
  have aai:=oz.ring.mem;have hp:=oz.ring.path (a:=a) (by rw[e1];rfl)
  have hlen:=congrArg List.length aah;have hq:(cS Xs (D2++D1)).map (pi l Xs)=a::Gb.tG a T:=by
   rw[ht,e1];show(if cr (dr (pi l Xs z)) (dr a)=0 then Gb.tG a T else a::Gb.tG a T)=_
   by_cases hc:cr (dr (pi l Xs z)) (dr a)=0
   ·exfalso;unfold Gb.jf at e3;rw[aag,e1] at e3;have e4:Gb.tG (pi l Xs z) (a::T)=Gb.tG a T:=by
     show(if cr (dr (pi l Xs z)) (dr a)=0 then _ else _)=_
     rw[if_pos hc]
    rw[e4,e2] at e3;have:=congrArg List.length e3;simp at this
   ·rw[if_neg hc]
  obtain⟨x,V,eV⟩:∃x V,cS Xs (D2++D1)=x::V:=by
   cases q:cS Xs (D2++D1) with
   |nil=>rw[q] at hq;cases hq
   |cons x V=>exact⟨x,V,rfl⟩
  have uf:∀y∈cS Xs (D2++D1),y<Xs.length:=fun y hy=>hl' y (Bn Xs _ _ y hy)
  rw[eV] at hq uf⊢;rw[gK] at hq;injection hq with q1 q2;have hxl:=uf x (by simp)
  obtain⟨y,hy⟩:∃y,(x::V).getLast?=some y:=by
   cases q:(x::V).getLast? with
   |none=>exact absurd (ze.1 q) (by simp)
   |some z=>exact⟨z,rfl⟩
  have hyl:=uf y (tX hy);have hyG:(Gb.tG a T).getLastD a=pi l Xs y:=by
   rw[<-q2,<-q1];have e:((x::V).map (pi l Xs)).getLast?=some (pi l Xs y):=by rw[Cw,hy];rfl
   have e':(V.map (pi l Xs)).getLastD (pi l Xs x)=((x::V).map (pi l Xs)).getLastD (pi l Xs x):=by rw[gK];cases V.map (pi l Xs)<;>rfl
   rw[e',oJ,e];rfl
  have EA:a∈sS (af l) Xs:=aai a (by rw[e1];simp)
  have hTS:∀s∈T,s∈sS (af l) Xs:=fun s hs=>aai s (by rw[e1];simp[hs])
  have hsm:=hW.PX T a a a.1 EA hTS (by rw[e1] at hp;exact hp.2) (Cy (hW.gN EA))
  have rh:T.getLastD a=pi l Xs z:=by
   have:(a::T).getLast?=some (pi l Xs z):=by rw[<-e1];exact EC
   have e':T.getLastD a=(a::T).getLastD a:=by cases T<;>rfl
   rw[e',oJ,this];rfl
  rw[hyG,rh] at hsm;unfold bV;have g1:(x::V).getLastD 0=y:=by rw[oJ,hy];rfl
  have g2:(x::V).headD 0=x:=rfl;rw[g1,g2,decide_eq_true_iff,(SX.gH h hyl hxl).2,q1];have hs:=(yG hsm (dr a)).1;rw[bU (dr (pi l Xs y)),bU (dr (pi l Xs z))] at hs;have alv:0<cr (dr (pi l Xs y)) (dr a)↔0<cr (dr (pi l Xs z)) (dr a):=by
   have s1:=(yG hsm (dr a));have s2:=yG hsm (neg (dr a));rw[fw,fw] at s2;have x1:cr (dr (pi l Xs y)) (dr a)= -cr (dr a) (dr (pi l Xs y)):=bU _ _;have x2:cr (dr (pi l Xs z)) (dr a)= -cr (dr a) (dr (pi l Xs z)):=bU _ _;rw[x1,x2];exact s2.1
  rw[alv];constructor
  ·intro k;exact⟨a,pi l Xs z,by rw[e1];rfl,EC,k⟩
  ·rintro⟨a',z',ha',hz',k⟩;rw[e1] at ha';obtain rfl:a=a':=mN ha';rw[EC] at hz';obtain rfl:pi l Xs z=z':=mN hz';exact k
 by_cases q:D2=[]
 ·subst q;refine⟨D1.map (pi l Xs),?_,by simp⟩
  have hne:D1≠[]:=fun e=>hR.ne (by rw[e];rfl)
  have:=key [] D1 (by simpa using hl) (by simpa using oz) hne
  simpa using this
 ·refine⟨(D2++D1).map (pi l Xs),key D1 D2 hl (by rw[iy];exact oz) q,?_⟩
  exact(FU).map _
end
end Go.Proofs.YtkjhhooecopolaaGreatDoor.Gb

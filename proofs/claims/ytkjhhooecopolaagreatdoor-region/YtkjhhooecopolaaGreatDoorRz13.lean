import Derived.Test.YtkjhhooecopolaaGreatDoorRz12
set_option maxRecDepth 100000
set_option maxHeartbeats 4000000
namespace Go.Proofs.YtkjhhooecopolaaGreatDoor
open Tryz
open Value renaming int->az,complex->aA,float->aB,agg->aC,bool->aD,string->aF,slice->aG,pointer->aH,tuple->aI
open IntKind renaming i64->aJ
open FloatKind renaming f64->aK
open Ending renaming returned->aL
open Go renaming World->aM,Value->aN,floatOfInt->aO
section
open Go.RowKit
def xU:List UInt8:=[77,85,76,84,73,80,79,76,89,71,79,78,32,40]
def vR:List UInt8:=[77,85,76,84,73,80,79,76,89,71,79,78,32,69,77,80,84,89]
def Cr(TS:List (List UInt8)):List UInt8:=if TS=[] then vR else xU++(Lib.join TS [44,32]++[41])
theorem adz(so:Option Addr)(c:Nat)(TS:List (List UInt8))(w:aM)(hl:TS.length<=85000000)(hlen:(Lib.join TS [44,32]).length<=140737488355328)
  (HH:Hid (∀(k:Nat) t,TS[k]?=some t->∃b pb,so=some ⟨b,0,none⟩/\w.cell? ⟨b,k,none⟩=some (aH (some ⟨pb,0,none⟩))/\∀w1,aj w w1->ak 102 #[aH (some ⟨pb,0,none⟩)] w1 λe w'=>e=aL (aF (ba t))/\aj w1 w')):
  ak 67 #[aG so TS.length c] w λe w'=>e=aL (aF (ba (Cr TS)))/\aj w w':=by
 obtain⟨i0,hi,hz0,hz1,hz2⟩:=info_parts Rc;by_cases hT0:TS=[]
 .subst hT0;clear HH
  go_enter func67,ntmps67
  go_wp2_with fail
  go_ret
  exact⟨rfl,Below.refl _ _⟩
 .have zk:Hid (TS≠[]):=hT0;have hne:¬TS.length=0:=λe=>hT0 (iU.1 e)
  have at1:((TS.length:Int) == 0)=false:=by rw[sM];omega
  clear hT0;have cK:Hid (SI w (aG none 0 0) ((TS.take 0).map ba) w):=⟨World.ownsRow_nil _ _ _ _,Below.refl _ _⟩
  go_enter func67,ntmps67
  go_wp2_with fail
  go_loopg [3,11] TS.length (λm lv iv wr=>∃k:Nat,k+m=TS.length/\iv=az aJ k/\Hid (SI w lv ((TS.take k).map ba) wr))
  case atStart=>exact⟨0,aa,rfl,cK⟩
  case round=>
   obtain⟨k,hkn,rfl,HE⟩:=hrel;have aW:=HE.out.2;clear cK;by_cases hlt:k<TS.length
   .obtain⟨t,ht⟩:∃t,TS[k]?=some t:=⟨_,bo hlt⟩;obtain⟨b,pb,rfl,v0,hc⟩:=HH.out k t ht;have r0:=aS aW v0 (lt_of_cell v0);have gH:(k:Int)<(TS.length:Int):=aa
    have HC:Hid (ak 102 #[aH (some ⟨pb,0,none⟩)] wr λe w'=>e=aL (aF (ba t))/\aj wr w'):=hc wr aW
    have hT':(TS.take (k+1)).map ba=(TS.take k).map ba++[ba t]:=by
     rw[jF,ht];simp
    have HT:Hid ((TS.take (k+1)).map ba=(TS.take k).map ba++[ba t]):=hT';have hxl:((TS.take k).map ba).length<=85000001:=by simp;omega
    obtain⟨ho,_⟩:=HE.out;clear hT' v0 ht hc HE HH zk;generalize(TS.take k).map ba=A1 at*;generalize ba t=X at*
    go_wp2_with fail
    refine HC.out.mono ?_;rintro e w5 ⟨rfl,bg⟩;have l9:aj w w5:=aW.trans (bg.mono aW.size);have eT:w5.ownsRow w.heap.size 9 1 u3 A1.length (A1.map Value.string):=bB ho λk hk=>bg.block k (bn ho k hk).2
    have hs5:=l9.size;clear ho HC bg aW
    go_wp2_with (at_builtin;refine wpList_append_lies _ rfl (.tmp 15) (.tmp 18) 164 rfl w.heap.size 9 i0 _ 1 16 underlying164 hi hz0 hz1 hz2 rfl ah u3 A1.length (A1.map Value.string) rfl (bB eT (λk hk=>Below.heap_alloc _ _ _ (bn eT k hk).2)) ⟨w5.heap.size,0,none⟩ 1 1 [aF X] rfl rfl (World.news_of_block (cs:= #[aF X]) (t:=9) (fr:=(0,0)) (heap_alloc_new w5 _)) (by simp[Value.oneCell']) ah (by unfold maxLen;omega) aa (by simp;omega) (w5.heap.size+1) af ?_;intro g' cap' w6 iw mW GP D3)
    have HN:Hid (SI w (aG (some ⟨g',0,none⟩) (A1.length+1) cap') ((TS.take (k+1)).map ba) w6):=by
     rw[HT.out];refine⟨?_,(l9.alloc l9.size _).grown mW (by simp;omega) (λk hk=>(bn eT k hk).1)⟩
     rw[bY,jC];exact iw
    clear iw mW eT HT
    go_roundg (gk-1)
    case measure=>omega
    case rel=>exact⟨k+1,aa,ai,HN⟩
   .have hk:k=TS.length:=aa
    subst hk;have HF:=HE.out;rw[fO] at HF;have HJ:Hid (ak 103 #[u3,aF ⟨#[44,32]⟩] wr λe w'=>e=aL (aF ⟨(Lib.join TS [44,32]).toArray⟩)/\aj wr w'):=adx HF aa hlen
    have I2:Hid (Cr TS=xU++(Lib.join TS [44,32]++[41])):=aQ zk.out;generalize Lib.join TS [44,32]=TX at*;have hs1:¬9223372036854775807<14+TX.length:=aa
    have hs2:¬9223372036854775807<14+TX.length+1:=aa
    have HB:Hid (aj w wr):=aW;clear HE HH HF aW zk
    go_wp2_with fail
    refine HJ.out.mono ?_;rintro e w7 ⟨rfl,bw⟩;have xS:Hid (aj w w7):=HB.out.trans (bw.mono HB.out.size);clear HJ bw HB
    go_wp2_with fail
    go_ret
    exact⟨by rw[I2.out];simp[ba,xU,ByteArray.mk_append_mk],xS.out⟩
def mU(Xs:List PB)(p:Pg):List UInt8:=vQ (kj Xs p.1) (p.2.map (kj Xs))
def Nq(Xs:List PB)(ps:List Pg):List UInt8:=Cr (ps.map (mU Xs))
theorem Uq:∀l:List (List UInt8),(Lib.join l [44,32]).length<=(l.map λt=>t.length+2).sum
 |[]=>by simp[Lib.join,List.intercalate]
 |[x]=>by simp[Lib.join_one]
 |x::y::r=>by
  have ih:=Uq (y::r);have e:Lib.join (x::y::r) [44,32]=x++([44,32]++Lib.join (y::r) [44,32]):=by simp[Lib.join,List.intercalate]
  rw[e];simp only[bY,ij,C6,dw,iJ] at ih⊢;omega
section
variable{Xs:List PB}
theorem adA(hB:BD Xs){r:List Nat}(h:RG Xs r):∀n∈fr Xs r,eI n.1 n.2.1 n.2.2:=λn hn=>by
 unfold fr at hn;obtain⟨i,hi,rfl⟩:=bQ.1 hn;exact(hB.v _ (iH (h.lt i hi))).f.bu
theorem adB(hB:BD Xs){r:List Nat}(h:RG Xs r):(kj Xs r).length<=208*r.length:=by
 have h0:0<r.length:=jE.2 h.ne;have hn:=adA hB h;have h1:=Pl.Lh Pl.dH 101 ((fr Xs r++(fr Xs r).take 1).map Ge.aX) (λq hq=>by
  obtain⟨n,hm,rfl⟩:=bQ.1 hq;refine Re ?_;rcases dv.1 hm with hn'|hn'
  .exact hn n hn'
  .exact hn n (rB hn'))
 have h2:(fr Xs r).length=r.length:=by simp[fr]
 rw[ia,bY,iB,h2] at h1;unfold kj;simp only[dw,bY,iJ];omega
theorem Ur{α:Type}(f g:α->Nat):∀l:List α,(∀x∈l,f x<=g x)->(l.map f).sum<=(l.map g).sum
 |[],_=>af
 |a::l,h=>by
  have h1:=h a af
  have h2:=Ur f g l λx hx=>h x (by simp[hx])
  simp only[ij,C6];omega
theorem Us{α:Type}(c:Nat)(f:α->Nat):∀l:List α,(l.map λx=>c*f x).sum=c*(l.map f).sum
 |[]=>af
 |a::l=>by simp only[ij,C6,Us c f l,sV]
theorem adC(hB:BD Xs){p:Pg}(h:pA Xs p):(Lib.join (kj Xs p.1::p.2.map (kj Xs)) [44,32]).length<=210*(p.1.length+eW p.2):=by
 have h1:=Uq (kj Xs p.1::p.2.map (kj Xs));have h2:=adB hB h.1;have h0:0<p.1.length:=jE.2 h.1.ne;rw[ij,C6,iC] at h1;have h3:=Ur ((λt:List UInt8=>t.length+2)∘kj Xs) (λr=>210*r.length) p.2 (λr hr=>by
  have h4:=adB hB (h.2 r hr);have h5:0<r.length:=jE.2 (h.2 r hr).ne;show(kj Xs r).length+2<=210*r.length;omega)
 rw[Us] at h3;have h6:(p.2.map λr=>r.length).sum=eW p.2:=rfl
 rw[h6] at h3;omega
theorem aoT(hB:BD Xs){p:Pg}(h:pA Xs p):(mU Xs p).length+2<=214*(p.1.length+eW p.2):=by
 have h1:=adC hB h;have h0:0<p.1.length:=jE.2 h.1.ne;unfold mU vQ;simp only[dw,bY,iJ];omega
theorem adD(hB:BD Xs){ps:List Pg}(h:∀p∈ps,pA Xs p):(Lib.join (ps.map (mU Xs)) [44,32]).length<=214*jn ps:=by
 have h1:=Uq (ps.map (mU Xs));rw[iC] at h1;have h3:=Ur ((λt:List UInt8=>t.length+2)∘mU Xs) (λp=>214*(p.1.length+eW p.2)) ps (λp hp=>aoT hB (h p hp))
 rw[Us] at h3;exact fN h1 h3
theorem adE{β:Type}(cf:β->β->Int)(l:List β)(hO:Sort.SWO (ltOf λi j:Fin l.length=>cf l[i] l[j])):(jN cf l).Perm l:=by
 unfold jN;by_cases h:0<l.length
 .rw[yG h];obtain⟨_,p3,_⟩:=Ul (λi j:Fin l.length=>cf l[i] l[j]) hO h
  have k:=p3.map (λi:Fin l.length=>l[i])
  have e3:(Array.ofFn (id:Fin l.length->Fin l.length)).toList.map (λi:Fin l.length=>l[i])=l:=by
   apply Aw
   .simp
   .intro i h1 h2;simp
  rw[e3] at k;exact k
 .rw[Fy h];have:l=[]:=iU.1 aa
  rw[this]
theorem adF(hB:BD Xs){p:Pg}(h:pA Xs p):(eA Xs p).2.Perm p.2:=
 adE _ _ (xQ (λi:Fin p.2.length=>fr Xs p.2[i]) (λi=>Nn hB (h.2 _ (gZ i.2))))
theorem adG(hB:BD Xs){p:Pg}(h:pA Xs p):pA Xs (eA Xs p):=⟨h.1,λr hr=>h.2 r ((adF hB h).mem_iff.1 hr)⟩
theorem Ut(hB:BD Xs){ps:List Pg}(h:∀p∈ps,pA Xs p):(vP Xs ps).Perm (ps.map (eA Xs)):=
 adE _ _ (xQ (λi:Fin (ps.map (eA Xs)).length=>fr Xs (ps.map (eA Xs))[i].1) (λi=>by
  have hm:=gZ (l:=ps.map (eA Xs)) i.2;obtain⟨p,hp,e⟩:=bQ.1 hm;have hg:=(adG hB (h p hp)).1;rw[e] at hg;exact Nn hB hg))
theorem adH(hB:BD Xs){ps:List Pg}(h:∀p∈ps,pA Xs p):∀p∈vP Xs ps,pA Xs p:=λp hp=>by
 have:=(Ut hB h).mem_iff.1 hp;obtain⟨q,hq,rfl⟩:=bQ.1 this;exact adG hB (h q hq)
theorem adI(hB:BD Xs){ps:List Pg}(h:∀p∈ps,pA Xs p):jn (vP Xs ps)=jn ps:=by
 have h1:jn (vP Xs ps)=jn (ps.map (eA Xs)):=((Ut hB h).map _).sum_nat;rw[h1];unfold jn;rw[iC];congr 1;apply yE;intro p hp;have h2:eW (eA Xs p).2=eW p.2:=((adF hB (h p hp)).map _).sum_nat;show(eA Xs p).1.length+eW (eA Xs p).2=_;rw[h2];rfl
end
theorem adJ:∀l:List (List Nat),(∀r∈l,0<r.length)->l.length<=eW l
 |[],_=>iA _
 |a::l,h=>by
  have h1:=h a af
  have h2:=adJ l λr hr=>h r (by simp[hr])
  have e:eW (a::l)=a.length+eW l:=by simp[eW]
  rw[e,dw];omega
section
variable{bs:List Nat}{Xs:List PB}{g base:Nat}{w:aM}
theorem adK(hB:BD Xs)(hR:RB w g bs Xs){v:aN}{r:List Nat}(o:w.ownsRow base 175 1 v r.length (bA (r.map (bx bs))))(h:RG Xs r)(hG:Gl w):
  ak 153 #[v] w λe w'=>e=aL (aF (ba (kj Xs r)))/\aj w w':=by
 have h0:0<r.length:=jE.2 h.ne;obtain⟨g1,c1,rfl,_,_,_,f1⟩:=po o h0;have hl:=h.len;have hX:=hB.len;refine aoK bs Xs r g1 c1 w aa h0 hG (λi a ha=>?_) (adA hB h)
 have hs:=hR.at (h.lt a (bT ha));exact⟨f1 i _ (by simp[bA,ha]),hs.c2,hs.c3⟩
theorem aoU(hB:BD Xs)(hR:RB w g bs Xs){ph:kN}{p:Pg}(o:Um bs base ph p w)(h:pA Xs p)(ht:jn [p]<=Xs.length)(hG:Gl w):
  ak 102 #[aH (some ⟨ph.pb,0,none⟩)] w λe w'=>e=aL (aF (ba (mU Xs p)))/\aj w w':=by
 have h0:0<p.1.length:=jE.2 h.1.ne;have hX:=hB.len;have ht':p.1.length+eW p.2<=Xs.length:=by simpa[jn] using ht
 have hl:=adC hB h;have Cj:p.2.length<=eW p.2:=adJ p.2 (λr hr=>jE.2 (h.2 r hr).ne)
 obtain⟨gs,cs,e1,_⟩:=po o.sh h0;obtain⟨so,c,e2⟩:∃so c,ph.hv=aG so (p.2.map (kj Xs)).length c:=by
  rw[ia,<-o.hl];rcases o.ho.2 with⟨hv,h0⟩|⟨b,cap,cur,hv,_⟩
  .exact⟨none,0,by rw[hv,h0]⟩
  .exact⟨_,cap,hv⟩
 refine aoS ph.pb gs p.1.length cs so c (kj Xs p.1) (p.2.map (kj Xs)) w (by rw[ia];omega) aa hG ?_ ?_ (λw1 hb df=>?_) (λk t hk=>?_)
 .rw[cell_of o.blk 0,<-e1];rfl
 .rw[cell_of o.blk 1,<-e2];rfl
 .rw[<-e1];exact adK hB (hR.below hb) (bB o.sh λk e=>hb.block k (bn o.sh k e).2) h.1 df
 .rw[iI] at hk;obtain⟨r,hr,rfl⟩:=rp.1 hk;have hkl:k<ph.hvs.length:=by rw[o.hl];exact(cG.1 hr).1
  obtain⟨v,hv⟩:∃v,ph.hvs[k]?=some v:=⟨_,bo hkl⟩;have hgr:=h.2 r (bT hr);have ow:=o.hr k v r hv hr;obtain⟨gk,ck,rfl,_⟩:=po ow (jE.2 hgr.ne);obtain⟨b,cT,e3,_,_,_,f⟩:=po o.ho aa
  rw[e2] at e3;injection e3 with e3;exact⟨b,gk,_,ck,e3,f k _ hv,λw1 hb df=>adK hB (hR.below hb) (bB ow λk e=>hb.block k (bn ow k e).2) hgr df⟩
theorem aoV{ps:List Pg}{p:Pg}(h:p∈ps):jn [p]<=jn ps:=by
 induction ps with
 |nil=>simp at h
 |cons a ps ih=>
  rcases bU.1 h with rfl|h
  .simp[jn]
  .have:=ih h;simp only[jn,ij,C6,JK,List.sum_nil] at this⊢;omega
theorem aoW(hB:BD Xs)(hR:RB w g bs Xs){gU:aN}{PS:List Pg}{PH:List kN}(o:PO bs base gU PS PH w)(h:∀p∈PS,pA Xs p)(ht:jn PS<=Xs.length)(hl:PS.length<=85000000)(hG:Gl w):
  ak 67 #[gU] w λe w'=>e=aL (aF (ba (Nq Xs PS)))/\aj w w':=by
 have hX:=hB.len;have hJ:=adD hB h;obtain⟨so,c,rfl⟩:∃so c,gU=aG so (PS.map (mU Xs)).length c:=by
  rw[ia,<-o.len];rcases o.row.2 with⟨hv,h0⟩|⟨b,cap,cur,hv,_⟩
  .exact⟨none,0,by rw[hv,h0]⟩
  .exact⟨_,cap,hv⟩
 refine adz so c (PS.map (mU Xs)) w (by rw[ia];exact hl) aa (λk t hk=>?_)
 rw[iI] at hk;obtain⟨p,hp,rfl⟩:=rp.1 hk;have hkl:k<PH.length:=by rw[o.len];exact(cG.1 hp).1
 obtain⟨ph,ig⟩:∃ph,PH[k]?=some ph:=⟨_,bo hkl⟩;have hmem:=bT hp;obtain⟨b,cT,e3,_,_,_,f⟩:=po o.row aa
 injection e3 with e3;refine⟨b,ph.pb,e3,f k _ (by rw[iI,ig];rfl),λw1 hb=>?_⟩
 have q:=o.pg k ph p ig hp;have q1:Um bs base ph p w1:=⟨(hb.block _ (lt_of_heap q.blk)).trans q.blk,bB q.sh λk e=>hb.block k (bn q.sh k e).2,bB q.ho λk e=>hb.block k (bn q.ho k e).2,q.hl,λi v r h1 h2=>bB (q.hr i v r h1 h2) λk e=>hb.block k (bn (q.hr i v r h1 h2) k e).2⟩
 exact aoU hB (hR.below hb) q1 (h p hmem) (fN (aoV hmem) ht) (hG.below hb hG.sz)
end
end
section
open Go.RowKit
open Ge
theorem aoX(w:aM):
  ak 69 #[aG none 0 0] w λe w'=>e=aL (aG none 0 0)/\w'=w:=by
 have HC:Hid (ak 116 #[aG none 0 0] w λe w'=>e=aL (aI #[])/\w'=w):=adm w
 go_enter func69,ntmps69
 go_wp2_with fail
 go_loopg [3,13] 0 (λm lv iv wr=>m=0/\lv=aG none 0 0/\iv=az aJ 0/\wr=w)
 case atStart=>exact⟨rfl,rfl,rfl,rfl⟩
 case round=>
  obtain⟨_,rfl,rfl,rfl⟩:=hrel
  go_wp2_with fail
  refine HC.out.mono ?_;rintro e w5 ⟨rfl,rfl⟩;clear HC
  go_wp2_with fail
  go_ret
  exact⟨rfl,rfl⟩
section
variable{rg:List (List Pt)}{l:List Nd}{r:Int}{Ps:List PB}
theorem Nr(hl:l.map aX=iZ (aR rg))(hs:∀e∈aR rg,gz e)(h:pW (aR rg) l Ps)(hlen:(od r (aR rg) Ps).length<=85000000):BD (od r (aR rg) Ps):=by
 have hne:∀e∈aR rg,e.1≠e.2:=λe he=>KJ he
 have hv:∀x∈Ps.flatMap (gD r (aR rg)),dX x:=λx hx=>by
  obtain⟨p,hp,xB⟩:=qq.1 hx;exact Sy (h.v p hp) xB
 obtain⟨hperm,aoY⟩:=abB (Ps.flatMap (gD r (aR rg))) hv;refine⟨λx hx=>hv x (hperm.mem_iff.1 hx),λx hx=>?_,?_,hlen⟩
 .obtain⟨p,hp,xB⟩:=qq.1 (hperm.mem_iff.1 hx);obtain⟨k,hk⟩:=al3 hne hs h hl p hp;rcases MK xB with⟨rfl,_⟩|⟨rfl,_⟩
  .exact⟨k,hk⟩
  .exact⟨_,hk.rev⟩
 .refine aoY.imp λ{a b} hab=>?_
  rw[EC];exact hab
def xV(Xs:List PB):List UInt8:=Nq Xs (vP Xs (bG Xs Xs.length).ps)
theorem aoZ(hl:l.map aX=iZ (aR rg))(hc:∀n∈l,Ge.Can n)(hs:∀e∈aR rg,gz e)(h:pW (aR rg) l Ps){w1 w0:aM}{lv:aN}{bs:List Nat}(kE:BS w1 lv bs (od r (aR rg) Ps) w0)(hbl:bs.length<=85000000)(df:Gl w1):
  ak 69 #[lv] w0 λe w'=>∃lp,e=aL lp/\aj w1 w'/\ak 67 #[lp] w' λe w''=>e=aL (aF (ba (xV (od r (aR rg) Ps))))/\aj w' w'':=by
 have hX:=ML (r:=r) hl hc h;have hB:=Nr (r:=r) hl hs h (by rw[<-kE.len];exact hbl)
 generalize od r (aR rg) Ps=Xs at*;have hb1:=kE.below;rcases kE.own.2 with⟨rfl,h0⟩|⟨g,cap,cur,rfl,hg,hblk,hnc,hcm,hcs,htk⟩
 .have hb0:bs=[]:=iU.1 h0;have ue:Xs=[]:=iU.1 (by rw[<-kE.len];exact h0)
  subst ue;refine(aoX w0).mono ?_;rintro e w' ⟨rfl,rfl⟩;exact⟨_,rfl,hb1,adz none 0 [] w' af (by simp[Lib.join,List.intercalate]) (λk t hk=>by simp at hk)⟩
 .have hlt:∀b∈bs,b<w0.heap.size:=λb hb=>kE.lt hb
  have hsw:SW g bs Xs (λ_=>false) (λ_=>none) w0:=by
   refine⟨kE.len,kE.nd,λhgb=>kE.ne g hgb rfl,λi hi=>?_,λi hi=>?_⟩
   .obtain⟨gT,cT,e,_,_,_,f⟩:=po kE.own aa
    injection e with e;injection e with e;injection e with e;subst e;exact f i _ (by simp[bA,zI hi])
   .exact(kE.lies i _ _ (zI hi) (xC (by rw[<-kE.len];exact hi))).2
  have htot:=hX.eW hB Xs.length (aY _);have hgd:=hX.pn hB Xs.length (aY _);have hpv:=hX.pv hB Xs.length (aY _);have M0:=hB.len;have hpl:=hpv.len;refine aow (cap:=cap) hX hB hlt (lt_of_heap hblk) hnc hsw (λlp w'=>aj w1 w'/\ak 67 #[lp] w' λe w''=>e=aL (aF (ba (xV Xs)))/\aj w' w'') ?_
  intro lv PH T wr mM ID hnd hmo zD;refine(aoF hB (lt_of_heap hblk) hlt hmo.size mM ID hgd aa (λp hp=>?_)).mono ?_
  .obtain⟨i,hi⟩:=agT.1 hp;have:=hpv.hol i p hi;omega
  .rintro e w' ⟨rfl,⟨um,Un⟩,ao0,aW⟩;have hb2:aj w1 w':=by
    have ao1:aj w1 wr:=hb1.trans ⟨hmo.os,hmo.tape,hmo.output,hmo.size,λk hk=>hmo.block k (bW hk hb1.size) (λhm=>by
     obtain⟨i,hi⟩:=agT.1 hm;have hiX:i<Xs.length:=by rw[<-kE.len];exact(cG.1 hi).1
     have:=(kE.lies i k _ hi (xC hiX)).1;omega)⟩
    exact ao1.trans (aW.mono hb1.size)
   refine⟨rfl,hb2,?_⟩;refine aoW hB ao0 Un (adH hB hgd) ?_ ?_ (df.below hb2 df.sz)
   .rw[adI hB hgd];omega
   .have:=(Ut hB hgd).length_eq;rw[ia] at this;omega
end
end
namespace Gb
open Ge Ga
section
variable{S:List Sg}{nx:Sg->Sg}
theorem Wd.Ns(h:Wd S nx):∀(T:List Sg)(b c:Sg)(e:Pt),b∈S->(∀s∈T,s∈S)->Path b.2 T e->bh (dr c) (dr b)=true->bh (dr ((tG b T).getLastD c)) (dr (T.getLastD b))=true
 |[],_,_,_,_,_,_,hc=>hc
 |s::T,b,c,e,hb,hm,hp,hc=>by
  have hs:=hm s af
  have e1:(s::T).getLastD b=T.getLastD s:=by cases T<;>rfl
  rw[e1];unfold tG;by_cases hcr:cr (dr b) (dr s)=0
  .rw[aV hcr];exact h.Ns T s c e hs (λu hu=>hm u (bX _ hu)) hp.2 (Dr hc (h.Ku hb hs hp.1 hcr))
  .rw[aQ hcr];have e2:(s::tG s T).getLastD c=(tG s T).getLastD s:=by cases tG s T<;>rfl
   rw[e2];exact h.Ns T s s e hs (λu hu=>hm u (bX _ hu)) hp.2 (tB (h.iK hs))
end
def q9(c:Nat->Nat->Bool)(p:List Nat×List (List Nat))(s:Nat):List Nat×List (List Nat):=
 if 0<=ib (c s) (p.1++[s]) then((p.1++[s]).take (ib (c s) (p.1++[s])).toNat,p.2++[(p.1++[s]).drop (ib (c s) (p.1++[s])).toNat]) else(p.1++[s],p.2)
def mg(c:Nat->Nat->Bool)(W:List Nat):List Nat×List (List Nat):=W.foldl (q9 c) ([],[])
theorem adL(c:Nat->Nat->Bool)(W:List Nat)(s:Nat):mg c (W++[s])=q9 c (mg c W) s:=by unfold mg;rw[JX];rfl
theorem ao3(Xs:List PB)(W:List Nat):cP Xs W=((mg (kJ Xs) W).1,(mg (kJ Xs) W).2.map (ez Xs)):=by
 have key:∀(W:List Nat)(p:List Nat×List (List Nat)),W.foldl (j5 Xs) (p.1,p.2.map (ez Xs))=((W.foldl (q9 (kJ Xs)) p).1,(W.foldl (q9 (kJ Xs)) p).2.map (ez Xs)):=by
  intro W;induction W with
  |nil=>intro p;rfl
  |cons s W ih=>
   intro p;rw[sL,sL,<-ih];congr 1;unfold j5 q9 jd;simp only;by_cases h:0<=ib (kJ Xs s) (p.1++[s])
   .rw[aV h,aV h];simp
   .rw[aQ h,aQ h]
 exact key W ([],[])
theorem ao4(Xs:List PB)(W:List Nat):cJ Xs W=(mg (kJ Xs) W).2.map (ez Xs):=by unfold cJ;rw[ao3]
theorem ao5{P:Nat->Bool}(g:Nat->Nat)(l:List Nat):ib P (l.map g)=ib (λx=>P (g x)) l:=MU l 0 λ_ _=>rfl
theorem ao6(c:Nat->Nat->Bool)(g:Nat->Nat)(W:List Nat):mg c (W.map g)=((mg (λi j=>c (g i) (g j)) W).1.map g,(mg (λi j=>c (g i) (g j)) W).2.map (·.map g)):=by
 have key:∀(W:List Nat)(p:List Nat×List (List Nat)),(W.map g).foldl (q9 c) (p.1.map g,p.2.map (·.map g))=((W.foldl (q9 λi j=>c (g i) (g j)) p).1.map g,(W.foldl (q9 λi j=>c (g i) (g j)) p).2.map (·.map g)):=by
  intro W;induction W with
  |nil=>intro p;rfl
  |cons s W ih=>
   intro p;rw[ij,sL,sL,<-ih];congr 1;unfold q9;simp only;have e:p.1.map g++[g s]=(p.1++[s]).map g:=af
   rw[e,ao5];by_cases h:0<=ib (λx=>c (g s) (g x)) (p.1++[s])
   .rw[aV h,aV h];simp
   .rw[aQ h,aQ h]
 exact key W ([],[])
theorem ao7(c:Nat->Nat->Bool)(p:List Nat×List (List Nat))(s:Nat):∀o∈(q9 c p s).1,o∈p.1++[s]:=by
 intro o ho;unfold q9 at ho;split at ho
 .exact rB ho
 .exact ho
theorem adM(c:Nat->Nat->Bool):∀(i:Nat),∀o∈(mg c (List.range i)).1,o<i
 |0,o,ho=>by simp[mg] at ho
 |i+1,o,ho=>by
  rw[JI,adL] at ho;rcases dv.1 (ao7 c _ i o ho) with q|q
  .have:=adM c i o q;omega
  .have:=dh.1 q;omega
theorem ao8{ν:Type}{f:Nat->ν}(c:Nat->Nat->Bool)(i:Nat)(p:List Nat×List (List Nat))(hc:∀o∈p.1++[i],c i o=true↔f o=f (i+1)):AL f i p (q9 c p i):=by
 unfold q9 ib;rcases Nb (P:=c i) (p.1++[i]) 0 with⟨h1,h2⟩|⟨R,x,h1,h2,h3,h4⟩
 .rw[aQ aa]
  refine aU ⟨λo ho e=>?_,rfl⟩
  have:=(hc o ho).2 e;rw[h2 o ho] at this;cases this
 .have e:(gK (c i) (p.1++[i]) 0).toNat=R:=by rw[h1];omega
  rw[aV aa,e]
  have hx:x∈p.1++[i]:=bT h2;refine aT ⟨(p.1++[i]).take R,x,(p.1++[i]).drop (R+1),?_,(hc x hx).1 h3,λo ho k=>?_,?_⟩
  .rw[<-xG h2,Fw]
  .obtain⟨t,ht,et⟩:=kO.1 ho;have htR:t<R:=by
    have:=ht;rw[iB] at this;omega
   have hg:(p.1++[i])[t]?=some o:=by
    rw[<-et,List.getElem_take];exact bo _
   have:=h4 t o htR hg;rw[(hc o (bT hg)).2 k] at this;cases this
  .rw[<-xG h2]
theorem Uu(Xs:List PB):∀(A:List Nat)(b:Nat)(B:List Nat),tI Xs b (A++B)=tI Xs b A++tI Xs (A.getLastD b) B
 |[],_,_=>rfl
 |a::A,b,B=>by
  have ih:=Uu Xs A a B;have e:(a::A).getLastD b=A.getLastD a:=by cases A<;>rfl
  show _++tI Xs a (A++B)=(_++tI Xs a A)++_;rw[ih,e,fH]
theorem Nt{cf:Nat->Nat->Int}{d:Nat}:∀(l:List Nat)(m:Nat),d∈m::l->(∀x∈m::l,x≠d->cf d x<0)->(∀x∈m::l,¬cf x d<0)->cL cf l m=d
 |[],m,h,_,_=>(dh.1 h).symm
 |b::l,m,h,h1,h2=>by
  unfold cL;by_cases e:m=d
  .subst e;rw[aQ (h2 b af)]
   exact Nt l m af (λx hx=>h1 x (by rcases bU.1 hx with q|q<;>simp[q])) (λx hx=>h2 x (by rcases bU.1 hx with q|q<;>simp[q]))
  .by_cases e2:b=d
   .subst e2;rw[aV (h1 m af e)]
    exact Nt l b af (λx hx=>h1 x (by rcases bU.1 hx with q|q<;>simp[q])) (λx hx=>h2 x (by rcases bU.1 hx with q|q<;>simp[q]))
   .have hd:d∈l:=by
     rcases bU.1 h with q|q
     .exact absurd q.symm e
     .rcases bU.1 q with q|q
      .exact absurd q.symm e2
      .exact q
    refine Nt l _ (bX _ hd) (λx hx=>?_) (λx hx=>?_)
    .rcases bU.1 hx with q|q
     .rw[q];split
      .exact h1 b af
      .exact h1 m af
     .exact h1 x (by simp[q])
    .rcases bU.1 hx with q|q
     .rw[q];split
      .exact h2 b af
      .exact h2 m af
     .exact h2 x (by simp[q])
section
variable{rg:List (List Pt)}{l:List Nd}{r:Int}{Xs:List PB}
abbrev pi(l:List Nd)(Xs:List PB)(i:Nat):Sg:=ph (aP l) (xi Xs i)
theorem SX.pd(h:SX rg l r Xs){i:Nat}(hi:i<Xs.length):Pm (dr (pi l Xs i)) (wv (xi Xs i).f (xi Xs i).t):=
 iP (cS.ok h.nl).1 ((cS.ok h.nl).2 _ (gS h.nl (h.sd hi).pc).2.1) ((cS.ok h.nl).2 _ (gS h.nl (h.sd hi).pc).2.2)
theorem SX.rf(h:SX rg l r Xs){i:Nat}(hi:i<Xs.length):(xi Xs i).f∈l/\(xi Xs i).t∈l:=(gS h.nl (h.sd hi).pc).2
theorem Uv(x:Int):(x.sign=0↔x=0)/\(0<x.sign↔0<x)/\(x.sign<0↔x<0):=by
 rcases sg x with⟨a,b⟩|⟨a,b⟩|⟨a,b⟩<;>rw[b]<;>omega
theorem SX.fE(h:SX rg l r Xs){i j:Nat}(hi:i<Xs.length)(hj:j<Xs.length):(gq (xi Xs i) (xi Xs j)=0↔cr (dr (pi l Xs i)) (dr (pi l Xs j))=0)/\(0<gq (xi Xs i) (xi Xs j)↔0<cr (dr (pi l Xs i)) (dr (pi l Xs j))):=by
 rw[zK];have a:=Uv (cr (wv (xi Xs i).f (xi Xs i).t) (wv (xi Xs j).f (xi Xs j).t));have b:=(SX.pd h hi).cr (SX.pd h hj);exact⟨a.1.trans b.2.2.symm,a.2.1.trans b.1.symm⟩
theorem SX.tG(h:SX rg l r Xs):∀(A:List Nat)(b:Nat),b<Xs.length->(∀a∈A,a<Xs.length)->(tI Xs b A).map (pi l Xs)=Gb.tG (pi l Xs b) (A.map (pi l Xs))
 |[],_,_,_=>rfl
 |s::A,b,hb,hm=>by
  have hs:=hm s af
  have ih:=SX.tG h A s hs (λa ha=>hm a (bX _ ha))
  have k:=(SX.fE h hs hb).1;have k2:cr (dr (pi l Xs s)) (dr (pi l Xs b))=0↔cr (dr (pi l Xs b)) (dr (pi l Xs s))=0:=by rw[di];omega
  show((if gq (xi Xs s) (xi Xs b)=0 then[] else[s])++tI Xs s A).map (pi l Xs)=if cr (dr (pi l Xs b)) (dr (pi l Xs s))=0 then Gb.tG (pi l Xs s) (A.map (pi l Xs)) else pi l Xs s::Gb.tG (pi l Xs s) (A.map (pi l Xs))
  by_cases hc:gq (xi Xs s) (xi Xs b)=0
  .rw[aV hc,aV (k2.1 (k.1 hc)),sI,ih]
  .rw[aQ hc,aQ (λe=>hc (k.2 (k2.2 e))),jC,ih]
   rfl
theorem SX.geq(h:SX rg l r Xs){a b:Nd}(ha:a∈l)(hb:b∈l):ge (PM (aP l) a) (PM (aP l) b)->a≠b->cE a b<0:=by
 intro hg hne;have hr:=Pv hg (λe=>hne (qX h.nl ha hb e))
 have:=(iP (cS.ok h.nl).1 ((cS.ok h.nl).2 a ha) ((cS.ok h.nl).2 b hb)).bV.1 hr;rw[EC];exact(oc (h.nl.can a ha) (h.nl.can b hb)).2 this
theorem adN{α:Type}(A:List α){B:List α}(hB:B≠[])(d e:α):(A++B).getLastD d=B.getLastD e:=by
 rw[nK,nK,PE A hB];cases q:B.getLast? with
 |none=>exact absurd (CT.1 q) hB
 |some z=>rfl
theorem SX.ring(h:SX rg l r Xs)(hB:BD Xs){D1 D2:List Nat}(hl:∀a∈D1++D2,a<Xs.length)(hR:LR (sS (aP l) Xs) (jZ (aP l) Xs) ((D2++D1).map (pi l Xs)))(h2:D2≠[]):ez Xs (D1++D2)=eo Xs (D2++D1):=by
 have hW:=SX.wd h hB;obtain⟨d,fU,rfl⟩:∃d fU,D2=d::fU:=by
  cases D2 with
  |nil=>exact absurd rfl h2
  |cons d D=>exact⟨d,D,rfl⟩
 have oZ:=hl d af
 have hnd:(d::fU++D1).Nodup:=by
  have:=hR.ring.nd;exact List.Pairwise.of_map (pi l Xs) (λa b k e=>k (by rw[e])) this
 have hz:∃z,(d::fU++D1).getLastD 0=z/\z∈d::fU++D1:=by
  refine⟨_,rfl,?_⟩;rw[nK];cases q:(d::fU++D1).getLast? with
  |none=>exact absurd (CT.1 q) af
  |some z=>exact sK q
 obtain⟨z,hz1,hz2⟩:=hz;have hzl:z<Xs.length:=hl z (by simp at hz2⊢;rcases hz2 with q|q|q<;>simp[q])
 obtain⟨a,T,t,U,e1,e2,e3,_⟩:=hR.F6 hW;have ha:a=pi l Xs d:=by
  have:(pi l Xs d::(fU++D1).map (pi l Xs))=a::T:=by rw[<-e1];simp
  injection this with q _;exact q.symm
 have hturn:gq (xi Xs d) (xi Xs z)≠0:=λe=>by
  have hzz:((d::fU++D1).map (pi l Xs)).getLastD s0=pi l Xs z:=by
   rw[nK,F4];rw[nK] at hz1;cases q:(d::fU++D1).getLast? with
   |none=>exact absurd (CT.1 q) af
   |some y=>rw[q] at hz1;rw[<-hz1];rfl
  have hc:=((SX.fE h oZ hzl).1).1 e;have:cr (dr (pi l Xs z)) (dr (pi l Xs d))=0:=by rw[di];omega
  unfold dE at e3;rw[hzz,e1] at e3;have e4:Gb.tG (pi l Xs z) (a::T)=Gb.tG a T:=by
   show(if cr (dr (pi l Xs z)) (dr a)=0 then _ else _)=_
   rw[ha,aV this]
  rw[e4,e2] at e3;have e5:=aZ List.length e3;simp at e5
 have hT:eo Xs (D1++d::fU)=tI Xs ((d::fU).getLastD 0) D1++d::tI Xs d fU:=by
  unfold eo;rw[Uu,adN D1 af 0 0]
  congr 1;have:D1.getLastD ((d::fU).getLastD 0)=z:=by
   cases hD:D1 with
   |nil=>
    rw[hD] at hz1;simp only[qu] at hz1;rw[<-hz1];rfl
   |cons x D=>
    rw[<-hz1,hD,adN (d::fU) af 0 0]
    cases D<;>rfl
  rw[this];show(if gq (xi Xs d) (xi Xs z)=0 then[] else[d])++tI Xs d fU=_
  rw[aQ hturn];rfl
 have hT':eo Xs (d::fU++D1)=(d::tI Xs d fU)++tI Xs ((d::fU).getLastD 0) D1:=by
  unfold eo;rw[hz1,Uu];congr 1;show(if gq (xi Xs d) (xi Xs z)=0 then[] else[d])++tI Xs d fU=_
  rw[aQ hturn];rfl
 have Uw:∀x∈eo Xs (D1++d::fU),x∈D1++d::fU:=λx hx=>EJ Xs _ _ x hx
 have hmem:∀x,x∈D1++d::fU↔x∈d::fU++D1:=λx=>by simp;constructor<;>(rintro(q|q|q)<;>simp[q])
 have I4:∀x∈D1++d::fU,x≠d->cE (xi Xs d).f (xi Xs x).f<0:=λx hx hne=>by
  have hx':=(hmem x).1 hx;have hg:=hR.least (pi l Xs d) af (pi l Xs x) (bQ.2 ⟨x,hx',rfl⟩)
  refine SX.geq h (SX.rf h oZ).1 (SX.rf h (hl x hx)).1 hg λe=>?_
  have hx2:x∈fU++D1:=by
   rcases bU.1 hx' with q|q
   .exact absurd q hne
   .exact q
  have Dm:=hR.ring.qB;simp only[lU,ij,ik] at Dm;exact Dm.1 (pi l Xs x) (bQ.2 ⟨x,hx2,rfl⟩) (aZ (PM (aP l)) e)
 have TM:lQ Xs (eo Xs (D1++d::fU))=d:=by
  unfold lQ;have hne:eo Xs (D1++d::fU)≠[]:=by rw[hT];simp
  obtain⟨m,U',eU⟩:∃m U',eo Xs (D1++d::fU)=m::U':=by
   cases q:eo Xs (D1++d::fU) with
   |nil=>exact absurd q hne
   |cons m U'=>exact⟨m,U',rfl⟩
  rw[eU];refine Nt U' m ?_ (λx hx Ux=>?_) (λx hx k=>?_)
  .rw[<-eU,hT];simp
  .rw[<-eU] at hx;exact I4 x (Uw x hx) Ux
  .rw[<-eU] at hx;by_cases e:x=d
   .subst e;rw[zJ] at k;omega
   .have:=I4 x (Uw x hx) e;rw[EC] at k this;exact Ge.lt_irrefl _ (Ge.lt_trans (Ge.dW (h.nl.can _ (SX.rf h oZ).1)) (Ge.dW (h.nl.can _ (SX.rf h (hl x (Uw x hx))).1)) (Ge.dW (h.nl.can _ (SX.rf h oZ).1)) this k)
 have TN:vG Xs (eo Xs (D1++d::fU))=(tI Xs ((d::fU).getLastD 0) D1).length:=by
  unfold vG ib;rw[TM,hT];rcases Nb (P:=λj=>j == d) (tI Xs ((d::fU).getLastD 0) D1++d::tI Xs d fU) 0 with⟨_,q2⟩|⟨R,x,q1,q2,q3,q4⟩
  .have:=q2 d af
   simp at this
  .rw[q1];have Ux:x=d:=by simpa using q3
   subst Ux;have apa:x∉tI Xs ((x::fU).getLastD 0) D1:=λk=>by
    have k1:=EJ Xs _ _ x k;rw[lU] at hnd;exact(JV.1 hnd).1 (by simp[k1])
   have h1:¬R<(tI Xs ((x::fU).getLastD 0) D1).length:=λk=>by
    rw[fI k] at q2;exact apa (bT q2)
   have h2:¬(tI Xs ((x::fU).getLastD 0) D1).length<R:=λk=>by
    have:=q4 (tI Xs ((x::fU).getLastD 0) D1).length x k (by rw[nJ (aY _)];simp)
    simp at this
   omega
 unfold ez;rw[TN,hT',hT,agK,List.take_left]
structure Rel(l:List Nd)(Xs:List PB)(q:List Nat)(R:List Sg):Prop where
 lr:LR (sS (aP l) Xs) (jZ (aP l) Xs) R
 dE:(Go.Proofs.YtkjhhooecopolaaGreatDoor.fr Xs q).map (PM (aP l))=dE R
 sh:dm Xs q=true↔shl R
theorem SX.rel(h:SX rg l r Xs)(hB:BD Xs){D:List Nat}(hl:∀a∈D,a<Xs.length)(hR:iW (sS (aP l) Xs) (jZ (aP l) Xs) (D.map (pi l Xs))):∃R,Rel l Xs (ez Xs D) R/\R.Perm (D.map (pi l Xs)):=by
 have hW:=SX.wd h hB;obtain⟨A,B,e,qd⟩:=hR.WN;obtain⟨D1,D2,rfl,rfl,rfl⟩:=List.map_eq_append_iff.1 e;have at2:D2≠[]\/D1=[]/\D2≠[]\/D2=[]:=by by_cases q:D2=[]<;>simp[q]
 have key:∀D1 D2:List Nat,(∀a∈D1++D2,a<Xs.length)->LR (sS (aP l) Xs) (jZ (aP l) Xs) ((D2++D1).map (pi l Xs))->D2≠[]->Rel l Xs (ez Xs (D1++D2)) ((D2++D1).map (pi l Xs)):=by
  intro D1 D2 hl qd h2;have er:=SX.ring h hB hl qd h2;rw[er];have hne:D2++D1≠[]:=by simp[h2]
  obtain⟨z,hz⟩:∃z,(D2++D1).getLast?=some z:=by
   cases q:(D2++D1).getLast? with
   |none=>exact absurd (CT.1 q) hne
   |some z=>exact⟨z,rfl⟩
  have hl':∀a∈D2++D1,a<Xs.length:=λa ha=>hl a (by simp at ha⊢;exact ha.symm)
  have hzl:=hl' z (sK hz);have hlast:(D2++D1).getLastD 0=z:=by rw[nK,hz];rfl
  have adO:((D2++D1).map (pi l Xs)).getLastD s0=pi l Xs z:=by rw[nK,F4,hz];rfl
  have ht:(eo Xs (D2++D1)).map (pi l Xs)=Gb.tG (pi l Xs z) ((D2++D1).map (pi l Xs)):=by
   unfold eo;rw[hlast];exact SX.tG h _ z hzl hl'
  have adP:(Go.Proofs.YtkjhhooecopolaaGreatDoor.fr Xs (eo Xs (D2++D1))).map (PM (aP l))=Gb.dE ((D2++D1).map (pi l Xs)):=by
   unfold Gb.dE;rw[adO,<-ht];unfold Go.Proofs.YtkjhhooecopolaaGreatDoor.fr;rw[iC,iC];rfl
  refine⟨qd,adP,?_⟩;obtain⟨a,T,t,U,e1,e2,e3,_⟩:=qd.F6 hW;have Iu:((D2++D1).map (pi l Xs)).getLast?=some (pi l Xs z):=by rw[F4,hz];rfl
  have adQ:=qd.ring.mem;have hp:=qd.ring.path (a:=a) (by rw[e1];rfl)
  have hlen:=aZ List.length adP;have hq:(eo Xs (D2++D1)).map (pi l Xs)=a::Gb.tG a T:=by
   rw[ht,e1];show(if cr (dr (pi l Xs z)) (dr a)=0 then Gb.tG a T else a::Gb.tG a T)=_
   by_cases hc:cr (dr (pi l Xs z)) (dr a)=0
   .exfalso;unfold Gb.dE at e3;rw[adO,e1] at e3;have e4:Gb.tG (pi l Xs z) (a::T)=Gb.tG a T:=by
     show(if cr (dr (pi l Xs z)) (dr a)=0 then _ else _)=_
     rw[aV hc]
    rw[e4,e2] at e3;have:=aZ List.length e3;simp at this
   .rw[aQ hc]
  obtain⟨x,V,eV⟩:∃x V,eo Xs (D2++D1)=x::V:=by
   cases q:eo Xs (D2++D1) with
   |nil=>rw[q] at hq;cases hq
   |cons x V=>exact⟨x,V,rfl⟩
  have wK:∀y∈eo Xs (D2++D1),y<Xs.length:=λy hy=>hl' y (EJ Xs _ _ y hy)
  rw[eV] at hq wK⊢;rw[ij] at hq;injection hq with q1 q2;have hxl:=wK x af
  obtain⟨y,hy⟩:∃y,(x::V).getLast?=some y:=by
   cases q:(x::V).getLast? with
   |none=>exact absurd (CT.1 q) af
   |some z=>exact⟨z,rfl⟩
  have hyl:=wK y (sK hy);have hyG:(Gb.tG a T).getLastD a=pi l Xs y:=by
   rw[<-q2,<-q1];have e:((x::V).map (pi l Xs)).getLast?=some (pi l Xs y):=by rw[F4,hy];rfl
   have e':(V.map (pi l Xs)).getLastD (pi l Xs x)=((x::V).map (pi l Xs)).getLastD (pi l Xs x):=by rw[ij];cases V.map (pi l Xs)<;>rfl
   rw[e',nK,e];rfl
  have Iq:a∈sS (aP l) Xs:=adQ a (by rw[e1];simp)
  have hTS:∀s∈T,s∈sS (aP l) Xs:=λs hs=>adQ s (by rw[e1];simp[hs])
  have hsm:=hW.Ns T a a a.1 Iq hTS (by rw[e1] at hp;exact hp.2) (tB (hW.iK Iq))
  have lR:T.getLastD a=pi l Xs z:=by
   have:(a::T).getLast?=some (pi l Xs z):=by rw[<-e1];exact Iu
   have e':T.getLastD a=(a::T).getLastD a:=by cases T<;>rfl
   rw[e',nK,this];rfl
  rw[hyG,lR] at hsm;unfold dm;have g1:(x::V).getLastD 0=y:=by rw[nK,hy];rfl
  have g2:(x::V).headD 0=x:=rfl;rw[g1,g2,pK,(SX.fE h hyl hxl).2,q1];have hs:=(xx hsm (dr a)).1;rw[di (dr (pi l Xs y)),di (dr (pi l Xs z))] at hs;have ape:0<cr (dr (pi l Xs y)) (dr a)↔0<cr (dr (pi l Xs z)) (dr a):=by
   have s1:=(xx hsm (dr a));have s2:=xx hsm (neg (dr a));rw[gu,gu] at s2;have x1:cr (dr (pi l Xs y)) (dr a)= -cr (dr a) (dr (pi l Xs y)):=di _ _;have x2:cr (dr (pi l Xs z)) (dr a)= -cr (dr a) (dr (pi l Xs z)):=di _ _;rw[x1,x2];exact s2.1
  rw[ape];constructor
  .intro k;exact⟨a,pi l Xs z,by rw[e1];rfl,Iu,k⟩
  .rintro⟨a',z',ha',hz',k⟩;rw[e1] at ha';obtain rfl:a=a':=mO ha';rw[Iu] at hz';obtain rfl:pi l Xs z=z':=mO hz';exact k
 by_cases q:D2=[]
 .subst q;refine⟨D1.map (pi l Xs),?_,af⟩
  have hne:D1≠[]:=λe=>hR.ne (by rw[e];rfl)
  have:=key [] D1 (by simpa using hl) (by simpa using qd) hne
  simpa using this
 .refine⟨(D2++D1).map (pi l Xs),key D1 D2 hl (by rw[jC];exact qd) q,?_⟩
  exact(OE).map _
end
theorem pick{α β γ:Type}{P:α->β->Prop}{φ:α->List γ}{ψ:β->List γ}:∀(Ds:List α),(∀D∈Ds,∃R,P D R/\(ψ R).Perm (φ D))->∃Z:List (α×β),Z.map Prod.fst=Ds/\(∀z∈Z,P z.1 z.2)/\(Z.map λz=>ψ z.2).flatten.Perm (Ds.map φ).flatten
 |[],_=>⟨[],rfl,af,af⟩
 |D::Ds,h=>by
  obtain⟨Z,e,h1,h2⟩:=pick Ds λD' hD'=>h D' (bX _ hD')
  obtain⟨R,hR,hp⟩:=h D af
  refine⟨(D,R)::Z,by simp[e],λz hz=>?_,?_⟩
  .rcases bU.1 hz with q|q
   .rw[q];exact hR
   .exact h1 z q
  .simp only[ij,yz];exact hp.append h2
section
variable{rg:List (List Pt)}{l:List Nd}{r:Int}{Xs:List PB}
theorem I5{nx:Nat->Nat}{mk:Nat->Bool}{n k:Nat}{L:List Nat}(hc:pj nx mk n k L):(∀t,t+1<L.length->L.getD (t+1) 0=nx (L.getD t 0))/\L.getD 0 0=k/\nx (L.getD (L.length-1) 0)=k/\0<L.length:=by
 have h0:=cG.1 hc.head;refine⟨λt ht=>?_,?_,?_,h0.1⟩
 .have a:L[t]?=some L[t]:=bo aa
  have b:L[t+1]?=some L[t+1]:=bo ht;rw[nN,nN,a,b];exact hc.step t _ _ a b
 .rw[nN,hc.head];rfl
 .obtain⟨hp,_⟩:=h0;have hp1:L.length-1<L.length:=aa
  have a:L[L.length-1]?=some L[L.length-1]:=bo hp1;rw[nN,a];exact hc.back _ (by rw[pG];exact a)
theorem SX.it(h:SX rg l r Xs){mk:Nat->Bool}{k:Nat}{L:List Nat}(hc:pj (dC Xs) mk Xs.length k L):∀t,t<L.length->Gb.it (jZ (aP l) Xs) t (pi l Xs k)=pi l Xs (L.getD t 0)
 |0,_=>by rw[(I5 hc).2.1];rfl
 |t+1,ht=>by
  have ih:=SX.it h hc t aa
  show jZ (aP l) Xs (Gb.it (jZ (aP l) Xs) t (pi l Xs k))=_;rw[ih,(I5 hc).1 t ht];refine BX h (hc.free _ ?_).1;rw[nN,bo aa]
  exact gZ _
theorem xW{L:List Nat}{t:Nat}(ht:t<L.length):L.getD t 0∈L:=by
 rw[nN,bo ht];exact gZ _
theorem SX.cir(h:SX rg l r Xs){mk:Nat->Bool}{k:Nat}{L:List Nat}(hc:pj (dC Xs) mk Xs.length k L):FZ (jZ (aP l) Xs) (pi l Xs k) L.length:=by
 obtain⟨_,_,g3,g4⟩:=I5 hc;refine⟨g4,?_,λi j hi hj e=>?_⟩
 .have e:L.length=(L.length-1)+1:=aa
  rw[e];show jZ (aP l) Xs (Gb.it (jZ (aP l) Xs) (L.length-1) (pi l Xs k))=_;rw[SX.it h hc _ aa,BX h (hc.free _ (xW aa)).1,g3]
 .rw[SX.it h hc i hi,SX.it h hc j hj] at e;have:=SX.EF h (hc.free _ (xW hi)).1 (hc.free _ (xW hj)).1 e;rw[nN,nN,bo hi,bo hj] at this;exact(List.getElem_inj hc.nd).1 this
theorem adS(L:List Nat):(List.range L.length).map (λt=>L.getD t 0)=L:=by
 refine Aw af λi h1 h2=>?_
 simp[List.getD_eq_getElem?_getD,h2]
theorem SX.apf(h:SX rg l r Xs)(hB:BD Xs){mk:Nat->Bool}{k:Nat}{L:List Nat}(hc:pj (dC Xs) mk Xs.length k L):(∀D∈(mg (kJ Xs) L).2,(∀a∈D,a<Xs.length)/\iW (sS (aP l) Xs) (jZ (aP l) Xs) (D.map (pi l Xs)))/\(mg (kJ Xs) L).2.flatten.Perm L:=by
 have hW:=SX.wd h hB;have hC:=SX.cir h hc;obtain⟨_,g2,_,g4⟩:=I5 hc;have hk:k<Xs.length:=by rw[<-g2];exact(hc.free _ (xW g4)).1
 have xR:pi l Xs k∈sS (aP l) Xs:=Ii _ hk;have hlt:∀t,t<L.length->L.getD t 0<Xs.length:=λt ht=>(hc.free _ (xW ht)).1
 obtain⟨_,hperm,apg⟩:=parted (f:=λi=>(Gb.it (jZ (aP l) Xs) i (pi l Xs k)).1) (m:=L.length) (hW.nc xR hC) (λj hj e=>by
   rw[hW.wN xR] at e;exact hW.ne _ (hW.pM xR j) e) (by show(Gb.it (jZ (aP l) Xs) L.length (pi l Xs k)).1=_;rw[hC.per];rfl)
  (λi=>mg (λi j=>kJ Xs (L.getD i 0) (L.getD j 0)) (List.range i)) rfl (λi hi=>by
   show AL _ i _ (mg _ (List.range (i+1)));rw[JI,adL];refine ao8 _ i _ λo ho=>?_
   have hoL:o<L.length:=by
    rcases dv.1 ho with q|q
    .have:=adM _ i o q;omega
    .have:=dh.1 q;omega
   show kJ Xs (L.getD i 0) (L.getD o 0)=true↔(Gb.it (jZ (aP l) Xs) o (pi l Xs k)).1=(Gb.it (jZ (aP l) Xs) (i+1) (pi l Xs k)).1;rw[hW.wN xR,SX.it h hc i hi,SX.it h hc o hoL];unfold kJ;rw[pK];constructor
   .intro e;exact aZ (PM (aP l)) e.symm
   .intro e;exact(qX h.nl (SX.rf h (hlt o hoL)).1 (SX.rf h (hlt i hi)).2 e).symm)
 have hE:(mg (kJ Xs) L).2=(mg (λi j=>kJ Xs (L.getD i 0) (L.getD j 0)) (List.range L.length)).2.map λD=>D.map λt=>L.getD t 0:=by
  have:=ao6 (kJ Xs) (λt=>L.getD t 0) (List.range L.length)
  rw[adS] at this;rw[this]
 rw[hE];generalize(mg (λi j=>kJ Xs (L.getD i 0) (L.getD j 0)) (List.range L.length)).2=Ds at*
 refine⟨λD' hD'=>?_,?_⟩
 .obtain⟨D,hD,rfl⟩:=bQ.1 hD';obtain⟨d,hd⟩:=apg D hD;refine⟨λa ha=>?_,?_⟩
  .obtain⟨t,ht,rfl⟩:=bQ.1 ha;exact hlt t (hd.lt t ht)
  .have:=hd.ring hW xR hC;have e:(D.map λt=>L.getD t 0).map (pi l Xs)=D.map λt=>Gb.it (jZ (aP l) Xs) t (pi l Xs k):=by
    rw[iC];exact yE λt ht=>(SX.it h hc t (hd.lt t ht)).symm
   rw[e];exact this
 .rw[<-List.map_flatten];have:=hperm.map λt=>L.getD t 0
  rw[adS] at this;exact this
theorem SX.rings(h:SX rg l r Xs)(hB:BD Xs){mk:Nat->Bool}{k:Nat}{L:List Nat}(hc:pj (dC Xs) mk Xs.length k L):∃Z:List (List Nat×List Sg),Z.map Prod.fst=cJ Xs L/\(∀z∈Z,Rel l Xs z.1 z.2)/\(Z.map Prod.snd).flatten.Perm (L.map (pi l Xs)):=by
 obtain⟨g,p⟩:=SX.apf h hB hc;rw[ao4];generalize(mg (kJ Xs) L).2=Ds at*;obtain⟨Z,e1,e2,e3⟩:=pick (P:=λD R=>Rel l Xs (ez Xs D) R) (φ:=λD=>D.map (pi l Xs)) (ψ:=λR=>R) Ds λD hD=>SX.rel h hB (g D hD).1 (g D hD).2
 refine⟨Z.map λz=>(ez Xs z.1,z.2),?_,λz hz=>?_,?_⟩
 .rw[iC,<-e1,iC];rfl
 .obtain⟨y,hy,rfl⟩:=bQ.1 hz;exact e2 y hy
 .rw[iC];refine e3.trans ?_;rw[<-List.map_flatten];exact p.map _
theorem Nu{M:Int}(hM:0<M){a b:Nd}(ha:OK M a)(hb:OK M b):a.2.2*b.2.2*(dr (PM M a,PM M b)).1=M*(wv a b).1/\a.2.2*b.2.2*(dr (PM M a,PM M b)).2=M*(wv a b).2:=by
 obtain⟨k,hk,e,e1⟩:=xy hM ha.p ha.d;obtain⟨j,hj,f,f1⟩:=xy hM hb.p hb.d;rw[e1,f1];constructor
 .show a.2.2*b.2.2*(b.1*j-a.1*k)=M*(a.2.2*b.1-b.2.2*a.1);have:a.2.2*b.2.2*(b.1*j-a.1*k)=a.2.2*b.1*(b.2.2*j)-b.2.2*a.1*(a.2.2*k):=by grind
  rw[this,e,f]
  grind
 .show a.2.2*b.2.2*(b.2.1*j-a.2.1*k)=M*(a.2.2*b.2.1-b.2.2*a.2.1);have:a.2.2*b.2.2*(b.2.1*j-a.2.1*k)=a.2.2*b.2.1*(b.2.2*j)-b.2.2*a.2.1*(a.2.2*k):=by grind
  rw[this,e,f]
  grind
theorem Nv{n a b:Pt}:fE (n1 n) a b↔(dr (n,a)).1<=0/\0<(dr (n,b)).1:=by unfold fE;rw[fk,fk]
theorem Nw{n a b:Pt}(h:fE (n1 n) a b):kW (n1 n) (a,b)=(dr (a,b)).1/\kY (n1 n) (a,b)= -cr (dr (a,b)) (dr (a,n))/\kS (n1 n) (a,b)=(dr (a,b)).2:=by
 obtain⟨x,y,z,_⟩:=EH h;rw[x,y,z,fk,fk];refine⟨by unfold dr;simp only;omega,?_,by unfold dr;simp only;omega⟩
 unfold cr dr;simp only;grind
theorem SX.jg(h:SX rg l r Xs){n:Nd}(hn:n∈l){i:Nat}(hi:i<Xs.length):kK Xs n i=true↔Gb.fE (n1 (PM (aP l) n)) (pi l Xs i).1 (pi l Xs i).2/\kY (n1 (PM (aP l) n)) (pi l Xs i)<0:=by
 obtain⟨hM,hO⟩:=cS.ok h.nl;obtain⟨hf,ht⟩:=SX.rf h hi;have p1:=iP hM (hO n hn) (hO _ hf);have p2:=iP hM (hO n hn) (hO _ ht);have p3:=iP hM (hO _ hf) (hO _ ht);have p4:=iP hM (hO _ hf) (hO n hn);have c:=(p3.cr p4).1;obtain⟨p,q,hp,hq,e1,_⟩:=p1;obtain⟨p',q',hp',hq',e2,_⟩:=p2;have g1:=jl hp hq e1;have g2:=jl hp' hq' e2;have w1:n.1*(xi Xs i).f.2.2<(xi Xs i).f.1*n.2.2↔0<(wv n (xi Xs i).f).1:=by
  unfold wv;simp only;rw[fg n.2.2,fg (xi Xs i).f.2.2];omega
 have w2:n.1*(xi Xs i).t.2.2<(xi Xs i).t.1*n.2.2↔0<(wv n (xi Xs i).t).1:=by
  unfold wv;simp only;rw[fg n.2.2,fg (xi Xs i).t.2.2];omega
 unfold kK;rw[qs,qs,OS,JS,pK,pK,w1,w2];constructor
 .rintro⟨⟨k1,k2⟩,k3⟩;have hcr:Gb.fE (n1 (PM (aP l) n)) (pi l Xs i).1 (pi l Xs i).2:=Nv.2 ⟨by show(dr (PM (aP l) n,PM (aP l) (xi Xs i).f)).1<=0;omega,g2.1.2 k2⟩
  refine⟨hcr,?_⟩;have:=(Nw hcr).2.1;show kY (n1 (PM (aP l) n)) ((pi l Xs i).1,(pi l Xs i).2)<0;rw[this];have:=c.2 k3;show -cr (dr (PM (aP l) (xi Xs i).f,PM (aP l) (xi Xs i).t)) (dr (PM (aP l) (xi Xs i).f,PM (aP l) n))<0;omega
 .rintro⟨hcr,hk⟩;have k1:=(Nv.1 hcr).1;have k2:=(Nv.1 hcr).2;have:=(Nw hcr).2.1;have hk':kY (n1 (PM (aP l) n)) ((pi l Xs i).1,(pi l Xs i).2)<0:=hk;rw[this] at hk';have hk2: -cr (dr (PM (aP l) (xi Xs i).f,PM (aP l) (xi Xs i).t)) (dr (PM (aP l) (xi Xs i).f,PM (aP l) n))<0:=hk';have EO:(dr (PM (aP l) n,PM (aP l) (xi Xs i).f)).1<=0:=k1;have zV:0<(dr (PM (aP l) n,PM (aP l) (xi Xs i).t)).1:=k2;exact⟨⟨aa,g2.1.1 zV⟩,c.1 aa⟩
theorem SX.dep(h:SX rg l r Xs){n:Nd}(hn:n∈l){i j:Nat}(hi:i<Xs.length)(hj:j<Xs.length)(bi:kK Xs n i=true)(bj:kK Xs n j=true):sx n (xi Xs i) (xi Xs j)<0↔bH (n1 (PM (aP l) n)) (pi l Xs j) (pi l Xs i)=true:=by
 obtain⟨hM,hO⟩:=cS.ok h.nl;have ci:=((SX.jg h hn hi).1 bi).1;have cj:=((SX.jg h hn hj).1 bj).1;obtain⟨i1,i2,i3⟩:=Nw ci;obtain⟨j1,j2,j3⟩:=Nw cj;obtain⟨fi,ti⟩:=SX.rf h hi;obtain⟨fj,tj⟩:=SX.rf h hj;have a1:=Nu hM (hO _ fi) (hO _ ti);have a2:=Nu hM (hO _ fi) (hO n hn);have b1:=Nu hM (hO _ fj) (hO _ tj);have b2:=Nu hM (hO _ fj) (hO n hn);have hp1:=(hO _ fi).p;have hp2:=(hO _ ti).p;have tP:=(hO _ fj).p;have hp4:=(hO _ tj).p;have hp5:=(hO n hn).p;have cc:=(SX.fE h hi hj);have ccs:=zK (xi Xs i) (xi Xs j);have hcS:=(SX.pd h hi).cr (SX.pd h hj);have rY:=Uv (cr (wv (xi Xs i).f (xi Xs i).t) (wv (xi Xs j).f (xi Xs j).t));have e1:∀i,((pi l Xs i).1,(pi l Xs i).2)=pi l Xs i:=λi=>rfl
 rw[e1] at i1 i2 i3 j1 j2 j3;have key:∃p q:Int,0<p/\0<q/\p*(kY (n1 (PM (aP l) n)) (pi l Xs j)*kW (n1 (PM (aP l) n)) (pi l Xs i)-kY (n1 (PM (aP l) n)) (pi l Xs i)*kW (n1 (PM (aP l) n)) (pi l Xs j))=q*(cr (wv (xi Xs i).f (xi Xs i).t) (wv (xi Xs i).f n)*((xi Xs j).f.2.2*(wv (xi Xs j).f (xi Xs j).t).1)-cr (wv (xi Xs j).f (xi Xs j).t) (wv (xi Xs j).f n)*((xi Xs i).f.2.2*(wv (xi Xs i).f (xi Xs i).t).1)):=by
  rw[i1,i2,j1,j2];refine⟨((xi Xs i).f.2.2*(xi Xs i).t.2.2)*((xi Xs i).f.2.2*n.2.2)*((xi Xs j).f.2.2*(xi Xs j).t.2.2)*(xi Xs j).f.2.2,aP l*aP l*aP l,bJ (bJ (bJ (bJ hp1 hp2) (bJ hp1 hp5)) (bJ tP hp4)) tP,bJ (bJ hM hM) hM,?_⟩;have x1:dr ((pi l Xs i).1,(pi l Xs i).2)=dr (PM (aP l) (xi Xs i).f,PM (aP l) (xi Xs i).t):=rfl;have x2:dr ((pi l Xs i).1,PM (aP l) n)=dr (PM (aP l) (xi Xs i).f,PM (aP l) n):=rfl;have y1:dr ((pi l Xs j).1,(pi l Xs j).2)=dr (PM (aP l) (xi Xs j).f,PM (aP l) (xi Xs j).t):=rfl;have y2:dr ((pi l Xs j).1,PM (aP l) n)=dr (PM (aP l) (xi Xs j).f,PM (aP l) n):=rfl;have x1':dr (pi l Xs i)=dr (PM (aP l) (xi Xs i).f,PM (aP l) (xi Xs i).t):=rfl;have y1':dr (pi l Xs j)=dr (PM (aP l) (xi Xs j).f,PM (aP l) (xi Xs j).t):=rfl
  first |rw[x1,x2,y1,y2]|rw[x1',x2,y1',y2]
  generalize dr (PM (aP l) (xi Xs i).f,PM (aP l) (xi Xs i).t)=A at*;generalize dr (PM (aP l) (xi Xs i).f,PM (aP l) n)=B at*;generalize dr (PM (aP l) (xi Xs j).f,PM (aP l) (xi Xs j).t)=C at*;generalize dr (PM (aP l) (xi Xs j).f,PM (aP l) n)=D at*;generalize wv (xi Xs i).f (xi Xs i).t=A' at*;generalize wv (xi Xs i).f n=B' at*;generalize wv (xi Xs j).f (xi Xs j).t=C' at*;generalize wv (xi Xs j).f n=D' at*;generalize(xi Xs i).f.2.2=f1 at*;generalize(xi Xs i).t.2.2=t1 at*;generalize(xi Xs j).f.2.2=f2 at*;generalize(xi Xs j).t.2.2=t2 at*;generalize n.2.2=nn at*;generalize aP l=M at*;clear i1 i2 i3 j1 j2 j3 ci cj cc ccs hcS rY e1 x1 x2 y1 y2 x1' y1' hp1 hp2 tP hp4 hp5;have u1:f1*t1*(f1*nn)*cr A B=M*M*cr A' B':=by
   have:f1*t1*(f1*nn)*cr A B=(f1*t1*A.1)*(f1*nn*B.2)-(f1*t1*A.2)*(f1*nn*B.1):=by unfold cr;grind
   rw[this,a1.1,a1.2,a2.1,a2.2];unfold cr;grind
  have u2:f2*t2*(f2*nn)*cr C D=M*M*cr C' D':=by
   have:f2*t2*(f2*nn)*cr C D=(f2*t2*C.1)*(f2*nn*D.2)-(f2*t2*C.2)*(f2*nn*D.1):=by unfold cr;grind
   rw[this,b1.1,b1.2,b2.1,b2.2];unfold cr;grind
  have v:f1*t1*(f1*nn)*(f2*t2)*f2*(-cr C D*A.1- -cr A B*C.1)=f2*(f1*t1*(f1*nn)*cr A B)*(f2*t2*C.1)-f1*(f2*t2*(f2*nn)*cr C D)*(f1*t1*A.1):=by grind
  rw[v,u1,u2,a1.1,b1.1]
  grind
 obtain⟨p,q,hp,hq,ek⟩:=key;have sk:=jl hp hq ek;have sd:=Uv (cr (wv (xi Xs i).f (xi Xs i).t) (wv (xi Xs i).f n)*((xi Xs j).f.2.2*(wv (xi Xs j).f (xi Xs j).t).1)-cr (wv (xi Xs j).f (xi Xs j).t) (wv (xi Xs j).f n)*((xi Xs i).f.2.2*(wv (xi Xs i).f (xi Xs i).t).1));have hS:kS (n1 (PM (aP l) n)) (pi l Xs j)*kW (n1 (PM (aP l) n)) (pi l Xs i)<kS (n1 (PM (aP l) n)) (pi l Xs i)*kW (n1 (PM (aP l) n)) (pi l Xs j)↔cr (dr (pi l Xs i)) (dr (pi l Xs j))<0:=by
  rw[i1,i3,j1,j3];have:cr (dr (pi l Xs i)) (dr (pi l Xs j))=(dr (pi l Xs j)).2*(dr (pi l Xs i)).1-(dr (pi l Xs i)).2*(dr (pi l Xs j)).1:=by unfold cr;grind
  have e3:∀i,dr ((pi l Xs i).1,(pi l Xs i).2)=dr (pi l Xs i):=λi=>rfl
  rw[this]
  first |(rw[e3,e3];omega)|omega
 rw[BK,hS];unfold sx IE;by_cases hz:(cr (wv (xi Xs i).f (xi Xs i).t) (wv (xi Xs i).f n)*((xi Xs j).f.2.2*(wv (xi Xs j).f (xi Xs j).t).1)-cr (wv (xi Xs j).f (xi Xs j).t) (wv (xi Xs j).f n)*((xi Xs i).f.2.2*(wv (xi Xs i).f (xi Xs i).t).1)).sign=0
 .rw[aV hz,ccs];omega
 .rw[aQ hz];omega
theorem adY{cf:Nat->Nat->Int}:∀(L:List Nat)(m:Nat),(∀a∈m::L,∀b∈m::L,∀c∈m::L,cf a b<0->cf c b<0\/cf a c<0)->(∀a∈m::L,∀b∈m::L,cf a b<0->¬cf b a<0)->cL cf L m∈m::L/\∀k∈m::L,¬cf k (cL cf L m)<0
 |[],m,_,ha=>⟨by simp[cL],λk hk e=>by
  have:k=m:=dh.1 hk;subst this;exact ha k af k af e e⟩
 |b::L,m,hw,ha=>by
  unfold cL;have sub:∀x∈(if cf b m<0 then b else m)::L,x∈m::b::L:=λx hx=>by
   rcases bU.1 hx with q|q
   .rw[q];split<;>simp
   .simp[q]
  obtain⟨h1,h2⟩:=adY L (if cf b m<0 then b else m) (λa ha b hb c hc=>hw a (sub a ha) b (sub b hb) c (sub c hc)) (λa h1 b h2=>ha a (sub a h1) b (sub b h2))
  refine⟨sub _ h1,λk hk e=>?_⟩
  have hr:=sub _ h1;by_cases kU:cf b m<0
  .rw[aV kU] at h1 h2 e hr;rcases bU.1 hk with q|q
   .subst q;rcases hw k af _ hr b af e with w|w
    .exact h2 b af w
    .exact ha b af k af kU w
   .exact h2 k (by rcases bU.1 q with q|q<;>simp[q]) e
  .rw[aQ kU] at h1 h2 e hr;rcases bU.1 hk with q|q
   .exact h2 k (by simp[q]) e
   .rcases bU.1 q with q|q
    .subst q;rcases hw k af _ hr m af e with w|w
     .exact h2 m af w
     .exact kU w
    .exact h2 k (by simp[q]) e
theorem SX.lowest(h:SX rg l r Xs){n:Nd}(hn:n∈l)(hs:fG Xs n Xs.length≠[]):jf Xs n<Xs.length/\kK Xs n (jf Xs n)=true/\∀i,i<Xs.length->kK Xs n i=true->bH (n1 (PM (aP l) n)) (pi l Xs (jf Xs n)) (pi l Xs i)=false:=by
 obtain⟨m,L,e⟩:∃m L,fG Xs n Xs.length=m::L:=by
  cases q:fG Xs n Xs.length with
  |nil=>exact absurd q hs
  |cons m L=>exact⟨m,L,rfl⟩
 have mem:∀i,i∈m::L↔i<Xs.length/\kK Xs n i=true:=λi=>by
  rw[<-e];unfold fG;rw[iz,sU]
 have se:jf Xs n=cL (λi j=>sx n (xi Xs i) (xi Xs j)) L m:=by unfold jf;rw[e];rfl
 have dk:∀i∈m::L,∀j∈m::L,sx n (xi Xs i) (xi Xs j)<0↔bH (n1 (PM (aP l) n)) (pi l Xs j) (pi l Xs i)=true:=λi hi j hj=>SX.dep h hn ((mem i).1 hi).1 ((mem j).1 hj).1 ((mem i).1 hi).2 ((mem j).1 hj).2
 obtain⟨h1,h2⟩:=adY (cf:=λi j=>sx n (xi Xs i) (xi Xs j)) L m (λa ha b hb c hc k=>by
   rcases BM _ _ _ (pi l Xs c) ((dk a ha b hb).1 k) with w|w
   .exact aT ((dk a ha c hc).2 w)
   .exact aU ((dk c hc b hb).2 w)) (λa ha b hb k1 k2=>by
   have:=zB _ _ _ _ ((dk a ha b hb).1 k1) ((dk b hb a ha).1 k2);rw[ub] at this;cases this)
 rw[<-se] at h1 h2;refine⟨((mem _).1 h1).1,((mem _).1 h1).2,λi hi hb=>?_⟩
 have him:=(mem i).2 ⟨hi,hb⟩;cases q:bH (n1 (PM (aP l) n)) (pi l Xs (jf Xs n)) (pi l Xs i)
 .rfl
 .exact absurd ((dk i him _ h1).2 q) (h2 i him)
theorem SX.api(h:SX rg l r Xs)(hB:BD Xs){n:Nd}(hn:n∈l)(hin:takes r (Ga.PP (aR rg) n)=true){u:Nat}(hu:u<Xs.length)(mG:kK Xs n u=true)(hmin:∀i,i<Xs.length->kK Xs n i=true->bH (n1 (PM (aP l) n)) (pi l Xs u) (pi l Xs i)=false){es:List Sg}(hcl:Cl es)(hi:In (sS (aP l) Xs) es):Lf es (pi l Xs u)=Ga.PP es (n1 (PM (aP l) n)):=by
 have hW:=SX.wd h hB;have huS:pi l Xs u∈sS (aP l) Xs:=Ii _ hu;obtain⟨hcu,hyu⟩:=(SX.jg h hn hu).1 mG;have hris:bV (dr (pi l Xs u)):=by
  have c:=Nv.1 hcu;refine aU ?_;have e:(dr (pi l Xs u)).1=(dr (PM (aP l) n,(pi l Xs u).2)).1-(dr (PM (aP l) n,(pi l Xs u).1)).1:=by unfold dr;simp only;omega
  omega
 have hP:=(hW.oP hi huS).1 hris;obtain⟨iY,rfl⟩:=hcl;have ht:=(hts (show(0:Int)<1 by decide) hcu hP).2
 have ha:=(wH hP).2;have e1:Lf (aR iY) (pi l Xs u)=LL (aR iY) (n1 (pi l Xs u).1) (n1 (pi l Xs u).2):=by
  rw[ha,lX];rfl
 rw[e1,ht,Sm];refine SS _ λe he hw=>?_
 cases q:bH (n1 (PM (aP l) n)) ((pi l Xs u).1,(pi l Xs u).2) e
 .rw[dO (MO hyu q)];rfl
 ·
  refine(fY λNy=>?_).symm
  obtain⟨j,hj,hje⟩:∃j,j<Xs.length/\(e=pi l Xs j\/e=rv (pi l Xs j)):=by
   rcases hi e he with k|k
   .obtain⟨j,hj,ej⟩:=kI _ k;exact⟨j,hj,aU ej⟩
   .obtain⟨j,hj,ej⟩:=kI _ k;exact⟨j,hj,aT (aZ rv ej)⟩
  have hkj:bH (n1 (PM (aP l) n)) (pi l Xs u) (pi l Xs j)=true:=by
   rcases hje with k|k
   .rw[k] at q;exact q
   .rw[k,(zN _ _ _).2] at q;exact q
  have Nz:kY (n1 (PM (aP l) n)) (pi l Xs j)<0:=by
   rcases hje with k|k
   .rw[k] at Ny;exact Ny
   .rw[k,(Ik _ _).2.1] at Ny;exact Ny
  rcases abU Nz with c|c
  .have:=hmin j hj ((SX.jg h hn hj).2 ⟨c,Nz⟩);rw[hkj] at this;cases this
  .have apl:kY (n1 (PM (aP l) n)) (PM (aP l) (xi Xs j).t,PM (aP l) (xi Xs j).f)<0:=by
    have:=(Ik (n1 (PM (aP l) n)) (pi l Xs j)).2.1;rw[<-this] at Nz;exact Nz
   obtain⟨f,t,hft,cft,yft,kft⟩:=amy h.nl hn hin (h.sd hj) c apl;obtain⟨v,hv,v1,v2⟩:=h.find hft;have epv:pi l Xs v=(PM (aP l) f,PM (aP l) t):=by show(PM (aP l) (xi Xs v).f,PM (aP l) (xi Xs v).t)=_;rw[v1,v2]
   have LW:=(SX.jg h hn hv).2 (by rw[epv];exact⟨cft,yft⟩)
   have k2:bH (n1 (PM (aP l) n)) (pi l Xs j) (pi l Xs v)=true:=by
    rw[epv];have:=(zN (n1 (PM (aP l) n)) (pi l Xs j) (PM (aP l) f,PM (aP l) t)).1;rw[<-this];exact kft
   have:=hmin v hv LW;rw[zB _ _ _ _ hkj k2] at this;cases this
theorem SX.apq(h:SX rg l r Xs)(hB:BD Xs){mk:Nat->Bool}{k:Nat}{L:List Nat}(hc:pj (dC Xs) mk Xs.length k L)(Cs:Wk Xs k L)(hno:∀ring∈cJ Xs L,dm Xs ring=false):Fc (sS (aP l) Xs) (pi l Xs k) (pi l Xs (jf Xs (xi Xs k).f)):=by
 have hW:=SX.wd h hB;have hC:=SX.cir h hc;have hk:k<Xs.length:=Cs.lt k (bT Cs.head);have hn:=(SX.rf h hk).1;have hin:takes r (Ga.PP (aR rg) (xi Xs k).f)=true:=by
  cases q:takes r (Ga.PP (aR rg) (xi Xs k).f)
  .obtain⟨ring,hr,hs⟩:=h.acR hB Cs q;rw[hno ring hr] at hs;cases hs
  .rfl
 obtain⟨Z,e1,e2,e3⟩:=SX.rings h hB hc;have hgt:∀{t},t<L.length->L.getD t 0<Xs.length:=λht=>(hc.free _ (xW ht)).1
 intro es hcl hi;obtain⟨l1,l2,l3⟩:=SX.lowest h hn (h.seen hB Cs hno);rw[SX.api h hB hn hin l1 l2 l3 hcl hi];refine hW.amF (Ii _ hk) hC (λi xM=>?_) (λR hR BZ hs=>?_) hcl hi
 .rw[SX.it h hc i xM];have hm:=xW xM;have hle:=Cs.least _ hm;rcases Pq (pi l Xs k).1 (pi l Xs (L.getD i 0)).1 with q|q
  .exact q
  .by_cases e:(xi Xs (L.getD i 0)).f=(xi Xs k).f
   .show ge (PM (aP l) (xi Xs k).f) (PM (aP l) (xi Xs (L.getD i 0)).f);rw[e];exact Kh _
   .exact absurd (SX.geq h (SX.rf h (hgt xM)).1 hn q e) hle
 .obtain⟨i,xM,BZ⟩:=BZ;rw[SX.it h hc i xM] at BZ;have hmem:pi l Xs (L.getD i 0)∈(Z.map Prod.snd).flatten:=e3.mem_iff.2 (bQ.2 ⟨_,xW xM,rfl⟩);obtain⟨R',hR',hm'⟩:=C4.1 hmem;obtain⟨z,hz,rfl⟩:=bQ.1 hR';have hrel:=e2 z hz;have:=hR.eq hW hrel.lr BZ hm';rw[this] at hs;have h1:=hrel.sh.2 hs;rw[hno z.1 (by rw[<-e1];exact bQ.2 ⟨z,hz,rfl⟩)] at h1
  cases h1
end
abbrev RP:=List Nat×List Sg
abbrev uo:=RP×List RP
def oI(p:uo):Pg:=(p.1.1,p.2.map Prod.fst)
def xO(p:uo):List Sg:=p.1.2++(p.2.map Prod.snd).flatten
def ke(PL:List uo):List Sg:=(PL.map xO).flatten
section
variable{rg:List (List Pt)}{l:List Nd}{r:Int}{Xs:List PB}
structure ad2(l:List Nd)(Xs:List PB)(p:uo):Prop where
 shell:Rel l Xs p.1.1 p.1.2
 Uy:shl p.1.2
 hole:∀z∈p.2,Rel l Xs z.1 z.2/\¬shl z.2
 part:∀z∈p.2,∀a∈p.1.2,∀s∈z.2,Fc (sS (aP l) Xs) a s
structure CI(l:List Nd)(Xs:List PB)(st:St)(PL:List uo):Prop where
 ps:st.ps=PL.map oI
 ok:∀p∈PL,ad2 l Xs p
 own:∀j,j<Xs.length->st.bz j=true->∃p,PL[st.ow j]?=some p/\∀a∈p.1.2,Fc (sS (aP l) Xs) a (pi l Xs j)
 per:(ke PL).Perm (((List.range Xs.length).filter st.bz).map (pi l Xs))
theorem filter_or{α:Type}(p q:α->Bool):∀(L:List α),(∀x∈L,p x=true->q x=false)->(L.filter λx=>p x||q x).Perm (L.filter p++L.filter q)
 |[],_=>af
 |x::L,h=>by
  have ih:=filter_or p q L λy hy=>h y (bX _ hy)
  cases hp:p x
  .cases hq:q x
   .rw[wu (by simp[hp,hq]),wu (by simp[hp]),wu (by simp[hq])]
    exact ih
   .rw[Ax (by simp[hq]),wu (by simp[hp]),Ax hq]
    exact(ih.cons x).trans (List.perm_middle).symm
  .have hq:=h x af hp
   rw[Ax (by simp[hp]),Ax hp,wu (by simp[hq])]
   exact ih.cons x
theorem marks{n:Nat}{mk:Nat->Bool}{L:List Nat}(hnd:L.Nodup)(hf:∀a∈L,a<n/\mk a=false):((List.range n).filter λj=>mk j||L.contains j).Perm ((List.range n).filter mk++L):=by
 refine(filter_or mk L.contains (List.range n) λx _ hx=>?_).trans (JJ _ ?_)
 .cases q:L.contains x
  .rfl
  .have:=(hf x (wC.1 q)).2;rw[hx] at this;cases this
 .refine(List.perm_ext_iff_of_nodup (agM _ List.nodup_range) hnd).2 λa=>?_
  rw[iz,sU,wC];exact⟨λk=>k.2,λk=>⟨(hf a k).1,k⟩⟩
theorem apr{P:List Nat->Bool}{A B:List (List Nat)}{x:List Nat}(hx:P x=true)(hB:∀y∈B,P y=false):vO P (A++x::B)=x:=by
 unfold vO;rw[JX,sL,aV hx];have:∀(B:List (List Nat)) acc,(∀y∈B,P y=false)->B.foldl (λacc r=>if P r then r else acc) acc=acc:=by
  intro B;induction B with
  |nil=>intro acc _;rfl
  |cons b B ih=>
   intro acc h;rw[sL,h b af]
   exact ih acc λy hy=>h y (bX _ hy)
 exact this B x hB
theorem ad3{α:Type}(P:α->Bool):∀(L:List α),L.any P=true->∃A x B,L=A++x::B/\P x=true/\∀y∈A,P y=false
 |[],h=>by simp at h
 |x::L,h=>by
  cases hp:P x
  .have h':L.any P=true:=by rw[List.any_cons,hp] at h;simpa using h
   obtain⟨A,y,B,e,h1,h2⟩:=ad3 P L h';refine⟨x::A,y,B,by rw[e];rfl,h1,λz hz=>?_⟩
   rcases bU.1 hz with q|q
   .rw[q];exact hp
   .exact h2 z q
  .exact⟨[],x,L,rfl,hp,af⟩
theorem aps{PL:List uo}{q:Nat}{p:uo}(h:PL[q]?=some p)(Z:List RP):(ke (PL.set q (p.1,p.2++Z))).Perm (ke PL++(Z.map Prod.snd).flatten):=by
 obtain⟨hq,e⟩:=cG.1 h;have e1:PL=PL.take q++p::PL.drop (q+1):=by
  rw[<-e,List.getElem_cons_drop,Fw]
 have e2:PL.set q (p.1,p.2++Z)=PL.take q++(p.1,p.2++Z)::PL.drop (q+1):=List.set_eq_take_append_cons_drop.trans (aV hq);rw[e2];have e3:ke PL=ke (PL.take q)++(xO p++ke (PL.drop (q+1))):=by
  have:=aZ ke e1;rw[this];simp[ke]
 rw[e3];have e4:ke (PL.take q++(p.1,p.2++Z)::PL.drop (q+1))=ke (PL.take q)++((xO p++(Z.map Prod.snd).flatten)++ke (PL.drop (q+1))):=by
  simp[ke,xO]
 rw[e4,fH,fH,fH];exact JJ _ (JJ _ OE)
theorem SX.Uz(h:SX rg l r Xs)(hB:BD Xs){mk:Nat->Bool}{k:Nat}{L:List Nat}(hc:pj (dC Xs) mk Xs.length k L){i:Nat}(hi:i∈L):Fc (sS (aP l) Xs) (pi l Xs k) (pi l Xs i):=by
 obtain⟨t,ht,e⟩:=kO.1 hi;have:=SX.it h hc t ht;have e1:L.getD t 0=i:=by rw[nN,bo ht,e];rfl
 rw[e1] at this;rw[<-this];obtain⟨_,g2,_,g4⟩:=I5 hc;have hk:k<Xs.length:=by rw[<-g2];exact(hc.free _ (xW g4)).1
 exact(SX.wd h hB).fc (Ii _ hk) (Ks _ _ t)
theorem CI.step(h:SX rg l r Xs)(hB:BD Xs){st:St}{k:Nat}{PL:List uo}(hk:k<Xs.length)(hP:PV Xs st k)(hC:CI l Xs st PL):∃lC,CI l Xs (qi Xs st k) lC:=by
 have hW:=SX.wd h hB;unfold qi;cases hm:st.bz k
 .rw[aQ af]
  obtain⟨hc,Cs⟩:=h.walk hB hP hk hm;obtain⟨Z,z1,z2,z3⟩:=SX.rings h hB hc;generalize hL:dI Xs st.bz k=L at*;have iD:=hc.free;have hmk:=marks hc.nd iD;have zin:∀z∈Z,∀s∈z.2,∃i∈L,s=pi l Xs i:=λz hz s hs=>by
   have:s∈(Z.map Prod.snd).flatten:=C4.2 ⟨z.2,bQ.2 ⟨z,hz,rfl⟩,hs⟩;obtain⟨i,hi,e⟩:=bQ.1 (z3.mem_iff.1 this);exact⟨i,hi,e.symm⟩
  have EW:∀z∈Z,∀s∈z.2,Fc (sS (aP l) Xs) (pi l Xs k) s:=λz hz s hs=>by
   obtain⟨i,hi,rfl⟩:=zin z hz s hs;exact SX.Uz h hB hc hi
  have hnd:(Z.map Prod.snd).flatten.Nodup:=by
   refine z3.nodup_iff.2 ?_;refine List.Pairwise.map _ (λa b hab e=>?_) (wz (R:=λa b=>a≠b) (S:=λa b=>a∈L/\b∈L/\a≠b) (λha hb k=>⟨ha,hb,k⟩) hc.nd)
   exact hab.2.2 (SX.EF h (iD a hab.1).1 (iD b hab.2.1).1 e)
  by_cases mf:(cJ Xs L).any (dm Xs)=true
  .rw[aV mf];rw[<-z1,List.any_map] at mf;obtain⟨Z1,z0,Z2,eZ,hs0,kT⟩:=ad3 _ Z mf;have hz0:z0∈Z:=by rw[eZ];simp
   have tD:∀z∈Z2,dm Xs z.1=false:=λz hz=>by
    cases q:dm Xs z.1
    .rfl
    .exfalso;have hzZ:z∈Z:=by rw[eZ];simp[hz]
     have r0:=z2 z0 hz0;have r1:=z2 z hzZ;obtain⟨a,_,ha,_⟩:=nS r0.lr.ring.ne;obtain⟨a',_,ha',_⟩:=nS r1.lr.ring.ne;have ma:a∈z0.2:=wD ha;have ma':a'∈z.2:=wD ha';have e:=r0.lr.one hW r1.lr (r0.sh.1 hs0) (r1.sh.1 q) ha ha' ((EW z0 hz0 a ma).symm.trans (EW z hzZ a' ma'));rw[eZ] at hnd;simp only[jC,ij,VO,yz] at hnd;have hd:=(OV.1 (OV.1 hnd).2.1).2.2;exact hd a ma a (C4.2 ⟨z.2,bQ.2 ⟨z,hz,rfl⟩,by rw[<-e];exact ma⟩) rfl
   have UA:dm Xs z0.1=true:=hs0;have hsh:vO (dm Xs) (cJ Xs L)=z0.1:=by
    rw[<-z1,eZ,jC,ij];exact apr UA λy hy=>by
     obtain⟨z,hz,rfl⟩:=bQ.1 hy;exact tD z hz
   have xL:((cJ Xs L).filter λr=> !dm Xs r)=(Z1++Z2).map Prod.fst:=by
    rw[<-z1,eZ,jC,ij,JQ,wu (by simp[UA])]
    rw[jC];congr 1
    .rw[OD];intro y hy;obtain⟨z,hz,rfl⟩:=bQ.1 hy;have:dm Xs z.1=false:=kT z hz;simp[this]
    .rw[OD];intro y hy;obtain⟨z,hz,rfl⟩:=bQ.1 hy;simp[tD z hz]
   rw[hsh,xL];have ad5:∀z∈Z1++Z2,z∈Z/\dm Xs z.1=false:=λz hz=>by
    rcases dv.1 hz with q|q
    .exact⟨by rw[eZ];simp[q],kT z q⟩
    .exact⟨by rw[eZ];simp[q],tD z q⟩
   refine⟨PL++[(z0,Z1++Z2)],?_,λp hp=>?_,λj hj nB=>?_,?_⟩
   .show st.ps++[_]=_;rw[hC.ps];simp[oI]
   .rcases dv.1 hp with q|q
    .exact hC.ok p q
    .rw[dh.1 q];refine⟨z2 z0 hz0,(z2 z0 hz0).sh.1 UA,λz hz=>?_,λz hz a ha s hs=>?_⟩
     .obtain⟨k1,k2⟩:=ad5 z hz;exact⟨z2 z k1,λw=>by rw[(z2 z k1).sh.2 w] at k2;cases k2⟩
     .exact(EW z0 hz0 a ha).symm.trans (EW z (ad5 z hz).1 s hs)
   .show ∃p,(PL++[(z0,Z1++Z2)])[if L.contains j then st.ps.length else st.ow j]?=some p/\_
    have I6:(st.bz j||L.contains j)=true:=nB
    cases q:L.contains j
    .rw[q,JW] at I6;obtain⟨p,e,hp⟩:=hC.own j hj I6;refine⟨p,?_,hp⟩;rw[aQ af,fI (cG.1 e).1]
     exact e
    .refine⟨(z0,Z1++Z2),?_,λa ha=>(EW z0 hz0 a ha).symm.trans (SX.Uz h hB hc (wC.1 q))⟩
     rw[aV rfl,hC.ps,ia,nJ (aY _)];simp
   .show(ke (PL++[(z0,Z1++Z2)])).Perm (((List.range Xs.length).filter λj=>st.bz j||L.contains j).map (pi l Xs))
    have e1:ke (PL++[(z0,Z1++Z2)])=ke PL++(z0.2++((Z1++Z2).map Prod.snd).flatten):=by simp[ke,xO]
    rw[e1];refine(agU hC.per ?_).trans ((hmk.map _).trans (by rw[jC])).symm
    refine List.Perm.trans ?_ z3;rw[eZ];simp only[jC,ij,VO,yz];rw[<-fH,<-fH];exact List.perm_append_comm.append_right _
  .rw[aQ mf];have hno:∀ring∈cJ Xs L,dm Xs ring=false:=λring hr=>by
    cases q:dm Xs ring
    .rfl
    .exact absurd (Fv.2 ⟨ring,hr,q⟩) mf
   have se:=h.low hB hP hk hm (by rw[hL];exact hno)
   obtain⟨p,ep,I7⟩:=hC.own _ se.2.1 se.2.2;have MT:=SX.apq h hB hc Cs hno;generalize hq:st.ow (jf Xs (xi Xs k).f)=q at*;have mE:st.ps.getD q ([],[])=oI p:=by
    rw[nN,hC.ps,iI,ep];rfl
   have zM:∀a∈p.1.2,Fc (sS (aP l) Xs) a (pi l Xs k):=λa ha=>(I7 a ha).trans MT.symm
   refine⟨PL.set q (p.1,p.2++Z),?_,λp' hp'=>?_,λj hj nB=>?_,?_⟩
   .show st.ps.set q _=_;rw[mE,hC.ps,VZ];congr 1;show((oI p).1,(oI p).2++cJ Xs L)=_;rw[<-z1];unfold oI;simp
   .rcases Wa hp' with w|w
    .exact hC.ok p' w
    .subst w;have hp:=hC.ok p (bT ep);refine⟨hp.shell,hp.Uy,λz hz=>?_,λz hz a ha s hs=>?_⟩
     .rcases dv.1 hz with w|w
      .exact hp.hole z w
      .refine⟨z2 z w,λv=>?_⟩
       have:=(z2 z w).sh.2 v;rw[hno z.1 (by rw[<-z1];exact bQ.2 ⟨z,w,rfl⟩)] at this
       cases this
     .rcases dv.1 hz with w|w
      .exact hp.part z w a ha s hs
      .exact(zM a ha).trans (EW z w s hs)
   .have oF:q<PL.length:=(cG.1 ep).1;show ∃p',(PL.set q (p.1,p.2++Z))[if L.contains j then q else st.ow j]?=some p'/\_
    have I6:(st.bz j||L.contains j)=true:=nB
    cases w:L.contains j
    .rw[w,JW] at I6;obtain⟨p',e',hp'⟩:=hC.own j hj I6;rw[aQ af]
     by_cases EN:st.ow j=q
     .rw[EN] at e'⊢;rw[ep] at e';obtain rfl:p=p':=mO e';exact⟨(p.1,p.2++Z),by rw[sO oF],hp'⟩
     .exact⟨p',by rw[wm (λx=>EN x.symm)];exact e',hp'⟩
    .rw[aV rfl];exact⟨(p.1,p.2++Z),by rw[sO oF],λa ha=>(zM a ha).trans (SX.Uz h hB hc (wC.1 w))⟩
   .show(ke (PL.set q (p.1,p.2++Z))).Perm (((List.range Xs.length).filter λj=>st.bz j||L.contains j).map (pi l Xs))
    refine(aps ep Z).trans ?_;refine(agU hC.per z3).trans ((hmk.map _).trans (by rw[jC])).symm
 .rw[aV rfl];exact⟨PL,hC⟩
theorem SX.ci(h:SX rg l r Xs)(hB:BD Xs):∀k,k<=Xs.length->∃PL,CI l Xs (bG Xs k) PL
 |0,_=>⟨[],rfl,af,λj _ hm=>by simp[bG] at hm,by simp[bG,ke]⟩
 |k+1,hk=>by
  obtain⟨PL,hC⟩:=SX.ci h hB k aa
  rw[Ck];exact CI.step h hB aa (h.pv hB k aa) hC
theorem SX.vL(h:SX rg l r Xs)(hB:BD Xs):∃PL,(bG Xs Xs.length).ps=PL.map oI/\(∀p∈PL,ad2 l Xs p)/\(ke PL).Perm (sS (aP l) Xs):=by
 obtain⟨PL,hC⟩:=SX.ci h hB Xs.length (aY _);refine⟨PL,hC.ps,hC.ok,hC.per.trans ?_⟩;have hP:=h.pv hB Xs.length (aY _);have e:(List.range Xs.length).filter (bG Xs Xs.length).bz=List.range Xs.length:=by
  rw[OD];intro a ha;exact hP.low a (sU.1 ha)
 rw[e];unfold sS;have e2:(List.range Xs.length).map (pi l Xs)=Xs.map (ph (aP l)):=by
  refine Aw af λi h1 h2=>?_
  simp only[agR,List.getElem_range];unfold pi xi;rw[nN,bo (by simpa using h2)]
  rfl
 rw[e2]
end
abbrev NP:=List Nd×List (List Nd)
def ndP(Xs:List PB)(p:Pg):NP:=(Go.Proofs.YtkjhhooecopolaaGreatDoor.fr Xs p.1,p.2.map (Go.Proofs.YtkjhhooecopolaaGreatDoor.fr Xs))
def fin(Xs:List PB):List NP:=(vP Xs (bG Xs Xs.length).ps).map (ndP Xs)
def xX(c:List Nd):List UInt8:=40::(Pl.bI Pl.dH ((c++c.take 1).map Ge.aX)++[41])
def qm(F:List NP):List UInt8:=Cr (F.map λp=>vQ (xX p.1) (p.2.map xX))
theorem NA(Xs:List PB):xV Xs=qm (fin Xs):=by
 unfold xV qm fin Nq;rw[iC];congr 1;refine yE λp _=>?_
 show mU Xs p=vQ (xX (Go.Proofs.YtkjhhooecopolaaGreatDoor.fr Xs p.1)) ((p.2.map (Go.Proofs.YtkjhhooecopolaaGreatDoor.fr Xs)).map xX);unfold mU;rw[iC];rfl
structure Canon(S:List Sg)(nx:Sg->Sg)(l:List Nd)(F:List NP):Prop where
 nd:∀p∈F,(∀n∈p.1,n∈l)/\∀h∈p.2,∀n∈h,n∈l
 c1:∀p∈F,∃R,LR S nx R/\shl R/\p.1.map (PM (aP l))=dE R/\∀h∈p.2,∃H,LR S nx H/\¬shl H/\h.map (PM (aP l))=dE H/\∀a∈R,∀s∈H,Fc S a s
 c2:∀R,LR S nx R->shl R->∃p∈F,p.1.map (PM (aP l))=dE R
 c3:∀H,LR S nx H->¬shl H->∃p∈F,∃h∈p.2,h.map (PM (aP l))=dE H
 s1:F.Pairwise λp q=>gL p.1 q.1<0
 s2:∀p∈F,p.2.Pairwise λa b=>gL a b<0
theorem UB{α:Type}{lt:α->α->Prop}(Ct:∀x,¬lt x x)(oh:∀x y,lt x y->¬lt y x):∀{A B:List α},A.Pairwise lt->B.Pairwise lt->(∀x,x∈A↔x∈B)->A=B
 |[],[],_,_,_=>rfl
 |[],b::B,_,_,h=>by have:=(h b).2 af;simp at this
 |a::A,[],_,_,h=>by have:=(h a).1 af;simp at this
 |a::A,b::B,hA,hB,h=>by
  obtain⟨a1,a2⟩:=ik.1 hA;obtain⟨b1,b2⟩:=ik.1 hB;have e:a=b:=by
   rcases bU.1 ((h a).1 af) with q|q
   .exact q
   .rcases bU.1 ((h b).2 af) with w|w
    .exact w.symm
    .exact absurd (a1 b w) (oh _ _ (b1 a q))
  subst e;congr 1;refine UB Ct oh a2 b2 λx=>?_
  constructor
  .intro hx;rcases bU.1 ((h x).1 (bX _ hx)) with q|q
   .exact absurd (a1 x hx) (by rw[q];exact Ct _)
   .exact q
  .intro hx;rcases bU.1 ((h x).2 (bX _ hx)) with q|q
   .exact absurd (b1 x hx) (by rw[q];exact Ct _)
   .exact q
theorem UC{α β:Type}{k:α->β}{lt:β->β->Prop}(Ct:∀x,¬lt x x):∀{A:List α},A.Pairwise (λx y=>lt (k x) (k y))->∀{x y},x∈A->y∈A->k x=k y->x=y
 |[],_,_,_,h,_,_=>by simp at h
 |a::A,hA,x,y,hx,hy,e=>by
  obtain⟨a1,a2⟩:=ik.1 hA;rcases bU.1 hx with q|q<;>rcases bU.1 hy with w|w
  .rw[q,w]
  .have:=a1 y w;rw[<-q,e] at this;exact absurd this (Ct _)
  .have:=a1 x q;rw[<-w,e] at this;exact absurd this (Ct _)
  .exact UC Ct a2 q w e
theorem NB(r:List Nd):¬gL r r<0:=by rw[Nj];omega
section
variable{es:List (Pt×Pt)}{l:List Nd}{S:List Sg}{nx:Sg->Sg}
theorem ND(hN:cS es l):∀{a b:List Nd},(∀n∈a,n∈l)->(∀n∈b,n∈l)->a.map (PM (aP l))=b.map (PM (aP l))->a=b
 |[],[],_,_,_=>rfl
 |[],_::_,_,_,h=>by simp at h
 |_::_,[],_,_,h=>by simp at h
 |a::A,b::B,ha,hb,h=>by
  rw[ij,ij] at h;injection h with h1 h2;rw[qX hN (ha a af) (hb b af) h1,ND hN (λn hn=>ha n (by simp[hn])) (λn hn=>hb n (by simp[hn])) h2]
theorem ad7(hN:cS es l){a b:List Nd}(ha:∀n∈a,n∈l)(hb:∀n∈b,n∈l)(h:gL a b<0):¬gL b a<0:=λk=>by
 have:=Nl a b a (λn hn=>hN.can n (ha n hn)) (λn hn=>hN.can n (hb n hn)) (λn hn=>hN.can n (ha n hn)) h k
 rw[Nj] at this;omega
theorem Canon.eq(h:Wd S nx)(hN:cS es l){F F':List NP}(c:Canon S nx l F)(c':Canon S nx l F'):F=F':=by
 have half:∀{F F':List NP},Canon S nx l F->Canon S nx l F'->∀p∈F,∃p'∈F',p'.1=p.1/\∀x∈p.2,x∈p'.2:=by
  intro F F' c c' p hp;obtain⟨R,r1,r2,r3,r4⟩:=c.c1 p hp;obtain⟨p',hp',e'⟩:=c'.c2 R r1 r2;have k1:p'.1=p.1:=ND hN (c'.nd p' hp').1 (c.nd p hp).1 (e'.trans r3.symm);refine⟨p',hp',k1,λx hx=>?_⟩
  obtain⟨H,h1,h2,h3,h4⟩:=r4 x hx;obtain⟨p'',NF,y,hy,ey⟩:=c'.c3 H h1 h2;have exy:y=x:=ND hN ((c'.nd p'' NF).2 y hy) ((c.nd p hp).2 x hx) (ey.trans h3.symm);obtain⟨R'',s1,s2,s3,s4⟩:=c'.c1 p'' NF;obtain⟨H'',t1,t2,t3,t4⟩:=s4 y hy;have eH:H''=H:=t1.PK h h1 (t3.symm.trans ey);rw[eH] at t4;obtain⟨a,_,ha,_⟩:=nS r1.ring.ne;obtain⟨a'',_,ad8,_⟩:=nS s1.ring.ne;obtain⟨b,_,hb,_⟩:=nS h1.ring.ne;have eR:R=R'':=r1.one h s1 r2 s2 ha ad8 ((h4 a (wD ha) b (wD hb)).trans (t4 a'' (wD ad8) b (wD hb)).symm);have k2:p''.1=p'.1:=ND hN (c'.nd p'' NF).1 (c'.nd p' hp').1 (by rw[s3,e',eR])
  have k3:p''=p':=UC (k:=Prod.fst) (lt:=λa b=>gL a b<0) NB c'.s1 NF hp' k2
  rw[<-k3,<-exy];exact hy
 have full:∀{F F':List NP},Canon S nx l F->Canon S nx l F'->∀p∈F,p∈F':=by
  intro F F' c c' p hp;obtain⟨p',hp',e1,e2⟩:=half c c' p hp;obtain⟨q,hq,f1,f2⟩:=half c' c p' hp';have:q=p:=UC (k:=Prod.fst) (lt:=λa b=>gL a b<0) NB c.s1 hq hp (f1.trans e1)
  rw[this] at f2;have eh:p.2=p'.2:=by
   have hin:∀x∈p.2,∀n∈x,n∈l:=λx hx=>(c.nd p hp).2 x hx
   have hin':∀x∈p'.2,∀n∈x,n∈l:=λx hx=>(c'.nd p' hp').2 x hx
   refine UB (lt:=λa b=>(∀n∈a,n∈l)/\(∀n∈b,n∈l)/\gL a b<0) (λx k=>NB x k.2.2) (λx y k k2=>ad7 hN k.1 k.2.1 k.2.2 k2.2.2) ?_ ?_ λx=>⟨e2 x,f2 x⟩
   .exact wz (λha hb k=>⟨hin _ ha,hin _ hb,k⟩) (c.s2 p hp)
   .exact wz (λha hb k=>⟨hin' _ ha,hin' _ hb,k⟩) (c'.s2 p' hp')
  have:p=p':=eB e1.symm eh;rw[this];exact hp'
 have hin:∀{F:List NP},Canon S nx l F->F.Pairwise (λp q=>(∀n∈p.1,n∈l)/\(∀n∈q.1,n∈l)/\gL p.1 q.1<0):=λc=>wz (λha hb k=>⟨(c.nd _ ha).1,(c.nd _ hb).1,k⟩) c.s1
 exact UB (lt:=λp q:NP=>(∀n∈p.1,n∈l)/\(∀n∈q.1,n∈l)/\gL p.1 q.1<0) (λx k=>NB x.1 k.2.2) (λx y k k2=>ad7 hN k.1 k.2.1 k.2.2 k2.2.2) (hin c) (hin c') λx=>⟨full c c' x,full c' c x⟩
variable{S':List Sg}{nx':Sg->Sg}
theorem apx{a x y:Pt}(ha:a≠(0,0))(hx:x≠(0,0))(hy:y≠(0,0))(h1:bh x a=false)(h2:bh y a=false)(h3:bh x y=false):cw a x y=true\/cw a y x=true:=by
 have t1:=js hx ha;have t2:=js hy ha;have t3:=js hx hy;rw[h1] at t1;rw[h2] at t2;rw[h3] at t3;rw[nR,nR];cases a1:bf x a<;>cases a2:bf a x<;>rw[a1,a2] at t1<;>simp[bb] at t1<;>cases b1:bf y a<;>cases b2:bf a y<;>rw[b1,b2] at t2<;>simp[bb] at t2<;>cases c1:bf x y<;>cases c2:bf y x<;>rw[c1,c2] at t3<;>simp[bb] at t3<;>simp
theorem apy(h:Wd S nx)(h':Wd S' nx')(hS:∀s,s∈S↔s∈S'){s:Sg}(hs:s∈S):nx s=nx' s:=by
 obtain⟨a1,a2⟩:=h.Dj s hs;obtain⟨b1,b2⟩:=h'.Dj s ((hS s).1 hs);have sA:=(hS _).2 b1;have k1:=h.w1 s hs _ sA b2;have k2:=h'.w1 s ((hS s).1 hs) _ ((hS _).1 a1) a2;cases q:bh (dr (nx s)) (dr (nx' s))
 .rcases apx (kR (h.iK hs)) (h.iK a1) (h.iK sA) (h.two _ a1 _ hs a2) (h.two _ sA _ hs b2) q with w|w
  .rw[k2] at w;cases w
  .rw[k1] at w;cases w
 .exact h.one _ a1 _ sA (a2.trans b2.symm) q
theorem UD(h:Wd S nx)(h':Wd S' nx')(hS:∀s,s∈S↔s∈S'){s:Sg}(hs:s∈S):∀k,it nx k s=it nx' k s
 |0=>rfl
 |k+1=>by
  show nx (it nx k s)=nx' (it nx' k s);rw[<-UD h h' hS hs k];exact apy h h' hS (h.pM hs k)
theorem LR.same(h:Wd S nx)(h':Wd S' nx')(hS:∀s,s∈S↔s∈S'){R:List Sg}(k:LR S nx R):LR S' nx' R:=by
 have rD:∀{s t},t∈S->AO nx s t->AO nx' s t:=by
  rintro s t ht ⟨e,n,e1,e2⟩;refine⟨e,n,by rw[<-UD h h' hS ht];exact e1,λj j1 j2=>?_⟩
  rw[<-UD h h' hS ht];exact e2 j j1 j2
 refine⟨⟨k.ring.ne,λs hs=>(hS s).1 (k.ring.mem s hs),k.ring.qB,λi s t hs ht=>rD (k.ring.mem t (bT ht)) (k.ring.rD i s t hs ht),λs t hs ht=>rD (k.ring.mem t (wD ht)) (k.ring.cls s t hs ht)⟩,k.least⟩
theorem Fc.same(hS:∀s,s∈S↔s∈S'){s u:Sg}(k:Fc S s u):Fc S' s u:=λes hc hi=>k es hc λe he=>by
 rcases hi e he with q|q
 .exact aU ((hS _).2 q)
 .exact aT ((hS _).2 q)
theorem Canon.same(h:Wd S nx)(h':Wd S' nx')(hS:∀s,s∈S↔s∈S'){F:List NP}(c:Canon S nx l F):Canon S' nx' l F:=by
 have bZ:∀s,s∈S'↔s∈S:=λs=>(hS s).symm
 refine⟨c.nd,λp hp=>?_,λR hR=>c.c2 R (hR.same h' h bZ),λH hH=>c.c3 H (hH.same h' h bZ),c.s1,c.s2⟩
 obtain⟨R,r1,r2,r3,r4⟩:=c.c1 p hp;refine⟨R,r1.same h h' hS,r2,r3,λx hx=>?_⟩
 obtain⟨H,h1,h2,h3,h4⟩:=r4 x hx;exact⟨H,h1.same h h' hS,h2,h3,λa ha s hs=>(h4 a ha s hs).same hS⟩
end
theorem I8{β:Type}(cf:β->β->Int)(L:List β)(hO:Sort.SWO (ltOf λi j:Fin L.length=>cf L[i] L[j])):(jN cf L).Perm L/\(jN cf L).Pairwise (λx y=>¬cf y x<0):=by
 unfold jN;by_cases h:0<L.length
 .rw[yG h];obtain⟨hd,p3,p4⟩:=Ul _ hO h;refine⟨?_,?_⟩
  .have k:=p3.map (λi:Fin L.length=>L[i])
   have e3:(Array.ofFn (id:Fin L.length->Fin L.length)).toList.map (λi:Fin L.length=>L[i])=L:=by
    apply Aw
    .simp
    .intro i h1 h2;simp
   rw[e3] at k;exact k
  .rw[oL,mn];intro i j hi hj hij;exact p4 i j (by simpa using hi) (by simpa using hj) hij
 .rw[Fy h];have:L=[]:=iU.1 aa
  subst this;exact⟨JU _,List.Pairwise.nil⟩
section
variable{rg:List (List Pt)}{l:List Nd}{r:Int}{Xs:List PB}
theorem Rel.nodes(h:SX rg l r Xs){q:List Nat}(hq:∀a∈q,a<Xs.length):∀n∈Go.Proofs.YtkjhhooecopolaaGreatDoor.fr Xs q,n∈l:=λn hn=>by
 obtain⟨a,ha,rfl⟩:=bQ.1 hn;exact(SX.rf h (hq a ha)).1
theorem SX.canon(h:SX rg l r Xs)(hB:BD Xs):Canon (sS (aP l) Xs) (jZ (aP l) Xs) l (fin Xs):=by
 have hW:=SX.wd h hB;obtain⟨PL,e1,hok,EX⟩:=SX.vL h hB;have xY:=h.pn hB Xs.length (aY _);have apz:(sS (aP l) Xs).Nodup:=by
  unfold sS;rw[List.Nodup,oL,mn];intro i j hi hj hij e;have gx:∀{i:Nat}(hi:i<Xs.length),xi Xs i=Xs[i]:=λhi=>vB (bo hi)
  have:=SX.EF h hi hj (by rw[gx hi,gx hj];exact e)
  omega
 have hnd:(ke PL).Nodup:=EX.nodup_iff.2 apz;obtain⟨nd1,nd2⟩:=asG.1 hnd;rw[oL] at nd2;have apB:∀p∈PL,(xO p).Nodup:=λp hp=>nd1 _ (bQ.2 ⟨p,hp,rfl⟩)
 have xZ:∀p∈PL,(∀a∈p.1.1,a<Xs.length)/\∀z∈p.2,∀a∈z.1,a<Xs.length:=λp hp=>by
  have:=xY (oI p) (by rw[e1];exact bQ.2 ⟨p,hp,rfl⟩)
  exact⟨this.1.lt,λz hz=>(this.2 z.1 (bQ.2 ⟨z,hz,rfl⟩)).lt⟩
 have can:∀q:List Nat,(∀a∈q,a<Xs.length)->∀n∈Go.Proofs.YtkjhhooecopolaaGreatDoor.fr Xs q,Ge.Can n:=λq hq n hn=>h.nl.can n (Rel.nodes h hq n hn)
 have hole:∀p∈PL,(jN (sy Xs) (p.2.map Prod.fst)).Perm (p.2.map Prod.fst)/\((jN (sy Xs) (p.2.map Prod.fst)).map (Go.Proofs.YtkjhhooecopolaaGreatDoor.fr Xs)).Pairwise λa b=>gL a b<0:=λp hp=>by
  obtain⟨s1,s2⟩:=I8 (sy Xs) (p.2.map Prod.fst) (xQ (λi:Fin (p.2.map Prod.fst).length=>Go.Proofs.YtkjhhooecopolaaGreatDoor.fr Xs (p.2.map Prod.fst)[i]) λi a ha=>by
   have hm:(p.2.map Prod.fst)[i]∈p.2.map Prod.fst:=gZ _;obtain⟨z,hz,e⟩:=bQ.1 hm;have ha':a∈Go.Proofs.YtkjhhooecopolaaGreatDoor.fr Xs (p.2.map Prod.fst)[i]:=ha;rw[<-e] at ha';exact can z.1 ((xZ p hp).2 z hz) a ha')
  refine⟨s1,?_⟩;have hk:(p.2.map λz=>Go.Proofs.YtkjhhooecopolaaGreatDoor.fr Xs z.1).Nodup:=by
   have hd:=(OV.1 (apB p hp)).2.1;obtain⟨_,d2⟩:=asG.1 hd;rw[oL] at d2;rw[List.Nodup,oL];refine wz (λ{z w} hz hw k e=>?_) d2
   have rz:=((hok p hp).hole z hz).1;have I9:=((hok p hp).hole w hw).1;have ee:=rz.lr.PK hW I9.lr (by rw[<-rz.dE,<-I9.dE,e])
   obtain⟨a,_,ha,_⟩:=nS rz.lr.ring.ne;have ma:=wD ha;exact k a ma a (by rw[<-ee];exact ma) rfl
  have hk2:((jN (sy Xs) (p.2.map Prod.fst)).map (Go.Proofs.YtkjhhooecopolaaGreatDoor.fr Xs)).Nodup:=by
   refine((s1.map (Go.Proofs.YtkjhhooecopolaaGreatDoor.fr Xs)).nodup_iff).2 ?_;rw[iC];exact hk
  rw[oL];rw[List.Nodup,oL] at hk2;refine wz (λ{x y} hx hy k=>?_) (s2.and hk2)
  have mem:∀x∈jN (sy Xs) (p.2.map Prod.fst),∀n∈Go.Proofs.YtkjhhooecopolaaGreatDoor.fr Xs x,Ge.Can n:=λx hx=>by
   obtain⟨z,hz,rfl⟩:=bQ.1 (s1.mem_iff.1 hx);exact can z.1 ((xZ p hp).2 z hz)
  rcases Nk (Go.Proofs.YtkjhhooecopolaaGreatDoor.fr Xs x) (Go.Proofs.YtkjhhooecopolaaGreatDoor.fr Xs y) (mem x hx) (mem y hy) with q|q|q
  .exact q
  .exact absurd q k.1
  .exact absurd q k.2
 have hsw:Sort.SWO (ltOf λi j:Fin ((bG Xs Xs.length).ps.map (eA Xs)).length=>oH Xs ((bG Xs Xs.length).ps.map (eA Xs))[i] ((bG Xs Xs.length).ps.map (eA Xs))[j]):=
  xQ (λi:Fin ((bG Xs Xs.length).ps.map (eA Xs)).length=>Go.Proofs.YtkjhhooecopolaaGreatDoor.fr Xs ((bG Xs Xs.length).ps.map (eA Xs))[i].1) λi a ha=>by
   have hm:((bG Xs Xs.length).ps.map (eA Xs))[i]∈(bG Xs Xs.length).ps.map (eA Xs):=gZ _;obtain⟨g,hg,eg⟩:=bQ.1 hm;have hg':g∈PL.map oI:=by rw[<-e1];exact hg
   obtain⟨p,hp,rfl⟩:=bQ.1 hg';have ha':a∈Go.Proofs.YtkjhhooecopolaaGreatDoor.fr Xs ((bG Xs Xs.length).ps.map (eA Xs))[i].1:=ha;have e2:((bG Xs Xs.length).ps.map (eA Xs))[i].1=p.1.1:=by rw[<-eg];rfl
   rw[e2] at ha';exact can p.1.1 (xZ p hp).1 a ha'
 obtain⟨t1,t2⟩:=I8 (oH Xs) ((bG Xs Xs.length).ps.map (eA Xs)) hsw;have hmem:∀x,x∈fin Xs↔∃p∈PL,x=(Go.Proofs.YtkjhhooecopolaaGreatDoor.fr Xs p.1.1,(jN (sy Xs) (p.2.map Prod.fst)).map (Go.Proofs.YtkjhhooecopolaaGreatDoor.fr Xs)):=λx=>by
  unfold fin vP;rw[bQ];constructor
  .rintro⟨g,hg,rfl⟩;have:=t1.mem_iff.1 hg;rw[e1,iC] at this;obtain⟨p,hp,rfl⟩:=bQ.1 this;exact⟨p,hp,rfl⟩
  .rintro⟨p,hp,rfl⟩;refine⟨eA Xs (oI p),t1.mem_iff.2 ?_,rfl⟩;rw[e1,iC];exact bQ.2 ⟨p,hp,rfl⟩
 have find:∀R,LR (sS (aP l) Xs) (jZ (aP l) Xs) R->∃p∈PL,p.1.2=R\/∃z∈p.2,z.2=R:=λR hR=>by
  obtain⟨a,_,ha,_⟩:=nS hR.ring.ne;have ma:=wD ha;obtain⟨L,hL,TH⟩:=C4.1 (EX.mem_iff.2 (hR.ring.mem a ma));obtain⟨p,hp,rfl⟩:=bQ.1 hL;rcases dv.1 TH with q|q
  .exact⟨p,hp,aU ((hok p hp).shell.lr.eq hW hR q ma)⟩
  .obtain⟨H,hH,haH⟩:=C4.1 q;obtain⟨z,hz,rfl⟩:=bQ.1 hH;exact⟨p,hp,aT ⟨z,hz,((hok p hp).hole z hz).1.lr.eq hW hR haH ma⟩⟩
 refine⟨λx hx=>?_,λx hx=>?_,λR hR hs=>?_,λH hH hs=>?_,?_,λx hx=>?_⟩
 .obtain⟨p,hp,rfl⟩:=(hmem x).1 hx;refine⟨Rel.nodes h (xZ p hp).1,λy hy=>?_⟩
  obtain⟨q,hq,rfl⟩:=bQ.1 hy;obtain⟨z,hz,rfl⟩:=bQ.1 ((hole p hp).1.mem_iff.1 hq);exact Rel.nodes h ((xZ p hp).2 z hz)
 .obtain⟨p,hp,rfl⟩:=(hmem x).1 hx;have ok:=hok p hp;refine⟨p.1.2,ok.shell.lr,ok.Uy,ok.shell.dE,λy hy=>?_⟩
  obtain⟨q,hq,rfl⟩:=bQ.1 hy;obtain⟨z,hz,rfl⟩:=bQ.1 ((hole p hp).1.mem_iff.1 hq);exact⟨z.2,(ok.hole z hz).1.lr,(ok.hole z hz).2,(ok.hole z hz).1.dE,ok.part z hz⟩
 .obtain⟨p,hp,q|⟨z,hz,q⟩⟩:=find R hR
  .exact⟨_,(hmem _).2 ⟨p,hp,rfl⟩,by rw[<-q];exact(hok p hp).shell.dE⟩
  .rw[<-q] at hs;exact absurd hs ((hok p hp).hole z hz).2
 .obtain⟨p,hp,q|⟨z,hz,q⟩⟩:=find H hH
  .rw[<-q] at hs;exact absurd (hok p hp).Uy hs
  .exact⟨_,(hmem _).2 ⟨p,hp,rfl⟩,Go.Proofs.YtkjhhooecopolaaGreatDoor.fr Xs z.1,bQ.2 ⟨z.1,(hole p hp).1.mem_iff.2 (bQ.2 ⟨z,hz,rfl⟩),rfl⟩,by rw[<-q];exact((hok p hp).hole z hz).1.dE⟩
 .unfold fin vP;rw[oL];have hk:((bG Xs Xs.length).ps.map (eA Xs)).Pairwise λa b=>Go.Proofs.YtkjhhooecopolaaGreatDoor.fr Xs a.1≠Go.Proofs.YtkjhhooecopolaaGreatDoor.fr Xs b.1:=by
   rw[e1,iC,oL];refine wz (λ{p q} hp hq k e=>?_) nd2
   have rz:=(hok p hp).shell;have I9:=(hok q hq).shell;have e':Go.Proofs.YtkjhhooecopolaaGreatDoor.fr Xs p.1.1=Go.Proofs.YtkjhhooecopolaaGreatDoor.fr Xs q.1.1:=e;have ee:=rz.lr.PK hW I9.lr (by rw[<-rz.dE,<-I9.dE,e'])
   obtain⟨a,_,ha,_⟩:=nS rz.lr.ring.ne;have ma:=wD ha;exact k a (vX _ ma) a (vX _ (by rw[<-ee];exact ma)) rfl
  have hk2:(jN (oH Xs) ((bG Xs Xs.length).ps.map (eA Xs))).Pairwise λa b=>Go.Proofs.YtkjhhooecopolaaGreatDoor.fr Xs a.1≠Go.Proofs.YtkjhhooecopolaaGreatDoor.fr Xs b.1:=t1.symm.pairwise hk (λk e=>k e.symm)
  refine wz (λ{x y} hx hy k=>?_) (t2.and hk2)
  have mem:∀x∈jN (oH Xs) ((bG Xs Xs.length).ps.map (eA Xs)),∀n∈Go.Proofs.YtkjhhooecopolaaGreatDoor.fr Xs x.1,Ge.Can n:=λx hx=>by
   have:=t1.mem_iff.1 hx;rw[e1,iC] at this;obtain⟨p,hp,rfl⟩:=bQ.1 this;exact can p.1.1 (xZ p hp).1
  rcases Nk (Go.Proofs.YtkjhhooecopolaaGreatDoor.fr Xs x.1) (Go.Proofs.YtkjhhooecopolaaGreatDoor.fr Xs y.1) (mem x hx) (mem y hy) with q|q|q
  .exact q
  .exact absurd q k.1
  .exact absurd q k.2
 .obtain⟨p,hp,rfl⟩:=(hmem x).1 hx;exact(hole p hp).2
theorem apD{DG:List (List Pt)}{r':Int}{Ja:List PB}(h:SX rg l r Xs)(hB:BD Xs)(h':SX DG l r' Ja)(hB':BD Ja)(hs:∀a b,Sd (aR rg) l (takes r) a b↔Sd (aR DG) l (takes r') a b):xV Xs=xV Ja:=by
 have hW:=SX.wd h hB;have hW':=SX.wd h' hB';have hS:∀s,s∈sS (aP l) Xs↔s∈sS (aP l) Ja:=λs=>by
  unfold sS;rw[bQ,bQ];constructor
  .rintro⟨x,hx,rfl⟩;obtain⟨y,hy,e1,e2⟩:=h'.all _ _ ((hs _ _).1 (h.mem x hx));exact⟨y,hy,by unfold ph;rw[e1,e2]⟩
  .rintro⟨x,hx,rfl⟩;obtain⟨y,hy,e1,e2⟩:=h.all _ _ ((hs _ _).2 (h'.mem x hx));exact⟨y,hy,by unfold ph;rw[e1,e2]⟩
 rw[NA,NA,((SX.canon h hB).same hW hW' hS).eq hW' h'.nl (SX.canon h' hB')]
end
theorem apE{α:Type}{lt:α->α->Bool}(ht:∀x y z,lt x y=true->lt y z=true->lt x z=true)(hi:∀x,lt x x=false)(hw:∀x y z,lt x y=true->lt z y=true\/lt x z=true)(w:α->Int)(χ:Int->Int)(h0:χ 0=0)(L E S:List α)(hE:∀z∈E,z∈L)(hS:∀z∈S,z∈L)
  (hL:∀z∈L,cU w (λy=> !lt y z&& !lt z y) S=χ (cU w (λy=>lt y z) E+cU w (λy=> !lt y z&& !lt z y) E)-χ (cU w (λy=>lt y z) E)):
  ∀(m:Nat)(T:α->Bool),(∀x y,T y=true->lt y x=false->T x=true)->L.countP T<=m->cU w T S=χ (cU w T E):=by
 have asym:∀a b,lt a b=true->lt b a=false:=λa b h1=>by
  cases h2:lt b a
  .rfl
  .have:=ht a b a h1 h2;rw[hi] at this;cases this
 intro m;induction m with
 |zero=>
  intro T hT hc;have hn:∀x∈L,T x=false:=λx hx=>by
   cases hk:T x
   .rfl
   .have:=JF.2 ⟨x,hx,hk⟩;omega
  rw[BJ w λx hx=>hn x (hS x hx),BJ w λx hx=>hn x (hE x hx),h0]
 |succ m ih=>
  intro T hT hc;by_cases hb:∀x∈L,T x=false
  .rw[BJ w λx hx=>hb x (hS x hx),BJ w λx hx=>hb x (hE x hx),h0]
  .have hb':∃x∈L,T x=true:=by
    apply mj;intro hk;apply hb;intro x hx;cases h:T x
    .rfl
    .exact absurd ⟨x,hx,h⟩ hk
   obtain⟨x,hx,Sh⟩:=hb';obtain⟨z,hz,nr,hmax⟩:=Mt ht hi T L _ x hx Sh (aY _);have e:∀l:List α,(∀y∈l,y∈L)->cU w T l=cU w (λy=>lt y z) l+cU w (λy=> !lt y z&& !lt z y) l:=λl hl=>xA w λy hy=>by
    cases hy1:lt y z
    .cases hy2:lt z y
     .have:T y=true:=hT y z nr hy2;rw[this];rfl
     .have:T y=false:=by
       cases hk:T y
       .rfl
       .rw[hmax y (hl y hy) hk] at hy2;cases hy2
      rw[this];rfl
    .have:T y=true:=hT y z nr (asym y z hy1);rw[this];rfl
   have hlt:L.countP (λy=>lt y z)<L.countP T:=yL L (λy _ hy=>hT y z nr (asym y z hy)) ⟨z,hz,nr,hi z⟩
   have k:=ih (λy=>lt y z) (λa b hb hab=>by
    rcases hw b z a hb with k|k
    .exact k
    .rw[hab] at k;cases k) aa
   rw[e S hS,e E hE,k,hL z hz];omega
theorem UE(p:Sg):∀{S:List Sg},S.Nodup->total (λu v=>bb (decide ((u,v)=p))) S=bb (decide (p∈S))
 |[],_=>rfl
 |s::S,h=>by
  obtain⟨h1,h2⟩:=JV.1 h;rw[fJ,UE p h2];by_cases e:s=p
  .subst e;rw[dO (show(s.1,s.2)=s from rfl),fY h1,dO (by simp:s∈s::S)]
   rfl
  .have e1:decide ((s.1,s.2)=p)=false:=fY e;have e2:decide (p∈s::S)=decide (p∈S):=by
    refine decide_eq_decide.2 ?_;rw[bU];exact⟨λk=>k.resolve_left λq=>e q.symm,aT⟩
   rw[e1,e2];simp[bb]
theorem Cl.flat:∀{Ls:List (List Sg)},(∀L∈Ls,Cl L)->Cl Ls.flatten
 |[],_=>Cl.nil
 |L::Ls,h=>by
  rw[yz];exact(h L af).append (Cl.flat λx hx=>h x (bX _ hx))
theorem Jb{α:Type}(w:α->Int)(p:α->Bool)(l:List α):cU w p (l.filter λx=>decide (w x≠0))=cU w p l:=by
 rw[Ij];exact SS w λx _ hx=>by rw[dO hx];rfl
section
variable{rg:List (List Pt)}{l:List Nd}{r:Int}{Xs:List PB}
theorem SX.nodup(h:SX rg l r Xs):(sS (aP l) Xs).Nodup:=by
 unfold sS;rw[List.Nodup,oL,mn];intro i j hi hj hij e;have gx:∀{i:Nat}(hi:i<Xs.length),xi Xs i=Xs[i]:=λhi=>vB (bo hi)
 have:=SX.EF h hi hj (by rw[gx hi,gx hj];exact e)
 omega
theorem SX.NG(h:SX rg l r Xs){s:Sg}:s∈sS (aP l) Xs↔∃a b,Sd (aR rg) l (takes r) a b/\s=(PM (aP l) a,PM (aP l) b):=by
 unfold sS;rw[bQ];constructor
 .rintro⟨x,hx,rfl⟩;exact⟨x.f,x.t,h.mem x hx,rfl⟩
 .rintro⟨a,b,hs,rfl⟩;obtain⟨x,hx,e1,e2⟩:=h.all a b hs;exact⟨x,hx,by unfold ph;rw[e1,e2]⟩
theorem SX.apF(h:SX rg l r Xs){f t:Nd}(hp:dF (aR rg) l f t\/dF (aR rg) l t f):Ga.AS (sS (aP l) Xs) (n1 (PM (aP l) f)) (λz=>bh z (dr (PM (aP l) f,PM (aP l) t)))=bb (decide ((PM (aP l) f,PM (aP l) t)∈sS (aP l) Xs))-bb (decide ((PM (aP l) t,PM (aP l) f)∈sS (aP l) Xs)):=by
 have hN:=h.nl;obtain⟨hM,hO⟩:=cS.ok hN;obtain⟨hne,hf,ht⟩:=gS hN hp;have NH:PM (aP l) f≠PM (aP l) t:=λe=>hne (by
  have:=qX hN hf ht e;rw[this];unfold wv;exact eB af af)
 rw[<-UE _ (SX.nodup h),<-UE _ (SX.nodup h),<-FK];unfold Ga.AS;refine nO λs hs=>?_
 obtain⟨a,b,vA,rfl⟩:=(SX.NG h).1 hs;obtain⟨hab,ha,hb⟩:=gS hN vA.pc;have q0:bh (0,0) (dr (PM (aP l) f,PM (aP l) t))=false:=AE _;by_cases ho:on (dr (PM (aP l) f,PM (aP l) a)) (dr (PM (aP l) f,PM (aP l) b))=true
 .rcases SN hN hf vA.pc ho with e|e
  .subst e;rw[Px (s:=(PM (aP l) f,PM (aP l) b)) rfl,q0];have e2:decide ((PM (aP l) f,PM (aP l) b)=(PM (aP l) t,PM (aP l) f))=false:=fY λq=>NH (aZ Prod.fst q)
   have e3:bh (dr (PM (aP l) f,PM (aP l) b)) (dr (PM (aP l) f,PM (aP l) t))=decide ((PM (aP l) f,PM (aP l) b)=(PM (aP l) f,PM (aP l) t)):=by
    cases q:bh (dr (PM (aP l) f,PM (aP l) b)) (dr (PM (aP l) f,PM (aP l) t))
    .refine(fY λw=>?_).symm
     rw[w,tB λz=>NH (mQ.1 z)] at q
     cases q
    .rw[Pm.bh (iP hM (hO f hf) (hO b hb)) (iP hM (hO f hf) (hO t ht))] at q;rw[BH hN vA.pc hp q];exact(dO rfl).symm
   simp only[e2,e3]
  .subst e;rw[Pw (s:=(PM (aP l) a,PM (aP l) f)) rfl,q0];have e2:decide ((PM (aP l) a,PM (aP l) f)=(PM (aP l) f,PM (aP l) t))=false:=fY λq=>NH (aZ Prod.snd q)
   have e4:neg (dr (PM (aP l) a,PM (aP l) f))=dr (PM (aP l) f,PM (aP l) a):=(wI (PM (aP l) a,PM (aP l) f)).symm;have e3:bh (neg (dr (PM (aP l) a,PM (aP l) f))) (dr (PM (aP l) f,PM (aP l) t))=decide ((PM (aP l) a,PM (aP l) f)=(PM (aP l) t,PM (aP l) f)):=by
    rw[e4];cases q:bh (dr (PM (aP l) f,PM (aP l) a)) (dr (PM (aP l) f,PM (aP l) t))
    .refine(fY λw=>?_).symm
     have w':PM (aP l) a=PM (aP l) t:=aZ Prod.fst w;rw[w',tB λz=>NH (mQ.1 z)] at q
     cases q
    .rw[Pm.bh (iP hM (hO f hf) (hO a ha)) (iP hM (hO f hf) (hO t ht))] at q;rw[BH hN vA.pc.symm hp q];exact(dO rfl).symm
   simp only[e2,e3]
 .have ho':on (rl (n1 (PM (aP l) f)) (PM (aP l) a)) (rl (n1 (PM (aP l) f)) (PM (aP l) b))=false:=by
   rw[fk,fk];exact Bool.eq_false_iff.2 ho
  have e1:decide ((PM (aP l) a,PM (aP l) b)=(PM (aP l) f,PM (aP l) t))=false:=fY λq=>ho (by
   have q':PM (aP l) a=PM (aP l) f:=aZ Prod.fst q;rw[q'];exact nP _ _ (aU (mQ.2 rfl)))
  have e2:decide ((PM (aP l) a,PM (aP l) b)=(PM (aP l) t,PM (aP l) f))=false:=fY λq=>ho (by
   have q':PM (aP l) b=PM (aP l) f:=aZ Prod.snd q;rw[q'];exact nP _ _ (aT (mQ.2 rfl)))
  unfold Ga.arm;simp only[ho',e1,e2];rfl
theorem SX.chain(h:SX rg l r Xs)(hB:BD Xs):∃iY,(aR iY).Perm (sS (aP l) Xs):=by
 have hW:=SX.wd h hB;obtain⟨PL,_,hok,EX⟩:=SX.vL h hB;have:Cl (ke PL):=Cl.flat λL hL=>by
  obtain⟨p,hp,rfl⟩:=bQ.1 hL;refine((hok p hp).shell.lr.cl hW).1.append (Cl.flat λH hH=>?_)
  obtain⟨z,hz,rfl⟩:=bQ.1 hH;exact(((hok p hp).hole z hz).1.lr.cl hW).1
 obtain⟨iY,e⟩:=this;exact⟨iY,by rw[e];exact EX⟩
theorem SX.oP(h:SX rg l r Xs){iY:List (List Pt)}(hc:(aR iY).Perm (sS (aP l) Xs)){f t:Nd}(hp:dF (aR rg) l f t):uI (aR iY) (n1 (PM (aP l) f)) (n1 (PM (aP l) t)):=by
 have hN:=h.nl;obtain⟨hM,hO⟩:=cS.ok hN;obtain⟨hf,ht,hr⟩:=hp.facts hN;have I7:∀e∈aR iY,Pf (PM (aP l) f,PM (aP l) t) e:=λe he=>by
  obtain⟨a,b,hs,rfl⟩:=(SX.NG h).1 (hc.mem_iff.1 he);exact Sc hM hO hN hp hs.pc
 have hr':bV (dr (PM (aP l) f,PM (aP l) t)):=(iP hM (hO f hf) (hO t ht)).bV.2 hr;exact⟨by show(0:Int)<1;decide,by show(0:Int)<1;decide,by rw[lX];exact hr',λe he=>by rw[lX];exact(I7 e he).fs,λe he=>by rw[lX];exact⟨(I7 e he).c1,(I7 e he).c2⟩⟩
end
def EY(R:List Sg)(s t:Sg):Prop:=(∃k,R[k]?=some s/\R[k+1]?=some t)\/(R.getLast?=some s/\R.head?=some t)
section
variable{S:List Sg}{nx:Sg->Sg}
end
theorem apG{u m v:Pt}:cr u m=cr u (m.1-u.1,m.2-u.2)/\cr u v=cr u (m.1-u.1,m.2-u.2)+cr u (v.1-m.1,v.2-m.2)/\cr m v=cr u (v.1-m.1,v.2-m.2)+cr (m.1-u.1,m.2-u.2) (v.1-m.1,v.2-m.2):=by
 unfold cr;refine⟨?_,?_,?_⟩<;>grind
theorem apH{u m v:Pt}(h:bh (m.1-u.1,m.2-u.2) (v.1-m.1,v.2-m.2)=true):right u m+right m v=right u v:=by
 obtain⟨a1,a2,a3⟩:=apG (u:=u) (m:=m) (v:=v);obtain⟨b1,b2⟩:=xx h u;obtain⟨b3,b4⟩:=xx h (0, -1);have z:=((dP _ _).1 h).1;rw[z] at a3;rw[<-a1] at b1 b2 a2;generalize cr u (v.1-m.1,v.2-m.2)=X at*;have c1:cr (0, -1) (m.1-u.1,m.2-u.2)=m.1-u.1:=by unfold cr;simp
 have c2:cr (0, -1) (v.1-m.1,v.2-m.2)=v.1-m.1:=by unfold cr;simp
 rw[c1,c2] at b3 b4;unfold right;generalize cr u m=k1 at*;generalize cr m v=k2 at*;generalize cr u v=k3 at*;clear z h c1 c2 a1;by_cases p1:u.1<=0/\0<m.1/\0<k1
 .rw[aV p1,aQ aa,aQ aa,aV aa]
  rfl
 .rw[aQ p1];by_cases p2:0<u.1/\m.1<=0/\k1<0
  .rw[aV p2,aQ aa,aQ aa,aQ aa,aV aa]
   rfl
  .rw[aQ p2];by_cases p3:m.1<=0/\0<v.1/\0<k2
   .rw[aV p3,aV aa]
    rfl
   .rw[aQ p3];by_cases p4:0<m.1/\v.1<=0/\k2<0
    .rw[aV p4,aQ aa,aV aa]
     rfl
    .rw[aQ p4,aQ aa,aQ aa]
     rfl
def gp(W:Pt->Bool):Pt->List Sg->Pt->List Sg
 |p,[],e=>[(p,e)]
 |p,s::T,e=>if W s.1 then(p,s.1)::gp W s.1 T e else gp W p T e
def Jc(W:Pt->Bool):Sg->List Sg->Prop
 |_,[]=>True
 |b,s::T=>(W s.1=false->bh (dr b) (dr s)=true)/\Jc W s T
theorem UF{W:Pt->Bool}{F:Pt->Pt->Int}(hF:∀p c e,W c=false->bh (dr (p,c)) (dr (c,e))=true->F p c+F c e=F p e):∀(T:List Sg)(b:Sg)(p c e:Pt),Path c T e->bh (dr (p,c)) (dr b)=true->(∀s∈T,s.1≠s.2)->Jc W b T->total F (gp W p T e)=F p c+total F T
 |[],b,p,c,e,hp,_,_,_=>by
  have:c=e:=hp;subst this;unfold gp;rw[fJ,Az]
 |s::T,b,p,c,e,hp,hd,hn,hs=>by
  obtain⟨e1,hp'⟩:=hp;subst e1;have hn':∀s∈T,s.1≠s.2:=λx hx=>hn x (bX _ hx)
  have ds:dr s≠(0,0):=λq=>hn s af (mQ.1 q)
  unfold gp;cases hW:W s.1
  .have k:=hs.1 hW;have hd2:bh (dr (p,s.1)) (dr s)=true:=Dr hd k;rw[aQ af,UF hF T s p s.2 e hp' (by
    rw[WR p s.1 s.2];exact WQ hd2 (tB ds)) hn' hs.2,fJ,<-hF p s.1 s.2 hW hd2]
   omega
  .rw[aV rfl,fJ,fJ,UF hF T s s.1 s.2 e hp' (tB ds) hn' hs.2]
theorem apI{W:Pt->Bool}{F:Pt->Pt->Int}(hF:∀p c e,W c=false->bh (dr (p,c)) (dr (c,e))=true->F p c+F c e=F p e){a:Sg}{T:List Sg}(hp:Path a.1 (a::T) a.1)(hn:∀s∈a::T,s.1≠s.2)(hs:Jc W a T):total F (gp W a.1 T a.1)=total F (a::T):=by
 rw[UF hF T a a.1 a.2 a.1 hp.2 (tB λq=>hn a af (mQ.1 q)) (λs hs=>hn s (bX _ hs)) hs,fJ]
theorem UG(W:Pt->Bool):∀(T:List Sg)(p e:Pt),gp W p T e=(p::(T.filter λs=>W s.1).map Prod.fst).zip ((T.filter λs=>W s.1).map Prod.fst++[e])
 |[],p,e=>by simp[gp]
 |s::T,p,e=>by
  unfold gp;cases hW:W s.1
  .rw[aQ af,wu (by simp[hW]),UG W T p e]
  .rw[aV rfl,Ax (by simp[hW]),UG W T s.1 e]
   rfl
section
variable{M:Int}{V:Pt->Bool}{S S':List Sg}{nx nx':Sg->Sg}
def Cu(P:Sg->Sg->Prop):Sg->List Sg->Prop
 |_,[]=>True
 |b,s::T=>P b s/\Cu P s T
theorem Cu.of{P:Sg->Sg->Prop}:∀{T:List Sg}{b:Sg},(∀(k:Nat) s t,(b::T)[k]?=some s->(b::T)[k+1]?=some t->P s t)->Cu P b T
 |[],_,_=>trivial
 |s::T,b,h=>⟨h 0 b s rfl rfl,Cu.of λk x y hx hy=>h (k+1) x y (by simpa using hx) (by simpa using hy)⟩
end
end Gb
end Go.Proofs.YtkjhhooecopolaaGreatDoor

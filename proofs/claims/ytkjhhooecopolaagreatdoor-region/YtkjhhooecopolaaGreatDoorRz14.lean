import Derived.Test.YtkjhhooecopolaaGreatDoorRz13
set_option maxRecDepth 100000
set_option maxHeartbeats 4000000
namespace Go.Proofs.YtkjhhooecopolaaGreatDoor
open Tryz
open Value renaming int->az,complex->aA,float->aB,agg->aC,bool->aD,string->aF,slice->aG,pointer->aH,tuple->aI
open IntKind renaming i64->aJ
open FloatKind renaming f64->aK
open Ending renaming returned->aL
open Go renaming World->aM,Value->aN,floatOfInt->aO
namespace Gb
open Ge Ga
section
variable{M:Int}{V:Pt->Bool}{S S':List Sg}{nx nx':Sg->Sg}
end
theorem UH:∀(T:List Sg)(b:Sg)(k:Nat)(s t:Sg),(b::T)[k]?=some s->(b::T)[k+1]?=some t->cr (dr s) (dr t)≠0->t∈tG b T
 |[],b,k,s,t,_,ht,_=>by simp at ht
 |x::T,b,0,s,t,hs,ht,hc=>by
  obtain rfl:b=s:=by simpa using hs
  obtain rfl:x=t:=by simpa using ht
  show x∈if cr (dr b) (dr x)=0 then tG x T else x::tG x T
  rw[aQ hc];simp
 |x::T,b,k+1,s,t,hs,ht,hc=>by
  have:=UH T x k s t (by simpa using hs) (by simpa using ht) hc
  show t∈if cr (dr b) (dr x)=0 then tG x T else x::tG x T
  split
  .exact this
  .exact bX _ this
theorem EY.dE{R:List Sg}{s t:Sg}(f:EY R s t)(h:cr (dr s) (dr t)≠0):t.1∈dE R:=by
 unfold Gb.dE;refine bQ.2 ⟨t,?_,rfl⟩;rcases f with⟨k,h1,h2⟩|⟨h1,h2⟩
 .exact UH R _ (k+1) s t (by simpa using h1) (by simpa using h2) h
 .refine UH R _ 0 s t ?_ ?_ h
  .rw[Kv h1];rfl
  .rw[CU] at h2;simpa using h2
theorem UI:∀(T:List Sg)(b t:Sg),t∈tG b T->t∈T
 |[],_,_,h=>by simp[tG] at h
 |x::T,b,t,h=>by
  have h':t∈if cr (dr b) (dr x)=0 then tG x T else x::tG x T:=h
  split at h'
  .exact bX _ (UI T x t h')
  .rcases bU.1 h' with q|q
   .rw[q];simp
   .exact bX _ (UI T x t q)
theorem aea{W:Pt->Bool}:∀(T:List Sg)(b:Sg),(∀(k:Nat) s t,(b::T)[k]?=some s->(b::T)[k+1]?=some t->(W t.1=true↔cr (dr s) (dr t)≠0))->tG b T=T.filter λs=>W s.1
 |[],_,_=>rfl
 |x::T,b,h=>by
  have ih:=aea T x λk s t hs ht=>h (k+1) s t (by simpa using hs) (by simpa using ht)
  have h0:=h 0 b x rfl rfl;show(if cr (dr b) (dr x)=0 then tG x T else x::tG x T)=_
  by_cases q:cr (dr b) (dr x)=0
  .rw[aV q,ih,wu (by rw[h0];simpa using q)]
  .rw[aQ q,ih,Ax (by simpa using h0.2 q)]
section
variable{S:List Sg}{nx:Sg->Sg}
theorem iW.fst{R:List Sg}(k:iW S nx R){s t:Sg}(hs:s∈R)(ht:t∈R)(h:s.1=t.1):s=t:=by
 obtain⟨i,hi,e⟩:=kO.1 hs;obtain⟨j,hj,f⟩:=kO.1 ht;have hd:=mn.1 k.qB;rcases CS i j with q|q|q
 .exact absurd h (by rw[<-e,<-f];exact hd i j hi hj q)
 .subst q;rw[<-e,<-f]
 .exact absurd h.symm (by rw[<-e,<-f];exact hd j i hj hi q)
theorem EY.mem{R:List Sg}{s t:Sg}(f:EY R s t):s∈R/\t∈R:=by
 rcases f with⟨k,h1,h2⟩|⟨h1,h2⟩
 .exact⟨bT h1,bT h2⟩
 .exact⟨sK h1,wD h2⟩
theorem aeb:∀(T:List Sg)(b t:Sg),t∈tG b T->∃k s,(b::T)[k]?=some s/\(b::T)[k+1]?=some t/\cr (dr s) (dr t)≠0
 |[],_,_,h=>by simp[tG] at h
 |x::T,b,t,h=>by
  have h':t∈if cr (dr b) (dr x)=0 then tG x T else x::tG x T:=h
  have rc:t∈tG x T->∃k s,(b::x::T)[k]?=some s/\(b::x::T)[k+1]?=some t/\cr (dr s) (dr t)≠0:=λq=>by
   obtain⟨k,s,q1,q2,q3⟩:=aeb T x t q;exact⟨k+1,s,by simpa using q1,by simpa using q2,q3⟩
  by_cases q:cr (dr b) (dr x)=0
  .rw[aV q] at h';exact rc h'
  .rw[aQ q] at h';rcases bU.1 h' with w|w
   .subst w;exact⟨0,b,rfl,rfl,q⟩
   .exact rc w
theorem UJ{α:Type}{L:List α}(h:L.Nodup){i j:Nat}{x:α}(hi:L[i]?=some x)(hj:L[j]?=some x):i=j:=by
 obtain⟨a,ea⟩:=cG.1 hi;obtain⟨b,eb⟩:=cG.1 hj;have hp:=mn.1 h;rcases CS i j with q|q|q
 .exact absurd (ea.trans eb.symm) (hp i j a b q)
 .exact q
 .exact absurd (eb.trans ea.symm) (hp j i b a q)
theorem iW.apJ{a:Sg}{T:List Sg}(k:iW S nx (a::T))(ha:cr (dr (T.getLastD a)) (dr a)≠0):dE (a::T)=a.1::((T.filter λs=>(dE (a::T)).contains s.1).map Prod.fst)/\(∀(i:Nat) s t,(a::T)[i]?=some s->(a::T)[i+1]?=some t->((dE (a::T)).contains t.1=true↔cr (dr s) (dr t)≠0)):=by
 have hl:(a::T).getLast?=some (T.getLastD a):=by rw[VC,nK]
 have key:∀{s t:Sg},EY (a::T) s t->((dE (a::T)).contains t.1=true↔cr (dr s) (dr t)≠0):=λ{s t} f=>by
  constructor
  .intro h;have h':t.1∈dE (a::T):=by simpa using h
   obtain⟨t',ht',e⟩:=bQ.1 h';have hm:=UI _ _ _ ht';have et:=k.fst hm f.mem.2 e;subst et;obtain⟨i,s',q1,q2,q3⟩:=aeb _ _ _ ht';have f':EY (a::T) s' t':=by
    cases i with
    |zero=>
     have:(a::T).getLastD s0=s':=by simpa using q1
     rw[Kv hl] at this;refine aT ⟨by rw[hl,this],?_⟩
     rw[CU];simpa using q2
    |succ i=>exact aU ⟨i,by simpa using q1,by simpa using q2⟩
   have es:s=s':=by
    rcases f with⟨i,g1,g2⟩|⟨g1,g2⟩<;>rcases f' with⟨j,g3,g4⟩|⟨g3,g4⟩
    .have:=UJ k.nd g2 g4;have:i=j:=aa
     subst this;exact mO (g1.symm.trans g3)
    .rw[CU] at g4;have:=UJ k.nd g2 g4;omega
    .rw[CU] at g2;have:=UJ k.nd g2 g4;omega
    .exact mO (g1.symm.trans g3)
   rw[es];exact q3
  .intro h;simpa using f.dE h
 refine⟨?_,λi s t hs ht=>key (aU ⟨i,hs,ht⟩)⟩
 have e1:tG ((a::T).getLastD s0) (a::T)=a::tG a T:=by
  show(if cr (dr ((a::T).getLastD s0)) (dr a)=0 then tG a T else a::tG a T)=_
  rw[Kv hl,aQ ha]
 have e2:=aea (W:=λp=>(dE (a::T)).contains p) T a λi s t hs ht=>key (aU ⟨i,hs,ht⟩)
 rw[<-e2];show(tG ((a::T).getLastD s0) (a::T)).map Prod.fst=_;rw[e1,ij]
end
section
variable{S:List Sg}{nx:Sg->Sg}
theorem LR.turn(h:Wd S nx){a:Sg}{T:List Sg}(k:LR S nx (a::T)):cr (dr (T.getLastD a)) (dr a)≠0:=λq=>by
 have hl:(a::T).getLast?=some (T.getLastD a):=by rw[VC,nK]
 obtain⟨M,hg⟩:=k.rg h (a:=a) rfl hl;have k1:=h.Ku hg.mz hg.ma hg.z2.symm q;exact H6 ((H4 k1).2 (hg.Kk h)) (hg.Kl h)
structure Rs(S:List Sg)(nx:Sg->Sg)(RL:List (List Sg)):Prop where
 lr:∀R∈RL,LR S nx R
 per:RL.flatten.Perm S
variable{RL:List (List Sg)}
theorem Rs.gpC(r:Rs S nx RL)(h:Wd S nx){a:Sg}{T:List Sg}(hR:a::T∈RL):closing (dE (a::T))=gp (λp=>(dE (a::T)).contains p) a.1 T a.1/\Jc (λp=>(dE (a::T)).contains p) a T:=by
 have k:=r.lr _ hR;obtain⟨e1,e2⟩:=k.ring.apJ (k.turn h);constructor
 .rw[UG];generalize hW:(λs:Sg=>(dE (a::T)).contains s.1)=W at*
  rw[e1];rfl
 .have:Cu (λb s=>(dE (a::T)).contains s.1=false->bh (dr b) (dr s)=true) a T:=by
   refine Cu.of λi s t h1 h2 hV=>?_
   have hs:=k.ring.mem s (bT h1);have ht:=k.ring.mem t (bT h2);refine h.Ku hs ht (k.ring.rD i s t h1 h2).1 ?_;apply mj;intro q;rw[(e2 i s t h1 h2).2 q] at hV;cases hV
  have conv:∀{W:Pt->Bool}{T:List Sg}{a:Sg},Cu (λb s=>W s.1=false->bh (dr b) (dr s)=true) a T->Jc W a T:=by
   intro W T;induction T with
   |nil=>intro a _;trivial
   |cons x T ih=>intro a h;exact⟨h.1,ih h.2⟩
  exact conv this
end
end Gb
section
open Go.RowKit
theorem apL(s:ByteArray)(r:Int)(w:aM)(hm:s.size<=maxLen)(pU:Gl w)(h0:(Pl.err s.data.toList).1≠0):
  ak 39 #[aF s,az .u8 r] w λe w'=>e=aL (aI #[aF ⟨#[]⟩,az aJ (Pl.err s.data.toList).1,az aJ (Pl.err s.data.toList).2])/\aj w w':=by
 have hne:(((Pl.err s.data.toList).1:Int) != 0)=true:=by rw[yx];omega
 have HR:Hid (∀w1,Gl w1->ak 33 #[aF s] w1 λe w'=>aj w1 w'/\∃pv,e=aL (aI #[aH pv,az aJ (Pl.err s.data.toList).1,az aJ (Pl.err s.data.toList).2])):=λw1 g1=>by
  refine(DW s w1 hm g1).mono ?_;rintro e w' ⟨hb,pv,rfl,_⟩;exact⟨hb,pv,rfl⟩
 generalize(Pl.err s.data.toList).1=E at*;generalize(Pl.err s.data.toList).2=Pp at*;clear h0
 go_enter func39,ntmps39
 go_wp2_with fail
 refine(HR.out _ pU).mono ?_;rintro e w1 ⟨hb1,pv,rfl⟩
 go_wp2_with fail
 refine bodyPost_ret (v:=aI #[aF ⟨#[]⟩,az aJ E,az aJ Pp]) (by simp[results,results39,go_sem]) rfl ⟨rfl,hb1⟩
theorem aec(s:ByteArray)(hm:s.size<=maxLen)(h0:(Pl.err s.data.toList).1=0):∀w1,Gl w1->ak 33 #[aF s] w1 λe w'=>aj w1 w'/\∃rb rv,e=aL (aI #[aH (some ⟨rb,0,none⟩),az aJ 0,az aJ 0])/\
  w'.cell? ⟨rb,6,none⟩=some rv/\rb<w'.heap.size/\wZ w' rv (Pl.rings s.data.toList):=λw1 g1=>by
 have hp2:=(zh h0).2.1;refine(DW s w1 hm g1).mono ?_;rintro e w' ⟨hb,pv,rfl,kV⟩;obtain⟨rb,rfl,_,hR⟩:=kV h0;obtain⟨c,t,r,tv,rv,hc,hl',hbk,hown,Rm⟩:=hR;exact⟨hb,rb,rv,by rw[h0,hp2];rfl,cell_of hbk 6,lt_of_heap hbk,YX Rm⟩
theorem apM(s:ByteArray)(r:Int)(w:aM)(hm:s.size<=maxLen)(pU:Gl w)(h0:(Pl.err s.data.toList).1=0)(hr:Ge.rule r=false):
  ak 39 #[aF s,az .u8 r] w λe w'=>e=aL (aI #[aF ⟨#[]⟩,az aJ 4,az aJ 0])/\aj w w':=by
 have HR:Hid (∀w1,Gl w1->ak 33 #[aF s] w1 λe w'=>aj w1 w'/\∃rb rv,e=aL (aI #[aH (some ⟨rb,0,none⟩),az aJ 0,az aJ 0])/\
  w'.cell? ⟨rb,6,none⟩=some rv/\rb<w'.heap.size/\wZ w' rv (Pl.rings s.data.toList)):=aec s hm h0
 have HI:Hid (∀w,ak 66 #[az .u8 r] w λe w'=>e=aL (aD false)/\w'=w):=λw=>by
  have:=Zu r w;rw[hr] at this;exact this
 clear hr h0
 go_enter func39,ntmps39
 go_wp2_with fail
 refine(HR.out _ pU).mono ?_;rintro e w1 ⟨hb1,rb,rv,rfl,_⟩;have zH:Hid (aj w w1):=hb1;clear hb1 HR
 go_wp2_with fail
 refine(HI.out _).mono ?_;rintro e w2 ⟨rfl,rfl⟩;clear HI
 go_wp2_with fail
 refine bodyPost_ret (v:=aI #[aF ⟨#[]⟩,az aJ 4,az aJ 0]) (by simp[results,results39,go_sem]) rfl ⟨rfl,zH.out⟩
def Cv(rg:List (List Ge.Pt))(r:Int)(TX:List UInt8):Prop:=∃Ps l,l.map Ge.aX=Ge.iZ (Ge.aR rg)/\(∀n∈l,Ge.Can n)/\pW (Ge.aR rg) l Ps/\(od r (Ge.aR rg) Ps).length<=85000000/\TX=xV (od r (Ge.aR rg) Ps)
theorem apN(s:ByteArray)(r:Int)(w:aM)(hm:s.size<=maxLen)(pU:Gl w)(h0:(Pl.err s.data.toList).1=0)(hr:Ge.rule r=true):
  ak 39 #[aF s,az .u8 r] w λe w'=>(∃TX,e=aL (aI #[aF (ba TX),az aJ 0,az aJ 0])/\Cv (Pl.rings s.data.toList) r TX)/\aj w w':=by
 have HR:Hid (∀w1,Gl w1->ak 33 #[aF s] w1 λe w'=>aj w1 w'/\∃rb rv,e=aL (aI #[aH (some ⟨rb,0,none⟩),az aJ 0,az aJ 0])/\
  w'.cell? ⟨rb,6,none⟩=some rv/\rb<w'.heap.size/\wZ w' rv (Pl.rings s.data.toList)):=aec s hm h0
 have HI:Hid (∀w,ak 66 #[az .u8 r] w λe w'=>e=aL (aD true)/\w'=w):=λw=>by
  have:=Zu r w;rw[hr] at this;exact this
 obtain⟨hro,hrl,kA,hel⟩:=Q5 h0;have aed:=Pl.ajC h0;have LZ:Hid (∀v w1,wZ w1 v (Pl.rings s.data.toList)->ak 36 #[v] w1 λe w'=>∃v,e=aL v/\iL w' v (Ge.aR (Pl.rings s.data.toList))/\aj w1 w'):=λv w1 hv=>YZ _ v w1 hv hro hrl
 have UK:Hid (∀v w1,iL w1 v (Ge.aR (Pl.rings s.data.toList))->Gl w1->ak 68 #[v,az .u8 r] w1 λe w'=>∃lv,e=aL lv/\ak 69 #[lv] w' λe w2=>∃lp,e=aL lp/\aj w1 w2/\ak 67 #[lp] w2 λe w3=>(∃TX,e=aL (aF (ba TX))/\Cv (Pl.rings s.data.toList) r TX)/\aj w1 w3):=λv w1 hv df=>by
  refine(al0 _ r v w1 hv aed kA (λe he=>Ge.KJ he)).mono ?_
  rintro e w' ⟨lv,rfl,Ps,l,wb,bs,lg,lh,ud,hbb,kE,hbl⟩;refine⟨lv,rfl,?_⟩;refine(aoZ lg lh kA ud kE hbl (df.below hbb df.sz)).mono ?_;rintro e w2 ⟨lp,rfl,hb2,hW⟩;have UL:aj w1 w2:=hbb.trans (hb2.mono hbb.size);refine⟨lp,rfl,UL,hW.mono ?_⟩;rintro e w3 ⟨rfl,hb3⟩;exact⟨⟨_,rfl,Ps,l,lg,lh,ud,by rw[<-kE.len];exact hbl,rfl⟩,UL.trans (hb3.mono UL.size)⟩
 have HFT:Hid (∃P:List UInt8->Prop,P=Cv (Pl.rings s.data.toList) r):=⟨_,rfl⟩;obtain⟨P,hP⟩:=HFT.out;rw[<-hP] at UK;rw[<-hP];clear hr h0 hro hrl kA hel aed HFT hP;generalize Pl.rings s.data.toList=RG at*;generalize Ge.aR RG=ES at*
 go_enter func39,ntmps39
 go_wp2_with fail
 refine(HR.out _ pU).mono ?_;rintro e w1 ⟨hb1,rb,rv,rfl,c6,hlt,zx⟩;have df:=pU.below hb1 pU.sz
 go_wp2_with fail
 refine(HI.out _).mono ?_;rintro e w2 ⟨rfl,rfl⟩;clear HI HR
 go_wp2_with fail
 refine(LZ.out _ _ zx).mono ?_;rintro e w3 ⟨ev,rfl,uM,hb3⟩;have iM:aj w w3:=hb1.trans (hb3.mono hb1.size);have tO:=df.below hb3 df.sz;have vw:Hid (aj w w3):=iM;have hcall:=UK.out _ _ uM tO;clear UK LZ zx uM hb3 iM hb1 c6
 go_wp2_with fail
 refine hcall.mono ?_;rintro e w4 ⟨lv,rfl,aef⟩;clear hcall
 go_wp2_with fail
 refine aef.mono ?_;rintro e w5 ⟨lp,rfl,bg,aeg⟩;clear aef
 go_wp2_with fail
 refine aeg.mono ?_;rintro e w6 ⟨⟨TX,rfl,hTX⟩,bp⟩;have HX':Hid (P TX):=hTX;have I3:Hid (aj w w6):=vw.out.trans (bp.mono vw.out.size);clear aeg bg bp hTX
 go_wp2_with fail
 refine bodyPost_ret (v:=aI #[aF (ba TX),az aJ 0,az aJ 0]) (by simp[results,results39,go_sem]) rfl ⟨⟨TX,rfl,HX'.out⟩,I3.out⟩
namespace Gb
open Ge Ga
theorem aei:∀{l l':List Nd},(∀n∈l,Ge.Can n)->(∀n∈l',Ge.Can n)->l.map aX=l'.map aX->l=l'
 |[],[],_,_,_=>rfl
 |[],_::_,_,_,h=>by simp at h
 |_::_,[],_,_,h=>by simp at h
 |a::A,b::B,ha,hb,h=>by
  rw[ij,ij] at h;injection h with h1 h2;have e:a=b:=Ge.xe (ha a af) (hb b af) (by rw[h1];exact Ge.Bb _)
  rw[e,aei (λn hn=>ha n (by simp[hn])) (λn hn=>hb n (by simp[hn])) h2]
end Gb
end
namespace Gb
open Ge Ga
section
variable{rg:List (List Pt)}{l:List Nd}{r:Int}{Xs:List PB}
def x9(F:List NP):List (List Nd):=F.flatMap λp=>p.1::p.2
theorem SX.rsF(h:SX rg l r Xs)(hB:BD Xs):∃RL,Rs (sS (aP l) Xs) (jZ (aP l) Xs) RL/\((x9 (fin Xs)).map (·.map (PM (aP l)))).Perm (RL.map dE):=by
 obtain⟨PL,e1,hok,EX⟩:=SX.vL h hB;have xY:=h.pn hB Xs.length (aY _);have xZ:∀p∈PL,(∀a∈p.1.1,a<Xs.length)/\∀z∈p.2,∀a∈z.1,a<Xs.length:=λp hp=>by
  have:=xY (oI p) (by rw[e1];exact bQ.2 ⟨p,hp,rfl⟩)
  exact⟨this.1.lt,λz hz=>(this.2 z.1 (bQ.2 ⟨z,hz,rfl⟩)).lt⟩
 have can:∀q:List Nat,(∀a∈q,a<Xs.length)->∀n∈Go.Proofs.YtkjhhooecopolaaGreatDoor.fr Xs q,Ge.Can n:=λq hq n hn=>h.nl.can n (Rel.nodes h hq n hn)
 have hole:∀p∈PL,(jN (sy Xs) (p.2.map Prod.fst)).Perm (p.2.map Prod.fst):=λp hp=>by
  refine(I8 (sy Xs) (p.2.map Prod.fst) (xQ (λi:Fin (p.2.map Prod.fst).length=>Go.Proofs.YtkjhhooecopolaaGreatDoor.fr Xs (p.2.map Prod.fst)[i]) λi a ha=>?_)).1
  have hm:(p.2.map Prod.fst)[i]∈p.2.map Prod.fst:=gZ _;obtain⟨z,hz,e⟩:=bQ.1 hm;have ha':a∈Go.Proofs.YtkjhhooecopolaaGreatDoor.fr Xs (p.2.map Prod.fst)[i]:=ha;rw[<-e] at ha';exact can z.1 ((xZ p hp).2 z hz) a ha'
 have hsw:Sort.SWO (ltOf λi j:Fin ((bG Xs Xs.length).ps.map (eA Xs)).length=>oH Xs ((bG Xs Xs.length).ps.map (eA Xs))[i] ((bG Xs Xs.length).ps.map (eA Xs))[j]):=
  xQ (λi:Fin ((bG Xs Xs.length).ps.map (eA Xs)).length=>Go.Proofs.YtkjhhooecopolaaGreatDoor.fr Xs ((bG Xs Xs.length).ps.map (eA Xs))[i].1) λi a ha=>by
   have hm:((bG Xs Xs.length).ps.map (eA Xs))[i]∈(bG Xs Xs.length).ps.map (eA Xs):=gZ _;obtain⟨g,hg,eg⟩:=bQ.1 hm;have hg':g∈PL.map oI:=by rw[<-e1];exact hg
   obtain⟨p,hp,rfl⟩:=bQ.1 hg';have ha':a∈Go.Proofs.YtkjhhooecopolaaGreatDoor.fr Xs ((bG Xs Xs.length).ps.map (eA Xs))[i].1:=ha;have e2:((bG Xs Xs.length).ps.map (eA Xs))[i].1=p.1.1:=by rw[<-eg];rfl
   rw[e2] at ha';exact can p.1.1 (xZ p hp).1 a ha'
 have t1:=(I8 (oH Xs) ((bG Xs Xs.length).ps.map (eA Xs)) hsw).1;refine⟨PL.flatMap λp=>p.1.2::p.2.map Prod.snd,⟨λR hR=>?_,?_⟩,?_⟩
 .obtain⟨p,hp,hR⟩:=qq.1 hR;rcases bU.1 hR with q|q
  .rw[q];exact(hok p hp).shell.lr
  .obtain⟨z,hz,rfl⟩:=bQ.1 q;exact((hok p hp).hole z hz).1.lr
 .have:∀lC:List uo,(lC.flatMap λp=>p.1.2::p.2.map Prod.snd).flatten=ke lC:=λlC=>by
   unfold ke;induction lC with
   |nil=>rfl
   |cons p lC ih=>
    rw[nI,VO,ij,yz,ih];rfl
  rw[this];exact EX
 .have p1:(x9 (fin Xs)).Perm (((bG Xs Xs.length).ps.map (eA Xs)).flatMap λg=>Go.Proofs.YtkjhhooecopolaaGreatDoor.fr Xs g.1::g.2.map (Go.Proofs.YtkjhhooecopolaaGreatDoor.fr Xs)):=by
   unfold x9 fin;rw[Wb];exact t1.flatMap_right _
  rw[e1,iC,Wb] at p1;have p2:(PL.flatMap λp=>Go.Proofs.YtkjhhooecopolaaGreatDoor.fr Xs (eA Xs (oI p)).1::(eA Xs (oI p)).2.map (Go.Proofs.YtkjhhooecopolaaGreatDoor.fr Xs)).Perm (PL.flatMap λp=>Go.Proofs.YtkjhhooecopolaaGreatDoor.fr Xs p.1.1::p.2.map λz=>Go.Proofs.YtkjhhooecopolaaGreatDoor.fr Xs z.1):=by
   have:∀lC:List uo,(∀p∈lC,p∈PL)->(lC.flatMap λp=>Go.Proofs.YtkjhhooecopolaaGreatDoor.fr Xs (eA Xs (oI p)).1::(eA Xs (oI p)).2.map (Go.Proofs.YtkjhhooecopolaaGreatDoor.fr Xs)).Perm (lC.flatMap λp=>Go.Proofs.YtkjhhooecopolaaGreatDoor.fr Xs p.1.1::p.2.map λz=>Go.Proofs.YtkjhhooecopolaaGreatDoor.fr Xs z.1):=by
    intro lC;induction lC with
    |nil=>intro _;exact JU _
    |cons p lC ih=>
     intro hm;rw[nI,nI];refine agU ?_ (ih λx hx=>hm x (bX _ hx))
     refine List.Perm.cons _ ?_;have:=(hole p (hm p af)).map (Go.Proofs.YtkjhhooecopolaaGreatDoor.fr Xs)
     rw[iC] at this;exact this
   exact this PL λ_ h=>h
  refine((p1.trans p2).map _).trans (List.Perm.of_eq ?_);rw[agV,agV];have:∀lC:List uo,(∀p∈lC,p∈PL)->(lC.flatMap λp=>(Go.Proofs.YtkjhhooecopolaaGreatDoor.fr Xs p.1.1::p.2.map λz=>Go.Proofs.YtkjhhooecopolaaGreatDoor.fr Xs z.1).map (·.map (PM (aP l))))=lC.flatMap λp=>(p.1.2::p.2.map Prod.snd).map dE:=by
   intro lC;induction lC with
   |nil=>intro _;rfl
   |cons p lC ih=>
    intro hm;rw[nI,nI,ih λx hx=>hm x (bX _ hx)]
    congr 1;have ok:=hok p (hm p af)
    rw[ij,ij,ok.shell.dE,iC,iC];congr 1;refine yE λz hz=>?_
    exact(ok.hole z hz).1.dE
  exact this PL λ_ h=>h
end
section
variable{S:List Sg}{nx:Sg->Sg}
variable{RL:List (List Sg)}
end
end Gb
section
open Go.RowKit
variable{z a1 a2 a3 a4 b1 b2 b3 b4 c2 c3 c4:Int}{a b o:List Nat}{n cap k d x y e i s c j S f g X p q r l A B C:Nat}{w w' wr W W' W0:aM}{v sl P0 P1 Q0 Q1 u:aN}
theorem Jd(m:Nat)(h:m<9223372036854775808):bits .and aJ (m:Int) 1073741823=((m%1073741824:Nat):Int):=by
 have h1:(BitVec.ofInt 64 (m:Int)).toNat=m:=by
  rw[BitVec.ofInt_natCast,BitVec.toNat_ofNat];exact OP aa
 have h2:(BitVec.ofInt 64 (1073741823:Int)).toNat=2 ^ 30-1:=ah
 have h3:m&&& (2 ^ 30-1)=m%1073741824:=Nat.and_two_pow_sub_one_eq_mod m 30;show IntKind.i64.wrap ((BitVec.ofInt 64 (m:Int)&&& BitVec.ofInt 64 (1073741823:Int)).toNat:Int)=_;rw[BitVec.toNat_and,h1,h2,h3,IntKind.wrap_i64];omega
def val:List Nat->Nat
 |[]=>0
 |d::a=>d+1073741824*val a
theorem NI(a:List Nat)(d:Nat):val (a++[d])=val a+1073741824 ^ a.length*d:=by
 induction a with
 |nil=>simp[val]
 |cons x a ih=>
  simp only[lU,val,ih,dw,yD];rw[sV,<-sQ,VD 1073741824 (1073741824 ^ a.length)];omega
structure Cn(a:List Nat)(x:Nat):Prop where
 v:val a=x
 d:∀e∈a,e<1073741824
 h:∀e,a.getLast?=some e->e≠0
def dJ(w:aM)(v:aN)(a:List Nat):Prop:=w.ownsRow 0 3 1 v a.length (a.map λd:Nat=>Value.int aJ (d:Int))
theorem Je:(Tryz.prog.info? 3).map (λi=>(i.zero,i.size,i.bytes))=some (some (az aJ 0),1,8):=ag
theorem aej(n:Nat)(w:aM)(hn:n<=1000000000000):
  ak 132 #[az aJ n] w λe w'=>∃v,e=aL v/\∃a,dJ w' v a/\Cn a n/\a.length<=2/\aj w w':=by
 obtain⟨i0,hi,hz0,hz1,hz2⟩:=info_parts Je
 go_enter func132,ntmps132
 go_wp2_with fail
 go_loopg [0,3] n (λg nv av wr=>∃(m:Nat)(a:List Nat),m=g/\nv=az aJ m/\m<=1000000000000/\a.length<=100/\Hid (wr.ownsRow w.heap.size 3 1 av a.length (a.map λd:Nat=>Value.int aJ (d:Int))/\aj w wr/\n=val a+1073741824 ^ a.length*m/\(∀e∈a,e<1073741824)/\(m=0->∀e,a.getLast?=some e->e≠0)/\(m≠0->a.length<=1/\(a.length=1->m<1073741824))/\a.length<=2))
 case atStart=>exact⟨n,[],rfl,rfl,hn,af,World.ownsRow_nil _ _ _ _,Below.refl _ _,by simp[val],af,af,af,af⟩
 case round=>
  obtain⟨m,a,rfl,rfl,hm,hal,HI⟩:=hrel;obtain⟨hown,aW,hv,hd,hh,hq,ha2⟩:=HI.out;by_cases h0:m=0
  .subst h0;clear HI
   go_wp2_with fail
   go_ret
   refine⟨_,rfl,a,zg hown,⟨rfl,hd,hh trivial⟩,ha2,aW⟩
  .have h1:(0:Int)<(m:Int):=aa
   have hsz:=aW.size;have hmk:=Jd m aa
   have HN:Hid (n=val a+1073741824 ^ a.length*m/\(∀e∈a,e<1073741824)/\(m≠0->a.length<=1/\(a.length=1->m<1073741824))/\m≠0):=⟨hv,hd,hq,h0⟩;clear HI hv hd hh hq h0
   go_wp2_with (at_builtin;refine wpList_append_lies _ rfl (.tmp 6) (.tmp 9) 142 rfl w.heap.size 3 i0 _ 1 8 underlying142 hi hz0 hz1 hz2 rfl ah u3 a.length (a.map λd:Nat=>Value.int aJ (d:Int)) rfl (bB hown (λk hk=>Below.heap_alloc _ _ _ (bn hown k hk).2)) ⟨wr.heap.size,0,none⟩ 1 1 [az aJ ((m%1073741824:Nat):Int)] rfl rfl (World.news_of_block (cs:= #[az aJ ((m%1073741824:Nat):Int)]) (t:=3) (fr:=(0,0)) (heap_alloc_new wr _)) (by simp[Value.oneCell']) ah (by unfold maxLen;omega) aa (by simp;omega) (wr.heap.size+1) af ?_;intro gg cap' w9 ho hgrow hat rP)
   go_wp2_with fail
   obtain⟨hv,hd,hq,h0⟩:=HN.out;obtain⟨q1,q2⟩:=hq h0
   go_roundg (m/1073741824)
   case measure=>omega
   case rel=>
    refine⟨m/1073741824,a++[m%1073741824],rfl,aZ _ aa,aa,by simp;omega,?_,?_,?_,?_,?_,?_,by simp;omega⟩
    .simpa using ho
    .exact(aW.alloc aW.size _).grown hgrow (by simp;omega) (λk hk=>(bn hown k hk).1)
    .rw[NI,hv,bY,OX,yD];have e:=agW m 1073741824;have e2:1073741824 ^ a.length*m=1073741824 ^ a.length*(1073741824*(m/1073741824)+m%1073741824):=by rw[e]
     rw[e2,sV,sQ];omega
    .intro x hx;rcases dv.1 hx with z|z
     .exact hd x z
     .rw[dh.1 z];exact yB _ ah
    .intro z x hx;have:m%1073741824=x:=by simpa using hx
     omega
    .intro z;have hl0:a.length=0:=by
      rcases oK 0 a.length with y|y
      .have:=q2 aa
       omega
      .omega
     refine⟨by rw[bY,OX];omega,λ_=>aa⟩
theorem lD(h:dJ w v a):∃so cap,v=aG so a.length cap:=by
 rcases h.2 with⟨hv,h0⟩|⟨b,cap,cur,hv,_⟩
 .exact⟨none,0,by rw[hv,h0]⟩
 .exact⟨_,cap,hv⟩
theorem vS{so:Option Addr}(h:dJ w (aG so n cap) a)(hd:a[k]?=some d):∃b,so=some ⟨b,0,none⟩/\b<w.heap.size/\w.cell? ⟨b,k,none⟩=some (az aJ (d:Int)):=by
 obtain⟨b,c,hv,hb,hc⟩:=YE h (o:=k) (u:=az aJ (d:Int)) (by simp[hd])
 injection hv with hv;exact⟨b,hv,hb,hc⟩
theorem aek(a b:List Nat):val (a++b)=val a+1073741824 ^ a.length*val b:=by
 induction a with
 |nil=>simp[val]
 |cons x a ih=>
  simp only[lU,val,ih,dw,yD];rw[sV,<-sQ,VD 1073741824 (1073741824 ^ a.length)];omega
theorem val_zero:∀{a:List Nat},(∀d∈a,d=0)->val a=0
 |[],_=>rfl
 |x::a,h=>by
  have h1:=h x af
  have h2:=val_zero λd hd=>h d (bX _ hd)
  simp[val,h1,h2]
theorem apQ{so:Option Addr}(h:dJ w (aG so n cap) a)(_hn:n=a.length)(hk:k<=a.length):dJ w (aG so k cap) (a.take k):=by
 have hl:(a.take k).length=k:=by rw[iB];omega
 refine⟨by rw[ia,hl,OG],?_⟩
 rw[hl];rcases h.2 with⟨hv,h0⟩|⟨b,cp,cur,hv,h1,h2,h3,h4,h5,h6⟩
 .injection hv with e1 e2 e3;left;have:k=0:=aa
  rw[this,e1,e3];exact⟨rfl,rfl⟩
 .injection hv with e1 e2 e3;subst e1 e3;refine aT ⟨b,cap,cur,rfl,h1,h2,aa,h4,h5,?_⟩
  rw[OG] at h6⊢;rw[VX,<-h6,Av,CW hk]
theorem ael(a:List Nat)(v:aN)(w:aM)(hR:dJ w v a)(hl:a.length<=100)(hd:∀d∈a,d<1073741824):
  ak 184 #[v] w λe w'=>∃v',e=aL v'/\∃b,dJ w' v' b/\Cn b (val a)/\b.length<=a.length/\aj w w':=by
 obtain⟨so,cap,rfl⟩:=lD hR;have HR:Hid (dJ w (aG so a.length cap) a):=hR;have HD:Hid (∀d∈a,d<1073741824):=hd;have hcap:a.length<=cap:=by
  rcases hR.2 with⟨hv,h0⟩|⟨b,cp,cur,hv,_,_,h3,_⟩
  .omega
  .injection hv with _ _ hv;omega
 clear hR hd
 go_enter func184,ntmps184
 go_wp2_with fail
 go_loopg [3] a.length (λg nv wr=>∃m:Nat,m=g/\nv=az aJ m/\m<=a.length/\Hid (aj w wr/\wr.heap=w.heap/\∀d∈a.drop m,d=0))
 case atStart=>exact⟨_,rfl,rfl,aY _,Below.refl _ _,rfl,af⟩
 case round=>
  obtain⟨m,rfl,rfl,hm,HI⟩:=hrel;obtain⟨aW,Jf,hz⟩:=HI.out;have fin:(∀e,(a.take m).getLast?=some e->e≠0)->∃b,dJ wr (aG so m cap) b/\Cn b (val a)/\b.length<=a.length/\aj w wr:=λhe=>by
   refine⟨a.take m,?_,⟨?_,λe h=>HD.out e (rB h),he⟩,by rw[iB];omega,aW⟩
   .have:=apQ HR.out rfl hm;exact Bf this λk cur hc=>by rw[Jf]
   .have e:=aek (a.take m) (a.drop m);rw[Fw,val_zero hz] at e;omega
  have Jg:Hid ((∀e,(a.take m).getLast?=some e->e≠0)->∃b,dJ wr (aG so m cap) b/\Cn b (val a)/\b.length<=a.length/\aj w wr):=fin;have HZ0:Hid (∀d∈a.drop m,d=0):=hz;clear HI fin hz;by_cases h0:m=0
  .subst h0;have hf:=Jg.out af
   clear Jg
   go_wp2_with fail
   go_ret
   exact⟨_,rfl,hf⟩
  .obtain⟨j,hj⟩:∃j,m=j+1:=⟨m-1,aa⟩
   have hjl:j<a.length:=aa
   obtain⟨d,hd⟩:∃d,a[j]?=some d:=⟨_,bo hjl⟩;obtain⟨b,rfl,hb,e0⟩:=vS HR.out hd;have r0:wr.cell? ⟨b,j,none⟩=some (az aJ (d:Int)):=aS aW e0 hb;have hlast:(a.take m).getLast?=some d:=by
    rw[hj,pH hjl,(cG.1 hd).2];simp
   have HJ:Hid (m=j+1/\a[j]?=some d):=⟨hj,hd⟩;have hw:IntKind.i64.wrap ((m:Int)-1)=(j:Int):=by rw[IntKind.wrap_i64];omega
   have hmp:(0:Int)<(m:Int):=aa
   have L4:(j:Int)<(a.length:Int):=aa
   have Na:m≠0:=h0;by_cases hd0:d=0
   .subst hd0;have HZ:Hid (aj w wr/\wr.heap=w.heap):=⟨aW,Jf⟩;clear hj hd hlast Jg e0 h0 aW Jf
    go_wp2_with fail
    obtain⟨hj,hd⟩:=HJ.out
    go_roundg j
    case measure=>omega
    case rel=>
     refine⟨j,rfl,rfl,aa,HZ.out.1,HZ.out.2,λx hx=>?_⟩
     rw[uC hjl,(cG.1 hd).2] at hx;rcases bU.1 hx with z|z
     .exact z
     .exact HZ0.out x (by rw[hj];exact z)
   .have hf:=Jg.out (λe he=>by rw[hlast] at he;injection he with he;omega)
    have Ir:((d:Int) == 0)=false:=by rw[sM];omega
    have HF:Hid (∃UM,dJ wr (aG (some ⟨b,0,none⟩) m cap) UM/\Cn UM (val a)/\UM.length<=a.length/\aj w wr):=hf;have HH:Hid (wr.heap=w.heap):=Jf;clear hj hd hlast Jg e0 h0 hf aW Jf
    go_wp2_with fail
    go_ret
    exact⟨_,rfl,HF.out⟩
theorem NK{b:Nat}(h:Below b w w')(q:Nat):Below b w (w'.drewN q):=⟨h.os,h.tape,h.output,h.size,h.block⟩
theorem NM:∀{a:List Nat},(∀d∈a,d<1073741824)->val a<1073741824 ^ a.length
 |[],_=>ah
 |x::a,h=>by
  have h1:=h x af
  have h2:=NM λd hd=>h d (bX _ hd)
  rw[dw,yD,VD];show x+1073741824*val a<_;omega
theorem EZ(h:a[k]?=some d):val a=val (a.take k)+1073741824 ^ k*(d+1073741824*val (a.drop (k+1))):=by
 obtain⟨hk,hd⟩:=cG.1 h;have e:=aek (a.take k) (a.drop k);rw[Fw,uC hk,hd,iB,CW aa] at e
 exact e
theorem apS(h:∀d∈a,d<1073741824)(hk:k<=a.length):val (a.take k)<1073741824 ^ k:=by
 have:=NM (a:=a.take k) λd hd=>h d (rB hd)
 rwa[iB,CW hk] at this
theorem Cn.lt(ha:Cn a x)(hb:Cn b y)(h:a.length<b.length):x<y:=by
 have h1:=NM ha.d;have hk:b.length-1<b.length:=aa
 have e:=EZ (bo hk);have hl:=hb.h _ (by rw[pG];exact bo hk)
 rw[ha.v] at h1;rw[hb.v] at e;have h2:1073741824 ^ a.length<=1073741824 ^ (b.length-1):=OY ah aa
 have h3:1073741824 ^ (b.length-1)*1<=1073741824 ^ (b.length-1)*(b[b.length-1]+1073741824*val (b.drop (b.length-1+1))):=Nat.mul_le_mul_left _ aa
 omega
theorem aem(ha:∀x∈a,x<1073741824)(h1:a[k]?=some d)(h2:b[k]?=some e)(hs:a.drop (k+1)=b.drop (k+1))(h:d<e):val a<val b:=by
 rw[EZ h1,EZ h2,hs];have:=apS ha (k:=k) (by have:=(cG.1 h1).1;omega)
 have h3:1073741824 ^ k*(d+1073741824*val (b.drop (k+1))+1)<=1073741824 ^ k*(e+1073741824*val (b.drop (k+1))):=Nat.mul_le_mul_left _ aa
 rw[sV (1073741824 ^ k) _ 1] at h3;omega
theorem apT(a b:List Nat)(x y:Nat)(v u:aN)(w:aM)(hR:dJ w v a)(hS:dJ w u b)(ha:Cn a x)(hb:Cn b y)(lI:a.length<=100)(hlb:b.length<=100):
  ak 129 #[v,u] w λe w'=>∃r:Int,e=aL (az aJ r)/\(0<=r↔y<=x)/\aj w w':=by
 obtain⟨so,cap,rfl⟩:=lD hR;obtain⟨to,Cw,rfl⟩:=lD hS;have HR:Hid (dJ w (aG so a.length cap) a):=hR;have HS:Hid (dJ w (aG to b.length Cw) b):=hS;have HC:Hid (Cn a x/\Cn b y):=⟨ha,hb⟩;clear hR hS ha hb
 go_enter func129,ntmps129
 by_cases hn:a.length=b.length
 .have hnb:((a.length:Int) != (b.length:Int))=false:=by rw[hn];simp
  have HN:Hid (a.length=b.length):=hn;clear hn
  go_wp2_with fail
  go_loopg [5] a.length (λg nv wr=>∃(m:Nat)(i:Int),m=g/\i=(m:Int)-1/\nv=az aJ i/\m<=a.length/\Hid (aj w wr/\a.drop m=b.drop m))
  case atStart=>exact⟨_,_,rfl,rfl,by congr 1,aY _,Below.refl _ _,by rw[Fz,HN.out,Fz]⟩
  case round=>
   obtain⟨m,i,rfl,hi,rfl,hg,HI⟩:=hrel;rcases m with _|j
   .have e:i= -1:=aa
    subst e;have hf:(0<=(0:Int)↔y<=x)/\aj w wr:=by
     have:=HI.out.2;rw[JY,JY] at this;have h1:=HC.out.1.v;rw[this,HC.out.2.v] at h1;exact⟨⟨λ_=>aa,λ_=>aa⟩,HI.out.1⟩
    have HF:Hid ((0<=(0:Int)↔y<=x)/\aj w wr):=hf;clear hf HI hi
    go_wp2_with fail
    go_ret
    exact⟨_,rfl,HF.out⟩
   .have e:i=(j:Int):=aa
    subst e;have hjl:j<a.length:=aa
    have hjb:j<b.length:=by have:=HN.out;omega
    obtain⟨d,hd⟩:∃d,a[j]?=some d:=⟨_,bo hjl⟩;obtain⟨e,he⟩:∃d,b[j]?=some d:=⟨_,bo hjb⟩;obtain⟨p,rfl,hp,e0⟩:=vS HR.out hd;obtain⟨q,rfl,hq,e1⟩:=vS HS.out he;have r0:wr.cell? ⟨p,j,none⟩=some (az aJ (d:Int)):=aS HI.out.1 e0 hp;have r1:wr.cell? ⟨q,j,none⟩=some (az aJ (e:Int)):=aS HI.out.1 e1 hq;have hd1:=HC.out.1.d d (bT hd);have he1:=HC.out.2.d e (bT he);have HD:Hid (a[j]?=some d/\b[j]?=some e):=⟨hd,he⟩;have hjp:(0:Int)<=(j:Int):=aa
    have L4:(j:Int)<(a.length:Int):=aa
    have at4:(j:Int)<(b.length:Int):=aa
    by_cases hde:d=e
    .subst hde;clear hd he e0 e1 hi
     go_wp2_with fail
     go_quiet (fail)
     go_wp2_with fail
     go_roundg j
     case measure=>omega
     case rel=>
      refine⟨_,_,rfl,rfl,by congr 1,aa,NK HI.out.1 _,?_⟩
      rw[uC hjl,uC hjb,(cG.1 HD.out.1).2,(cG.1 HD.out.2).2,HI.out.2]
    .have Ir:((d:Int) != (e:Int))=true:=by rw[yx];omega
     have hf:(0<=(d:Int)-(e:Int)↔y<=x)/\aj w wr:=by
      refine⟨?_,HI.out.1⟩;have hs:=HI.out.2;rcases oK d e with z|z
      .have:=aem HC.out.1.d hd he hs z;rw[HC.out.1.v,HC.out.2.v] at this;omega
      .have:=aem HC.out.2.d he hd hs.symm aa
       rw[HC.out.1.v,HC.out.2.v] at this;omega
     have HF:Hid ((0<=(d:Int)-(e:Int)↔y<=x)/\aj w wr):=hf;have hwr:IntKind.i64.wrap ((d:Int)-(e:Int))=(d:Int)-(e:Int):=by rw[IntKind.wrap_i64];omega
     clear hf hd he e0 e1 hi HI hde
     go_wp2_with fail
     go_quiet (fail)
     go_wp2_with fail
     go_quiet (fail)
     go_wp2_with fail
     go_ret
     exact⟨_,rfl,HF.out.1,NK (NK HF.out.2 _) _⟩
 .have hnb:((a.length:Int) != (b.length:Int))=true:=by rw[yx];omega
  have HF:Hid (0<=(a.length:Int)-(b.length:Int)↔y<=x):=by
   rcases oK a.length b.length with z|z
   .have:=HC.out.1.lt HC.out.2 z;show _↔_;omega
   .have:=HC.out.2.lt HC.out.1 aa
    show _↔_;omega
  have hwr:IntKind.i64.wrap ((a.length:Int)-(b.length:Int))=(a.length:Int)-(b.length:Int):=by rw[IntKind.wrap_i64];omega
  clear hn
  go_wp2_with fail
  go_ret
  exact⟨_,rfl,HF.out,Below.refl _ _⟩
def dg(a:List Nat)(i:Nat):Nat:=a[i]?.getD 0
theorem sB(h:a[i]?=some d):dg a i=d:=by rw[dg,h];rfl
theorem vT(h:a.length<=i):dg a i=0:=by rw[dg,yw h];rfl
theorem NN(a:List Nat)(i:Nat):val (a.drop i)=dg a i+1073741824*val (a.drop (i+1)):=by
 rcases oK i a.length with h|h
 .rw[uC h,sB (bo h)];rfl
 .rw[vT h,FB h,FB aa];rfl
theorem NQ(h:∀d∈a,d<1073741824)(i:Nat):dg a i<1073741824:=by
 rcases oK i a.length with h1|h1
 .rw[sB (bo h1)];exact h _ (gZ h1)
 .rw[vT h1];decide
theorem UN(h:Cn a x)(hi:i+1=a.length):dg a i≠0:=by
 have hk:i<a.length:=aa
 rw[sB (bo hk)];exact h.h _ (by rw[pG,<-hi];exact bo hk)
structure zW(a b:List Nat)(s i c:Nat)(o:List Nat):Prop where
 l:o.length=i
 v:val o+1073741824 ^ i*(c+val (a.drop i)+val (b.drop i))=s
 d:∀e∈o,e<1073741824
 h:a.length<=i->b.length<=i->c=0->∀e,o.getLast?=some e->e≠0
 c:c<=1
theorem zW.step(h:zW a b s i c o)(ha:Cn a x)(hb:Cn b y)(hgo:i<a.length\/i<b.length\/0<c):zW a b s (i+1) ((c+dg a i+dg b i)/1073741824) (o++[(c+dg a i+dg b i)%1073741824]):=by
 have h1:=NQ ha.d i;have h2:=NQ hb.d i;have h3:=h.c;refine⟨by simp[h.l],?_,?_,?_,aa⟩
 .rw[<-h.v,NI,h.l,NN a i,NN b i,yD];have e:=agW (c+dg a i+dg b i) 1073741824;generalize(c+dg a i+dg b i)/1073741824=q at*;generalize hr:(c+dg a i+dg b i)%1073741824=r at*;generalize val (a.drop (i+1))=A;generalize val (b.drop (i+1))=B;have:c+(dg a i+1073741824*A)+(dg b i+1073741824*B)=r+1073741824*(q+A+B):=aa
  generalize 1073741824 ^ i=P;rw[this,sV P r,<-sQ P];omega
 .intro z hz;rcases dv.1 hz with q|q
  .exact h.d z q
  .rw[dh.1 q];exact yB _ ah
 .intro q1 q2 q3 z hz;have hz':(c+dg a i+dg b i)%1073741824=z:=by simpa using hz
  have:dg a i≠0\/dg b i≠0\/0<c:=by
   rcases hgo with g|g|g
   .exact aU (UN ha aa)
   .exact aT (aU (UN hb aa))
   .exact aT (aT g)
  omega
theorem zW.done(h:zW a b s i 0 o)(h1:a.length<=i)(h2:b.length<=i):Cn o s:=by
 refine⟨?_,h.d,h.h h1 h2 rfl⟩;have:=h.v;rw[FB h1,FB h2] at this;simpa[val] using this
theorem apU(a b:List Nat)(x y:Nat)(v u:aN)(w:aM)(hR:dJ w v a)(hS:dJ w u b)(ha:Cn a x)(hb:Cn b y)(M:Nat)(lI:a.length<=M)(hlb:b.length<=M)(hM:M<=100):
  ak 128 #[v,u] w λe w'=>∃v,e=aL v/\∃o,dJ w' v o/\Cn o (x+y)/\o.length<=M+1/\aj w w':=by
 obtain⟨i0,hi,hz0,hz1,hz2⟩:=info_parts Je;obtain⟨so,cap,rfl⟩:=lD hR;obtain⟨to,Cw,rfl⟩:=lD hS;have HR:Hid (dJ w (aG so a.length cap) a):=hR;have HS:Hid (dJ w (aG to b.length Cw) b):=hS;have HC:Hid (Cn a x/\Cn b y):=⟨ha,hb⟩;clear hR hS ha hb
 go_enter func128,ntmps128
 go_wp2_with fail
 go_loopg [5,6,7] (M+1) (λg ov cv iv wr=>∃(i c:Nat)(o:List Nat),i+g=M+1/\cv=az aJ c/\iv=az aJ i/\c<=1/\o.length<=102/\Hid (wr.ownsRow w.heap.size 3 1 ov o.length (o.map λd:Nat=>Value.int aJ (d:Int))/\aj w wr/\zW a b (x+y) i c o/\(i=M+1->c=0)))
 case atStart=>
  refine⟨0,0,[],aa,rfl,rfl,aa,af,World.ownsRow_nil _ _ _ _,Below.refl _ _,⟨rfl,?_,af,af,aa⟩,λ_=>rfl⟩
  rw[JY,JY,HC.out.1.v,HC.out.2.v];simp[val]
 case round=>
  obtain⟨i,c,o,hg,rfl,rfl,hc1,hol,HI⟩:=hrel;by_cases hend:a.length<=i/\b.length<=i/\c=0
  .obtain⟨n1,n2,rfl⟩:=hend;obtain⟨hown,aW,zL,hm⟩:=HI.out;have hf:∃o',dJ wr _ o'/\Cn o' (x+y)/\o'.length<=M+1/\aj w wr:=⟨o,zg hown,zL.done n1 n2,by rw[zL.l];omega,aW⟩
   have HF:Hid _:=hf;have m1:¬(i:Int)<(a.length:Int):=aa
   have m2:¬(i:Int)<(b.length:Int):=aa
   clear hown aW zL hm hf HI n1 n2
   go_wp2_with fail
   go_ret
   exact⟨_,rfl,HF.out⟩
  .have hstep:∃T,T=c+dg a i+dg b i/\T<2147483648/\zW a b (x+y) (i+1) (T/1073741824) (o++[T%1073741824])/\i<=M/\(i=M->T/1073741824=0):=by
    obtain⟨hown,aW,zL,hm⟩:=HI.out;have h1:=NQ HC.out.1.d i;have h2:=NQ HC.out.2.d i;refine⟨_,rfl,aa,zL.step HC.out.1 HC.out.2 aa,aa,λe=>?_⟩
    rw[vT (a:=a) aa,vT (a:=b) aa]
    omega
   obtain⟨T,hT,hTb,HST⟩:=hstep;have HT:Hid (zW a b (x+y) (i+1) (T/1073741824) (o++[T%1073741824])/\i<=M/\(i=M->T/1073741824=0)):=HST;clear HST;have Hy:(∃d,a[i]?=some d)\/a.length<=i:=by
    rcases oK i a.length with h|h
    .exact aU ⟨_,bo h⟩
    .exact aT h
   have hcb:(∃d,b[i]?=some d)\/b.length<=i:=by
    rcases oK i b.length with h|h
    .exact aU ⟨_,bo h⟩
    .exact aT h
   have hown:=HI.out.1;have aW:=HI.out.2.1;have hsz:=aW.size;have hil:(i:Int)<9223372036854775807:=aa
   rcases Hy with⟨d,hd⟩|hna
   .obtain⟨p,rfl,hp,e0⟩:=vS HR.out hd;have r0:wr.cell? ⟨p,i,none⟩=some (az aJ (d:Int)):=aS aW e0 hp;have oZ:=HC.out.1.d d (bT hd);have m1:(i:Int)<(a.length:Int):=by have:=(cG.1 hd).1;omega
    have jL:=sB hd;rcases hcb with⟨e,he⟩|hnb
    .obtain⟨q,rfl,hq,e1⟩:=vS HS.out he;have r1:wr.cell? ⟨q,i,none⟩=some (az aJ (e:Int)):=aS aW e1 hq;have hel:=HC.out.2.d e (bT he);have m2:(i:Int)<(b.length:Int):=by have:=(cG.1 he).1;omega
     have hmk:bits .and aJ ((c:Int)+(d:Int)+(e:Int)) 1073741823=((T%1073741824:Nat):Int):=by
      have:=Jd T aa
      rw[<-this,hT,jL,sB he];rfl
     have qZ:Hid (T=c+d+e):=by rw[hT,jL,sB he];rfl
     clear HI hend hT hd he jL e0 e1
     go_wp2_with (at_builtin;refine wpList_append_lies _ rfl (.tmp 44) (.tmp 47) 142 rfl w.heap.size 3 i0 _ 1 8 underlying142 hi hz0 hz1 hz2 rfl ah u5 o.length (o.map λd:Nat=>Value.int aJ (d:Int)) rfl (bB hown (λk hk=>Below.heap_alloc _ _ _ (bn hown k hk).2)) ⟨wr.heap.size,0,none⟩ 1 1 [az aJ ((T%1073741824:Nat):Int)] rfl rfl (World.news_of_block (cs:= #[az aJ ((T%1073741824:Nat):Int)]) (t:=3) (fr:=(0,0)) (heap_alloc_new wr _)) (by simp[Value.oneCell']) ah (by unfold maxLen;omega) aa (by simp;omega) (wr.heap.size+1) af ?_;intro gg cap' w9 ho hgrow hat rP)
     go_wp2_with fail
     have xH:=qZ.out;obtain⟨s1,s2,s3⟩:=HT.out
     go_roundg (M-i)
     case measure=>omega
     case rel=>
      refine⟨i+1,T/1073741824,o++[T%1073741824],aa,aZ _ aa,aZ _ aa,s1.c,by rw[s1.l];omega,by simpa using ho,(aW.alloc aW.size _).grown hgrow (by simp;omega) (λk hk=>(bn hown k hk).1),s1,λe=>s3 aa⟩
    .have m2:¬(i:Int)<(b.length:Int):=aa
     have hmk:bits .and aJ ((c:Int)+(d:Int)) 1073741823=((T%1073741824:Nat):Int):=by
      have:=Jd T aa
      rw[<-this,hT,jL,vT hnb];rfl
     have qZ:Hid (T=c+d):=by rw[hT,jL,vT hnb];rfl
     clear HI hend hT hd jL e0 hnb
     go_wp2_with (at_builtin;refine wpList_append_lies _ rfl (.tmp 44) (.tmp 47) 142 rfl w.heap.size 3 i0 _ 1 8 underlying142 hi hz0 hz1 hz2 rfl ah u5 o.length (o.map λd:Nat=>Value.int aJ (d:Int)) rfl (bB hown (λk hk=>Below.heap_alloc _ _ _ (bn hown k hk).2)) ⟨wr.heap.size,0,none⟩ 1 1 [az aJ ((T%1073741824:Nat):Int)] rfl rfl (World.news_of_block (cs:= #[az aJ ((T%1073741824:Nat):Int)]) (t:=3) (fr:=(0,0)) (heap_alloc_new wr _)) (by simp[Value.oneCell']) ah (by unfold maxLen;omega) aa (by simp;omega) (wr.heap.size+1) af ?_;intro gg cap' w9 ho hgrow hat rP)
     go_wp2_with fail
     have xH:=qZ.out;obtain⟨s1,s2,s3⟩:=HT.out
     go_roundg (M-i)
     case measure=>omega
     case rel=>
      refine⟨i+1,T/1073741824,o++[T%1073741824],aa,aZ _ aa,aZ _ aa,s1.c,by rw[s1.l];omega,by simpa using ho,(aW.alloc aW.size _).grown hgrow (by simp;omega) (λk hk=>(bn hown k hk).1),s1,λe=>s3 aa⟩
   .have m1:¬(i:Int)<(a.length:Int):=aa
    have jL:=vT hna;rcases hcb with⟨e,he⟩|hnb
    .obtain⟨q,rfl,hq,e1⟩:=vS HS.out he;have r1:wr.cell? ⟨q,i,none⟩=some (az aJ (e:Int)):=aS aW e1 hq;have hel:=HC.out.2.d e (bT he);have m2:(i:Int)<(b.length:Int):=by have:=(cG.1 he).1;omega
     have hmk:bits .and aJ ((c:Int)+(e:Int)) 1073741823=((T%1073741824:Nat):Int):=by
      have:=Jd T aa
      rw[<-this,hT,jL,sB he];rfl
     have qZ:Hid (T=c+e):=by rw[hT,jL,sB he];rfl
     clear HI hend hT he jL e1 hna
     go_wp2_with (at_builtin;refine wpList_append_lies _ rfl (.tmp 44) (.tmp 47) 142 rfl w.heap.size 3 i0 _ 1 8 underlying142 hi hz0 hz1 hz2 rfl ah u5 o.length (o.map λd:Nat=>Value.int aJ (d:Int)) rfl (bB hown (λk hk=>Below.heap_alloc _ _ _ (bn hown k hk).2)) ⟨wr.heap.size,0,none⟩ 1 1 [az aJ ((T%1073741824:Nat):Int)] rfl rfl (World.news_of_block (cs:= #[az aJ ((T%1073741824:Nat):Int)]) (t:=3) (fr:=(0,0)) (heap_alloc_new wr _)) (by simp[Value.oneCell']) ah (by unfold maxLen;omega) aa (by simp;omega) (wr.heap.size+1) af ?_;intro gg cap' w9 ho hgrow hat rP)
     go_wp2_with fail
     have xH:=qZ.out;obtain⟨s1,s2,s3⟩:=HT.out
     go_roundg (M-i)
     case measure=>omega
     case rel=>
      refine⟨i+1,T/1073741824,o++[T%1073741824],aa,aZ _ aa,aZ _ aa,s1.c,by rw[s1.l];omega,by simpa using ho,(aW.alloc aW.size _).grown hgrow (by simp;omega) (λk hk=>(bn hown k hk).1),s1,λe=>s3 aa⟩
    .have xH:T=c:=by rw[hT,jL,vT hnb];rfl
     have qZ:Hid (T=c):=xH;have m2:¬(i:Int)<(b.length:Int):=aa
     have hc:c=1:=aa
     subst hc;have hmk:bits .and aJ 1 1073741823=((T%1073741824:Nat):Int):=by rw[xH];rfl
     clear HI hend hT hna hnb jL xH hc1
     go_wp2_with (at_builtin;refine wpList_append_lies _ rfl (.tmp 44) (.tmp 47) 142 rfl w.heap.size 3 i0 _ 1 8 underlying142 hi hz0 hz1 hz2 rfl ah u5 o.length (o.map λd:Nat=>Value.int aJ (d:Int)) rfl (bB hown (λk hk=>Below.heap_alloc _ _ _ (bn hown k hk).2)) ⟨wr.heap.size,0,none⟩ 1 1 [az aJ ((T%1073741824:Nat):Int)] rfl rfl (World.news_of_block (cs:= #[az aJ ((T%1073741824:Nat):Int)]) (t:=3) (fr:=(0,0)) (heap_alloc_new wr _)) (by simp[Value.oneCell']) ah (by unfold maxLen;omega) aa (by simp;omega) (wr.heap.size+1) af ?_;intro gg cap' w9 ho hgrow hat rP)
     go_wp2_with fail
     have xH:=qZ.out;obtain⟨s1,s2,s3⟩:=HT.out
     go_roundg (M-i)
     case measure=>omega
     case rel=>
      refine⟨i+1,T/1073741824,o++[T%1073741824],aa,aZ _ aa,aZ _ aa,s1.c,by rw[s1.l];omega,by simpa using ho,(aW.alloc aW.size _).grown hgrow (by simp;omega) (λk hk=>(bn hown k hk).1),s1,λe=>s3 aa⟩
structure DI(a b:List Nat)(x y i c:Nat)(o:List Nat):Prop where
 l:o.length=i
 v:val o+y+1073741824 ^ i*val (a.drop i)=x+1073741824 ^ i*(c+val (b.drop i))
 d:∀e∈o,e<1073741824
 c:c<=1
theorem DI.step{t c':Nat}(h:DI a b x y i c o)(ht:t+c+dg b i=dg a i+1073741824*c')(h1:t<1073741824)(h2:c'<=1):DI a b x y (i+1) c' (o++[t]):=by
 refine⟨by simp[h.l],?_,?_,h2⟩
 .have hv:=h.v;rw[NN a i,NN b i] at hv;rw[NI,h.l,yD];generalize val (a.drop (i+1))=A at*;generalize val (b.drop (i+1))=B at*;generalize 1073741824 ^ i=P at*;have e:P*(t+c+dg b i)=P*(dg a i+1073741824*c'):=by rw[ht]
  simp only[sV,sQ] at*;omega
 .intro z hz;rcases dv.1 hz with q|q
  .exact h.d z q
  .rw[dh.1 q];exact h1
theorem DI.done(h:DI a b x y a.length c o)(hb:b.length<=a.length)(hyx:y<=x):val o=x-y:=by
 have hv:=h.v;rw[Fz,FB hb] at hv;have h2:=NM h.d;rw[h.l] at h2;have h3:=h.c;have hc:c=0\/c=1:=aa
 simp only[val,Nat.mul_zero,rA] at hv;rcases hc with rfl|rfl
 .omega
 .omega
theorem aeo(a b:List Nat)(x y:Nat)(v u:aN)(w:aM)(hR:dJ w v a)(hS:dJ w u b)(ha:Cn a x)(hb:Cn b y)(lI:a.length<=100)(hyx:y<=x):
  ak 130 #[v,u] w λe w'=>∃v,e=aL v/\∃o,dJ w' v o/\Cn o (x-y)/\o.length<=a.length/\aj w w':=by
 obtain⟨i0,hi,hz0,hz1,hz2⟩:=info_parts Je;have EU:b.length<=a.length:=by
  rcases oK a.length b.length with z|z
  .have:=ha.lt hb z;omega
  .exact z
 obtain⟨so,cap,rfl⟩:=lD hR;obtain⟨to,Cw,rfl⟩:=lD hS;have HR:Hid (dJ w (aG so a.length cap) a):=hR;have HS:Hid (dJ w (aG to b.length Cw) b):=hS;have HC:Hid (Cn a x/\Cn b y/\y<=x/\b.length<=a.length):=⟨ha,hb,hyx,EU⟩;clear hR hS ha hb hyx EU
 go_enter func130,ntmps130
 go_wp2_with fail
 go_loopg [5,6,7] a.length (λg ov cv iv wr=>∃(i c:Nat)(o:List Nat),i+g=a.length/\cv=az aJ c/\iv=az aJ i/\c<=1/\o.length<=100/\Hid (wr.ownsRow w.heap.size 3 1 ov o.length (o.map λd:Nat=>Value.int aJ (d:Int))/\aj w wr/\DI a b x y i c o))
 case atStart=>
  refine⟨0,0,[],aa,rfl,rfl,aa,af,World.ownsRow_nil _ _ _ _,Below.refl _ _,⟨rfl,?_,af,aa⟩⟩
  rw[JY,JY,HC.out.1.v,HC.out.2.1.v];simp[val];omega
 case round=>
  obtain⟨i,c,o,hg,rfl,rfl,hc1,hol,HI⟩:=hrel;have hown:=HI.out.1;have aW:=HI.out.2.1;have hsz:=aW.size;rcases oK i a.length with hia|hia
  .obtain⟨d,hd⟩:∃d,a[i]?=some d:=⟨_,bo hia⟩;obtain⟨p,rfl,hp,e0⟩:=vS HR.out hd;have r0:wr.cell? ⟨p,i,none⟩=some (az aJ (d:Int)):=aS aW e0 hp;have oZ:=HC.out.1.d d (bT hd);have m1:(i:Int)<(a.length:Int):=aa
   have jL:=sB hd;rcases oK i b.length with hib|hib
   .obtain⟨e,he⟩:∃d,b[i]?=some d:=⟨_,bo hib⟩;obtain⟨q,rfl,hq,e1⟩:=vS HS.out he;have r1:wr.cell? ⟨q,i,none⟩=some (az aJ (e:Int)):=aS aW e1 hq;have hel:=HC.out.2.1.d e (bT he);have m2:(i:Int)<(b.length:Int):=aa
    by_cases hn:(d:Int)-(c:Int)-(e:Int)<0
    .obtain⟨t,ht⟩:∃t:Nat,(d:Int)-(c:Int)-(e:Int)+1073741824=(t:Int):=⟨((d:Int)-(c:Int)-(e:Int)+1073741824).toNat,aa⟩
     have HT:Hid (DI a b x y (i+1) 1 (o++[t])):=HI.out.2.2.step (by rw[jL,sB he];omega) aa aa
     clear HI hd he jL e0 e1 hia hib
     go_wp2_with (at_builtin;refine wpList_append_lies _ rfl (.tmp 35) (.tmp 37) 142 rfl w.heap.size 3 i0 _ 1 8 underlying142 hi hz0 hz1 hz2 rfl ah u5 o.length (o.map λd:Nat=>Value.int aJ (d:Int)) rfl (bB hown (λk hk=>Below.heap_alloc _ _ _ (bn hown k hk).2)) ⟨wr.heap.size,0,none⟩ 1 1 [az aJ (t:Int)] rfl rfl (World.news_of_block (cs:= #[az aJ (t:Int)]) (t:=3) (fr:=(0,0)) (heap_alloc_new wr _)) (by simp[Value.oneCell']) ah (by unfold maxLen;omega) aa (by simp;omega) (wr.heap.size+1) af ?_;intro gg cap' w9 ho hgrow hat rP)
     go_wp2_with fail
     have s1:=HT.out
     go_roundg (a.length-(i+1))
     case measure=>omega
     case rel=>exact⟨i+1,1,o++[t],aa,rfl,aZ _ aa,s1.c,by rw[s1.l];omega,by simpa using ho,(aW.alloc aW.size _).grown hgrow (by simp;omega) (λk hk=>(bn hown k hk).1),s1⟩
    .obtain⟨t,ht⟩:∃t:Nat,(d:Int)-(c:Int)-(e:Int)=(t:Int):=⟨((d:Int)-(c:Int)-(e:Int)).toNat,aa⟩
     have HT:Hid (DI a b x y (i+1) 0 (o++[t])):=HI.out.2.2.step (by rw[jL,sB he];omega) aa aa
     have htn:¬(t:Int)<0:=aa
     clear HI hd he jL e0 e1 hia hib
     go_wp2_with (at_builtin;refine wpList_append_lies _ rfl (.tmp 35) (.tmp 37) 142 rfl w.heap.size 3 i0 _ 1 8 underlying142 hi hz0 hz1 hz2 rfl ah u5 o.length (o.map λd:Nat=>Value.int aJ (d:Int)) rfl (bB hown (λk hk=>Below.heap_alloc _ _ _ (bn hown k hk).2)) ⟨wr.heap.size,0,none⟩ 1 1 [az aJ (t:Int)] rfl rfl (World.news_of_block (cs:= #[az aJ (t:Int)]) (t:=3) (fr:=(0,0)) (heap_alloc_new wr _)) (by simp[Value.oneCell']) ah (by unfold maxLen;omega) aa (by simp;omega) (wr.heap.size+1) af ?_;intro gg cap' w9 ho hgrow hat rP)
     go_wp2_with fail
     have s1:=HT.out
     go_roundg (a.length-(i+1))
     case measure=>omega
     case rel=>exact⟨i+1,0,o++[t],aa,rfl,aZ _ aa,s1.c,by rw[s1.l];omega,by simpa using ho,(aW.alloc aW.size _).grown hgrow (by simp;omega) (λk hk=>(bn hown k hk).1),s1⟩
   .have m2:¬(i:Int)<(b.length:Int):=aa
    by_cases hn:(d:Int)-(c:Int)<0
    .obtain⟨t,ht⟩:∃t:Nat,(d:Int)-(c:Int)+1073741824=(t:Int):=⟨((d:Int)-(c:Int)+1073741824).toNat,aa⟩
     have HT:Hid (DI a b x y (i+1) 1 (o++[t])):=HI.out.2.2.step (by rw[jL,vT hib];omega) aa aa
     clear HI hd jL e0 hia hib
     go_wp2_with (at_builtin;refine wpList_append_lies _ rfl (.tmp 35) (.tmp 37) 142 rfl w.heap.size 3 i0 _ 1 8 underlying142 hi hz0 hz1 hz2 rfl ah u5 o.length (o.map λd:Nat=>Value.int aJ (d:Int)) rfl (bB hown (λk hk=>Below.heap_alloc _ _ _ (bn hown k hk).2)) ⟨wr.heap.size,0,none⟩ 1 1 [az aJ (t:Int)] rfl rfl (World.news_of_block (cs:= #[az aJ (t:Int)]) (t:=3) (fr:=(0,0)) (heap_alloc_new wr _)) (by simp[Value.oneCell']) ah (by unfold maxLen;omega) aa (by simp;omega) (wr.heap.size+1) af ?_;intro gg cap' w9 ho hgrow hat rP)
     go_wp2_with fail
     have s1:=HT.out
     go_roundg (a.length-(i+1))
     case measure=>omega
     case rel=>exact⟨i+1,1,o++[t],aa,rfl,aZ _ aa,s1.c,by rw[s1.l];omega,by simpa using ho,(aW.alloc aW.size _).grown hgrow (by simp;omega) (λk hk=>(bn hown k hk).1),s1⟩
    .obtain⟨t,ht⟩:∃t:Nat,(d:Int)-(c:Int)=(t:Int):=⟨((d:Int)-(c:Int)).toNat,aa⟩
     have HT:Hid (DI a b x y (i+1) 0 (o++[t])):=HI.out.2.2.step (by rw[jL,vT hib];omega) aa aa
     have htn:¬(t:Int)<0:=aa
     clear HI hd jL e0 hia hib
     go_wp2_with (at_builtin;refine wpList_append_lies _ rfl (.tmp 35) (.tmp 37) 142 rfl w.heap.size 3 i0 _ 1 8 underlying142 hi hz0 hz1 hz2 rfl ah u5 o.length (o.map λd:Nat=>Value.int aJ (d:Int)) rfl (bB hown (λk hk=>Below.heap_alloc _ _ _ (bn hown k hk).2)) ⟨wr.heap.size,0,none⟩ 1 1 [az aJ (t:Int)] rfl rfl (World.news_of_block (cs:= #[az aJ (t:Int)]) (t:=3) (fr:=(0,0)) (heap_alloc_new wr _)) (by simp[Value.oneCell']) ah (by unfold maxLen;omega) aa (by simp;omega) (wr.heap.size+1) af ?_;intro gg cap' w9 ho hgrow hat rP)
     go_wp2_with fail
     have s1:=HT.out
     go_roundg (a.length-(i+1))
     case measure=>omega
     case rel=>exact⟨i+1,0,o++[t],aa,rfl,aZ _ aa,s1.c,by rw[s1.l];omega,by simpa using ho,(aW.alloc aW.size _).grown hgrow (by simp;omega) (λk hk=>(bn hown k hk).1),s1⟩
  .obtain rfl:i=a.length:=aa
   have m1:¬(a.length:Int)<(a.length:Int):=aa
   have HF:Hid (val o=x-y/\(∀e∈o,e<1073741824)/\o.length=a.length):=⟨HI.out.2.2.done HC.out.2.2.2 HC.out.2.2.1,HI.out.2.2.d,HI.out.2.2.l⟩;have hw0:=zg hown;have apV:=aW.size;clear HI hia hg
   go_wp2_with fail
   refine(ael o _ wr hw0 aa HF.out.2.1).mono ?_
   rintro e w4 ⟨v4,rfl,o4,mL,NR,hl4,hb4⟩
   go_wp2_with fail
   go_ret
   refine⟨_,rfl,o4,mL,by rw[<-HF.out.1];exact NR,by have:=HF.out.2.2;omega,aW.trans (hb4.mono apV)⟩
theorem aep(h:o[k]?=some d)(e:Nat):val (o.set k e)+1073741824 ^ k*d=val o+1073741824 ^ k*e:=by
 obtain⟨hk,hd⟩:=cG.1 h;have h1:=EZ h;have h2:=EZ (a:=o.set k e) (k:=k) (d:=e) (by rw[sO hk])
 rw[List.take_set_of_le (aY k),List.drop_set_of_lt aa] at h2
 rw[h1,h2,sV,sV];omega
theorem aeq(h:b[j]?=some e):val (b.take (j+1))=val (b.take j)+1073741824 ^ j*e:=by
 obtain⟨hk,hd⟩:=cG.1 h;rw[pH hk,hd,NI,iB,CW aa]
structure MI(b:List Nat)(n S i j d c:Nat)(o:List Nat):Prop where
 l:o.length=n
 v:val o+1073741824 ^ (i+j)*c=S+1073741824 ^ i*d*val (b.take j)
 d:∀e∈o,e<1073741824
 z:∀k e,i+b.length<=k->o[k]?=some e->e=0
 c:c<1073741824
theorem aer(h:d<1073741824)(h':e<1073741824):d*e<=1073741823*1073741823:=CZ aa aa
theorem MI.step{T:Nat}(h:MI b n S i j d c o)(hb:b[j]?=some e)(he:e<1073741824)(hd:d<1073741824)(ho:o[i+j]?=some f)(hT:T=c+f+d*e):MI b n S i (j+1) d (T/1073741824) (o.set (i+j) (T%1073741824)):=by
 have h1:=aer hd he;have h2:=h.c;have h3:=h.d f (bT ho);refine⟨by rw[Fx,h.l],?_,?_,?_,aa⟩
 .have hv:=h.v;have hs:=aep ho (T%1073741824);have ht:=aeq hb;have hm:=agW T 1073741824;rw[ht,<-agj i j 1,yD,sV];have e1:1073741824 ^ i*d*(1073741824 ^ j*e)=1073741824 ^ (i+j)*(d*e):=by
   rw[sP];ac_rfl
  have e2:1073741824 ^ (i+j)*T=1073741824 ^ (i+j)*(1073741824*(T/1073741824)+T%1073741824):=by rw[hm]
  have e3:1073741824 ^ (i+j)*T=1073741824 ^ (i+j)*(c+f+d*e):=by rw[<-hT]
  rw[e1];generalize 1073741824 ^ (i+j)=P at*;generalize T/1073741824=q at*;generalize T%1073741824=r at*;generalize d*e=m at*;rw[sV,sV] at e3;rw[sV,<-sQ] at e2;omega
 .intro z hz;rcases Wa hz with q|q
  .exact h.d z q
  .rw[q];exact yB _ ah
 .intro k z hk hz;have hjb:=(cG.1 hb).1;rw[wm aa] at hz
  exact h.z k z hk hz
theorem MI.row(h:MI b n S i b.length d c o)(hy:val b=y)(ho:o[i+b.length]?=some f):
  (o.set (i+b.length) c).length=n/\val (o.set (i+b.length) c)=S+1073741824 ^ i*d*y/\(∀e∈o.set (i+b.length) c,e<1073741824)/\(∀k e,i+1+b.length<=k->(o.set (i+b.length) c)[k]?=some e->e=0):=by
 refine⟨by rw[Fx,h.l],?_,?_,?_⟩
 .have hf:=h.z _ f (aY _) ho;subst hf;have hs:=aep ho c;have hv:=h.v;rw[fO,hy] at hv;omega
 .intro z hz;rcases Wa hz with q|q
  .exact h.d z q
  .rw[q];exact h.c
 .intro k z hk hz;rw[wm aa] at hz
  exact h.z k z aa hz
structure BI(w wr:aM)(g:Nat)(o:List Nat):Prop where
 h:wr.heap[g]?=some (.cells (o.map λd:Nat=>Value.int aJ (d:Int)).toArray 3 (0,0))
 g:w.heap.size<=g
 b:aj w wr
theorem BI.cell(h:BI w wr g o)(hk:o[k]?=some d):wr.cell? ⟨g,k,none⟩=some (az aJ (d:Int)):=by
 rw[cell_of h.h];simp[hk]
theorem BI.fr(h:BI w wr g o)(k:Nat):wr.frozen? ⟨g,k,none⟩=false:=bK h.h k
theorem BI.dn(h:BI w wr g o)(q:Nat):BI w (wr.drewN q) g o:=⟨h.h,h.g,NK h.b q⟩
theorem BI.set(h:BI w wr g o)(k d:Nat):BI w (wr.setCell ⟨g,k,none⟩ (az aJ (d:Int))) g (o.set k d):=by
 refine⟨?_,h.g,h.b.setCell h.g _⟩;rw[heap_set h.h];congr 2;apply Array.ext';simp[List.map_set]
theorem BI.rd(h:BI w wr g o)(hl:o.length<=100):dJ wr (aG (some ⟨g,0,none⟩) o.length o.length) o:=by
 refine⟨af,aT ⟨g,o.length,(o.map λd:Nat=>Value.int aJ (d:Int)).toArray,rfl,aa,h.h,aa,by unfold maxLen;omega,af,?_⟩⟩
 rw[OG,qw af]
theorem apW(a b:List Nat)(x y:Nat)(v u:aN)(w:aM)(hR:dJ w v a)(hS:dJ w u b)(ha:Cn a x)(hb:Cn b y)(lI:a.length<=40)(hlb:b.length<=40):
  ak 131 #[v,u] w λe w'=>∃v,e=aL v/\∃o,dJ w' v o/\Cn o (x*y)/\o.length<=a.length+b.length/\aj w w':=by
 obtain⟨i0,hi,hz0,hz1,hz2⟩:=info_parts Je;obtain⟨so,cap,rfl⟩:=lD hR;obtain⟨to,Cw,rfl⟩:=lD hS;have HR:Hid (dJ w (aG so a.length cap) a):=hR;have HS:Hid (dJ w (aG to b.length Cw) b):=hS;have HC:Hid (Cn a x/\Cn b y):=⟨ha,hb⟩;obtain⟨n,hn⟩:∃n,n=a.length+b.length:=⟨_,rfl⟩;obtain⟨M,hM⟩:∃M,M=((List.replicate n 0).map λd:Nat=>Value.int aJ (d:Int)).toArray:=⟨_,rfl⟩
 have hmk:∀W:aM,(Instr.makeSlice 142 (az aJ ((a.length:Int)+(b.length:Int))) (az aJ ((a.length:Int)+(b.length:Int)))).run prog W=.ok (aG (some ⟨W.heap.size,0,none⟩) n n) (W.alloc (.cells M 3)):=λW=>by
  have h:=run_make_row' (P:=prog) 142 3 (az aJ 0) 8 underlying142 Je rfl aJ aJ n aa aa W
  have e:madeCells #[az aJ 0] n=M:=by
   rw[hM];apply Array.ext';rw[toList_madeCells_one];simp
  rw[e] at h;rw[<-h,hn,Int.natCast_add]
 have oW:Hid (BI w (w.alloc (.cells M 3)) w.heap.size (List.replicate n 0)):=⟨by rw[heap_alloc_new,hM],aY _,aw _ _⟩
 have HN:Hid (n=a.length+b.length):=hn;have kT:n<=80:=aa
 clear hR hS ha hb hM hn
 go_enter func131,ntmps131
 go_wp2_with fail
 generalize w.alloc (.cells M 3)=W0 at*;obtain⟨g,hg⟩:∃g,g=w.heap.size:=⟨_,rfl⟩;rw[<-hg]
 replace oW:Hid (BI w W0 g (List.replicate n 0)):=by rw[hg];exact oW
 clear hmk hg
 go_loopg [6] a.length (λgh iv wr=>∃(i:Nat)(o:List Nat),i+gh=a.length/\iv=az aJ i/\Hid (BI w wr g o/\o.length=n/\val o=val (a.take i)*y/\(∀e∈o,e<1073741824)/\∀k e,i+b.length<=k->o[k]?=some e->e=0))
 case atStart=>
  refine⟨0,_,aa,rfl,oW.out,af,?_,?_,?_⟩
  .rw[val_zero af];simp[val]
  .intro e he;rw[(List.mem_replicate.1 he).2];decide
  .intro k e _ he;exact(List.mem_replicate.1 (bT he)).2
 case round=>
  obtain⟨i,o,hgh,rfl,HI⟩:=hrel;rcases oK i a.length with hia|hia
  .obtain⟨d,hd⟩:∃d,a[i]?=some d:=⟨_,bo hia⟩;have oZ:=HC.out.1.d d (bT hd);have m1:(i:Int)<(a.length:Int):=aa
   have HD:Hid (a[i]?=some d):=hd;obtain⟨S,hS⟩:∃S,S=val (a.take i)*y:=⟨_,rfl⟩;have Cy:Hid (S=val (a.take i)*y):=hS;have HMI:Hid (∃o,BI w wr g o/\MI b n S i 0 d 0 o):=⟨o,HI.out.1,HI.out.2.1,by rw[HI.out.2.2.1,<-hS,agF];rfl,HI.out.2.2.2.1,HI.out.2.2.2.2,ah⟩
   clear hd hS HI
   go_wp2_with fail
   go_loopg [7,8] b.length (λgh cv jv wr=>∃(j c:Nat)(o:List Nat),j+gh=b.length/\cv=az aJ c/\jv=az aJ j/\Hid (BI w wr g o/\MI b n S i j d c o))
   case atStart=>
    obtain⟨o,h1,h2⟩:=HMI.out;exact⟨0,0,o,aa,rfl,rfl,h1,h2⟩
   case round=>
    clear HMI;obtain⟨j,c,o,Xo,rfl,rfl,HI⟩:=hrel;have hcl:=HI.out.2.c;have HL:Hid (o.length=n):=HI.out.2.l;rcases oK j b.length with hjb|hjb
    .obtain⟨e,he⟩:∃d,b[j]?=some d:=⟨_,bo hjb⟩;have hel:=HC.out.2.d e (bT he);obtain⟨f,hf⟩:∃f,o[i+j]?=some f:=⟨_,bo (by have:=HL.out;have:=HN.out;omega)⟩
     have hfl:=HI.out.2.d f (bT hf);obtain⟨p,rfl,hp,e0⟩:=vS HR.out HD.out;obtain⟨q,rfl,hq,e1⟩:=vS HS.out he;have r0:wr.cell? ⟨p,i,none⟩=some (az aJ (d:Int)):=aS HI.out.1.b e0 hp;have r1:wr.cell? ⟨q,j,none⟩=some (az aJ (e:Int)):=aS HI.out.1.b e1 hq;have r2:wr.cell? ⟨g,i+j,none⟩=some (az aJ (f:Int)):=HI.out.1.cell hf;have r3:wr.frozen? ⟨g,i+j,none⟩=false:=HI.out.1.fr _;have m2:(j:Int)<(b.length:Int):=aa
     have m3:(i:Int)+(j:Int)<(n:Int):=by have:=HN.out;omega
     have m4:(0:Int)<=(i:Int)+(j:Int):=aa
     have hmm:=aer oZ hel;obtain⟨m,hm⟩:∃m:Nat,(d:Int)*(e:Int)=(m:Int):=⟨d*e,by rw[Fm]⟩
     have UO:d*e=m:=by rw[<-Fm] at hm;omega
     have lg:m<=1152921502459363329:=by rw[UO] at hmm;omega
     obtain⟨T,hT⟩:∃T,T=c+f+m:=⟨_,rfl⟩;have hTe:(c:Int)+(f:Int)+(m:Int)=(T:Int):=aa
     have lR:T<=1152921504606846975:=aa
     have hmk:=Jd T aa
     have HT:Hid (∀q,BI w ((wr.drewN q).setCell ⟨g,i+j,none⟩ (az aJ ((T%1073741824:Nat):Int))) g (o.set (i+j) (T%1073741824))/\MI b n S i (j+1) d (T/1073741824) (o.set (i+j) (T%1073741824))):=λq=>⟨(HI.out.1.dn q).set _ _,HI.out.2.step he hel oZ hf (by rw[UO];exact hT)⟩
     clear he hf e0 e1 hmm UO hT HI
     go_wp2_with fail
     go_quiet (fail)
     go_wp2_with fail
     go_roundg (b.length-(j+1))
     case measure=>omega
     case rel=>exact⟨j+1,T/1073741824,_,aa,aZ _ aa,aZ _ aa,HT.out _⟩
    .obtain rfl:j=b.length:=aa
     have m2:¬(b.length:Int)<(b.length:Int):=aa
     obtain⟨f,hf⟩:∃f,o[i+b.length]?=some f:=⟨_,bo (by have:=HL.out;have:=HN.out;omega)⟩
     have r2:wr.cell? ⟨g,i+b.length,none⟩=some (az aJ (f:Int)):=HI.out.1.cell hf;have r3:wr.frozen? ⟨g,i+b.length,none⟩=false:=HI.out.1.fr _;have m3:(i:Int)+(b.length:Int)<(n:Int):=by have:=HN.out;omega
     have m4:(0:Int)<=(i:Int)+(b.length:Int):=aa
     obtain⟨z1,z2,z3,z4⟩:=HI.out.2.row HC.out.2.v hf;have HT:Hid (BI w (wr.setCell ⟨g,i+b.length,none⟩ (az aJ (c:Int))) g (o.set (i+b.length) c)/\(o.set (i+b.length) c).length=n/\val (o.set (i+b.length) c)=val (a.take (i+1))*y/\(∀e∈o.set (i+b.length) c,e<1073741824)/\(∀k e,i+1+b.length<=k->(o.set (i+b.length) c)[k]?=some e->e=0)):=⟨HI.out.1.set _ _,z1,by rw[z2,Cy.out,aeq HD.out,Fu],z3,z4⟩
     clear z1 z2 z3 z4 hf HI hjb
     go_wp2_with fail
     go_roundg (a.length-(i+1))
     case measure=>omega
     case rel=>exact⟨i+1,_,aa,aZ _ aa,HT.out⟩
  .obtain rfl:i=a.length:=aa
   have m1:¬(a.length:Int)<(a.length:Int):=aa
   have kV:=HI.out.1.rd (by rw[HI.out.2.1];omega)
   rw[HI.out.2.1] at kV;have HF:Hid (val o=x*y/\(∀e∈o,e<1073741824)/\o.length=a.length+b.length/\aj w wr):=⟨by rw[HI.out.2.2.1,fO,HC.out.1.v],HI.out.2.2.2.1,by rw[HI.out.2.1];exact HN.out,HI.out.1.b⟩
   clear HI hia hgh
   go_wp2_with fail
   refine(ael o _ wr kV (by rw[HF.out.2.2.1];omega) HF.out.2.1).mono ?_
   rintro e w4 ⟨v4,rfl,o4,mL,NR,hl4,hb4⟩
   go_wp2_with fail
   go_ret
   exact⟨_,rfl,o4,mL,by rw[<-HF.out.1];exact NR,by rw[<-HF.out.2.2.1];exact hl4,HF.out.2.2.2.trans (hb4.mono HF.out.2.2.2.size)⟩
def rh(w:aM)(v:aN)(z:Int)(L:Nat):Prop:=∃(neg:Bool)(sl:aN)(a:List Nat),v=aC #[aD neg,sl]/\dJ w sl a/\Cn a z.natAbs/\a.length<=L/\(neg=true->z<=0)/\(neg=false->0<=z)
theorem pB(h:dJ w v a)(hb:aj w w'):dJ w' v a:=
 Bf h λk _ hc=>hb.block k (lt_of_heap hc)
theorem rh.below{L:Nat}(h:rh w v z L)(hb:aj w w'):rh w' v z L:=by
 obtain⟨n,s,a,h1,h2,h3⟩:=h;exact⟨n,s,a,h1,pB h2 hb,h3⟩
def WC(W:aM)(X:Nat)(c0 c1:aN):Prop:=W.heap[X]?=some (.cells #[c0,c1] 144 (0,0))
theorem WC.below{c0 c1:aN}(h:WC w X c0 c1)(hb:aj w w'):WC w' X c0 c1:=(hb.block X (lt_of_heap h)).trans h
theorem WC.c0{c0 c1:aN}(h:WC w X c0 c1):w.cell? ⟨X,0,none⟩=some c0:=cell_of h 0
theorem WC.c1{c0 c1:aN}(h:WC w X c0 c1):w.cell? ⟨X,1,none⟩=some c1:=cell_of h 1
theorem WC.fr{c0 c1:aN}(h:WC w X c0 c1)(o:Nat):w.frozen? ⟨X,o,none⟩=false:=bK h o
theorem UQ(h:dJ w v a){c0 c1:aN}(hX:WC w X c0 c1)(o:Nat)(u:aN):dJ (w.setCell ⟨X,o,none⟩ u) v a:=
 Bf h λk _ hc=>dQ (λe=>by
  subst e;rw[show w.heap[k]?=_ from hX] at hc
  injection hc with hc;injection hc with _ hc;exact absurd hc ah) _
theorem E3{c0 c1 v0:aN}(hX:WC W X c0 c1)(ha:dJ W sl a)(hb:aj w W)(hx:w.heap.size<=X):
  dJ ((W.setCell ⟨X,0,none⟩ v0).setCell ⟨X,1,none⟩ sl) sl a/\aj w ((W.setCell ⟨X,0,none⟩ v0).setCell ⟨X,1,none⟩ sl):=by
 have h1:WC (W.setCell ⟨X,0,none⟩ v0) X v0 c1:=by
  show _=_;rw[heap_set hX];rfl
 exact⟨UQ (UQ ha hX 0 v0) h1 1 sl,(hb.setCell hx _).setCell hx _⟩
theorem apY(n:Int)(w:aM)(h1: -1000000000000<=n)(h2:n<=1000000000000):
  ak 77 #[az aJ n] w λe w'=>∃v,e=aL v/\rh w' v n 2/\aj w w':=by
 go_enter func77,ntmps77
 by_cases hn:n<0
 .obtain⟨m,hm⟩:∃m:Nat, -n=(m:Int):=⟨n.natAbs,aa⟩
  have lg:m<=1000000000000:=aa
  have HM:Hid (-n=(m:Int)):=hm
  go_wp2_with fail
  have ue:WC (w.alloc (.cells #[aD false,aG none 0 0] 144)) w.heap.size (aD false) (aG none 0 0):=heap_alloc_new w _;have hb0:aj w (w.alloc (.cells #[aD false,aG none 0 0] 144)):=aw _ _;refine(aej m _ lg).mono ?_;rintro e w4 ⟨v4,rfl,a,ha,hc,hl,hb⟩;obtain⟨so,cap,rfl⟩:=lD ha;have hX:=ue.below hb;have r0:=hX.c0;have r1:=hX.c1;have r2:=hX.fr 0;have r3:=hX.fr 1;have hf:=E3 (v0:=aD true) hX ha (hb0.trans (hb.mono hb0.size)) (aY _);have HF:Hid ((dJ ((w4.setCell ⟨w.heap.size,0,none⟩ (aD true)).setCell ⟨w.heap.size,1,none⟩ (aG so a.length cap)) (aG so a.length cap) a/\aj w ((w4.setCell ⟨w.heap.size,0,none⟩ (aD true)).setCell ⟨w.heap.size,1,none⟩ (aG so a.length cap)))/\Cn a m/\a.length<=2):=⟨hf,hc,hl⟩;clear ue hb0 ha hc hl hb hX hf
  go_wp2_with fail
  refine bodyPost_ret (v:=aC #[aD true,aG so a.length cap]) (by simp[results,results77,go_sem,r0,r1]) rfl ⟨_,rfl,⟨true,_,a,rfl,HF.out.1.1,by have:=HM.out;rw[show n.natAbs=m by omega];exact HF.out.2.1,HF.out.2.2,λ_=>by have:=HM.out;omega,af⟩,HF.out.1.2⟩
 .obtain⟨m,rfl⟩:∃m:Nat,n=(m:Int):=⟨n.natAbs,aa⟩
  have lg:m<=1000000000000:=aa
  have hnn:¬(m:Int)<0:=hn
  go_wp2_with fail
  have ue:WC (w.alloc (.cells #[aD false,aG none 0 0] 144)) w.heap.size (aD false) (aG none 0 0):=heap_alloc_new w _;have hb0:aj w (w.alloc (.cells #[aD false,aG none 0 0] 144)):=aw _ _;refine(aej m _ lg).mono ?_;rintro e w4 ⟨v4,rfl,a,ha,hc,hl,hb⟩;obtain⟨so,cap,rfl⟩:=lD ha;have hX:=ue.below hb;have r0:=hX.c0;have r1:=hX.c1;have r2:=hX.fr 0;have r3:=hX.fr 1;have hf:=E3 (v0:=aD false) hX ha (hb0.trans (hb.mono hb0.size)) (aY _);have HF:Hid ((dJ ((w4.setCell ⟨w.heap.size,0,none⟩ (aD false)).setCell ⟨w.heap.size,1,none⟩ (aG so a.length cap)) (aG so a.length cap) a/\aj w ((w4.setCell ⟨w.heap.size,0,none⟩ (aD false)).setCell ⟨w.heap.size,1,none⟩ (aG so a.length cap)))/\Cn a m/\a.length<=2):=⟨hf,hc,hl⟩;clear ue hb0 ha hc hl hb hX hf
  go_wp2_with fail
  refine bodyPost_ret (v:=aC #[aD false,aG so a.length cap]) (by simp[results,results77,go_sem,r0,r1]) rfl ⟨_,rfl,⟨false,_,a,rfl,HF.out.1.1,HF.out.2.1,HF.out.2.2,af,λ_=>aa⟩,HF.out.1.2⟩
theorem apZ(v:aN)(z:Int)(L:Nat)(w:aM)(h:rh w v z L)(_hL:L<=100):
  ak 78 #[v] w λe w'=>e=aL (az aJ z.sign)/\aj w w':=by
 obtain⟨neg,sl,a,rfl,h2,h3,h4,h5,h6⟩:=h;obtain⟨so,cap,rfl⟩:=lD h2;have hb0:aj w (w.alloc (.cells #[aD neg,aG so a.length cap] 144)):=aw _ _;have HB:Hid (aj w (w.alloc (.cells #[aD neg,aG so a.length cap] 144))):=hb0;have HS:Hid (a.length≠0->(neg=true->z.sign= -1)/\(neg=false->z.sign=1)):=λhn=>by
  have hk:a.length-1<a.length:=aa
  have:=UN h3 (i:=a.length-1) aa
  have hz:z.natAbs≠0:=by
   rw[<-h3.v,EZ (bo hk)];rw[sB (bo hk)] at this;have hp:0<1073741824 ^ (a.length-1):=Nat.pow_pos ah
   have:=Fq hp (show 0<a[a.length-1]+1073741824*val (a.drop (a.length-1+1)) by omega)
   omega
  exact⟨λe=>Af (by have:=h5 e;omega),λe=>oJ (by have:=h6 e;omega)⟩
 have HZ:Hid (a.length=0->z.sign=0):=λe=>by
  have:=h3.v;rw[iU.1 e] at this;have hz:z=0:=by simp only[val] at this;omega
  rw[hz];rfl
 clear hb0 h2 h3 h5 h6
 go_enter func78,ntmps78
 by_cases hn:a.length=0
 .have hs:=HZ.out hn;have hq:((a.length:Int) == 0)=true:=by rw[hn];rfl
  rw[hs];clear HS HZ hs hn
  go_wp2_with fail
  go_ret
  exact⟨rfl,HB.out⟩
 .have hq:((a.length:Int) == 0)=false:=by rw[sM];omega
  have hs:=HS.out hn;cases neg with
  |true=>
   rw[hs.1 rfl];clear HS HZ hs hn
   go_wp2_with fail
   go_ret
   exact⟨rfl,HB.out⟩
  |false=>
   rw[hs.2 rfl];clear HS HZ hs hn
   go_wp2_with fail
   go_ret
   exact⟨rfl,HB.out⟩
structure W3(w W:aM)(p q r:Nat)(P0 P1 Q0 Q1:aN):Prop where
 fp:WC W p P0 P1
 fq:WC W q Q0 Q1
 fr:WC W r (aD false) (aG none 0 0)
 b:aj w W
 ge:w.heap.size<=r
 np:p≠r
 nq:q≠r
theorem W3.start(w:aM)(P0 P1 Q0 Q1:aN):W3 w (((w.alloc (.cells #[P0,P1] 144)).alloc (.cells #[Q0,Q1] 144)).alloc (.cells #[aD false,aG none 0 0] 144)) w.heap.size (w.heap.size+1) (w.heap.size+1+1) P0 P1 Q0 Q1:=by
 have h1:(w.alloc (.cells #[P0,P1] 144)).heap.size=w.heap.size+1:=af
 have h2:((w.alloc (.cells #[P0,P1] 144)).alloc (.cells #[Q0,Q1] 144)).heap.size=w.heap.size+1+1:=af
 have b1:aj w (w.alloc (.cells #[P0,P1] 144)):=aw _ _;have b2:=b1.alloc b1.size (.cells #[Q0,Q1] 144);refine⟨?_,?_,?_,b2.alloc b2.size _,aa,aa,aa⟩
 .exact(Below.heap_alloc _ _ _ aa).trans ((Below.heap_alloc _ _ _ aa).trans (heap_alloc_new w _))
 .refine(Below.heap_alloc _ _ _ aa).trans ?_
  rw[<-h1];exact heap_alloc_new _ _
 .rw[<-h2];exact heap_alloc_new _ _
theorem W3.below(h:W3 w W p q r P0 P1 Q0 Q1)(hb:aj W W'):W3 w W' p q r P0 P1 Q0 Q1:=
 ⟨h.fp.below hb,h.fq.below hb,h.fr.below hb,h.b.trans (hb.mono h.b.size),h.ge,h.np,h.nq⟩
theorem W3.nx(h:W3 w W p q r P0 P1 Q0 Q1)(hb:aj W.drew W'):W3 w W' p q r P0 P1 Q0 Q1:=h.below ((Below.refl W.heap.size W).drew.trans (hb.mono (Below.refl W.heap.size W).drew.size))
theorem ap0(v u:aN)(y z:Int)(L K:Nat)(w:aM)(h:rh w v y L)(h':rh w u z K)(hL:L<=40)(hK:K<=40):
  ak 76 #[v,u] w λe w'=>∃v,e=aL v/\rh w' v (y*z) (L+K)/\Below w.heap.size w w':=by
 obtain⟨neg,sl,a,rfl,h2,h3,h4,h5,h6⟩:=h;obtain⟨jO,sl',a',rfl,k2,k3,k4,k5,k6⟩:=h';obtain⟨so,cap,rfl⟩:=lD h2;obtain⟨mN,cap',rfl⟩:=lD k2;have hW:=W3.start w (aD neg) (aG so a.length cap) (aD jO) (aG mN a'.length cap');have hA:=pB h2 hW.b;have hB:=pB k2 hW.b;have HE:Hid (∀x:Nat,x=y.natAbs*z.natAbs->x=(y*z).natAbs/\((neg != jO)=true->y*z<=0)/\((neg != jO)=false->0<=y*z)):=λx hx=>by
  refine⟨by rw[hx,mq],λe=>?_,λe=>?_⟩
  .cases neg<;>cases jO<;>simp at e
   .exact age (h6 rfl) (k5 rfl)
   .exact Fg (h5 rfl) (k6 rfl)
  .cases neg<;>cases jO<;>simp at e
   .exact jo (h6 rfl) (k6 rfl)
   .exact uz (h5 rfl) (k5 rfl)
 have HX:Hid (Cn a y.natAbs/\Cn a' z.natAbs/\a.length<=L/\a'.length<=K):=⟨h3,k3,h4,k4⟩;clear h2 k2 h3 k3 h4 k4 h5 h6 k5 k6
 go_enter func76,ntmps76
 go_wp2_with fail
 generalize((w.alloc (.cells #[aD neg,aG so a.length cap] 144)).alloc (.cells #[aD jO,aG mN a'.length cap'] 144)).alloc (.cells #[aD false,aG none 0 0] 144)=W at*;generalize w.heap.size+1+1=r at*;generalize w.heap.size+1=q at*;obtain⟨p,hp⟩:∃p,p=w.heap.size:=⟨_,rfl⟩;rw[<-hp] at hW⊢;clear hp;have n1:=hW.np;have n2:=hW.nq;have n3:=hW.np.symm;have n4:=hW.nq.symm;have r0:=hW.fp.c0;have r1:=hW.fp.c1;have r2:=hW.fq.c0;have r3:=hW.fq.c1;have HP:Hid ((ak 131 #[aG so a.length cap,aG mN a'.length cap'] W.drew λe w'=>∃v,e=aL v/\∃o,dJ w' v o/\Cn o (y.natAbs*z.natAbs)/\o.length<=a.length+a'.length/\Below W.drew.heap.size W.drew w')/\∀w7,Below W.drew.heap.size W.drew w7->W3 w w7 p q r (aD neg) (aG so a.length cap) (aD jO) (aG mN a'.length cap')):=
  ⟨apW a a' _ _ _ _ _ (pB hA (Below.refl _ _).drew) (pB hB (Below.refl _ _).drew) HX.out.1 HX.out.2.1 (by have:=HX.out.2.2;omega) (by have:=HX.out.2.2;omega),λw7 hb=>hW.nx hb⟩
 clear hW hA hB
 go_region_held3 (λw'=>w'.cell? ⟨p,0,none⟩=some (aD neg)/\w'.cell? ⟨p,1,none⟩=some (aG so a.length cap)/\w'.cell? ⟨q,0,none⟩=some (aD jO)/\w'.cell? ⟨q,1,none⟩=some (aG mN a'.length cap')) (go_keep) (first
  |(go_at_call 131;refine(HP.out.1).mono ?_;rintro e w7 ⟨v7,rfl,o7,lN,uq,ur,bw⟩;obtain⟨s7,c7,rfl⟩:=lD lN;have h7:=HP.out.2 w7 bw;have r0:=h7.fp.c0;have r1:=h7.fp.c1;have r2:=h7.fq.c0;have r3:=h7.fq.c1;have y0:=h7.fr.c0;have y1:=h7.fr.c1;have z0:=h7.fr.fr 0;have z1:=h7.fr.fr 1;have hf:=E3 (v0:=aD (!(neg == jO))) h7.fr lN h7.b h7.ge;have HF:Hid ((dJ ((w7.setCell ⟨r,0,none⟩ (aD (!(neg == jO)))).setCell ⟨r,1,none⟩ (aG s7 o7.length c7)) (aG s7 o7.length c7) o7/\Below w.heap.size w ((w7.setCell ⟨r,0,none⟩ (aD (!(neg == jO)))).setCell ⟨r,1,none⟩ (aG s7 o7.length c7)))/\Cn o7 (y.natAbs*z.natAbs)/\o7.length<=a.length+a'.length):=⟨hf,uq,ur⟩;clear hf lN uq ur bw h7))
 go_wp2_with fail
 refine bodyPost_ret (v:=aC #[aD (!(neg == jO)),aG s7 o7.length c7]) (by simp[results,results76,go_sem,y0,y1]) rfl ⟨_,rfl,?_⟩
 obtain⟨f1,f2,f3⟩:=HE.out _ rfl;refine⟨⟨_,_,o7,rfl,HF.out.1.1,by rw[<-f1];exact HF.out.2.1,by have:=HF.out.2.2;have:=HX.out.2.2;omega,f2,f3⟩,HF.out.1.2⟩
theorem ap1(v u:aN)(y z:Int)(M:Nat)(w:aM)(h:rh w v y M)(h':rh w u z M)(hM:M<=90):
  ak 75 #[v,u] w λe w'=>∃v,e=aL v/\rh w' v (y-z) (M+1)/\Below w.heap.size w w':=by
 obtain⟨neg,sl,a,rfl,h2,h3,h4,h5,h6⟩:=h;obtain⟨jO,sl',a',rfl,k2,k3,k4,k5,k6⟩:=h';obtain⟨so,cap,rfl⟩:=lD h2;obtain⟨mN,cap',rfl⟩:=lD k2;have hW:=W3.start w (aD neg) (aG so a.length cap) (aD jO) (aG mN a'.length cap');have hA:=pB h2 hW.b;have hB:=pB k2 hW.b;have HX:Hid (Cn a y.natAbs/\Cn a' z.natAbs/\a.length<=M/\a'.length<=M/\(neg=true->y<=0)/\(neg=false->0<=y)/\(jO=true->z<=0)/\(jO=false->0<=z)):=⟨h3,k3,h4,k4,h5,h6,k5,k6⟩;clear h2 k2 h3 k3 h4 k4 h5 h6 k5 k6
 go_enter func75,ntmps75
 by_cases hn:neg=jO
 .subst hn
  go_wp2_with fail
  generalize((w.alloc (.cells #[aD neg,aG so a.length cap] 144)).alloc (.cells #[aD neg,aG mN a'.length cap'] 144)).alloc (.cells #[aD false,aG none 0 0] 144)=W at*;generalize w.heap.size+1+1=r at*;generalize w.heap.size+1=q at*;obtain⟨p,hp⟩:∃p,p=w.heap.size:=⟨_,rfl⟩;rw[<-hp] at hW⊢;clear hp;refine(apT a a' _ _ _ _ _ hA hB HX.out.1 HX.out.2.1 (by have:=HX.out.2.2;omega) (by have:=HX.out.2.2;omega)).mono ?_
  rintro e w5 ⟨rc,rfl,hrc,bg⟩
  replace hW:=hW.below bg
  replace hA:=pB hA bg
  replace hB:=pB hB bg
  clear bg;by_cases hc:0<=rc
  .have hyx:=hrc.1 hc;clear hrc;have HP:Hid ((ak 130 #[aG so a.length cap,aG mN a'.length cap'] w5.drew λe w'=>∃v,e=aL v/\∃o,dJ w' v o/\Cn o (y.natAbs-z.natAbs)/\o.length<=a.length/\Below w5.drew.heap.size w5.drew w')/\∀w7,Below w5.drew.heap.size w5.drew w7->W3 w w7 p q r (aD neg) (aG so a.length cap) (aD neg) (aG mN a'.length cap')):=
    ⟨aeo a a' _ _ _ _ _ (pB hA (Below.refl _ _).drew) (pB hB (Below.refl _ _).drew) HX.out.1 HX.out.2.1 (by have:=HX.out.2.2;omega) hyx,λw7 hb=>hW.nx hb⟩
   have n1:=hW.np;have n2:=hW.nq;have n3:=hW.np.symm;have n4:=hW.nq.symm;have r0:=hW.fp.c0;have r1:=hW.fp.c1;have r2:=hW.fq.c0;have r3:=hW.fq.c1;clear hW hA hB
   go_wp2_with fail
   go_region_held3 (λw'=>w'.cell? ⟨p,0,none⟩=some (aD neg)/\w'.cell? ⟨p,1,none⟩=some (aG so a.length cap)/\w'.cell? ⟨q,1,none⟩=some (aG mN a'.length cap')) (go_keep) (first
    |(go_at_call 130;refine(HP.out.1).mono ?_;rintro e w7 ⟨v7,rfl,o7,lN,uq,ur,bw⟩;obtain⟨s7,c7,rfl⟩:=lD lN;have h7:=HP.out.2 w7 bw;have r0:=h7.fp.c0;have r1:=h7.fp.c1;have r3:=h7.fq.c1;have y0:=h7.fr.c0;have y1:=h7.fr.c1;have z0:=h7.fr.fr 0;have z1:=h7.fr.fr 1;have hf:=E3 (v0:=aD neg) h7.fr lN h7.b h7.ge;have HF:Hid ((dJ ((w7.setCell ⟨r,0,none⟩ (aD neg)).setCell ⟨r,1,none⟩ (aG s7 o7.length c7)) (aG s7 o7.length c7) o7/\Below w.heap.size w ((w7.setCell ⟨r,0,none⟩ (aD neg)).setCell ⟨r,1,none⟩ (aG s7 o7.length c7)))/\Cn o7 (y.natAbs-z.natAbs)/\o7.length<=a.length):=⟨hf,uq,ur⟩;clear hf lN uq ur bw h7))
   go_wp2_with fail
   refine bodyPost_ret (v:=aC #[aD neg,aG s7 o7.length c7]) (by simp[results,results75,go_sem,y0,y1]) rfl ⟨_,rfl,?_⟩
   obtain⟨x1,x2,x3,x4,x5,x6,x7,x8⟩:=HX.out;refine⟨⟨_,_,o7,rfl,HF.out.1.1,?_,by have:=HF.out.2.2;omega,λe=>by have:=x5 e;have:=x7 e;omega,λe=>by have:=x6 e;have:=x8 e;omega⟩,HF.out.1.2⟩
   rw[show(y-z).natAbs=y.natAbs-z.natAbs by(cases neg with
     |true=>have:=x5 rfl;have:=x7 rfl;omega
     |false=>have:=x6 rfl;have:=x8 rfl;omega)]
   exact HF.out.2.1
  .have hyx:y.natAbs<=z.natAbs:=by have:=λh=>hc (hrc.2 h);omega
   clear hrc;have HP:Hid ((ak 130 #[aG mN a'.length cap',aG so a.length cap] w5.drew λe w'=>∃v,e=aL v/\∃o,dJ w' v o/\Cn o (z.natAbs-y.natAbs)/\o.length<=a'.length/\Below w5.drew.heap.size w5.drew w')/\∀w7,Below w5.drew.heap.size w5.drew w7->W3 w w7 p q r (aD neg) (aG so a.length cap) (aD neg) (aG mN a'.length cap')):=
    ⟨aeo a' a _ _ _ _ _ (pB hB (Below.refl _ _).drew) (pB hA (Below.refl _ _).drew) HX.out.2.1 HX.out.1 (by have:=HX.out.2.2;omega) hyx,λw7 hb=>hW.nx hb⟩
   have n1:=hW.np;have n2:=hW.nq;have n3:=hW.np.symm;have n4:=hW.nq.symm;have r0:=hW.fp.c0;have r1:=hW.fp.c1;have r2:=hW.fq.c0;have r3:=hW.fq.c1;clear hW hA hB
   go_wp2_with fail
   go_region_held3 (λw'=>w'.cell? ⟨p,0,none⟩=some (aD neg)/\w'.cell? ⟨p,1,none⟩=some (aG so a.length cap)/\w'.cell? ⟨q,1,none⟩=some (aG mN a'.length cap')) (go_keep) (first
    |(go_at_call 130;refine(HP.out.1).mono ?_;rintro e w7 ⟨v7,rfl,o7,lN,uq,ur,bw⟩;obtain⟨s7,c7,rfl⟩:=lD lN;have h7:=HP.out.2 w7 bw;have r0:=h7.fp.c0;have r1:=h7.fp.c1;have r3:=h7.fq.c1;have y0:=h7.fr.c0;have y1:=h7.fr.c1;have z0:=h7.fr.fr 0;have z1:=h7.fr.fr 1;have hf:=E3 (v0:=aD (!neg)) h7.fr lN h7.b h7.ge;have HF:Hid ((dJ ((w7.setCell ⟨r,0,none⟩ (aD (!neg))).setCell ⟨r,1,none⟩ (aG s7 o7.length c7)) (aG s7 o7.length c7) o7/\Below w.heap.size w ((w7.setCell ⟨r,0,none⟩ (aD (!neg))).setCell ⟨r,1,none⟩ (aG s7 o7.length c7)))/\Cn o7 (z.natAbs-y.natAbs)/\o7.length<=a'.length):=⟨hf,uq,ur⟩;clear hf lN uq ur bw h7))
   go_wp2_with fail
   refine bodyPost_ret (v:=aC #[aD (!neg),aG s7 o7.length c7]) (by simp[results,results75,go_sem,y0,y1]) rfl ⟨_,rfl,?_⟩
   obtain⟨x1,x2,x3,x4,x5,x6,x7,x8⟩:=HX.out;refine⟨⟨_,_,o7,rfl,HF.out.1.1,?_,by have:=HF.out.2.2;omega,λe=>by have:=x6 (by simpa using e);have:=x8 (by simpa using e);omega,λe=>by have:=x5 (by simpa using e);have:=x7 (by simpa using e);omega⟩,HF.out.1.2⟩
   rw[show(y-z).natAbs=z.natAbs-y.natAbs by(cases neg with
     |true=>have:=x5 rfl;have:=x7 rfl;omega
     |false=>have:=x6 rfl;have:=x8 rfl;omega)]
   exact HF.out.2.1
 .have hne:(neg == jO)=false:=by simp[hn]
  go_wp2_with fail
  generalize((w.alloc (.cells #[aD neg,aG so a.length cap] 144)).alloc (.cells #[aD jO,aG mN a'.length cap'] 144)).alloc (.cells #[aD false,aG none 0 0] 144)=W at*;generalize w.heap.size+1+1=r at*;generalize w.heap.size+1=q at*;obtain⟨p,hp⟩:∃p,p=w.heap.size:=⟨_,rfl⟩;rw[<-hp] at hW⊢;clear hp;have HP:Hid ((ak 128 #[aG so a.length cap,aG mN a'.length cap'] W.drew λe w'=>∃v,e=aL v/\∃o,dJ w' v o/\Cn o (y.natAbs+z.natAbs)/\o.length<=M+1/\Below W.drew.heap.size W.drew w')/\∀w7,Below W.drew.heap.size W.drew w7->W3 w w7 p q r (aD neg) (aG so a.length cap) (aD jO) (aG mN a'.length cap')):=
   ⟨apU a a' _ _ _ _ _ (pB hA (Below.refl _ _).drew) (pB hB (Below.refl _ _).drew) HX.out.1 HX.out.2.1 M HX.out.2.2.1 HX.out.2.2.2.1 aa,λw7 hb=>hW.nx hb⟩
  have n1:=hW.np;have n2:=hW.nq;have n3:=hW.np.symm;have n4:=hW.nq.symm;have r0:=hW.fp.c0;have r1:=hW.fp.c1;have r2:=hW.fq.c0;have r3:=hW.fq.c1;clear hW hA hB
  go_region_held3 (λw'=>w'.cell? ⟨p,0,none⟩=some (aD neg)/\w'.cell? ⟨p,1,none⟩=some (aG so a.length cap)/\w'.cell? ⟨q,1,none⟩=some (aG mN a'.length cap')) (go_keep) (first
   |(go_at_call 128;refine(HP.out.1).mono ?_;rintro e w7 ⟨v7,rfl,o7,lN,uq,ur,bw⟩;obtain⟨s7,c7,rfl⟩:=lD lN;have h7:=HP.out.2 w7 bw;have r0:=h7.fp.c0;have r1:=h7.fp.c1;have r3:=h7.fq.c1;have y0:=h7.fr.c0;have y1:=h7.fr.c1;have z0:=h7.fr.fr 0;have z1:=h7.fr.fr 1;have hf:=E3 (v0:=aD neg) h7.fr lN h7.b h7.ge;have HF:Hid ((dJ ((w7.setCell ⟨r,0,none⟩ (aD neg)).setCell ⟨r,1,none⟩ (aG s7 o7.length c7)) (aG s7 o7.length c7) o7/\Below w.heap.size w ((w7.setCell ⟨r,0,none⟩ (aD neg)).setCell ⟨r,1,none⟩ (aG s7 o7.length c7)))/\Cn o7 (y.natAbs+z.natAbs)/\o7.length<=M+1):=⟨hf,uq,ur⟩;clear hf lN uq ur bw h7))
  go_wp2_with fail
  refine bodyPost_ret (v:=aC #[aD neg,aG s7 o7.length c7]) (by simp[results,results75,go_sem,y0,y1]) rfl ⟨_,rfl,?_⟩
  obtain⟨x1,x2,x3,x4,x5,x6,x7,x8⟩:=HX.out;refine⟨⟨_,_,o7,rfl,HF.out.1.1,?_,by have:=HF.out.2.2;omega,λe=>by have:=x5 e;have:=x8 (by cases jO<;>simp_all);omega,λe=>by have:=x6 e;have:=x7 (by cases jO<;>simp_all);omega⟩,HF.out.1.2⟩
  rw[show(y-z).natAbs=y.natAbs+z.natAbs by(cases neg with
    |true=>have:=x5 rfl;have:=x8 (by cases jO<;>simp_all);omega
    |false=>have:=x6 rfl;have:=x7 (by cases jO<;>simp_all);omega)]
  exact HF.out.2.1
def nE(n:Int):Prop:= -1000000000000<=n/\n<=1000000000000
def P4(W:aM)(X:Nat)(a b c d:Int):Prop:=W.heap[X]?=some (.cells #[az aJ a,az aJ b,az aJ c,az aJ d] 100 (0,0))
theorem pC(W:aM)(o:Obj):aj W (W.alloc o):=(Below.refl W.heap.size W).alloc (aY _) o
def Bw(w W:aM):Prop:=aj w W
theorem Bw.tr(h:Bw w W)(hb:Bw W w'):Bw w w':=Below.trans h (Below.mono hb (Below.size h))
theorem mh(W:aM):Bw W W:=Below.refl _ _
theorem NU(W:aM):Bw W W.drew:=(Below.refl _ _).drew
theorem Jh(W:aM)(o:Obj):Bw W (W.alloc o):=pC W o
theorem UR(W:aM)(o:Obj):Bw W (W.alloc o).drew:=(pC W o).drew
theorem P4.mv{a b c d:Int}(h:P4 w X a b c d)(hb:Bw w w'):P4 w' X a b c d:=(hb.block X (lt_of_heap h)).trans h
def Gd:List (aN×Int×Nat)->aM->Prop
 |[],_=>True
 |t::L,W=>rh W t.1 t.2.1 t.2.2/\Gd L W
theorem Gd.mv:∀{L:List (aN×Int×Nat)}{w w':aM},Gd L w->Bw w w'->Gd L w'
 |[],_,_,_,_=>trivial
 |_::_,_,_,h,hb=>⟨h.1.below hb,h.2.mv hb⟩
def Wl:List (Nat×aN×aN)->aM->Prop
 |[],_=>True
 |t::L,W=>WC W t.1 t.2.1 t.2.2/\Wl L W
theorem Wl.mv:∀{L:List (Nat×aN×aN)}{w w':aM},Wl L w->Bw w w'->Wl L w'
 |[],_,_,_,_=>trivial
 |_::_,_,_,h,hb=>⟨h.1.below hb,h.2.mv hb⟩
def Gv(L:List (aN×Int×Nat))(z:Int)(l:Nat)(W0 W:aM)(e:Ending)(w7:aM):Prop:=∃v,e=aL v/\Gd ((v,z,l)::L) w7/\Bw W0 w7/\aj W w7
theorem UT{L:List (aN×Int×Nat)}{w7:aM}{e:Ending}(hG:Gd L W0)(hw:Bw W0 W)(h:∃v,e=aL v/\rh w7 v z l/\aj W w7):Gv L z l W0 W e w7:=by
 obtain⟨v,rfl,hv,hb⟩:=h;exact⟨v,rfl,⟨hv,hG.mv (hw.tr hb)⟩,hw.tr hb,hb⟩
theorem aet{L:List (aN×Int×Nat)}(h:Gd ((v,z,l)::L) W):∃n t d c,v=aC #[aD n,aG t d c]:=by
 obtain⟨n,s,d,rfl,h1,h2⟩:=h.1;obtain⟨t,c,rfl⟩:=lD h1;exact⟨n,t,_,c,rfl⟩
theorem E4{n:Int}{L:List (aN×Int×Nat)}(hG:Gd L W0)(h:Hid (nE n):=by assumption)(hw:Bw W0 W:=by first |exact mh _|exact NU _|exact Jh _ _|exact UR _ _):ak 77 #[az aJ n] W (Gv L n 2 W0 W):=(apY n W h.out.1 h.out.2).mono λ_ _ k=>UT hG hw k
theorem Ji{y:Int}{L:List (aN×Int×Nat)}(hG:Gd ((u,z,k)::(v,y,l)::L) W0)(hw:Bw W0 W:=by first |exact mh _|exact NU _|exact Jh _ _|exact UR _ _)(hl:l<=40:=by decide)(hk:k<=40:=by decide):ak 76 #[v,u] W (Gv L (y*z) (l+k) W0 W):=(ap0 v u y z l k W (hG.2.1.below hw) (hG.1.below hw) hl hk).mono λ_ _ k=>UT hG.2.2 hw k
theorem aeu{y:Int}{L:List (aN×Int×Nat)}(hG:Gd ((u,z,l)::(v,y,l)::L) W0)(hw:Bw W0 W:=by first |exact mh _|exact NU _|exact Jh _ _|exact UR _ _)(hl:l<=90:=by decide):ak 75 #[v,u] W (Gv L (y-z) (l+1) W0 W):=(ap1 v u y z l W (hG.2.1.below hw) (hG.1.below hw) hl).mono λ_ _ k=>UT hG.2.2 hw k
structure WX(W0 W:aM)(X:Nat)(c0 c1:aN):Prop where
 c:WC W X c0 c1
 z:W0.heap.size<=X
theorem WX.mv{c0 c1:aN}(h:WX W0 w X c0 c1)(hb:aj w w'):WX W0 w' X c0 c1:=⟨h.c.below hb,h.z⟩
theorem UW{c0 c1:aN}(h:Bw W0 W)(hb:Below (W.alloc (.cells #[c0,c1] 144)).heap.size (W.alloc (.cells #[c0,c1] 144)) w'):WX W0 w' W.heap.size c0 c1:=⟨WC.below (heap_alloc_new W _) hb,Below.size h⟩
theorem aev{c0 c1:aN}(h:Bw W0 W)(hb:Below (W.alloc (.cells #[c0,c1] 144)).drew.heap.size (W.alloc (.cells #[c0,c1] 144)).drew w'):WX W0 w' W.heap.size c0 c1:=UW h ((NU _).tr hb)
def Mv(W0:aM)(n:Bool)(sl:aN)(z:Int)(l:Nat)(L:List (aN×Int×Nat))(WF:aM)(XF:Nat):Prop:=Bw W0 WF/\WC WF XF (aD n) sl/\Gd ((aC #[aD n,sl],z,l)::L) WF
theorem aew{n:Bool}{L:List (aN×Int×Nat)}(h:Bw W0 W)(hG:Gd ((aC #[aD n,sl],z,l)::L) W):∃WF XF,WF=W.alloc (.cells #[aD n,sl] 144)/\XF=W.heap.size/\Mv W0 n sl z l L WF XF:=
 ⟨_,_,rfl,rfl,h.tr (Jh _ _),heap_alloc_new W _,hG.mv (Jh _ _)⟩
theorem UX:∀{L:List (aN×Int×Nat)}{w:aM},Gd L w->∀{X:Nat}{c0 c1:aN},WC w X c0 c1->∀(o:Nat)(u:aN),Gd L (w.setCell ⟨X,o,none⟩ u)
 |[],_,_,_,_,_,_,_,_=>trivial
 |_::_,_,h,_,_,_,hX,o,u=>⟨by
  obtain⟨n,s,a,h1,h2,h3⟩:=h.1;exact⟨n,s,a,h1,UQ h2 hX o u,h3⟩,UX h.2 hX o u⟩
theorem aex{c0 c1:aN}{n:Bool}{L:List (aN×Int×Nat)}(h:Bw W0 W)(hG:Gd ((aC #[aD n,sl],z,l)::L) W)(hX:WX W0 W X c0 c1):∃WF XF,WF=(W.setCell ⟨X,0,none⟩ (aD n)).setCell ⟨X,1,none⟩ sl/\XF=X/\Mv W0 n sl z l L WF XF:=by
 have k1:WC (W.setCell ⟨X,0,none⟩ (aD n)) X (aD n) c1:=by
  show _=_;rw[heap_set hX.c];rfl
 have k2:WC ((W.setCell ⟨X,0,none⟩ (aD n)).setCell ⟨X,1,none⟩ sl) X (aD n) sl:=by
  show _=_;rw[heap_set k1];rfl
 exact⟨_,_,rfl,rfl,Below.setCell (Below.setCell h hX.z _) hX.z _,k2,UX (UX hG hX.c 0 _) k1 1 _⟩
structure P3(W:aM)(A B C:Nat)(a1 a2 a3 a4 b1 b2 b3 b4 c1 c2 c3 c4:Int):Prop where
 a:P4 W A a1 a2 a3 a4
 b:P4 W B b1 b2 b3 b4
 c:P4 W C c1 c2 c3 c4
def C3(w':aM)(A B C:Nat)(a1 a2 a3 a4 b1 b2 b3 b4 c1 c2 c3 c4:Int):Prop:=w'.cell? ⟨A,0,none⟩=some (az aJ a1)/\w'.cell? ⟨A,1,none⟩=some (az aJ a2)/\w'.cell? ⟨A,2,none⟩=some (az aJ a3)/\w'.cell? ⟨A,3,none⟩=some (az aJ a4)/\w'.cell? ⟨B,0,none⟩=some (az aJ b1)/\w'.cell? ⟨B,1,none⟩=some (az aJ b2)/\w'.cell? ⟨B,2,none⟩=some (az aJ b3)/\w'.cell? ⟨B,3,none⟩=some (az aJ b4)/\w'.cell? ⟨C,0,none⟩=some (az aJ c1)/\w'.cell? ⟨C,1,none⟩=some (az aJ c2)/\w'.cell? ⟨C,2,none⟩=some (az aJ c3)/\w'.cell? ⟨C,3,none⟩=some (az aJ c4)/\w'.heap.size≠A/\w'.heap.size≠B/\w'.heap.size≠C
theorem P3.cells{c1:Int}(h:P3 W A B C a1 a2 a3 a4 b1 b2 b3 b4 c1 c2 c3 c4)(hb:Bw W w'):C3 w' A B C a1 a2 a3 a4 b1 b2 b3 b4 c1 c2 c3 c4:=by
 have ha:=h.a.mv hb;have hb':=h.b.mv hb;have hc:=h.c.mv hb;exact⟨cell_of ha 0,cell_of ha 1,cell_of ha 2,cell_of ha 3,cell_of hb' 0,cell_of hb' 1,cell_of hb' 2,cell_of hb' 3,cell_of hc 0,cell_of hc 1,cell_of hc 2,cell_of hc 3,oM (lt_of_heap ha),oM (lt_of_heap hb'),oM (lt_of_heap hc)⟩
theorem P3.mv{c1:Int}(h:P3 W A B C a1 a2 a3 a4 b1 b2 b3 b4 c1 c2 c3 c4)(hb:Bw W w'):P3 w' A B C a1 a2 a3 a4 b1 b2 b3 b4 c1 c2 c3 c4:=⟨h.a.mv hb,h.b.mv hb,h.c.mv hb⟩
theorem ap2(w:aM)(a1 a2 a3 a4 b1 b2 b3 b4 c1 c2 c3 c4:Int):∃W,W=((w.alloc (.cells #[az aJ a1,az aJ a2,az aJ a3,az aJ a4] 100)).alloc (.cells #[az aJ b1,az aJ b2,az aJ b3,az aJ b4] 100)).alloc (.cells #[az aJ c1,az aJ c2,az aJ c3,az aJ c4] 100)/\P3 W w.heap.size (w.heap.size+1) (w.heap.size+1+1) a1 a2 a3 a4 b1 b2 b3 b4 c1 c2 c3 c4/\Bw w W:=by
 refine⟨_,rfl,⟨P4.mv (P4.mv (heap_alloc_new w _) (pC _ _)) (pC _ _),P4.mv (?_:P4 _ _ _ _ _ _) (pC _ _),?_⟩,Bw.tr (Bw.tr (pC w _) (pC _ _)) (pC _ _)⟩
 .have:=heap_alloc_new (w.alloc (.cells #[az aJ a1,az aJ a2,az aJ a3,az aJ a4] 100)) (.cells #[az aJ b1,az aJ b2,az aJ b3,az aJ b4] 100);simpa[P4] using this
 .have:=heap_alloc_new ((w.alloc (.cells #[az aJ a1,az aJ a2,az aJ a3,az aJ a4] 100)).alloc (.cells #[az aJ b1,az aJ b2,az aJ b3,az aJ b4] 100)) (.cells #[az aJ c1,az aJ c2,az aJ c3,az aJ c4] 100);simpa[P4] using this
structure Kt(P:Prop):Prop where
 out:P
theorem aey{P R:Prop}(f:Kt P->R)(p:P):R:=f ⟨p⟩
theorem ap3(a1 a2 a3 a4 b1 b2 b3 b4 c1 c2 c3 c4:Int)(w:aM)(ha1:Hid (nE a1))(ha2:Hid (nE a2))(WI:Hid (nE a3))(ha4:Hid (nE a4))(hb1:Hid (nE b1))(hb2:Hid (nE b2))(hb3:Hid (nE b3))(hb4:Hid (nE b4))(hc1:Hid (nE c1))(hc2:Hid (nE c2))(hc3:Hid (nE c3))(NR:Hid (nE c4)):
  ak 48 #[aC #[az aJ a1,az aJ a2,az aJ a3,az aJ a4],aC #[az aJ b1,az aJ b2,az aJ b3,az aJ b4],aC #[az aJ c1,az aJ c2,az aJ c3,az aJ c4]] w λe w'=>e=aL (az aJ (((b1*a2-a1*b2)*(c3*a4-a3*c4)*(b4*c2)-(b3*a4-a3*b4)*(c1*a2-a1*c2)*(b2*c4)).sign))/\Below w.heap.size w w':=by
 go_enter func48,ntmps48
 go_wp2_with fail
 obtain⟨W,hW,hP,hw⟩:=ap2 w a1 a2 a3 a4 b1 b2 b3 b4 c1 c2 c3 c4;rw[<-hW];generalize w.heap.size+1+1=C at*;generalize w.heap.size+1=B at*;obtain⟨A,hAA⟩:∃A,A=w.heap.size:=⟨_,rfl⟩;rw[<-hAA] at hP⊢;clear hAA hW;have hG:Gd [] W:=trivial;have hV:Wl [] W:=trivial
 iterate 4
  obtain⟨r0,r1,r2,r3,r4,r5,r6,r7,r8,r9,ra,rb,q0,q1,q2⟩:=hP.cells (mh W);apply aey
  case f=>
   intro KK;have ch:=mh W;have T0:Hid (0=0):=rfl
   go_region_held3 (λw'=>w'.cell? ⟨A,0,none⟩=some (az aJ a1)/\w'.cell? ⟨A,1,none⟩=some (az aJ a2)/\w'.cell? ⟨A,2,none⟩=some (az aJ a3)/\w'.cell? ⟨A,3,none⟩=some (az aJ a4)/\w'.cell? ⟨B,0,none⟩=some (az aJ b1)/\w'.cell? ⟨B,1,none⟩=some (az aJ b2)/\w'.cell? ⟨B,2,none⟩=some (az aJ b3)/\w'.cell? ⟨B,3,none⟩=some (az aJ b4)/\w'.cell? ⟨C,0,none⟩=some (az aJ c1)/\w'.cell? ⟨C,1,none⟩=some (az aJ c2)/\w'.cell? ⟨C,2,none⟩=some (az aJ c3)/\w'.cell? ⟨C,3,none⟩=some (az aJ c4)) (go_keep)
    (((first
     |(go_at_call 77;clear T0;refine(E4 hG).mono ?_;rintro e w7 ⟨v1,rfl,gP,hw2,bw⟩;have T1:Hid (0=0):=rfl)
     |(go_at_call 77;clear T1;refine(E4 hG).mono ?_;rintro e w7 ⟨v2,rfl,gP,hw2,bw⟩;have T2:Hid (0=0):=rfl)
     |(go_at_call 76;clear T2;refine(Ji hG).mono ?_;rintro e w7 ⟨v3,rfl,gP,hw2,bw⟩;have T3:Hid (0=0):=rfl)
     |(go_at_call 77;clear T3;refine(E4 hG).mono ?_;rintro e w7 ⟨v4,rfl,gP,hw2,bw⟩;have T4:Hid (0=0):=rfl)
     |(go_at_call 77;clear T4;refine(E4 hG).mono ?_;rintro e w7 ⟨v5,rfl,gP,hw2,bw⟩;have T5:Hid (0=0):=rfl)
     |(go_at_call 76;clear T5;refine(Ji hG).mono ?_;rintro e w7 ⟨v6,rfl,gP,hw2,bw⟩;have T6:Hid (0=0):=rfl)
     |(go_at_call 75;clear T6;refine(aeu hG).mono ?_;rintro e w7 ⟨v7,rfl,gP,hw2,bw⟩;have T7:Hid (0=0):=rfl;obtain⟨n8,t8,d8,e8,rfl⟩:=aet gP));replace hG:=gP;(first |(replace hX:=hX.mv bw)|(replace hX:=hX.mv' bw)|(have hX:=UW ch bw)|(have hX:=aev ch bw)|skip);(try(have y0:=hX.c.c0;have y1:=hX.c.c1;have z0:=hX.c.fr 0;have z1:=hX.c.fr 1));replace ch:=ch.tr hw2;clear bw hw2 gP;obtain⟨r0,r1,r2,r3,r4,r5,r6,r7,r8,r9,ra,rb,q0,q1,q2⟩:=hP.cells ch))
   all_goals(rename_i hS;clear hS)
   all_goals first
    |(obtain⟨WF,XF,e1,e2,hm⟩:=aex ch hG hX;rw[<-e1,<-e2];clear e1 e2)
    |(obtain⟨WF,XF,e1,e2,hm⟩:=aew ch hG;rw[<-e1,<-e2];clear e1 e2)
   all_goals(clear hG;revert v1 v2 v3 v4 v5 v6 n8 t8 d8 e8 XF WF;exact KK.out)
  clear r0 r1 r2 r3 r4 r5 r6 r7 r8 r9 ra rb q0 q1 q2;intro x1 x2 x3 x4 x5 x6 n8 t8 d8 e8 W XF hm
  replace hP:=hP.mv hm.1
  replace hw:=hw.tr hm.1
  replace hV:Wl ((XF,aD n8,aG t8 d8 e8)::_) W:=⟨hm.2.1,hV.mv hm.1⟩
  replace hG:=hm.2.2
  clear hm
  go_wp2_with fail
 rename_i _ _ _ _ _ _ n1 t1 d1 e1 _ X1 _ _ _ _ _ _ n2 t2 d2 e2 _ X2 _ _ _ _ _ _ n3 t3 d3 e3 _ X3 _ _
 obtain⟨n4,t4,d4,e4,X4,z1,z2,z3,z4,z5⟩:∃n4 t4 d4 e4 X4,n4=n8/\t4=t8/\d4=d8/\e4=e8/\X4=XF:=⟨_,_,_,_,_,rfl,rfl,rfl,rfl,rfl⟩;subst z1 z2 z3 z4 z5;obtain⟨p4,p3,p2,p1,_⟩:=hV;obtain⟨g4,g3,g2,g1,_⟩:=hG;have hG:Gd [_,_,_,_] W:=⟨g2,g1,g4,g3,trivial⟩;have hL:Gd [] W:=trivial;have hV:Wl [] W:=trivial;clear g1 g2 g3 g4
 iterate 2
  obtain⟨r0,r1,r2,r3,r4,r5,r6,r7,r8,r9,ra,rb,q0,q1,q2⟩:=hP.cells (mh W);have s1:=(p1.below (mh W)).c0;have y3:=(p1.below (mh W)).c1;have o1:=oM (lt_of_heap (p1.below (mh W)));have s2:=(p2.below (mh W)).c0;have y4:=(p2.below (mh W)).c1;have o2:=oM (lt_of_heap (p2.below (mh W)));have s3:=(p3.below (mh W)).c0;have y5:=(p3.below (mh W)).c1;have o3:=oM (lt_of_heap (p3.below (mh W)));have s4:=(p4.below (mh W)).c0;have y6:=(p4.below (mh W)).c1;have o4:=oM (lt_of_heap (p4.below (mh W)));apply aey
  case f=>
   intro KK;have ch:=mh W;have T0:Hid (0=0):=rfl
   go_region_held3 (λw'=>w'.cell? ⟨X1,0,none⟩=some (aD n1)/\w'.cell? ⟨X1,1,none⟩=some (aG t1 d1 e1)/\w'.cell? ⟨X2,0,none⟩=some (aD n2)/\w'.cell? ⟨X2,1,none⟩=some (aG t2 d2 e2)/\w'.cell? ⟨X3,0,none⟩=some (aD n3)/\w'.cell? ⟨X3,1,none⟩=some (aG t3 d3 e3)/\w'.cell? ⟨X4,0,none⟩=some (aD n4)/\w'.cell? ⟨X4,1,none⟩=some (aG t4 d4 e4)/\w'.cell? ⟨B,1,none⟩=some (az aJ b2)/\w'.cell? ⟨B,3,none⟩=some (az aJ b4)/\w'.cell? ⟨C,1,none⟩=some (az aJ c2)/\w'.cell? ⟨C,3,none⟩=some (az aJ c4)) (go_keep)
    (((first
     |(go_at_call 76;clear T0;refine(Ji hG).mono ?_;rintro e w7 ⟨v1,rfl,gP,hw2,bw⟩;have T1:Hid (0=0):=rfl)
     |(go_at_call 77;clear T1;refine(E4 hG).mono ?_;rintro e w7 ⟨v2,rfl,gP,hw2,bw⟩;have T2:Hid (0=0):=rfl)
     |(go_at_call 77;clear T2;refine(E4 hG).mono ?_;rintro e w7 ⟨v3,rfl,gP,hw2,bw⟩;have T3:Hid (0=0):=rfl)
     |(go_at_call 76;clear T3;refine(Ji hG).mono ?_;rintro e w7 ⟨v4,rfl,gP,hw2,bw⟩;have T4:Hid (0=0):=rfl)
     |(go_at_call 76;clear T4;refine(Ji hG).mono ?_;rintro e w7 ⟨v5,rfl,gP,hw2,bw⟩;have T5:Hid (0=0):=rfl;obtain⟨n8,t8,d8,e8,rfl⟩:=aet gP));replace hG:=gP;(first |(replace hX:=hX.mv bw)|(replace hX:=hX.mv' bw)|(have hX:=UW ch bw)|(have hX:=aev ch bw)|skip);(try(have y0:=hX.c.c0;have y1:=hX.c.c1;have z0:=hX.c.fr 0;have z1:=hX.c.fr 1));replace ch:=ch.tr hw2;clear bw hw2 gP;obtain⟨r0,r1,r2,r3,r4,r5,r6,r7,r8,r9,ra,rb,q0,q1,q2⟩:=hP.cells ch;have s1:=(p1.below ch).c0;have y3:=(p1.below ch).c1;have o1:=oM (lt_of_heap (p1.below ch));have s2:=(p2.below ch).c0;have y4:=(p2.below ch).c1;have o2:=oM (lt_of_heap (p2.below ch));have s3:=(p3.below ch).c0;have y5:=(p3.below ch).c1;have o3:=oM (lt_of_heap (p3.below ch));have s4:=(p4.below ch).c0;have y6:=(p4.below ch).c1;have o4:=oM (lt_of_heap (p4.below ch))))
   all_goals(rename_i hS;clear hS)
   all_goals first
    |(obtain⟨WF,XF,e1,e2,hm⟩:=aex ch hG hX;rw[<-e1,<-e2];clear e1 e2)
    |(obtain⟨WF,XF,e1,e2,hm⟩:=aew ch hG;rw[<-e1,<-e2];clear e1 e2)
   all_goals(clear hG;revert v1 v2 v3 v4 n8 t8 d8 e8 XF WF;exact KK.out)
  clear r0 r1 r2 r3 r4 r5 r6 r7 r8 r9 ra rb q0 q1 q2 s1 s2 s3 s4 y3 y4 y5 y6 o1 o2 o3 o4;intro x1 x2 x3 x4 n8 t8 d8 e8 W XF hm
  replace hP:=hP.mv hm.1
  replace hw:=hw.tr hm.1
  replace p1:=p1.below hm.1
  replace p2:=p2.below hm.1
  replace p3:=p3.below hm.1
  replace p4:=p4.below hm.1
  replace hV:Wl ((XF,aD n8,aG t8 d8 e8)::_) W:=⟨hm.2.1,hV.mv hm.1⟩
  replace hL:Gd (_::_) W:=⟨hm.2.2.1,hL.mv hm.1⟩
  replace hG:=hm.2.2.2
  clear hm;have j0:=hV.1.c0;have j1:=hV.1.c1
  try(have j2:=hV.2.1.c0;have j3:=hV.2.1.c1)
  go_wp2_with fail
  clear j0 j1
  try clear j2 j3
 refine(aeu hL).mono ?_;rintro e w7 ⟨v8,rfl,gP,hw2,bw⟩
 replace hw:=hw.tr hw2
 clear bw hw2 hP hL hG hV p1 p2 p3 p4
 go_wp2_with fail
 refine(apZ _ _ 15 _ gP.1 aa).mono ?_
 rintro e w9 ⟨rfl,ou⟩
 replace hw:=hw.tr ou
 clear ou gP
 go_wp2_with fail
 go_ret
 exact⟨rfl,hw⟩
def uu(a b c:Ge.Qt):Int:=((b.1.1*a.1.2-a.1.1*b.1.2)*(c.2.1*a.2.2-a.2.1*c.2.2)*(b.2.2*c.1.2)-(b.2.1*a.2.2-a.2.1*b.2.2)*(c.1.1*a.1.2-a.1.1*c.1.2)*(b.1.2*c.2.2)).sign
theorem gb.sG{p:Ge.Qt}(h:gb p):nE p.1.1/\nE p.1.2/\nE p.2.1/\nE p.2.2:=by
 have h1:=h.xn;have h2:=h.xd;have h3:=h.yn;have h4:=h.yd;exact⟨⟨aa,aa⟩,⟨aa,aa⟩,⟨aa,aa⟩,⟨aa,aa⟩⟩
theorem ap5(a b c:Ge.Qt)(w:aM)(ha:gb a)(hb:gb b)(hc:gb c):
  ak 48 #[aC (qA a),aC (qA b),aC (qA c)] w λe w'=>e=aL (az aJ (uu a b c))/\aj w w':=
 ap3 _ _ _ _ _ _ _ _ _ _ _ _ w ha.sG.1 ha.sG.2.1 ha.sG.2.2.1 ha.sG.2.2.2 hb.sG.1 hb.sG.2.1 hb.sG.2.2.1 hb.sG.2.2.2 hc.sG.1 hc.sG.2.1 hc.sG.2.2.1 hc.sG.2.2.2
end
end Go.Proofs.YtkjhhooecopolaaGreatDoor

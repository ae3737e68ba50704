import Derived.Test.YtkjhhooecopolaaGreatDoorSz14
set_option maxRecDepth 100000
set_option maxHeartbeats 4000000
namespace Go.Proofs.YtkjhhooecopolaaGreatDoor
open Tryz
open Value renaming int->az,complex->aA,float->aB,agg->aC,bool->aD,string->aF,slice->aG,pointer->aH,tuple->aI
open IntKind renaming i64->aJ
open FloatKind renaming f64->aK
open Ending renaming returned->aL
open Go renaming World->aM,Value->aN,floatOfInt->aO
section
open Go.RowKit
def yz:List UInt8:=[77,85,76,84,73,80,79,76,89,71,79,78,32,40]
def wI:List UInt8:=[77,85,76,84,73,80,79,76,89,71,79,78,32,69,77,80,84,89]
def CP(TS:List (List UInt8)):List UInt8:=if TS=[] then wI else yz++(Lib.join TS [44,32]++[41])
theorem aeK(so:Option Addr)(c:Nat)(TS:List (List UInt8))(w:aM)(hl:TS.length<=85000000)(hlen:(Lib.join TS [44,32]).length<=140737488355328)
  (HH:Hid (∀(k:Nat) t,TS[k]?=some t->∃b pb,so=some ⟨b,0,none⟩/\w.cell? ⟨b,k,none⟩=some (aH (some ⟨pb,0,none⟩))/\∀w1,aj w w1->ak 102 #[aH (some ⟨pb,0,none⟩)] w1 λe w'=>e=aL (aF (ba t))/\aj w1 w')):
  ak 67 #[aG so TS.length c] w λe w'=>e=aL (aF (ba (CP TS)))/\aj w w':=by
 obtain⟨i0,hi,hz0,hz1,hz2⟩:=info_parts RJ;by_cases hT0:TS=[]
 .subst hT0;clear HH
  go_enter func67,ntmps67
  go_wp2_with fail
  go_ret
  exact⟨rfl,Below.refl _ _⟩
 .have zD:Hid (TS≠[]):=hT0;have hne:¬TS.length=0:=λe=>hT0 (iX.1 e)
  have avd:((TS.length:Int) == 0)=false:=by rw[tJ];omega
  clear hT0;have cQ:Hid (SI w (aG none 0 0) ((TS.take 0).map ba) w):=⟨World.ownsRow_nil _ _ _ _,Below.refl _ _⟩
  go_enter func67,ntmps67
  go_wp2_with fail
  go_loopg [3,11] TS.length (λm lv iv wr=>∃k:Nat,k+m=TS.length/\iv=az aJ k/\Hid (SI w lv ((TS.take k).map ba) wr))
  case atStart=>exact⟨0,aa,rfl,cQ⟩
  case round=>
   obtain⟨k,hkn,rfl,HE⟩:=hrel;have aX:=HE.out.2;clear cQ;by_cases hlt:k<TS.length
   .obtain⟨t,ht⟩:∃t,TS[k]?=some t:=⟨_,bo hlt⟩;obtain⟨b,pb,rfl,v0,hc⟩:=HH.out k t ht;have r0:=aQ aX v0 (lt_of_cell v0);have ij:(k:Int)<(TS.length:Int):=aa
    have HC:Hid (ak 102 #[aH (some ⟨pb,0,none⟩)] wr λe w'=>e=aL (aF (ba t))/\aj wr w'):=hc wr aX
    have hT':(TS.take (k+1)).map ba=(TS.take k).map ba++[ba t]:=by
     rw[ju,ht];simp
    have HT:Hid ((TS.take (k+1)).map ba=(TS.take k).map ba++[ba t]):=hT';have hxl:((TS.take k).map ba).length<=85000001:=by simp;omega
    obtain⟨ho,_⟩:=HE.out;clear hT' v0 ht hc HE HH zD;generalize(TS.take k).map ba=A1 at*;generalize ba t=X at*
    go_wp2_with fail
    refine HC.out.mono ?_;rintro e w5 ⟨rfl,bh⟩;have oh:aj w w5:=aX.trans (bh.mono aX.size);have fD:w5.ownsRow w.heap.size 9 1 u3 A1.length (A1.map Value.string):=bG ho λk hk=>bh.block k (bn ho k hk).2
    have hs5:=oh.size;clear ho HC bh aX
    go_wp2_with (at_builtin;refine wpList_append_lies _ rfl (.tmp 15) (.tmp 18) 164 rfl w.heap.size 9 i0 _ 1 16 underlying164 hi hz0 hz1 hz2 rfl ah u3 A1.length (A1.map Value.string) rfl (bG fD (λk hk=>Below.heap_alloc _ _ _ (bn fD k hk).2)) ⟨w5.heap.size,0,none⟩ 1 1 [aF X] rfl rfl (World.news_of_block (cs:= #[aF X]) (t:=9) (fr:=(0,0)) (heap_alloc_new w5 _)) (by simp[Value.oneCell']) ah (by unfold maxLen;omega) aa (by simp;omega) (w5.heap.size+1) af ?_;intro g' cap' w6 gU lN Eg BF)
    have HN:Hid (SI w (aG (some ⟨g',0,none⟩) (A1.length+1) cap') ((TS.take (k+1)).map ba) w6):=by
     rw[HT.out];refine⟨?_,(oh.alloc oh.size _).grown lN (by simp;omega) (λk hk=>(bn fD k hk).1)⟩
     rw[bX,jV];exact gU
    clear gU lN fD HT
    go_roundg (gk-1)
    case measure=>omega
    case rel=>exact⟨k+1,aa,ai,HN⟩
   .have hk:k=TS.length:=aa
    subst hk;have HF:=HE.out;rw[gv] at HF;have HJ:Hid (ak 103 #[u3,aF ⟨#[44,32]⟩] wr λe w'=>e=aL (aF ⟨(Lib.join TS [44,32]).toArray⟩)/\aj wr w'):=aeI HF aa hlen
    have Ju:Hid (CP TS=yz++(Lib.join TS [44,32]++[41])):=aP zD.out;generalize Lib.join TS [44,32]=TX at*;have hs1:¬9223372036854775807<14+TX.length:=aa
    have hs2:¬9223372036854775807<14+TX.length+1:=aa
    have HB:Hid (aj w wr):=aX;clear HE HH HF aX zD
    go_wp2_with fail
    refine HJ.out.mono ?_;rintro e w7 ⟨rfl,bu⟩;have pF:Hid (aj w w7):=HB.out.trans (bu.mono HB.out.size);clear HJ bu HB
    go_wp2_with fail
    go_ret
    exact⟨by rw[Ju.out];simp[ba,yz,ByteArray.mk_append_mk],pF.out⟩
end
namespace Gb
open Ge Ga
variable{n:N3}{a b:Pt}
theorem Ol{α:Type}(w:α->Int)(p q:α->Bool):∀(l:List α),fR w p (l.filter q)=fR w (λx=>q x&&p x) l
 |[]=>rfl
 |x::l=>by
  have ih:=Ol w p q l;rw[uy];cases h:q x
  .rw[wT (by simp[h]),ih]
   simp
  .rw[AQ h,uy,ih];simp
theorem aeL{α:Type}(w:α->Int){p q:α->Bool}:∀{l:List α},(∀x∈l,w x≠0->p x=q x)->fR w p l=fR w q l
 |[],_=>rfl
 |x::l,h=>by
  rw[uy,uy,aeL w λy hy=>h y (bV _ hy)]
  congr 1;by_cases hw:w x=0
  .rw[hw];split<;>split<;>rfl
  .rw[h x af hw]
def iU(n:N3)(a b:Pt):Prop:=(rl n a).1<=0/\0<(rl n b).1
theorem Fs(h:iU n a b):kW n (a,b)=(rl n b).1-(rl n a).1/\kY n (a,b)= -cr (rl n a) (rl n b)/\kS n (a,b)=(rl n b).2-(rl n a).2/\kW n (b,a)=(rl n b).1-(rl n a).1/\kY n (b,a)= -cr (rl n a) (rl n b)/\kS n (b,a)=(rl n b).2-(rl n a).2:=by
 have h':¬((rl n b).1<=0/\0<(rl n a).1):=λk=>by unfold iU at h;omega
 refine⟨aV h,aV h,aV h,?_,?_,?_⟩
 .exact(aP h').trans (aV h)
 .exact(aP h').trans (aV h)
 .exact(aP h').trans (aV h)
theorem aeM{e:Pt×Pt}(h:kY n e<0):iU n e.1 e.2\/iU n e.2 e.1:=by
 by_cases h1:(rl n e.1).1<=0/\0<(rl n e.2).1
 .exact aS h1
 .by_cases h2:(rl n e.2).1<=0/\0<(rl n e.1).1
  .exact aR h2
  .have:kY n e=0:=(aP h1).trans (aP h2);omega
theorem Jw(n:N3)(e:Pt×Pt):kW n (rv e)=kW n e/\kY n (rv e)=kY n e/\kS n (rv e)=kS n e:=by
 by_cases h1:iU n e.1 e.2
 .obtain⟨a,b,c,d,e1,f⟩:=Fs h1;exact⟨d.trans a.symm,e1.trans b.symm,f.trans c.symm⟩
 .by_cases h2:iU n e.2 e.1
  .obtain⟨a,b,c,d,e1,f⟩:=Fs h2;exact⟨a.trans d.symm,b.trans e1.symm,c.trans f.symm⟩
  .exact⟨((aP h2).trans (aP h1)).trans ((aP h1).trans (aP h2)).symm,((aP h2).trans (aP h1)).trans ((aP h1).trans (aP h2)).symm,((aP h2).trans (aP h1)).trans ((aP h1).trans (aP h2)).symm⟩
theorem Om(n:N3)(e e':Pt×Pt):cC n (rv e) e'=cC n e e'/\cC n e' (rv e)=cC n e' e:=by
 unfold cC;rw[(Jw n e).1,(Jw n e).2.1,(Jw n e).2.2];exact⟨rfl,rfl⟩
theorem Oo{x y:Pt×Pt}(hy:kY n y<0)(h:cC n y x=false):kY n x<0:=by
 have h':¬_:=λk=>by rw[EL.2 k] at h;cases h
 have px:=vO n x;have py:=vO n y;have q1:=(Ga.neg_mul (z:=kY n y) px).2 hy;have q2:=Ga.neg_mul (z:=kY n x) py;rw[gF] at q1 q2;exact q2.1 aa
theorem aqs{f t:Pt}(h:iU n a b)(k:iU n f t)(la:cr (dr (f,t)) (dr (f,a))=0)(lb:cr (dr (f,t)) (dr (f,b))=0)(_hn:0<n.2.2):cC n (a,b) (f,t)=false/\cC n (f,t) (a,b)=false:=by
 obtain⟨a1,a2,a3,_⟩:=Fs h;obtain⟨b1,b2,b3,_⟩:=Fs k;have e:∀u v:Pt,((rl n v).1-(rl n u).1=n.2.2*(dr (u,v)).1)/\((rl n v).2-(rl n u).2=n.2.2*(dr (u,v)).2):=λu v=>by
  unfold rl rel dr;simp only;constructor<;>grind
 have s1:cr (dr (f,t)) (dr (a,b))=0:=by
  have:cr (dr (f,t)) (dr (a,b))=cr (dr (f,t)) (dr (f,b))-cr (dr (f,t)) (dr (f,a)):=by unfold cr dr;grind
  omega
 have hS:kS n (a,b)*kW n (f,t)=kS n (f,t)*kW n (a,b):=by
  rw[a1,a3,b1,b3,(e a b).1,(e a b).2,(e f t).1,(e f t).2];unfold cr at s1;have:n.2.2*(dr (a,b)).2*(n.2.2*(dr (f,t)).1)-n.2.2*(dr (f,t)).2*(n.2.2*(dr (a,b)).1)=n.2.2*n.2.2*((dr (f,t)).1*(dr (a,b)).2-(dr (f,t)).2*(dr (a,b)).1):=by grind
  rw[s1] at this;omega
 have hY:kY n (a,b)*kW n (f,t)=kY n (f,t)*kW n (a,b):=by
  rw[a1,a2,b1,b2,(e a b).1,(e f t).1];have c1:cr (rl n a) (rl n b)=n.2.2*cr (rl n a) (dr (a,b)):=by
   have:cr (rl n a) (rl n b)=(rl n a).1*((rl n b).2-(rl n a).2)-(rl n a).2*((rl n b).1-(rl n a).1):=by unfold cr;grind
   rw[this,(e a b).1,(e a b).2];unfold cr;grind
  have c2:cr (rl n f) (rl n t)=n.2.2*cr (rl n f) (dr (f,t)):=by
   have:cr (rl n f) (rl n t)=(rl n f).1*((rl n t).2-(rl n f).2)-(rl n f).2*((rl n t).1-(rl n f).1):=by unfold cr;grind
   rw[this,(e f t).1,(e f t).2];unfold cr;grind
  have c3:cr (rl n a) (dr (f,t))=cr (rl n f) (dr (f,t)):=by
   have:cr (rl n a) (dr (f,t))-cr (rl n f) (dr (f,t))=((rl n a).1-(rl n f).1)*(dr (f,t)).2-((rl n a).2-(rl n f).2)*(dr (f,t)).1:=by unfold cr;grind
   rw[(e f a).1,(e f a).2] at this;have w:n.2.2*(dr (f,a)).1*(dr (f,t)).2-n.2.2*(dr (f,a)).2*(dr (f,t)).1= -(n.2.2*cr (dr (f,t)) (dr (f,a))):=by unfold cr;grind
   rw[w,la] at this;simp at this;omega
  have c4:cr (rl n a) (dr (a,b))*(dr (f,t)).1=cr (rl n a) (dr (f,t))*(dr (a,b)).1:=by
   have:cr (rl n a) (dr (a,b))*(dr (f,t)).1-cr (rl n a) (dr (f,t))*(dr (a,b)).1=(rl n a).1*cr (dr (f,t)) (dr (a,b)):=by unfold cr;grind
   rw[s1] at this;simp at this;omega
  rw[c1,c2];have x1: -(n.2.2*cr (rl n a) (dr (a,b)))*(n.2.2*(dr (f,t)).1)= -(n.2.2*n.2.2*(cr (rl n a) (dr (a,b))*(dr (f,t)).1)):=by grind
  have x2: -(n.2.2*cr (rl n f) (dr (f,t)))*(n.2.2*(dr (a,b)).1)= -(n.2.2*n.2.2*(cr (rl n f) (dr (f,t))*(dr (a,b)).1)):=by grind
  rw[x1,x2,c4,c3]
 unfold cC;rw[hS,hY];simp
theorem aeN{x y z:Pt×Pt}(h1:cC n x y=false)(h2:cC n y x=false):cC n z x=cC n z y/\cC n x z=cC n y z:=by
 have a:=EN n;constructor
 .refine mP.2 ⟨λk=>?_,λk=>?_⟩
  .rcases a z x y k with q|q
   .rw[h2] at q;cases q
   .exact q
  .rcases a z y x k with q|q
   .rw[h1] at q;cases q
   .exact q
 .refine mP.2 ⟨λk=>?_,λk=>?_⟩
  .rcases a x z y k with q|q
   .exact q
   .rw[h1] at q;cases q
  .rcases a y z x k with q|q
   .exact q
   .rw[h2] at q;cases q
theorem hts{rg:List (List Pt)}(hn:0<n.2.2)(h:iU n a b)(hP:wZ (aT rg) (n1 a) (n1 b)):
  RR (aT rg) (n1 a) (n1 b)=fR (wt n) (λe=>cC n e (a,b)) (aT rg)/\LL (aT rg) (n1 a) (n1 b)=fR (wt n) (λe=> !cC n (a,b) e) (aT rg):=by
 obtain⟨k1,k2,k3,_⟩:=Fs h;have hw:∀z:Pt,(wv n (n1 z)).1=(rl n z).1:=λz=>by unfold wv rl rel n1;simp
 have hD:0<(wv (n1 a) (n1 b)).1:=by
  rw[oZ];have:(rl n b).1-(rl n a).1=n.2.2*(dr (a,b)).1:=by unfold rl rel dr;simp only;grind
  unfold iU at h;exact(bT hn).1 aa
 have hZ:=abH (a:=a) (b:=b) hn (show(0:Int)<1 by decide) (show(0:Int)<1 by decide) h.1 h.2 (by rw[hw];exact h.1) (by rw[hw];exact h.2) hD (by unfold lam;rw[eo,(lZ (s:=(a,a))).2 rfl];exact(Dt _).2.1) (by unfold lam;rw[eo,oZ];unfold cr;grind)
 rw[<-k1,<-k2,<-k3] at hZ;obtain⟨r1,r2⟩:=abN (e0:=(a,b)) hn hP hZ (by rw[hw];exact h.1) (by rw[hw];exact h.2)
 refine⟨r1,?_⟩;have e:LL (aT rg) (n1 a) (n1 b)=RR (aT rg) (n1 a) (n1 b)+total (fb (cH (n1 a) (n1 b)) (wv (n1 a) (n1 b))) (aT rg):=rfl;rw[e,r1,r2];refine(EJ _ λx _=>?_).symm
 cases q1:cC n x (a,b)<;>cases q2:cC n (a,b) x
 .rfl
 .rfl
 .rfl
 .have:=EM n _ _ _ q1 q2;rw[Im] at this;cases this
section
variable{rg:List (List Pt)}{l:List Nd}
theorem aqt(hN:di (aT rg) l){bw:Int->Bool}{n:Nd}(hn:n∈l)(hin:bw (PP (aT rg) n)=true){a b:Nd}(hs:Sd (aT rg) l bw a b)(hc:iU (n1 (PM (aW l) n)) (PM (aW l) b) (PM (aW l) a))(hy:kY (n1 (PM (aW l) n)) (PM (aW l) b,PM (aW l) a)<0):
  ∃f t,Sd (aT rg) l bw f t/\iU (n1 (PM (aW l) n)) (PM (aW l) f) (PM (aW l) t)/\kY (n1 (PM (aW l) n)) (PM (aW l) f,PM (aW l) t)<0/\cC (n1 (PM (aW l) n)) (PM (aW l) b,PM (aW l) a) (PM (aW l) f,PM (aW l) t)=true:=by
 obtain⟨hM,hO⟩:=di.ok hN;have Ff:0<(n1 (PM (aW l) n)).2.2:=by show(0:Int)<1;decide
 have aeO:∀{x y:Nd},x∈l->y∈l->(iU (n1 (PM (aW l) n)) (PM (aW l) x) (PM (aW l) y)↔(wv n x).1<=0/\0<(wv n y).1):=λ{x y} hx hy=>by
  obtain⟨p,q,hp,hq,e1,_⟩:=kZ hM (hO n hn) (hO x hx);obtain⟨p',q',hp',hq',mF,_⟩:=kZ hM (hO n hn) (hO y hy);have g1:=kX hp hq e1;have g2:=kX hp' hq' mF;unfold iU;rw[eo,eo];omega
 have hpc:fk (aT rg) l b a/\bw (LL (aT rg) b a)=false:=by
  obtain⟨_,hal,hbl⟩:=iP hN hs.pc;have hw:=(aeO hbl hal).1 hc;rcases hs with⟨q,_⟩|⟨q,q1,q2⟩
  .exfalso;have hr:=(q.facts hN).2.2;have ca:=(hN.can a hal).pos;have cb:=(hN.can b hbl).pos;obtain⟨m1,_⟩:=MK n a b;have cn:=(hN.can n hn).pos;have h1:n.2.2*(wv a b).1<0:=by
    have x1:=ahB hw.1 ca;have x2:=bJ hw.2 cb;rw[gF] at x1 x2;omega
   have:=(Ga.neg_mul (z:=(wv a b).1) cn).1 h1;have:=Dx hr;omega
  .exact⟨q,q2⟩
 obtain⟨hpc,hout⟩:=hpc;obtain⟨e1,e2⟩:=aci hN hpc;obtain⟨r1,r2⟩:=hts Ff hc (Tn hN hpc);rw[<-e2,r2] at hout;rw[<-acg hM (hO n hn),<-M6 hM,SQ] at hin;generalize hE:aT (rg.map (·.map (cZ (aW l))))=E at*
 generalize hNn:n1 (PM (aW l) n)=N at*;generalize hV:((PM (aW l) b,PM (aW l) a):Pt×Pt)=V at*;have k1:fR (wt N) (λe=>decide (kY N e<0)) E=fR (wt N) (λe=> !cC N V e) E+fR (wt N) (λe=>decide (kY N e<0)) (E.filter λe=>cC N V e):=by
  rw[Ol];refine EJ _ λx _=>?_
  cases q:cC N V x
  .rw[iD (Oo hy q)];rfl
  .cases decide (kY N x<0)<;>rfl
 rw[k1] at hin;obtain⟨z,hz,hT,hb,ha⟩:=abD (EM N) (Im N) (EN N) (wt N) (λk=>bw (fR (wt N) (λe=> !cC N V e) E+k)) (by simpa using hout) (E.filter λe=>cC N V e) _ (λe=>decide (kY N e<0)) (λx y hy hyx=>iD (Oo (ia hy) hyx)) (aY _) hin
 obtain⟨hzE,Vc⟩:=jr.1 hz;have hT':=ia hT;have k2:fR (wt N) (λe=>cC N e z) E=fR (wt N) (λe=> !cC N V e) E+fR (wt N) (λe=>cC N e z) (E.filter λe=>cC N V e):=by
  rw[Ol];refine EJ _ λx _=>?_
  cases q:cC N V x
  .rcases EN N V z x Vc with w|w
   .rw[w];rfl
   .rw[w] at q;cases q
  .cases cC N x z<;>rfl
 have k3:fR (wt N) (λe=> !cC N e z&& !cC N z e) (E.filter λe=>cC N V e)=fR (wt N) (λe=> !cC N e z&& !cC N z e) E:=by
  rw[Ol];refine SJ _ λx _=>?_
  cases q:cC N V x
  .rcases EN N V z x Vc with w|w
   .rw[w];rfl
   .rw[w] at q;cases q
  .rfl
 rw[<-k2] at hb;rw[k3,<-Int.add_assoc,<-k2] at ha;have xa:z∈pC (aW l) (aT rg):=by rw[<-M6 hM,hE];exact hzE
 obtain⟨z0,hz0,hzz⟩:=bQ.1 xa;have aqv:∀u v:Pt,iU N (cZ (aW l) u) (cZ (aW l) v)↔(rl n u).1<=0/\0<(rl n v).1:=λu v=>by
  obtain⟨p,q,hp,hq,e1,_⟩:=xQ hM (hO n hn) u;obtain⟨p',q',hp',hq',mF,_⟩:=xQ hM (hO n hn) v;have g1:=kX hp hq e1;have g2:=kX hp' hq' mF;unfold iU;rw[<-hNn];omega
 obtain⟨u,v,huv,aeR⟩:∃u v,((u=z0.1/\v=z0.2)\/(u=z0.2/\v=z0.1))/\iU N (cZ (aW l) u) (cZ (aW l) v):=by
  rcases aeM hT' with q|q
  .rw[<-hzz] at q;exact⟨z0.1,z0.2,aS ⟨rfl,rfl⟩,q⟩
  .rw[<-hzz] at q;exact⟨z0.2,z0.1,aR ⟨rfl,rfl⟩,q⟩
 have aeS:=(aqv u v).1 aeR;obtain⟨f,t,hft,g1,g2,g3,la,lb⟩:=abG hN hn hz0 huv aeS.1 aeS.2;obtain⟨hfl,htl,_⟩:=hft.facts hN;have vW:iU N (PM (aW l) f) (PM (aW l) t):=by rw[<-hNn] at*;exact(aeO hfl htl).2 ⟨g1,g2⟩
 have p0:=kZ hM (hO f hfl) (hO t htl);have wY:∀w,lam (wv f t) f w=0->cr (dr (PM (aW l) f,PM (aW l) t)) (dr (PM (aW l) f,cZ (aW l) w))=0:=λw hw=>by
  have:=xQ hM (hO f hfl) w;rw[eo] at this;exact(p0.cr this).2.2.2 hw
 obtain⟨s1,s2⟩:=aqs aeR vW (wY u la) (wY v lb) Ff;have hzl:cC N z (PM (aW l) f,PM (aW l) t)=false/\cC N (PM (aW l) f,PM (aW l) t) z=false:=by
  rcases huv with⟨rfl,rfl⟩|⟨rfl,rfl⟩
  .rw[<-hzz];exact⟨s1,s2⟩
  .have e:z=rv (cZ (aW l) z0.2,cZ (aW l) z0.1):=by rw[<-hzz];rfl
   rw[e,(Om N _ _).1,(Om N _ _).2];exact⟨s1,s2⟩
 have hP:=Tn hN hft;obtain⟨i1,i2⟩:=aci hN hft;obtain⟨j1,j2⟩:=hts Ff vW (by rw[hE] at hP⊢;exact hP)
 rw[hE] at i1 i2 j1 j2;have cg:∀x,cC N x (PM (aW l) f,PM (aW l) t)=cC N x z/\cC N (PM (aW l) f,PM (aW l) t) x=cC N z x:=λx=>⟨(aeN hzl.1 hzl.2).1.symm,(aeN hzl.1 hzl.2).2.symm⟩
 refine⟨f,t,aS ⟨hft,?_,?_⟩,vW,Oo hT' hzl.1,?_⟩
 .rw[<-i2,j2];have:fR (wt N) (λe=> !cC N (PM (aW l) f,PM (aW l) t) e) E=fR (wt N) (λe=>cC N e z) E+fR (wt N) (λe=> !cC N e z&& !cC N z e) E:=by
   refine EJ _ λx _=>?_
   rw[(cg x).2];cases q1:cC N x z<;>cases q2:cC N z x
   .rfl
   .rfl
   .rfl
   .have:=EM N _ _ _ q1 q2;rw[Im] at this;cases this
  rw[this];exact ha
 .rw[<-i1,j1,SJ _ λx _=>(cg x).1]
  exact hb
 .rw[(cg V).1];exact Vc
end
section
variable{ν:Type}{f:Nat->ν}{m:Nat}
theorem aqw(f:Nat->ν)(i:Nat)(a:List Nat×List (List Nat)):∃b,Bf f i a b:=by
 by_cases h:∀o∈a.1++[i],f o≠f (i+1)
 .exact⟨_,aS ⟨h,rfl⟩⟩
 .have key:∀L:List Nat,¬(∀o∈L,f o≠f (i+1))->∃O1 d D,L=O1++d::D/\f d=f (i+1)/\∀o∈O1,f o≠f (i+1):=by
   intro L;induction L with
   |nil=>intro k;exact absurd (λo ho=>by simp at ho) k
   |cons x L ih=>
    intro k;by_cases hx:f x=f (i+1)
    .exact⟨[],x,L,rfl,hx,af⟩
    .obtain⟨O1,d,D,e,e1,e2⟩:=ih (λw=>k λo ho=>by
      rcases bU.1 ho with q|q
      .rw[q];exact hx
      .exact w o q)
     exact⟨x::O1,d,D,by rw[e];rfl,e1,λo ho=>by
      rcases bU.1 ho with q|q
      .rw[q];exact hx
      .exact e2 o q⟩
  obtain⟨O1,d,D,e,e1,e2⟩:=key _ h;exact⟨_,aR ⟨O1,d,D,e,e1,e2,rfl⟩⟩
theorem aqx(f:Nat->ν):∃st:Nat->List Nat×List (List Nat),st 0=([],[])/\∀i,Bf f i (st i) (st (i+1)):=by
 obtain⟨F,hF⟩:=Classical.axiomOfChoice (r:=λ(p:Nat×(List Nat×List (List Nat))) b=>Bf f p.1 p.2 b) λp=>aqw f p.1 p.2
 exact⟨λi=>Nat.rec ([],[]) (λi s=>F (i,s)) i,rfl,λi=>hF (i,_)⟩
end
section
variable{S:List Sg}{nx:Sg->Sg}
theorem Wd.aqy(h:Wd S nx){s:Sg}(hs:s∈S){m:Nat}(hc:Gp nx s m){i:Nat}(hi:i<m):∃R,gI S nx R/\it nx i s∈R/\∀u∈R,∃j,j<m/\u=it nx j s:=by
 obtain⟨st,h0,hst⟩:=aqx (λi=>(it nx i s).1)
 obtain⟨_,hp,hg⟩:=parted (h.nc hs hc) (λj hj e=>by
  rw[h.xh hs] at e;exact h.ne _ (h.pY hs j) e) (by show(it nx m s).1=s.1;rw[hc.per]) st h0 (λi _=>hst i)
 have:i∈(st m).2.flatten:=hp.mem_iff.2 (tN.2 hi);obtain⟨D,hD,hiD⟩:=Dj.1 this;obtain⟨d,hd⟩:=hg D hD;refine⟨D.map λj=>it nx j s,hd.ring h hs hc,bQ.2 ⟨i,hiD,rfl⟩,λu hu=>?_⟩
 obtain⟨j,hj,rfl⟩:=bQ.1 hu;exact⟨j,hd.lt j hj,rfl⟩
theorem aqA{A B:List Sg}{u:Sg}:u∈B++A↔u∈A++B:=by simp[or_comm]
theorem Wd.aqB(h:Wd S nx){s:Sg}(hs:s∈S){m:Nat}(hc:Gp nx s m)(hl:∀i,i<m->ge s.1 (it nx i s).1)(hno:∀R,LR S nx R->(∃i,i<m/\it nx i s∈R)->¬shl R){es:List Sg}(hcl:Cl es)(hi:In S es):Lf es s=PP es (n1 s.1):=by
 have hm:=hc.pos;obtain⟨z0,hz0,hT,hmax⟩:=SL (lt:=λx y=>nz (dr (it nx x s))&&nz (dr (it nx y s))&&bf (neg (dr (it nx y s))) (neg (dr (it nx x s)))) (λx y z h1 h2=>by
   simp only[tH] at h1 h2⊢;have k:∀d,nz d=true->neg d≠(0,0):=λd q=>kE (by unfold nz at q;simpa using q)
   exact⟨⟨h1.1.1,h2.1.2⟩,iY (k _ h2.1.2) (k _ h1.1.2) (k _ h1.1.1) h2.2 h1.2⟩) (λx=>by rw[tT];simp) (λi=>decide ((it nx i s).2=s.1)) (List.range m) _ (m-1) (tN.2 aa) (by
   refine iD ?_;rw[<-h.xh hs,show m-1+1=m by omega,hc.per]) (aY _)
 have ave:=tN.1 hz0;have hb2:(it nx z0 s).2=s.1:=ia hT;have Ah:=h.pY hs z0;have low:∀i,i<m->(it nx i s).2=s.1->bf (neg (dr (it nx i s))) (neg (dr (it nx z0 s)))=false:=λi hi e=>by
  have:=hmax i (tN.2 hi) (iD e);rw[y8 (h.gw Ah),y8 (h.gw (h.pY hs i))] at this;simpa using this
 generalize hb:it nx z0 s=b at*;obtain⟨Jx,ha1⟩:=h.DA b Ah;have jN:=h.gw Jx;have IJ:=kE (h.gw Ah);have hsm:=h.two _ Jx _ Ah ha1;have hwrap:bf (neg (dr b)) (dr (nx b))=true:=by
  apply iV;intro hk;have hab:bf (dr (nx b)) (neg (dr b))=true:=by
   have t:=jx jN IJ;rw[hsm] at t;cases q1:bf (dr (nx b)) (neg (dr b))<;>cases q2:bf (neg (dr b)) (dr (nx b))<;>rw[q1,q2] at t<;>simp[bb] at t
   .exact absurd q2 hk
  have hnb:∃i,i<m/\it nx i s=nx b:=by
   by_cases e:z0+1<m
   .exact⟨z0+1,e,by show nx (it nx z0 s)=_;rw[hb]⟩
   .refine⟨0,hm,?_⟩;have:it nx (z0+1) s=s:=by rw[show z0+1=m by omega];exact hc.per
    have w:nx (it nx z0 s)=s:=this;rw[hb] at w;exact w.symm
  obtain⟨i,him,hia⟩:=hnb;obtain⟨R,hR,CQ,hRw⟩:=h.aqy hs hc him;obtain⟨A,B,e,qz⟩:=hR.Xm;have hmem:∀u,u∈B++A↔u∈R:=λu=>by rw[e];exact aqA
  obtain⟨a,z,CR,Vd⟩:=mE qz.ring.ne;have hai:a∈B++A:=by
   cases hq:B++A with
   |nil=>rw[hq] at CR;cases CR
   |cons c T=>rw[hq] at CR;rw[<-jt CR];simp
  have aeU:a=nx b:=by
   have m1:nx b∈B++A:=(hmem _).2 (by rw[<-hia];exact CQ)
   have g1:=qz.least a CR _ m1;obtain⟨j,hj,ej⟩:=hRw a ((hmem a).1 hai);have g2:=hl j hj;rw[<-ej] at g2;rw[ha1,hb2] at g1;have ef:a.1=(nx b).1:=by rw[ha1,hb2];exact(Kw g2 g1).symm
   apply iV;intro hne;obtain⟨x,hx,ex⟩:=jG.1 hai;obtain⟨y,hy,ey⟩:=jG.1 m1;have pw:=lW.1 qz.ring.o6;rcases Aw x y with q|q|q
   .have:=pw x y hx hy q;rw[ex,ey] at this;exact this ef
   .subst q;exact hne (ex.symm.trans ey)
   .have:=pw y x hy hx q;rw[ex,ey] at this;exact this ef.symm
  obtain⟨M,hg⟩:=qz.rg h CR Vd;refine hno (B++A) qz ⟨i,him,(hmem _).2 CQ⟩ ⟨a,z,CR,Vd,?_⟩;have Jy:z∈B++A:=rH Vd;obtain⟨j,hj,ej⟩:=hRw z ((hmem z).1 Jy);have hz2:z.2=s.1:=by rw[hg.z2,aeU,ha1,hb2]
  have tB:=low j hj (by rw[<-ej];exact hz2)
  rw[<-ej] at tB;have hdz:=kE (h.gw hg.mz);have fB:bf (dr a) (neg (dr z))=true:=by
   rw[aeU];have t:=jx hdz IJ;rw[tB] at t;cases q1:bg (neg (dr z)) (neg (dr b))
   .cases q2:bf (neg (dr b)) (neg (dr z))
    .rw[q1,q2] at t;simp[bb] at t
    .exact iY jN IJ hdz hab q2
   .rw[MC q1];exact hab
  have KB:=hg.Kz h;have Be:=hg.KA h;rw[mS] at fB;rcases fB with⟨_,q⟩|⟨_,q⟩
  .exact absurd Be q
  .rw[fG,dh] at q;omega
 have UC:Lf es s=Lf es b:=by
  rw[<-hb];exact(h.along hcl hi hs (Gn nx s z0)).symm
 rw[UC,(h.at_end hcl hi Ah).1,hb2];unfold eO;have z1:Ga.AS es (n1 s.1) (λz=>nz z&&bf z (neg (dr b)))=0:=by
  rw[Dy (Q':=λ_=>false) (by simp[nz]) (λz hz=>?_),Qa]
  have hz':=hz;rw[<-hb2] at hz';obtain⟨u,hu,k⟩:=h.arm hi Ah hz';cases q:bf z (neg (dr b))
  .simp
  .exfalso;have hcw:cw (neg (dr b)) z (dr (nx b))=true:=oc.2 (aR (aS ⟨q,hwrap⟩));rcases k with⟨k1,rfl⟩|⟨k1,rfl⟩
   .rw[h.w1 b Ah u hu k1] at hcw;cases hcw
   .rw[h.w2 b Ah u hu k1] at hcw;cases hcw
 rw[z1];omega
end
end Gb
section
open Go.RowKit
def nI(Xs:List PB)(p:Pg):List UInt8:=wH (kO Xs p.1) (p.2.map (kO Xs))
def Oq(Xs:List PB)(ps:List Pg):List UInt8:=CP (ps.map (nI Xs))
theorem Ve:∀l:List (List UInt8),(Lib.join l [44,32]).length<=(l.map λt=>t.length+2).sum
 |[]=>by simp[Lib.join,List.intercalate]
 |[x]=>by simp[Lib.join_one]
 |x::y::r=>by
  have ih:=Ve (y::r);have e:Lib.join (x::y::r) [44,32]=x++([44,32]++Lib.join (y::r) [44,32]):=by simp[Lib.join,List.intercalate]
  rw[e];simp only[bX,gM,yO,dG,ib] at ih⊢;omega
section
variable{Xs:List PB}
theorem aeW(hB:BD Xs){r:List Nat}(h:RG Xs r):∀n∈fr Xs r,fC n.1 n.2.1 n.2.2:=λn hn=>by
 unfold fr at hn;obtain⟨i,hi,rfl⟩:=bQ.1 hn;exact(hB.v _ (iM (h.lt i hi))).f.bw
theorem aeX(hB:BD Xs){r:List Nat}(h:RG Xs r):(kO Xs r).length<=208*r.length:=by
 have h0:0<r.length:=jk.2 h.ne;have hn:=aeW hB h;have h1:=Pl.LG Pl.dJ 101 ((fr Xs r++(fr Xs r).take 1).map Ge.aU) (λq hq=>by
  obtain⟨n,hm,rfl⟩:=bQ.1 hq;refine RM ?_;rcases dF.1 hm with hn'|hn'
  .exact hn n hn'
  .exact hn n (rN hn'))
 have h2:(fr Xs r).length=r.length:=by simp[fr]
 rw[gG,bX,iE,h2] at h1;unfold kO;simp only[dG,bX,ib];omega
theorem Vf{α:Type}(f g:α->Nat):∀l:List α,(∀x∈l,f x<=g x)->(l.map f).sum<=(l.map g).sum
 |[],_=>af
 |a::l,h=>by
  have h1:=h a af
  have h2:=Vf f g l λx hx=>h x (by simp[hx])
  simp only[gM,yO];omega
theorem Vg{α:Type}(c:Nat)(f:α->Nat):∀l:List α,(l.map λx=>c*f x).sum=c*(l.map f).sum
 |[]=>af
 |a::l=>by simp only[gM,yO,Vg c f l,tO]
theorem aeY(hB:BD Xs){p:Pg}(h:pQ Xs p):(Lib.join (kO Xs p.1::p.2.map (kO Xs)) [44,32]).length<=210*(p.1.length+fE p.2):=by
 have h1:=Ve (kO Xs p.1::p.2.map (kO Xs));have h2:=aeX hB h.1;have h0:0<p.1.length:=jk.2 h.1.ne;rw[gM,yO,gq] at h1;have h3:=Vf ((λt:List UInt8=>t.length+2)∘kO Xs) (λr=>210*r.length) p.2 (λr hr=>by
  have h4:=aeX hB (h.2 r hr);have h5:0<r.length:=jk.2 (h.2 r hr).ne;show(kO Xs r).length+2<=210*r.length;omega)
 rw[Vg] at h3;have h6:(p.2.map λr=>r.length).sum=fE p.2:=rfl
 rw[h6] at h3;omega
theorem aqC(hB:BD Xs){p:Pg}(h:pQ Xs p):(nI Xs p).length+2<=214*(p.1.length+fE p.2):=by
 have h1:=aeY hB h;have h0:0<p.1.length:=jk.2 h.1.ne;unfold nI wH;simp only[dG,bX,ib];omega
theorem aeZ(hB:BD Xs){ps:List Pg}(h:∀p∈ps,pQ Xs p):(Lib.join (ps.map (nI Xs)) [44,32]).length<=214*jq ps:=by
 have h1:=Ve (ps.map (nI Xs));rw[gq] at h1;have h3:=Vf ((λt:List UInt8=>t.length+2)∘nI Xs) (λp=>214*(p.1.length+fE p.2)) ps (λp hp=>aqC hB (h p hp))
 rw[Vg] at h3;exact fN h1 h3
theorem ae0{β:Type}(cf:β->β->Int)(l:List β)(hO:Sort.SWO (ltOf λi j:Fin l.length=>cf l[i] l[j])):(jS cf l).Perm l:=by
 unfold jS;by_cases h:0<l.length
 .rw[yN h];obtain⟨_,p3,_⟩:=U8 (λi j:Fin l.length=>cf l[i] l[j]) hO h
  have k:=p3.map (λi:Fin l.length=>l[i])
  have e3:(Array.ofFn (id:Fin l.length->Fin l.length)).toList.map (λi:Fin l.length=>l[i])=l:=by
   apply AO
   .simp
   .intro i h1 h2;simp
  rw[e3] at k;exact k
 .rw[FV h];have:l=[]:=iX.1 aa
  rw[this]
theorem ae1(hB:BD Xs){p:Pg}(h:pQ Xs p):(eK Xs p).2.Perm p.2:=
 ae0 _ _ (yw (λi:Fin p.2.length=>fr Xs p.2[i]) (λi=>Oi hB (h.2 _ (iw i.2))))
theorem ae2(hB:BD Xs){p:Pg}(h:pQ Xs p):pQ Xs (eK Xs p):=⟨h.1,λr hr=>h.2 r ((ae1 hB h).mem_iff.1 hr)⟩
theorem Vh(hB:BD Xs){ps:List Pg}(h:∀p∈ps,pQ Xs p):(wG Xs ps).Perm (ps.map (eK Xs)):=
 ae0 _ _ (yw (λi:Fin (ps.map (eK Xs)).length=>fr Xs (ps.map (eK Xs))[i].1) (λi=>by
  have hm:=iw (l:=ps.map (eK Xs)) i.2;obtain⟨p,hp,e⟩:=bQ.1 hm;have hg:=(ae2 hB (h p hp)).1;rw[e] at hg;exact Oi hB hg))
theorem ae3(hB:BD Xs){ps:List Pg}(h:∀p∈ps,pQ Xs p):∀p∈wG Xs ps,pQ Xs p:=λp hp=>by
 have:=(Vh hB h).mem_iff.1 hp;obtain⟨q,hq,rfl⟩:=bQ.1 this;exact ae2 hB (h q hq)
theorem ae4(hB:BD Xs){ps:List Pg}(h:∀p∈ps,pQ Xs p):jq (wG Xs ps)=jq ps:=by
 have h1:jq (wG Xs ps)=jq (ps.map (eK Xs)):=((Vh hB h).map _).sum_nat;rw[h1];unfold jq;rw[gq];congr 1;apply wS;intro p hp;have h2:fE (eK Xs p).2=fE p.2:=((ae1 hB (h p hp)).map _).sum_nat;show(eK Xs p).1.length+fE (eK Xs p).2=_;rw[h2];rfl
end
theorem ae5:∀l:List (List Nat),(∀r∈l,0<r.length)->l.length<=fE l
 |[],_=>iW _
 |a::l,h=>by
  have h1:=h a af
  have h2:=ae5 l λr hr=>h r (by simp[hr])
  have e:fE (a::l)=a.length+fE l:=by simp[fE]
  rw[e,dG];omega
section
variable{bs:List Nat}{Xs:List PB}{g base:Nat}{w:aM}
theorem ae6(hB:BD Xs)(hR:RB w g bs Xs){v:aN}{r:List Nat}(o:w.ownsRow base 175 1 v r.length (bC (r.map (bx bs))))(h:RG Xs r)(hG:Gl w):
  ak 153 #[v] w λe w'=>e=aL (aF (ba (kO Xs r)))/\aj w w':=by
 have h0:0<r.length:=jk.2 h.ne;obtain⟨g1,c1,rfl,_,_,_,f1⟩:=pP o h0;have hl:=h.len;have hX:=hB.len;refine aqj bs Xs r g1 c1 w aa h0 hG (λi a ha=>?_) (aeW hB h)
 have hs:=hR.at (h.lt a (bA ha));exact⟨f1 i _ (by simp[bC,ha]),hs.c2,hs.c3⟩
theorem aqD(hB:BD Xs)(hR:RB w g bs Xs){ph:lC}{p:Pg}(o:U9 bs base ph p w)(h:pQ Xs p)(ht:jq [p]<=Xs.length)(hG:Gl w):
  ak 102 #[aH (some ⟨ph.pb,0,none⟩)] w λe w'=>e=aL (aF (ba (nI Xs p)))/\aj w w':=by
 have h0:0<p.1.length:=jk.2 h.1.ne;have hX:=hB.len;have ht':p.1.length+fE p.2<=Xs.length:=by simpa[jq] using ht
 have hl:=aeY hB h;have CK:p.2.length<=fE p.2:=ae5 p.2 (λr hr=>jk.2 (h.2 r hr).ne)
 obtain⟨gs,cs,e1,_⟩:=pP o.sh h0;obtain⟨so,c,e2⟩:∃so c,ph.hv=aG so (p.2.map (kO Xs)).length c:=by
  rw[gG,<-o.hl];rcases o.ho.2 with⟨hv,h0⟩|⟨b,cap,cur,hv,_⟩
  .exact⟨none,0,by rw[hv,h0]⟩
  .exact⟨_,cap,hv⟩
 refine aqr ph.pb gs p.1.length cs so c (kO Xs p.1) (p.2.map (kO Xs)) w (by rw[gG];omega) aa hG ?_ ?_ (λw1 hb dv=>?_) (λk t hk=>?_)
 .rw[cell_of o.blk 0,<-e1];rfl
 .rw[cell_of o.blk 1,<-e2];rfl
 .rw[<-e1];exact ae6 hB (hR.below hb) (bG o.sh λk e=>hb.block k (bn o.sh k e).2) h.1 dv
 .rw[iy] at hk;obtain⟨r,hr,rfl⟩:=rG.1 hk;have hkl:k<ph.hvs.length:=by rw[o.hl];exact(cG.1 hr).1
  obtain⟨v,hv⟩:∃v,ph.hvs[k]?=some v:=⟨_,bo hkl⟩;have hgr:=h.2 r (bA hr);have ow:=o.hr k v r hv hr;obtain⟨gk,ck,rfl,_⟩:=pP ow (jk.2 hgr.ne);obtain⟨b,cT,e3,_,_,_,f⟩:=pP o.ho aa
  rw[e2] at e3;injection e3 with e3;exact⟨b,gk,_,ck,e3,f k _ hv,λw1 hb dv=>ae6 hB (hR.below hb) (bG ow λk e=>hb.block k (bn ow k e).2) hgr dv⟩
theorem aqE{ps:List Pg}{p:Pg}(h:p∈ps):jq [p]<=jq ps:=by
 induction ps with
 |nil=>simp at h
 |cons a ps ih=>
  rcases bU.1 h with rfl|h
  .simp[jq]
  .have:=ih h;simp only[jq,gM,yO,J2,List.sum_nil] at this⊢;omega
theorem aqF(hB:BD Xs)(hR:RB w g bs Xs){iu:aN}{PS:List Pg}{PH:List lC}(o:PO bs base iu PS PH w)(h:∀p∈PS,pQ Xs p)(ht:jq PS<=Xs.length)(hl:PS.length<=85000000)(hG:Gl w):
  ak 67 #[iu] w λe w'=>e=aL (aF (ba (Oq Xs PS)))/\aj w w':=by
 have hX:=hB.len;have hJ:=aeZ hB h;obtain⟨so,c,rfl⟩:∃so c,iu=aG so (PS.map (nI Xs)).length c:=by
  rw[gG,<-o.len];rcases o.row.2 with⟨hv,h0⟩|⟨b,cap,cur,hv,_⟩
  .exact⟨none,0,by rw[hv,h0]⟩
  .exact⟨_,cap,hv⟩
 refine aeK so c (PS.map (nI Xs)) w (by rw[gG];exact hl) aa (λk t hk=>?_)
 rw[iy] at hk;obtain⟨p,hp,rfl⟩:=rG.1 hk;have hkl:k<PH.length:=by rw[o.len];exact(cG.1 hp).1
 obtain⟨ph,iC⟩:∃ph,PH[k]?=some ph:=⟨_,bo hkl⟩;have hmem:=bA hp;obtain⟨b,cT,e3,_,_,_,f⟩:=pP o.row aa
 injection e3 with e3;refine⟨b,ph.pb,e3,f k _ (by rw[iy,iC];rfl),λw1 hb=>?_⟩
 have q:=o.pg k ph p iC hp;have q1:U9 bs base ph p w1:=⟨(hb.block _ (lt_of_heap q.blk)).trans q.blk,bG q.sh λk e=>hb.block k (bn q.sh k e).2,bG q.ho λk e=>hb.block k (bn q.ho k e).2,q.hl,λi v r h1 h2=>bG (q.hr i v r h1 h2) λk e=>hb.block k (bn (q.hr i v r h1 h2) k e).2⟩
 exact aqD hB (hR.below hb) q1 (h p hmem) (fN (aqE hmem) ht) (hG.below hb hG.sz)
end
end
section
open Go.RowKit
open Ge
theorem aqG(w:aM):
  ak 69 #[aG none 0 0] w λe w'=>e=aL (aG none 0 0)/\w'=w:=by
 have HC:Hid (ak 116 #[aG none 0 0] w λe w'=>e=aL (aI #[])/\w'=w):=aew w
 go_enter func69,ntmps69
 go_wp2_with fail
 go_loopg [3,13] 0 (λm lv iv wr=>m=0/\lv=aG none 0 0/\iv=az aJ 0/\wr=w)
 case atStart=>exact⟨rfl,rfl,rfl,rfl⟩
 case round=>
  obtain⟨_,rfl,rfl,rfl⟩:=hrel
  go_wp2_with fail
  refine HC.out.mono ?_;rintro e w5 ⟨rfl,rfl⟩;clear HC
  go_wp2_with fail
  go_ret
  exact⟨rfl,rfl⟩
section
variable{rg:List (List Pt)}{l:List Nd}{r:Int}{Ps:List PB}
theorem Ot(hl:l.map aU=ja (aT rg))(hs:∀e∈aT rg,gS e)(h:qi (aT rg) l Ps)(hlen:(oG r (aT rg) Ps).length<=85000000):BD (oG r (aT rg) Ps):=by
 have hne:∀e∈aT rg,e.1≠e.2:=λe he=>K1 he
 have hv:∀x∈Ps.flatMap (gL r (aT rg)),eB x:=λx hx=>by
  obtain⟨p,hp,xN⟩:=oW.1 hx;exact S5 (h.v p hp) xN
 obtain⟨hperm,aqH⟩:=abY (Ps.flatMap (gL r (aT rg))) hv;refine⟨λx hx=>hv x (hperm.mem_iff.1 hx),λx hx=>?_,?_,hlen⟩
 .obtain⟨p,hp,xN⟩:=oW.1 (hperm.mem_iff.1 hx);obtain⟨k,hk⟩:=amI hne hs h hl p hp;rcases M3 xN with⟨rfl,_⟩|⟨rfl,_⟩
  .exact⟨k,hk⟩
  .exact⟨_,hk.rev⟩
 .refine aqH.imp λ{a b} hab=>?_
  rw[ET];exact hab
def yA(Xs:List PB):List UInt8:=Oq Xs (wG Xs (bH Xs Xs.length).ps)
theorem aqI(hl:l.map aU=ja (aT rg))(hc:∀n∈l,Ge.Can n)(hs:∀e∈aT rg,gS e)(h:qi (aT rg) l Ps){w1 w0:aM}{lv:aN}{bs:List Nat}(lg:BS w1 lv bs (oG r (aT rg) Ps) w0)(hbl:bs.length<=85000000)(dv:Gl w1):
  ak 69 #[lv] w0 λe w'=>∃lp,e=aL lp/\aj w1 w'/\ak 67 #[lp] w' λe w''=>e=aL (aF (ba (yA (oG r (aT rg) Ps))))/\aj w' w'':=by
 have hX:=M4 (r:=r) hl hc h;have hB:=Ot (r:=r) hl hs h (by rw[<-lg.len];exact hbl)
 generalize oG r (aT rg) Ps=Xs at*;have hb1:=lg.below;rcases lg.own.2 with⟨rfl,h0⟩|⟨g,cap,cur,rfl,hg,hblk,hnc,hcm,hcs,htk⟩
 .have hb0:bs=[]:=iX.1 h0;have uA:Xs=[]:=iX.1 (by rw[<-lg.len];exact h0)
  subst uA;refine(aqG w0).mono ?_;rintro e w' ⟨rfl,rfl⟩;exact⟨_,rfl,hb1,aeK none 0 [] w' af (by simp[Lib.join,List.intercalate]) (λk t hk=>by simp at hk)⟩
 .have hlt:∀b∈bs,b<w0.heap.size:=λb hb=>lg.lt hb
  have hsw:SW g bs Xs (λ_=>false) (λ_=>none) w0:=by
   refine⟨lg.len,lg.nd,λhgb=>lg.ne g hgb rfl,λi hi=>?_,λi hi=>?_⟩
   .obtain⟨gT,cT,e,_,_,_,f⟩:=pP lg.own aa
    injection e with e;injection e with e;injection e with e;subst e;exact f i _ (by simp[bC,zP hi])
   .exact(lg.lies i _ _ (zP hi) (xO (by rw[<-lg.len];exact hi))).2
  have htot:=hX.fE hB Xs.length (aY _);have hgd:=hX.pn hB Xs.length (aY _);have hpv:=hX.pv hB Xs.length (aY _);have NV:=hB.len;have hpl:=hpv.len;refine ap5 (cap:=cap) hX hB hlt (lt_of_heap hblk) hnc hsw (λlp w'=>aj w1 w'/\ak 67 #[lp] w' λe w''=>e=aL (aF (ba (yA Xs)))/\aj w' w'') ?_
  intro lv PH T wr nD Jd hnd hmo zK;refine(aqe hB (lt_of_heap hblk) hlt hmo.size nD Jd hgd aa (λp hp=>?_)).mono ?_
  .obtain⟨i,hi⟩:=ahy.1 hp;have:=hpv.hol i p hi;omega
  .rintro e w' ⟨rfl,⟨uL,Va⟩,aqJ,aX⟩;have hb2:aj w1 w':=by
    have aqK:aj w1 wr:=hb1.trans ⟨hmo.os,hmo.tape,hmo.output,hmo.size,λk hk=>hmo.block k (bW hk hb1.size) (λhm=>by
     obtain⟨i,hi⟩:=ahy.1 hm;have hiX:i<Xs.length:=by rw[<-lg.len];exact(cG.1 hi).1
     have:=(lg.lies i k _ hi (xO hiX)).1;omega)⟩
    exact aqK.trans (aX.mono hb1.size)
   refine⟨rfl,hb2,?_⟩;refine aqF hB aqJ Va (ae3 hB hgd) ?_ ?_ (dv.below hb2 dv.sz)
   .rw[ae4 hB hgd];omega
   .have:=(Vh hB hgd).length_eq;rw[gG] at this;omega
end
end
namespace Gb
open Ge Ga
section
variable{S:List Sg}{nx:Sg->Sg}
theorem Wd.Ou(h:Wd S nx):∀(T:List Sg)(b c:Sg)(e:Pt),b∈S->(∀s∈T,s∈S)->Path b.2 T e->bg (dr c) (dr b)=true->bg (dr ((tG b T).getLastD c)) (dr (T.getLastD b))=true
 |[],_,_,_,_,_,_,hc=>hc
 |s::T,b,c,e,hb,hm,hp,hc=>by
  have hs:=hm s af
  have e1:(s::T).getLastD b=T.getLastD s:=by cases T<;>rfl
  rw[e1];unfold tG;by_cases hcr:cr (dr b) (dr s)=0
  .rw[aV hcr];exact h.Ou T s c e hs (λu hu=>hm u (bV _ hu)) hp.2 (ve hc (h.DK hb hs hp.1 hcr))
  .rw[aP hcr];have e2:(s::tG s T).getLastD c=(tG s T).getLastD s:=by cases tG s T<;>rfl
   rw[e2];exact h.Ou T s s e hs (λu hu=>hm u (bV _ hu)) hp.2 (qK (h.gw hs))
end
def rE(c:Nat->Nat->Bool)(p:List Nat×List (List Nat))(s:Nat):List Nat×List (List Nat):=
 if 0<=iz (c s) (p.1++[s]) then((p.1++[s]).take (iz (c s) (p.1++[s])).toNat,p.2++[(p.1++[s]).drop (iz (c s) (p.1++[s])).toNat]) else(p.1++[s],p.2)
def pR(c:Nat->Nat->Bool)(W:List Nat):List Nat×List (List Nat):=W.foldl (rE c) ([],[])
theorem ae7(c:Nat->Nat->Bool)(W:List Nat)(s:Nat):pR c (W++[s])=rE c (pR c W) s:=by unfold pR;rw[Pz];rfl
theorem aqM(Xs:List PB)(W:List Nat):cU Xs W=((pR (nB Xs) W).1,(pR (nB Xs) W).2.map (eF Xs)):=by
 have key:∀(W:List Nat)(p:List Nat×List (List Nat)),W.foldl (kj Xs) (p.1,p.2.map (eF Xs))=((W.foldl (rE (nB Xs)) p).1,(W.foldl (rE (nB Xs)) p).2.map (eF Xs)):=by
  intro W;induction W with
  |nil=>intro p;rfl
  |cons s W ih=>
   intro p;rw[uT,uT,<-ih];congr 1;unfold kj rE jg;simp only;by_cases h:0<=iz (nB Xs s) (p.1++[s])
   .rw[aV h,aV h];simp
   .rw[aP h,aP h]
 exact key W ([],[])
theorem aqN(Xs:List PB)(W:List Nat):cJ Xs W=(pR (nB Xs) W).2.map (eF Xs):=by unfold cJ;rw[aqM]
theorem aqO{P:Nat->Bool}(g:Nat->Nat)(l:List Nat):iz P (l.map g)=iz (λx=>P (g x)) l:=NN l 0 λ_ _=>rfl
theorem aqP(c:Nat->Nat->Bool)(g:Nat->Nat)(W:List Nat):pR c (W.map g)=((pR (λi j=>c (g i) (g j)) W).1.map g,(pR (λi j=>c (g i) (g j)) W).2.map (·.map g)):=by
 have key:∀(W:List Nat)(p:List Nat×List (List Nat)),(W.map g).foldl (rE c) (p.1.map g,p.2.map (·.map g))=((W.foldl (rE λi j=>c (g i) (g j)) p).1.map g,(W.foldl (rE λi j=>c (g i) (g j)) p).2.map (·.map g)):=by
  intro W;induction W with
  |nil=>intro p;rfl
  |cons s W ih=>
   intro p;rw[gM,uT,uT,<-ih];congr 1;unfold rE;simp only;have e:p.1.map g++[g s]=(p.1++[s]).map g:=af
   rw[e,aqO];by_cases h:0<=iz (λx=>c (g s) (g x)) (p.1++[s])
   .rw[aV h,aV h];simp
   .rw[aP h,aP h]
 exact key W ([],[])
theorem aqQ(c:Nat->Nat->Bool)(p:List Nat×List (List Nat))(s:Nat):∀o∈(rE c p s).1,o∈p.1++[s]:=by
 intro o ho;unfold rE at ho;split at ho
 .exact rN ho
 .exact ho
theorem ae8(c:Nat->Nat->Bool):∀(i:Nat),∀o∈(pR c (List.range i)).1,o<i
 |0,o,ho=>by simp[pR] at ho
 |i+1,o,ho=>by
  rw[JZ,ae7] at ho;rcases dF.1 (aqQ c _ i o ho) with q|q
  .have:=ae8 c i o q;omega
  .have:=dB.1 q;omega
theorem aqR{ν:Type}{f:Nat->ν}(c:Nat->Nat->Bool)(i:Nat)(p:List Nat×List (List Nat))(hc:∀o∈p.1++[i],c i o=true↔f o=f (i+1)):Bf f i p (rE c p i):=by
 unfold rE iz;rcases N7 (P:=c i) (p.1++[i]) 0 with⟨h1,h2⟩|⟨R,x,h1,h2,h3,h4⟩
 .rw[aP aa]
  refine aS ⟨λo ho e=>?_,rfl⟩
  have:=(hc o ho).2 e;rw[h2 o ho] at this;cases this
 .have e:(gZ (c i) (p.1++[i]) 0).toNat=R:=by rw[h1];omega
  rw[aV aa,e]
  have hx:x∈p.1++[i]:=bA h2;refine aR ⟨(p.1++[i]).take R,x,(p.1++[i]).drop (R+1),?_,(hc x hx).1 h3,λo ho k=>?_,?_⟩
  .rw[<-yj h2,AE]
  .obtain⟨t,ht,et⟩:=jG.1 ho;have htR:t<R:=by
    have:=ht;rw[iE] at this;omega
   have hg:(p.1++[i])[t]?=some o:=by
    rw[<-et,List.getElem_take];exact bo _
   have:=h4 t o htR hg;rw[(hc o (bA hg)).2 k] at this;cases this
  .rw[<-yj h2]
theorem Vi(Xs:List PB):∀(A:List Nat)(b:Nat)(B:List Nat),tI Xs b (A++B)=tI Xs b A++tI Xs (A.getLastD b) B
 |[],_,_=>rfl
 |a::A,b,B=>by
  have ih:=Vi Xs A a B;have e:(a::A).getLastD b=A.getLastD a:=by cases A<;>rfl
  show _++tI Xs a (A++B)=(_++tI Xs a A)++_;rw[ih,e,fL]
theorem Ov{cf:Nat->Nat->Int}{d:Nat}:∀(l:List Nat)(m:Nat),d∈m::l->(∀x∈m::l,x≠d->cf d x<0)->(∀x∈m::l,¬cf x d<0)->cN cf l m=d
 |[],m,h,_,_=>(dB.1 h).symm
 |b::l,m,h,h1,h2=>by
  unfold cN;by_cases e:m=d
  .subst e;rw[aP (h2 b af)]
   exact Ov l m af (λx hx=>h1 x (by rcases bU.1 hx with q|q<;>simp[q])) (λx hx=>h2 x (by rcases bU.1 hx with q|q<;>simp[q]))
  .by_cases e2:b=d
   .subst e2;rw[aV (h1 m af e)]
    exact Ov l b af (λx hx=>h1 x (by rcases bU.1 hx with q|q<;>simp[q])) (λx hx=>h2 x (by rcases bU.1 hx with q|q<;>simp[q]))
   .have hd:d∈l:=by
     rcases bU.1 h with q|q
     .exact absurd q.symm e
     .rcases bU.1 q with q|q
      .exact absurd q.symm e2
      .exact q
    refine Ov l _ (bV _ hd) (λx hx=>?_) (λx hx=>?_)
    .rcases bU.1 hx with q|q
     .rw[q];split
      .exact h1 b af
      .exact h1 m af
     .exact h1 x (by simp[q])
    .rcases bU.1 hx with q|q
     .rw[q];split
      .exact h2 b af
      .exact h2 m af
     .exact h2 x (by simp[q])
section
variable{rg:List (List Pt)}{l:List Nd}{r:Int}{Xs:List PB}
abbrev pi(l:List Nd)(Xs:List PB)(i:Nat):Sg:=ph (aW l) (xi Xs i)
theorem SX.pd(h:SX rg l r Xs){i:Nat}(hi:i<Xs.length):Pm (dr (pi l Xs i)) (wv (xi Xs i).f (xi Xs i).t):=
 kZ (di.ok h.nl).1 ((di.ok h.nl).2 _ (iP h.nl (h.sd hi).pc).2.1) ((di.ok h.nl).2 _ (iP h.nl (h.sd hi).pc).2.2)
theorem SX.rF(h:SX rg l r Xs){i:Nat}(hi:i<Xs.length):(xi Xs i).f∈l/\(xi Xs i).t∈l:=(iP h.nl (h.sd hi).pc).2
theorem Vj(x:Int):(x.sign=0↔x=0)/\(0<x.sign↔0<x)/\(x.sign<0↔x<0):=by
 rcases sg x with⟨a,b⟩|⟨a,b⟩|⟨a,b⟩<;>rw[b]<;>omega
theorem SX.iU(h:SX rg l r Xs){i j:Nat}(hi:i<Xs.length)(hj:j<Xs.length):(gA (xi Xs i) (xi Xs j)=0↔cr (dr (pi l Xs i)) (dr (pi l Xs j))=0)/\(0<gA (xi Xs i) (xi Xs j)↔0<cr (dr (pi l Xs i)) (dr (pi l Xs j))):=by
 rw[zR];have a:=Vj (cr (wv (xi Xs i).f (xi Xs i).t) (wv (xi Xs j).f (xi Xs j).t));have b:=(SX.pd h hi).cr (SX.pd h hj);exact⟨a.1.trans b.2.2.symm,a.2.1.trans b.1.symm⟩
theorem SX.tG(h:SX rg l r Xs):∀(A:List Nat)(b:Nat),b<Xs.length->(∀a∈A,a<Xs.length)->(tI Xs b A).map (pi l Xs)=Gb.tG (pi l Xs b) (A.map (pi l Xs))
 |[],_,_,_=>rfl
 |s::A,b,hb,hm=>by
  have hs:=hm s af
  have ih:=SX.tG h A s hs (λa ha=>hm a (bV _ ha))
  have k:=(SX.iU h hs hb).1;have k2:cr (dr (pi l Xs s)) (dr (pi l Xs b))=0↔cr (dr (pi l Xs b)) (dr (pi l Xs s))=0:=by rw[dh];omega
  show((if gA (xi Xs s) (xi Xs b)=0 then[] else[s])++tI Xs s A).map (pi l Xs)=if cr (dr (pi l Xs b)) (dr (pi l Xs s))=0 then Gb.tG (pi l Xs s) (A.map (pi l Xs)) else pi l Xs s::Gb.tG (pi l Xs s) (A.map (pi l Xs))
  by_cases hc:gA (xi Xs s) (xi Xs b)=0
  .rw[aV hc,aV (k2.1 (k.1 hc)),tE,ih]
  .rw[aP hc,aP (λe=>hc (k.2 (k2.2 e))),jV,ih]
   rfl
theorem SX.geq(h:SX rg l r Xs){a b:Nd}(ha:a∈l)(hb:b∈l):ge (PM (aW l) a) (PM (aW l) b)->a≠b->cE a b<0:=by
 intro hg hne;have hr:=Qg hg (λe=>hne (vX h.nl ha hb e))
 have:=(kZ (di.ok h.nl).1 ((di.ok h.nl).2 a ha) ((di.ok h.nl).2 b hb)).bz.1 hr;rw[ET];exact(pA (h.nl.can a ha) (h.nl.can b hb)).2 this
theorem ae9{α:Type}(A:List α){B:List α}(hB:B≠[])(d e:α):(A++B).getLastD d=B.getLastD e:=by
 rw[nG,nG,KH A hB];cases q:B.getLast? with
 |none=>exact absurd (Da.1 q) hB
 |some z=>rfl
theorem SX.ring(h:SX rg l r Xs)(hB:BD Xs){D1 D2:List Nat}(hl:∀a∈D1++D2,a<Xs.length)(hR:LR (sS (aW l) Xs) (lh (aW l) Xs) ((D2++D1).map (pi l Xs)))(h2:D2≠[]):eF Xs (D1++D2)=eJ Xs (D2++D1):=by
 have hW:=SX.wd h hB;obtain⟨d,gm,rfl⟩:∃d gm,D2=d::gm:=by
  cases D2 with
  |nil=>exact absurd rfl h2
  |cons d D=>exact⟨d,D,rfl⟩
 have pB:=hl d af
 have hnd:(d::gm++D1).Nodup:=by
  have:=hR.ring.nd;exact List.Pairwise.of_map (pi l Xs) (λa b k e=>k (by rw[e])) this
 have hz:∃z,(d::gm++D1).getLastD 0=z/\z∈d::gm++D1:=by
  refine⟨_,rfl,?_⟩;rw[nG];cases q:(d::gm++D1).getLast? with
  |none=>exact absurd (Da.1 q) af
  |some z=>exact rH q
 obtain⟨z,hz1,hz2⟩:=hz;have hzl:z<Xs.length:=hl z (by simp at hz2⊢;rcases hz2 with q|q|q<;>simp[q])
 obtain⟨a,T,t,U,e1,e2,e3,_⟩:=hR.Gs hW;have ha:a=pi l Xs d:=by
  have:(pi l Xs d::(gm++D1).map (pi l Xs))=a::T:=by rw[<-e1];simp
  injection this with q _;exact q.symm
 have hturn:gA (xi Xs d) (xi Xs z)≠0:=λe=>by
  have hzz:((d::gm++D1).map (pi l Xs)).getLastD s0=pi l Xs z:=by
   rw[nG,Gq];rw[nG] at hz1;cases q:(d::gm++D1).getLast? with
   |none=>exact absurd (Da.1 q) af
   |some y=>rw[q] at hz1;rw[<-hz1];rfl
  have hc:=((SX.iU h pB hzl).1).1 e;have:cr (dr (pi l Xs z)) (dr (pi l Xs d))=0:=by rw[dh];omega
  unfold cM at e3;rw[hzz,e1] at e3;have e4:Gb.tG (pi l Xs z) (a::T)=Gb.tG a T:=by
   show(if cr (dr (pi l Xs z)) (dr a)=0 then _ else _)=_
   rw[ha,aV this]
  rw[e4,e2] at e3;have e5:=aZ List.length e3;simp at e5
 have hT:eJ Xs (D1++d::gm)=tI Xs ((d::gm).getLastD 0) D1++d::tI Xs d gm:=by
  unfold eJ;rw[Vi,ae9 D1 af 0 0]
  congr 1;have:D1.getLastD ((d::gm).getLastD 0)=z:=by
   cases hD:D1 with
   |nil=>
    rw[hD] at hz1;simp only[qC] at hz1;rw[<-hz1];rfl
   |cons x D=>
    rw[<-hz1,hD,ae9 (d::gm) af 0 0]
    cases D<;>rfl
  rw[this];show(if gA (xi Xs d) (xi Xs z)=0 then[] else[d])++tI Xs d gm=_
  rw[aP hturn];rfl
 have hT':eJ Xs (d::gm++D1)=(d::tI Xs d gm)++tI Xs ((d::gm).getLastD 0) D1:=by
  unfold eJ;rw[hz1,Vi];congr 1;show(if gA (xi Xs d) (xi Xs z)=0 then[] else[d])++tI Xs d gm=_
  rw[aP hturn];rfl
 have Vk:∀x∈eJ Xs (D1++d::gm),x∈D1++d::gm:=λx hx=>Fb Xs _ _ x hx
 have hmem:∀x,x∈D1++d::gm↔x∈d::gm++D1:=λx=>by simp;constructor<;>(rintro(q|q|q)<;>simp[q])
 have Jz:∀x∈D1++d::gm,x≠d->cE (xi Xs d).f (xi Xs x).f<0:=λx hx hne=>by
  have hx':=(hmem x).1 hx;have hg:=hR.least (pi l Xs d) af (pi l Xs x) (bQ.2 ⟨x,hx',rfl⟩)
  refine SX.geq h (SX.rF h pB).1 (SX.rF h (hl x hx)).1 hg λe=>?_
  have hx2:x∈gm++D1:=by
   rcases bU.1 hx' with q|q
   .exact absurd q hne
   .exact q
  have DC:=hR.ring.o6;simp only[mr,gM,gN] at DC;exact DC.1 (pi l Xs x) (bQ.2 ⟨x,hx2,rfl⟩) (aZ (PM (aW l)) e)
 have UK:mj Xs (eJ Xs (D1++d::gm))=d:=by
  unfold mj;have hne:eJ Xs (D1++d::gm)≠[]:=by rw[hT];simp
  obtain⟨m,U',eU⟩:∃m U',eJ Xs (D1++d::gm)=m::U':=by
   cases q:eJ Xs (D1++d::gm) with
   |nil=>exact absurd q hne
   |cons m U'=>exact⟨m,U',rfl⟩
  rw[eU];refine Ov U' m ?_ (λx hx Vl=>?_) (λx hx k=>?_)
  .rw[<-eU,hT];simp
  .rw[<-eU] at hx;exact Jz x (Vk x hx) Vl
  .rw[<-eU] at hx;by_cases e:x=d
   .subst e;rw[zQ] at k;omega
   .have:=Jz x (Vk x hx) e;rw[ET] at k this;exact Ge.lt_irrefl _ (Ge.lt_trans (Ge.eA (h.nl.can _ (SX.rF h pB).1)) (Ge.eA (h.nl.can _ (SX.rF h (hl x (Vk x hx))).1)) (Ge.eA (h.nl.can _ (SX.rF h pB).1)) this k)
 have UL:wm Xs (eJ Xs (D1++d::gm))=(tI Xs ((d::gm).getLastD 0) D1).length:=by
  unfold wm iz;rw[UK,hT];rcases N7 (P:=λj=>j == d) (tI Xs ((d::gm).getLastD 0) D1++d::tI Xs d gm) 0 with⟨_,q2⟩|⟨R,x,q1,q2,q3,q4⟩
  .have:=q2 d af
   simp at this
  .rw[q1];have Vl:x=d:=by simpa using q3
   subst Vl;have aqT:x∉tI Xs ((x::gm).getLastD 0) D1:=λk=>by
    have k1:=Fb Xs _ _ x k;rw[mr] at hnd;exact(Pv.1 hnd).1 (by simp[k1])
   have h1:¬R<(tI Xs ((x::gm).getLastD 0) D1).length:=λk=>by
    rw[fM k] at q2;exact aqT (bA q2)
   have h2:¬(tI Xs ((x::gm).getLastD 0) D1).length<R:=λk=>by
    have:=q4 (tI Xs ((x::gm).getLastD 0) D1).length x k (by rw[nE (aY _)];simp)
    simp at this
   omega
 unfold eF;rw[UL,hT',hT,ahp,List.take_left]
structure Rel(l:List Nd)(Xs:List PB)(q:List Nat)(R:List Sg):Prop where
 lr:LR (sS (aW l) Xs) (lh (aW l) Xs) R
 cM:(Go.Proofs.YtkjhhooecopolaaGreatDoor.fr Xs q).map (PM (aW l))=cM R
 sh:dA Xs q=true↔shl R
theorem SX.rel(h:SX rg l r Xs)(hB:BD Xs){D:List Nat}(hl:∀a∈D,a<Xs.length)(hR:gI (sS (aW l) Xs) (lh (aW l) Xs) (D.map (pi l Xs))):∃R,Rel l Xs (eF Xs D) R/\R.Perm (D.map (pi l Xs)):=by
 have hW:=SX.wd h hB;obtain⟨A,B,e,qz⟩:=hR.Xm;obtain⟨D1,D2,rfl,rfl,rfl⟩:=List.map_eq_append_iff.1 e;have avf:D2≠[]\/D1=[]/\D2≠[]\/D2=[]:=by by_cases q:D2=[]<;>simp[q]
 have key:∀D1 D2:List Nat,(∀a∈D1++D2,a<Xs.length)->LR (sS (aW l) Xs) (lh (aW l) Xs) ((D2++D1).map (pi l Xs))->D2≠[]->Rel l Xs (eF Xs (D1++D2)) ((D2++D1).map (pi l Xs)):=by
  intro D1 D2 hl qz h2;have er:=SX.ring h hB hl qz h2;rw[er];have hne:D2++D1≠[]:=by simp[h2]
  obtain⟨z,hz⟩:∃z,(D2++D1).getLast?=some z:=by
   cases q:(D2++D1).getLast? with
   |none=>exact absurd (Da.1 q) hne
   |some z=>exact⟨z,rfl⟩
  have hl':∀a∈D2++D1,a<Xs.length:=λa ha=>hl a (by simp at ha⊢;exact ha.symm)
  have hzl:=hl' z (rH hz);have hlast:(D2++D1).getLastD 0=z:=by rw[nG,hz];rfl
  have afa:((D2++D1).map (pi l Xs)).getLastD s0=pi l Xs z:=by rw[nG,Gq,hz];rfl
  have ht:(eJ Xs (D2++D1)).map (pi l Xs)=Gb.tG (pi l Xs z) ((D2++D1).map (pi l Xs)):=by
   unfold eJ;rw[hlast];exact SX.tG h _ z hzl hl'
  have afb:(Go.Proofs.YtkjhhooecopolaaGreatDoor.fr Xs (eJ Xs (D2++D1))).map (PM (aW l))=Gb.cM ((D2++D1).map (pi l Xs)):=by
   unfold Gb.cM;rw[afa,<-ht];unfold Go.Proofs.YtkjhhooecopolaaGreatDoor.fr;rw[gq,gq];rfl
  refine⟨qz,afb,?_⟩;obtain⟨a,T,t,U,e1,e2,e3,_⟩:=qz.Gs hW;have Jy:((D2++D1).map (pi l Xs)).getLast?=some (pi l Xs z):=by rw[Gq,hz];rfl
  have afc:=qz.ring.mem;have hp:=qz.ring.path (a:=a) (by rw[e1];rfl)
  have hlen:=aZ List.length afb;have hq:(eJ Xs (D2++D1)).map (pi l Xs)=a::Gb.tG a T:=by
   rw[ht,e1];show(if cr (dr (pi l Xs z)) (dr a)=0 then Gb.tG a T else a::Gb.tG a T)=_
   by_cases hc:cr (dr (pi l Xs z)) (dr a)=0
   .exfalso;unfold Gb.cM at e3;rw[afa,e1] at e3;have e4:Gb.tG (pi l Xs z) (a::T)=Gb.tG a T:=by
     show(if cr (dr (pi l Xs z)) (dr a)=0 then _ else _)=_
     rw[aV hc]
    rw[e4,e2] at e3;have:=aZ List.length e3;simp at this
   .rw[aP hc]
  obtain⟨x,V,eV⟩:∃x V,eJ Xs (D2++D1)=x::V:=by
   cases q:eJ Xs (D2++D1) with
   |nil=>rw[q] at hq;cases hq
   |cons x V=>exact⟨x,V,rfl⟩
  have xe:∀y∈eJ Xs (D2++D1),y<Xs.length:=λy hy=>hl' y (Fb Xs _ _ y hy)
  rw[eV] at hq xe⊢;rw[gM] at hq;injection hq with q1 q2;have hxl:=xe x af
  obtain⟨y,hy⟩:∃y,(x::V).getLast?=some y:=by
   cases q:(x::V).getLast? with
   |none=>exact absurd (Da.1 q) af
   |some z=>exact⟨z,rfl⟩
  have hyl:=xe y (rH hy);have hyG:(Gb.tG a T).getLastD a=pi l Xs y:=by
   rw[<-q2,<-q1];have e:((x::V).map (pi l Xs)).getLast?=some (pi l Xs y):=by rw[Gq,hy];rfl
   have e':(V.map (pi l Xs)).getLastD (pi l Xs x)=((x::V).map (pi l Xs)).getLastD (pi l Xs x):=by rw[gM];cases V.map (pi l Xs)<;>rfl
   rw[e',nG,e];rfl
  have Jx:a∈sS (aW l) Xs:=afc a (by rw[e1];simp)
  have hTS:∀s∈T,s∈sS (aW l) Xs:=λs hs=>afc s (by rw[e1];simp[hs])
  have hsm:=hW.Ou T a a a.1 Jx hTS (by rw[e1] at hp;exact hp.2) (qK (hW.gw Jx))
  have mi:T.getLastD a=pi l Xs z:=by
   have:(a::T).getLast?=some (pi l Xs z):=by rw[<-e1];exact Jy
   have e':T.getLastD a=(a::T).getLastD a:=by cases T<;>rfl
   rw[e',nG,this];rfl
  rw[hyG,mi] at hsm;unfold dA;have g1:(x::V).getLastD 0=y:=by rw[nG,hy];rfl
  have g2:(x::V).headD 0=x:=rfl;rw[g1,g2,uV,(SX.iU h hyl hxl).2,q1];have hs:=(ux hsm (dr a)).1;rw[dh (dr (pi l Xs y)),dh (dr (pi l Xs z))] at hs;have aqX:0<cr (dr (pi l Xs y)) (dr a)↔0<cr (dr (pi l Xs z)) (dr a):=by
   have s1:=(ux hsm (dr a));have s2:=ux hsm (neg (dr a));rw[fU,fU] at s2;have x1:cr (dr (pi l Xs y)) (dr a)= -cr (dr a) (dr (pi l Xs y)):=dh _ _;have x2:cr (dr (pi l Xs z)) (dr a)= -cr (dr a) (dr (pi l Xs z)):=dh _ _;rw[x1,x2];exact s2.1
  rw[aqX];constructor
  .intro k;exact⟨a,pi l Xs z,by rw[e1];rfl,Jy,k⟩
  .rintro⟨a',z',ha',hz',k⟩;rw[e1] at ha';obtain rfl:a=a':=jt ha';rw[Jy] at hz';obtain rfl:pi l Xs z=z':=jt hz';exact k
 by_cases q:D2=[]
 .subst q;refine⟨D1.map (pi l Xs),?_,af⟩
  have hne:D1≠[]:=λe=>hR.ne (by rw[e];rfl)
  have:=key [] D1 (by simpa using hl) (by simpa using qz) hne
  simpa using this
 .refine⟨(D2++D1).map (pi l Xs),key D1 D2 hl (by rw[jV];exact qz) q,?_⟩
  exact(J1).map _
end
theorem pick{α β γ:Type}{P:α->β->Prop}{φ:α->List γ}{ψ:β->List γ}:∀(Ds:List α),(∀D∈Ds,∃R,P D R/\(ψ R).Perm (φ D))->∃Z:List (α×β),Z.map Prod.fst=Ds/\(∀z∈Z,P z.1 z.2)/\(Z.map λz=>ψ z.2).flatten.Perm (Ds.map φ).flatten
 |[],_=>⟨[],rfl,af,af⟩
 |D::Ds,h=>by
  obtain⟨Z,e,h1,h2⟩:=pick Ds λD' hD'=>h D' (bV _ hD')
  obtain⟨R,hR,hp⟩:=h D af
  refine⟨(D,R)::Z,by simp[e],λz hz=>?_,?_⟩
  .rcases bU.1 hz with q|q
   .rw[q];exact hR
   .exact h1 z q
  .simp only[gM,Dd];exact hp.append h2
section
variable{rg:List (List Pt)}{l:List Nd}{r:Int}{Xs:List PB}
theorem JA{nx:Nat->Nat}{mk:Nat->Bool}{n k:Nat}{L:List Nat}(hc:qu nx mk n k L):(∀t,t+1<L.length->L.getD (t+1) 0=nx (L.getD t 0))/\L.getD 0 0=k/\nx (L.getD (L.length-1) 0)=k/\0<L.length:=by
 have h0:=cG.1 hc.head;refine⟨λt ht=>?_,?_,?_,h0.1⟩
 .have a:L[t]?=some L[t]:=bo aa
  have b:L[t+1]?=some L[t+1]:=bo ht;rw[n9,n9,a,b];exact hc.step t _ _ a b
 .rw[n9,hc.head];rfl
 .obtain⟨hp,_⟩:=h0;have hp1:L.length-1<L.length:=aa
  have a:L[L.length-1]?=some L[L.length-1]:=bo hp1;rw[n9,a];exact hc.back _ (by rw[nX];exact a)
theorem SX.it(h:SX rg l r Xs){mk:Nat->Bool}{k:Nat}{L:List Nat}(hc:qu (dM Xs) mk Xs.length k L):∀t,t<L.length->Gb.it (lh (aW l) Xs) t (pi l Xs k)=pi l Xs (L.getD t 0)
 |0,_=>by rw[(JA hc).2.1];rfl
 |t+1,ht=>by
  have ih:=SX.it h hc t aa
  show lh (aW l) Xs (Gb.it (lh (aW l) Xs) t (pi l Xs k))=_;rw[ih,(JA hc).1 t ht];refine Cq h (hc.free _ ?_).1;rw[n9,bo aa]
  exact iw _
theorem yB{L:List Nat}{t:Nat}(ht:t<L.length):L.getD t 0∈L:=by
 rw[n9,bo ht];exact iw _
theorem SX.cir(h:SX rg l r Xs){mk:Nat->Bool}{k:Nat}{L:List Nat}(hc:qu (dM Xs) mk Xs.length k L):Gp (lh (aW l) Xs) (pi l Xs k) L.length:=by
 obtain⟨_,_,g3,g4⟩:=JA hc;refine⟨g4,?_,λi j hi hj e=>?_⟩
 .have e:L.length=(L.length-1)+1:=aa
  rw[e];show lh (aW l) Xs (Gb.it (lh (aW l) Xs) (L.length-1) (pi l Xs k))=_;rw[SX.it h hc _ aa,Cq h (hc.free _ (yB aa)).1,g3]
 .rw[SX.it h hc i hi,SX.it h hc j hj] at e;have:=SX.EX h (hc.free _ (yB hi)).1 (hc.free _ (yB hj)).1 e;rw[n9,n9,bo hi,bo hj] at this;exact(List.getElem_inj hc.nd).1 this
theorem afe(L:List Nat):(List.range L.length).map (λt=>L.getD t 0)=L:=by
 refine AO af λi h1 h2=>?_
 simp[List.getD_eq_getElem?_getD,h2]
theorem SX.rings(h:SX rg l r Xs)(hB:BD Xs){mk:Nat->Bool}{k:Nat}{L:List Nat}(hc:qu (dM Xs) mk Xs.length k L):∃Z:List (List Nat×List Sg),Z.map Prod.fst=cJ Xs L/\(∀z∈Z,Rel l Xs z.1 z.2)/\(Z.map Prod.snd).flatten.Perm (L.map (pi l Xs)):=by
 have hW:=SX.wd h hB;have hC:=SX.cir h hc;obtain⟨_,g2,_,g4⟩:=JA hc;have hk:k<Xs.length:=by rw[<-g2];exact(hc.free _ (yB g4)).1
 have yx:pi l Xs k∈sS (aW l) Xs:=IC _ hk;have hlt:∀t,t<L.length->L.getD t 0<Xs.length:=λt ht=>(hc.free _ (yB ht)).1
 obtain⟨_,hperm,aqY⟩:=parted (f:=λi=>(Gb.it (lh (aW l) Xs) i (pi l Xs k)).1) (m:=L.length) (hW.nc yx hC) (λj hj e=>by
   rw[hW.xh yx] at e;exact hW.ne _ (hW.pY yx j) e) (by show(Gb.it (lh (aW l) Xs) L.length (pi l Xs k)).1=_;rw[hC.per];rfl)
  (λi=>pR (λi j=>nB Xs (L.getD i 0) (L.getD j 0)) (List.range i)) rfl (λi hi=>by
   show Bf _ i _ (pR _ (List.range (i+1)));rw[JZ,ae7];refine aqR _ i _ λo ho=>?_
   have hoL:o<L.length:=by
    rcases dF.1 ho with q|q
    .have:=ae8 _ i o q;omega
    .have:=dB.1 q;omega
   show nB Xs (L.getD i 0) (L.getD o 0)=true↔(Gb.it (lh (aW l) Xs) o (pi l Xs k)).1=(Gb.it (lh (aW l) Xs) (i+1) (pi l Xs k)).1;rw[hW.xh yx,SX.it h hc i hi,SX.it h hc o hoL];unfold nB;rw[uV];constructor
   .intro e;exact aZ (PM (aW l)) e.symm
   .intro e;exact(vX h.nl (SX.rF h (hlt o hoL)).1 (SX.rF h (hlt i hi)).2 e).symm)
 have hE:cJ Xs L=((pR (λi j=>nB Xs (L.getD i 0) (L.getD j 0)) (List.range L.length)).2.map λD=>D.map λt=>L.getD t 0).map (eF Xs):=by
  rw[aqN];have:=aqP (nB Xs) (λt=>L.getD t 0) (List.range L.length)
  rw[afe] at this;rw[this]
 generalize(pR (λi j=>nB Xs (L.getD i 0) (L.getD j 0)) (List.range L.length)).2=Ds at*
 obtain⟨Z,e1,e2,e3⟩:=pick (P:=λD R=>Rel l Xs (eF Xs (D.map λt=>L.getD t 0)) R) (φ:=λD=>(D.map λt=>L.getD t 0).map (pi l Xs)) (ψ:=λR=>R) Ds λD hD=>by
  obtain⟨d,hd⟩:=aqY D hD;refine SX.rel h hB (λa ha=>?_) ?_
  .obtain⟨t,ht,rfl⟩:=bQ.1 ha;exact hlt t (hd.lt t ht)
  .have:=hd.ring hW yx hC;have e:(D.map λt=>L.getD t 0).map (pi l Xs)=D.map λt=>Gb.it (lh (aW l) Xs) t (pi l Xs k):=by
    rw[gq];exact wS λt ht=>(SX.it h hc t (hd.lt t ht)).symm
   rw[e];exact this
 refine⟨Z.map λz=>(eF Xs (z.1.map λt=>L.getD t 0),z.2),?_,λz hz=>?_,?_⟩
 .rw[hE,gq,gq,<-e1,gq];rfl
 .obtain⟨y,hy,rfl⟩:=bQ.1 hz;exact e2 y hy
 .rw[gq];refine e3.trans ?_;have e4:(Ds.map λD=>(D.map λt=>L.getD t 0).map (pi l Xs)).flatten=Ds.flatten.map λt=>pi l Xs (L.getD t 0):=by
   rw[List.map_flatten];congr 1;refine wS λD _=>?_
   rw[gq];rfl
  rw[e4];refine(hperm.map _).trans ?_;have e5:(List.range L.length).map (λt=>pi l Xs (L.getD t 0))=L.map (pi l Xs):=by
   have:=aZ (List.map (pi l Xs)) (afe L);rw[gq] at this;exact this
  rw[e5]
theorem Ow{M:Int}(hM:0<M){a b:Nd}(ha:OK M a)(hb:OK M b):a.2.2*b.2.2*(dr (PM M a,PM M b)).1=M*(wv a b).1/\a.2.2*b.2.2*(dr (PM M a,PM M b)).2=M*(wv a b).2:=by
 obtain⟨k,hk,e,e1⟩:=EI hM ha.p ha.d;obtain⟨j,hj,f,f1⟩:=EI hM hb.p hb.d;rw[e1,f1];constructor
 .show a.2.2*b.2.2*(b.1*j-a.1*k)=M*(a.2.2*b.1-b.2.2*a.1);have:a.2.2*b.2.2*(b.1*j-a.1*k)=a.2.2*b.1*(b.2.2*j)-b.2.2*a.1*(a.2.2*k):=by grind
  rw[this,e,f]
  grind
 .show a.2.2*b.2.2*(b.2.1*j-a.2.1*k)=M*(a.2.2*b.2.1-b.2.2*a.2.1);have:a.2.2*b.2.2*(b.2.1*j-a.2.1*k)=a.2.2*b.2.1*(b.2.2*j)-b.2.2*a.2.1*(a.2.2*k):=by grind
  rw[this,e,f]
  grind
theorem Ox{n a b:Pt}:iU (n1 n) a b↔(dr (n,a)).1<=0/\0<(dr (n,b)).1:=by unfold iU;rw[eo,eo]
theorem Oy{n a b:Pt}(h:iU (n1 n) a b):kW (n1 n) (a,b)=(dr (a,b)).1/\kY (n1 n) (a,b)= -cr (dr (a,b)) (dr (a,n))/\kS (n1 n) (a,b)=(dr (a,b)).2:=by
 obtain⟨x,y,z,_⟩:=Fs h;rw[x,y,z,eo,eo];refine⟨by unfold dr;simp only;omega,?_,by unfold dr;simp only;omega⟩
 unfold cr dr;simp only;grind
theorem SX.gb(h:SX rg l r Xs){n:Nd}(hn:n∈l){i:Nat}(hi:i<Xs.length):ll Xs n i=true↔Gb.iU (n1 (PM (aW l) n)) (pi l Xs i).1 (pi l Xs i).2/\kY (n1 (PM (aW l) n)) (pi l Xs i)<0:=by
 obtain⟨hM,hO⟩:=di.ok h.nl;obtain⟨hf,ht⟩:=SX.rF h hi;have p1:=kZ hM (hO n hn) (hO _ hf);have p2:=kZ hM (hO n hn) (hO _ ht);have p3:=kZ hM (hO _ hf) (hO _ ht);have p4:=kZ hM (hO _ hf) (hO n hn);have c:=(p3.cr p4).1;obtain⟨p,q,hp,hq,e1,_⟩:=p1;obtain⟨p',q',hp',hq',e2,_⟩:=p2;have g1:=kX hp hq e1;have g2:=kX hp' hq' e2;have w1:n.1*(xi Xs i).f.2.2<(xi Xs i).f.1*n.2.2↔0<(wv n (xi Xs i).f).1:=by
  unfold wv;simp only;rw[gF n.2.2,gF (xi Xs i).f.2.2];omega
 have w2:n.1*(xi Xs i).t.2.2<(xi Xs i).t.1*n.2.2↔0<(wv n (xi Xs i).t).1:=by
  unfold wv;simp only;rw[gF n.2.2,gF (xi Xs i).t.2.2];omega
 unfold ll;rw[tH,tH,Wz,WA,uV,uV,w1,w2];constructor
 .rintro⟨⟨k1,k2⟩,k3⟩;have hcr:Gb.iU (n1 (PM (aW l) n)) (pi l Xs i).1 (pi l Xs i).2:=Ox.2 ⟨by show(dr (PM (aW l) n,PM (aW l) (xi Xs i).f)).1<=0;omega,g2.1.2 k2⟩
  refine⟨hcr,?_⟩;have:=(Oy hcr).2.1;show kY (n1 (PM (aW l) n)) ((pi l Xs i).1,(pi l Xs i).2)<0;rw[this];have:=c.2 k3;show -cr (dr (PM (aW l) (xi Xs i).f,PM (aW l) (xi Xs i).t)) (dr (PM (aW l) (xi Xs i).f,PM (aW l) n))<0;omega
 .rintro⟨hcr,hk⟩;have k1:=(Ox.1 hcr).1;have k2:=(Ox.1 hcr).2;have:=(Oy hcr).2.1;have hk':kY (n1 (PM (aW l) n)) ((pi l Xs i).1,(pi l Xs i).2)<0:=hk;rw[this] at hk';have hk2: -cr (dr (PM (aW l) (xi Xs i).f,PM (aW l) (xi Xs i).t)) (dr (PM (aW l) (xi Xs i).f,PM (aW l) n))<0:=hk';have Fj:(dr (PM (aW l) n,PM (aW l) (xi Xs i).f)).1<=0:=k1;have Ag:0<(dr (PM (aW l) n,PM (aW l) (xi Xs i).t)).1:=k2;exact⟨⟨aa,g2.1.1 Ag⟩,c.1 aa⟩
theorem SX.dep(h:SX rg l r Xs){n:Nd}(hn:n∈l){i j:Nat}(hi:i<Xs.length)(hj:j<Xs.length)(bi:ll Xs n i=true)(bj:ll Xs n j=true):tA n (xi Xs i) (xi Xs j)<0↔cC (n1 (PM (aW l) n)) (pi l Xs j) (pi l Xs i)=true:=by
 obtain⟨hM,hO⟩:=di.ok h.nl;have ci:=((SX.gb h hn hi).1 bi).1;have cj:=((SX.gb h hn hj).1 bj).1;obtain⟨i1,i2,i3⟩:=Oy ci;obtain⟨j1,j2,j3⟩:=Oy cj;obtain⟨fi,ti⟩:=SX.rF h hi;obtain⟨fj,tj⟩:=SX.rF h hj;have a1:=Ow hM (hO _ fi) (hO _ ti);have a2:=Ow hM (hO _ fi) (hO n hn);have b1:=Ow hM (hO _ fj) (hO _ tj);have b2:=Ow hM (hO _ fj) (hO n hn);have hp1:=(hO _ fi).p;have hp2:=(hO _ ti).p;have ue:=(hO _ fj).p;have hp4:=(hO _ tj).p;have hp5:=(hO n hn).p;have cc:=(SX.iU h hi hj);have ccs:=zR (xi Xs i) (xi Xs j);have hcS:=(SX.pd h hi).cr (SX.pd h hj);have sP:=Vj (cr (wv (xi Xs i).f (xi Xs i).t) (wv (xi Xs j).f (xi Xs j).t));have e1:∀i,((pi l Xs i).1,(pi l Xs i).2)=pi l Xs i:=λi=>rfl
 rw[e1] at i1 i2 i3 j1 j2 j3;have key:∃p q:Int,0<p/\0<q/\p*(kY (n1 (PM (aW l) n)) (pi l Xs j)*kW (n1 (PM (aW l) n)) (pi l Xs i)-kY (n1 (PM (aW l) n)) (pi l Xs i)*kW (n1 (PM (aW l) n)) (pi l Xs j))=q*(cr (wv (xi Xs i).f (xi Xs i).t) (wv (xi Xs i).f n)*((xi Xs j).f.2.2*(wv (xi Xs j).f (xi Xs j).t).1)-cr (wv (xi Xs j).f (xi Xs j).t) (wv (xi Xs j).f n)*((xi Xs i).f.2.2*(wv (xi Xs i).f (xi Xs i).t).1)):=by
  rw[i1,i2,j1,j2];refine⟨((xi Xs i).f.2.2*(xi Xs i).t.2.2)*((xi Xs i).f.2.2*n.2.2)*((xi Xs j).f.2.2*(xi Xs j).t.2.2)*(xi Xs j).f.2.2,aW l*aW l*aW l,bJ (bJ (bJ (bJ hp1 hp2) (bJ hp1 hp5)) (bJ ue hp4)) ue,bJ (bJ hM hM) hM,?_⟩;have x1:dr ((pi l Xs i).1,(pi l Xs i).2)=dr (PM (aW l) (xi Xs i).f,PM (aW l) (xi Xs i).t):=rfl;have x2:dr ((pi l Xs i).1,PM (aW l) n)=dr (PM (aW l) (xi Xs i).f,PM (aW l) n):=rfl;have y1:dr ((pi l Xs j).1,(pi l Xs j).2)=dr (PM (aW l) (xi Xs j).f,PM (aW l) (xi Xs j).t):=rfl;have y2:dr ((pi l Xs j).1,PM (aW l) n)=dr (PM (aW l) (xi Xs j).f,PM (aW l) n):=rfl;have x1':dr (pi l Xs i)=dr (PM (aW l) (xi Xs i).f,PM (aW l) (xi Xs i).t):=rfl;have y1':dr (pi l Xs j)=dr (PM (aW l) (xi Xs j).f,PM (aW l) (xi Xs j).t):=rfl
  first |rw[x1,x2,y1,y2]|rw[x1',x2,y1',y2]
  generalize dr (PM (aW l) (xi Xs i).f,PM (aW l) (xi Xs i).t)=A at*;generalize dr (PM (aW l) (xi Xs i).f,PM (aW l) n)=B at*;generalize dr (PM (aW l) (xi Xs j).f,PM (aW l) (xi Xs j).t)=C at*;generalize dr (PM (aW l) (xi Xs j).f,PM (aW l) n)=D at*;generalize wv (xi Xs i).f (xi Xs i).t=A' at*;generalize wv (xi Xs i).f n=B' at*;generalize wv (xi Xs j).f (xi Xs j).t=C' at*;generalize wv (xi Xs j).f n=D' at*;generalize(xi Xs i).f.2.2=f1 at*;generalize(xi Xs i).t.2.2=t1 at*;generalize(xi Xs j).f.2.2=f2 at*;generalize(xi Xs j).t.2.2=t2 at*;generalize n.2.2=nn at*;generalize aW l=M at*;clear i1 i2 i3 j1 j2 j3 ci cj cc ccs hcS sP e1 x1 x2 y1 y2 x1' y1' hp1 hp2 ue hp4 hp5;have u1:f1*t1*(f1*nn)*cr A B=M*M*cr A' B':=by
   have:f1*t1*(f1*nn)*cr A B=(f1*t1*A.1)*(f1*nn*B.2)-(f1*t1*A.2)*(f1*nn*B.1):=by unfold cr;grind
   rw[this,a1.1,a1.2,a2.1,a2.2];unfold cr;grind
  have u2:f2*t2*(f2*nn)*cr C D=M*M*cr C' D':=by
   have:f2*t2*(f2*nn)*cr C D=(f2*t2*C.1)*(f2*nn*D.2)-(f2*t2*C.2)*(f2*nn*D.1):=by unfold cr;grind
   rw[this,b1.1,b1.2,b2.1,b2.2];unfold cr;grind
  have v:f1*t1*(f1*nn)*(f2*t2)*f2*(-cr C D*A.1- -cr A B*C.1)=f2*(f1*t1*(f1*nn)*cr A B)*(f2*t2*C.1)-f1*(f2*t2*(f2*nn)*cr C D)*(f1*t1*A.1):=by grind
  rw[v,u1,u2,a1.1,b1.1]
  grind
 obtain⟨p,q,hp,hq,ek⟩:=key;have sk:=kX hp hq ek;have sd:=Vj (cr (wv (xi Xs i).f (xi Xs i).t) (wv (xi Xs i).f n)*((xi Xs j).f.2.2*(wv (xi Xs j).f (xi Xs j).t).1)-cr (wv (xi Xs j).f (xi Xs j).t) (wv (xi Xs j).f n)*((xi Xs i).f.2.2*(wv (xi Xs i).f (xi Xs i).t).1));have hS:kS (n1 (PM (aW l) n)) (pi l Xs j)*kW (n1 (PM (aW l) n)) (pi l Xs i)<kS (n1 (PM (aW l) n)) (pi l Xs i)*kW (n1 (PM (aW l) n)) (pi l Xs j)↔cr (dr (pi l Xs i)) (dr (pi l Xs j))<0:=by
  rw[i1,i3,j1,j3];have:cr (dr (pi l Xs i)) (dr (pi l Xs j))=(dr (pi l Xs j)).2*(dr (pi l Xs i)).1-(dr (pi l Xs i)).2*(dr (pi l Xs j)).1:=by unfold cr;grind
  have e3:∀i,dr ((pi l Xs i).1,(pi l Xs i).2)=dr (pi l Xs i):=λi=>rfl
  rw[this]
  first |(rw[e3,e3];omega)|omega
 rw[EL,hS];unfold tA Je;by_cases hz:(cr (wv (xi Xs i).f (xi Xs i).t) (wv (xi Xs i).f n)*((xi Xs j).f.2.2*(wv (xi Xs j).f (xi Xs j).t).1)-cr (wv (xi Xs j).f (xi Xs j).t) (wv (xi Xs j).f n)*((xi Xs i).f.2.2*(wv (xi Xs i).f (xi Xs i).t).1)).sign=0
 .rw[aV hz,ccs];omega
 .rw[aP hz];omega
theorem afk{cf:Nat->Nat->Int}:∀(L:List Nat)(m:Nat),(∀a∈m::L,∀b∈m::L,∀c∈m::L,cf a b<0->cf c b<0\/cf a c<0)->(∀a∈m::L,∀b∈m::L,cf a b<0->¬cf b a<0)->cN cf L m∈m::L/\∀k∈m::L,¬cf k (cN cf L m)<0
 |[],m,_,ha=>⟨by simp[cN],λk hk e=>by
  have:k=m:=dB.1 hk;subst this;exact ha k af k af e e⟩
 |b::L,m,hw,ha=>by
  unfold cN;have sub:∀x∈(if cf b m<0 then b else m)::L,x∈m::b::L:=λx hx=>by
   rcases bU.1 hx with q|q
   .rw[q];split<;>simp
   .simp[q]
  obtain⟨h1,h2⟩:=afk L (if cf b m<0 then b else m) (λa ha b hb c hc=>hw a (sub a ha) b (sub b hb) c (sub c hc)) (λa h1 b h2=>ha a (sub a h1) b (sub b h2))
  refine⟨sub _ h1,λk hk e=>?_⟩
  have hr:=sub _ h1;by_cases lM:cf b m<0
  .rw[aV lM] at h1 h2 e hr;rcases bU.1 hk with q|q
   .subst q;rcases hw k af _ hr b af e with w|w
    .exact h2 b af w
    .exact ha b af k af lM w
   .exact h2 k (by rcases bU.1 q with q|q<;>simp[q]) e
  .rw[aP lM] at h1 h2 e hr;rcases bU.1 hk with q|q
   .exact h2 k (by simp[q]) e
   .rcases bU.1 q with q|q
    .subst q;rcases hw k af _ hr m af e with w|w
     .exact h2 m af w
     .exact lM w
    .exact h2 k (by simp[q]) e
theorem SX.lowest(h:SX rg l r Xs){n:Nd}(hn:n∈l)(hs:fT Xs n Xs.length≠[]):ji Xs n<Xs.length/\ll Xs n (ji Xs n)=true/\∀i,i<Xs.length->ll Xs n i=true->cC (n1 (PM (aW l) n)) (pi l Xs (ji Xs n)) (pi l Xs i)=false:=by
 obtain⟨m,L,e⟩:∃m L,fT Xs n Xs.length=m::L:=by
  cases q:fT Xs n Xs.length with
  |nil=>exact absurd q hs
  |cons m L=>exact⟨m,L,rfl⟩
 have mem:∀i,i∈m::L↔i<Xs.length/\ll Xs n i=true:=λi=>by
  rw[<-e];unfold fT;rw[jr,tN]
 have tB:ji Xs n=cN (λi j=>tA n (xi Xs i) (xi Xs j)) L m:=by unfold ji;rw[e];rfl
 have dk:∀i∈m::L,∀j∈m::L,tA n (xi Xs i) (xi Xs j)<0↔cC (n1 (PM (aW l) n)) (pi l Xs j) (pi l Xs i)=true:=λi hi j hj=>SX.dep h hn ((mem i).1 hi).1 ((mem j).1 hj).1 ((mem i).1 hi).2 ((mem j).1 hj).2
 obtain⟨h1,h2⟩:=afk (cf:=λi j=>tA n (xi Xs i) (xi Xs j)) L m (λa ha b hb c hc k=>by
   rcases EN _ _ _ (pi l Xs c) ((dk a ha b hb).1 k) with w|w
   .exact aR ((dk a ha c hc).2 w)
   .exact aS ((dk c hc b hb).2 w)) (λa ha b hb k1 k2=>by
   have:=EM _ _ _ _ ((dk a ha b hb).1 k1) ((dk b hb a ha).1 k2);rw[Im] at this;cases this)
 rw[<-tB] at h1 h2;refine⟨((mem _).1 h1).1,((mem _).1 h1).2,λi hi hb=>?_⟩
 have him:=(mem i).2 ⟨hi,hb⟩;cases q:cC (n1 (PM (aW l) n)) (pi l Xs (ji Xs n)) (pi l Xs i)
 .rfl
 .exact absurd ((dk i him _ h1).2 q) (h2 i him)
theorem SX.aq2(h:SX rg l r Xs)(hB:BD Xs){n:Nd}(hn:n∈l)(hin:takes r (Ga.PP (aT rg) n)=true){u:Nat}(hu:u<Xs.length)(mW:ll Xs n u=true)(hmin:∀i,i<Xs.length->ll Xs n i=true->cC (n1 (PM (aW l) n)) (pi l Xs u) (pi l Xs i)=false){es:List Sg}(hcl:Cl es)(hi:In (sS (aW l) Xs) es):Lf es (pi l Xs u)=Ga.PP es (n1 (PM (aW l) n)):=by
 have hW:=SX.wd h hB;have huS:pi l Xs u∈sS (aW l) Xs:=IC _ hu;obtain⟨hcu,hyu⟩:=(SX.gb h hn hu).1 mW;have hris:bz (dr (pi l Xs u)):=by
  have c:=Ox.1 hcu;refine aS ?_;have e:(dr (pi l Xs u)).1=(dr (PM (aW l) n,(pi l Xs u).2)).1-(dr (PM (aW l) n,(pi l Xs u).1)).1:=by unfold dr;simp only;omega
  omega
 have hP:=(hW.qJ hi huS).1 hris;obtain⟨GL,rfl⟩:=hcl;have ht:=(hts (show(0:Int)<1 by decide) hcu hP).2
 have ha:=(yY hP).2;have e1:Lf (aT GL) (pi l Xs u)=LL (aT GL) (n1 (pi l Xs u).1) (n1 (pi l Xs u).2):=by
  rw[ha,oZ];rfl
 rw[e1,ht,SQ];refine aeL _ λe he hw=>?_
 cases q:cC (n1 (PM (aW l) n)) ((pi l Xs u).1,(pi l Xs u).2) e
 .rw[iD (Oo hyu q)];rfl
 ·
  refine(jU λOz=>?_).symm
  obtain⟨j,hj,hje⟩:∃j,j<Xs.length/\(e=pi l Xs j\/e=rv (pi l Xs j)):=by
   rcases hi e he with k|k
   .obtain⟨j,hj,ej⟩:=lj _ k;exact⟨j,hj,aS ej⟩
   .obtain⟨j,hj,ej⟩:=lj _ k;exact⟨j,hj,aR (aZ rv ej)⟩
  have hkj:cC (n1 (PM (aW l) n)) (pi l Xs u) (pi l Xs j)=true:=by
   rcases hje with k|k
   .rw[k] at q;exact q
   .rw[k,(Om _ _ _).2] at q;exact q
  have OA:kY (n1 (PM (aW l) n)) (pi l Xs j)<0:=by
   rcases hje with k|k
   .rw[k] at Oz;exact Oz
   .rw[k,(Jw _ _).2.1] at Oz;exact Oz
  rcases aeM OA with c|c
  .have:=hmin j hj ((SX.gb h hn hj).2 ⟨c,OA⟩);rw[hkj] at this;cases this
  .have aq5:kY (n1 (PM (aW l) n)) (PM (aW l) (xi Xs j).t,PM (aW l) (xi Xs j).f)<0:=by
    have:=(Jw (n1 (PM (aW l) n)) (pi l Xs j)).2.1;rw[<-this] at OA;exact OA
   obtain⟨f,t,hft,cft,yft,kft⟩:=aqt h.nl hn hin (h.sd hj) c aq5;obtain⟨v,hv,v1,v2⟩:=h.find hft;have epv:pi l Xs v=(PM (aW l) f,PM (aW l) t):=by show(PM (aW l) (xi Xs v).f,PM (aW l) (xi Xs v).t)=_;rw[v1,v2]
   have Mh:=(SX.gb h hn hv).2 (by rw[epv];exact⟨cft,yft⟩)
   have k2:cC (n1 (PM (aW l) n)) (pi l Xs j) (pi l Xs v)=true:=by
    rw[epv];have:=(Om (n1 (PM (aW l) n)) (pi l Xs j) (PM (aW l) f,PM (aW l) t)).1;rw[<-this];exact kft
   have:=hmin v hv Mh;rw[EM _ _ _ _ hkj k2] at this;cases this
theorem SX.aq9(h:SX rg l r Xs)(hB:BD Xs){mk:Nat->Bool}{k:Nat}{L:List Nat}(hc:qu (dM Xs) mk Xs.length k L)(CS:Wk Xs k L)(hno:∀ring∈cJ Xs L,dA Xs ring=false):Fc (sS (aW l) Xs) (pi l Xs k) (pi l Xs (ji Xs (xi Xs k).f)):=by
 have hW:=SX.wd h hB;have hC:=SX.cir h hc;have hk:k<Xs.length:=CS.lt k (bA CS.head);have hn:=(SX.rF h hk).1;have hin:takes r (Ga.PP (aT rg) (xi Xs k).f)=true:=by
  cases q:takes r (Ga.PP (aT rg) (xi Xs k).f)
  .obtain⟨ring,hr,hs⟩:=h.ad4 hB CS q;rw[hno ring hr] at hs;cases hs
  .rfl
 obtain⟨Z,e1,e2,e3⟩:=SX.rings h hB hc;have hgt:∀{t},t<L.length->L.getD t 0<Xs.length:=λht=>(hc.free _ (yB ht)).1
 intro es hcl hi;obtain⟨l1,l2,l3⟩:=SX.lowest h hn (h.seen hB CS hno);rw[SX.aq2 h hB hn hin l1 l2 l3 hcl hi];refine hW.aqB (IC _ hk) hC (λi yq=>?_) (λR hR CQ hs=>?_) hcl hi
 .rw[SX.it h hc i yq];have hm:=yB yq;have hle:=CS.least _ hm;rcases Qe (pi l Xs k).1 (pi l Xs (L.getD i 0)).1 with q|q
  .exact q
  .by_cases e:(xi Xs (L.getD i 0)).f=(xi Xs k).f
   .show ge (PM (aW l) (xi Xs k).f) (PM (aW l) (xi Xs (L.getD i 0)).f);rw[e];exact Gi _
   .exact absurd (SX.geq h (SX.rF h (hgt yq)).1 hn q e) hle
 .obtain⟨i,yq,CQ⟩:=CQ;rw[SX.it h hc i yq] at CQ;have hmem:pi l Xs (L.getD i 0)∈(Z.map Prod.snd).flatten:=e3.mem_iff.2 (bQ.2 ⟨_,yB yq,rfl⟩);obtain⟨R',hR',hm'⟩:=Dj.1 hmem;obtain⟨z,hz,rfl⟩:=bQ.1 hR';have hrel:=e2 z hz;have:=hR.eq hW hrel.lr CQ hm';rw[this] at hs;have h1:=hrel.sh.2 hs;rw[hno z.1 (by rw[<-e1];exact bQ.2 ⟨z,hz,rfl⟩)] at h1
  cases h1
end
abbrev RP:=List Nat×List Sg
abbrev uM:=RP×List RP
def oU(p:uM):Pg:=(p.1.1,p.2.map Prod.fst)
def yt(p:uM):List Sg:=p.1.2++(p.2.map Prod.snd).flatten
def lD(PL:List uM):List Sg:=(PL.map yt).flatten
section
variable{rg:List (List Pt)}{l:List Nd}{r:Int}{Xs:List PB}
structure afo(l:List Nd)(Xs:List PB)(p:uM):Prop where
 shell:Rel l Xs p.1.1 p.1.2
 Vm:shl p.1.2
 hole:∀z∈p.2,Rel l Xs z.1 z.2/\¬shl z.2
 part:∀z∈p.2,∀a∈p.1.2,∀s∈z.2,Fc (sS (aW l) Xs) a s
structure CI(l:List Nd)(Xs:List PB)(st:St)(PL:List uM):Prop where
 ps:st.ps=PL.map oU
 ok:∀p∈PL,afo l Xs p
 own:∀j,j<Xs.length->st.bB j=true->∃p,PL[st.ow j]?=some p/\∀a∈p.1.2,Fc (sS (aW l) Xs) a (pi l Xs j)
 per:(lD PL).Perm (((List.range Xs.length).filter st.bB).map (pi l Xs))
theorem filter_or{α:Type}(p q:α->Bool):∀(L:List α),(∀x∈L,p x=true->q x=false)->(L.filter λx=>p x||q x).Perm (L.filter p++L.filter q)
 |[],_=>af
 |x::L,h=>by
  have ih:=filter_or p q L λy hy=>h y (bV _ hy)
  cases hp:p x
  .cases hq:q x
   .rw[wT (by simp[hp,hq]),wT (by simp[hp]),wT (by simp[hq])]
    exact ih
   .rw[AQ (by simp[hq]),wT (by simp[hp]),AQ hq]
    exact(ih.cons x).trans (List.perm_middle).symm
  .have hq:=h x af hp
   rw[AQ (by simp[hp]),AQ hp,wT (by simp[hq])]
   exact ih.cons x
theorem marks{n:Nat}{mk:Nat->Bool}{L:List Nat}(hnd:L.Nodup)(hf:∀a∈L,a<n/\mk a=false):((List.range n).filter λj=>mk j||L.contains j).Perm ((List.range n).filter mk++L):=by
 refine(filter_or mk L.contains (List.range n) λx _ hx=>?_).trans (J0 _ ?_)
 .cases q:L.contains x
  .rfl
  .have:=(hf x (wW.1 q)).2;rw[hx] at this;cases this
 .refine(List.perm_ext_iff_of_nodup (ahr _ List.nodup_range) hnd).2 λa=>?_
  rw[jr,tN,wW];exact⟨λk=>k.2,λk=>⟨(hf a k).1,k⟩⟩
theorem ara{P:List Nat->Bool}{A B:List (List Nat)}{x:List Nat}(hx:P x=true)(hB:∀y∈B,P y=false):wF P (A++x::B)=x:=by
 unfold wF;rw[Pz,uT,aV hx];have:∀(B:List (List Nat)) acc,(∀y∈B,P y=false)->B.foldl (λacc r=>if P r then r else acc) acc=acc:=by
  intro B;induction B with
  |nil=>intro acc _;rfl
  |cons b B ih=>
   intro acc h;rw[uT,h b af]
   exact ih acc λy hy=>h y (bV _ hy)
 exact this B x hB
theorem afp{α:Type}(P:α->Bool):∀(L:List α),L.any P=true->∃A x B,L=A++x::B/\P x=true/\∀y∈A,P y=false
 |[],h=>by simp at h
 |x::L,h=>by
  cases hp:P x
  .have h':L.any P=true:=by rw[List.any_cons,hp] at h;simpa using h
   obtain⟨A,y,B,e,h1,h2⟩:=afp P L h';refine⟨x::A,y,B,by rw[e];rfl,h1,λz hz=>?_⟩
   rcases bU.1 hz with q|q
   .rw[q];exact hp
   .exact h2 z q
  .exact⟨[],x,L,rfl,hp,af⟩
theorem arb{PL:List uM}{q:Nat}{p:uM}(h:PL[q]?=some p)(Z:List RP):(lD (PL.set q (p.1,p.2++Z))).Perm (lD PL++(Z.map Prod.snd).flatten):=by
 obtain⟨hq,e⟩:=cG.1 h;have e1:PL=PL.take q++p::PL.drop (q+1):=by
  rw[<-e,List.getElem_cons_drop,AE]
 have e2:PL.set q (p.1,p.2++Z)=PL.take q++(p.1,p.2++Z)::PL.drop (q+1):=List.set_eq_take_append_cons_drop.trans (aV hq);rw[e2];have e3:lD PL=lD (PL.take q)++(yt p++lD (PL.drop (q+1))):=by
  have:=aZ lD e1;rw[this];simp[lD]
 rw[e3];have e4:lD (PL.take q++(p.1,p.2++Z)::PL.drop (q+1))=lD (PL.take q)++((yt p++(Z.map Prod.snd).flatten)++lD (PL.drop (q+1))):=by
  simp[lD,yt]
 rw[e4,fL,fL,fL];exact J0 _ (J0 _ J1)
theorem SX.Vn(h:SX rg l r Xs)(hB:BD Xs){mk:Nat->Bool}{k:Nat}{L:List Nat}(hc:qu (dM Xs) mk Xs.length k L){i:Nat}(hi:i∈L):Fc (sS (aW l) Xs) (pi l Xs k) (pi l Xs i):=by
 obtain⟨t,ht,e⟩:=jG.1 hi;have:=SX.it h hc t ht;have e1:L.getD t 0=i:=by rw[n9,bo ht,e];rfl
 rw[e1] at this;rw[<-this];obtain⟨_,g2,_,g4⟩:=JA hc;have hk:k<Xs.length:=by rw[<-g2];exact(hc.free _ (yB g4)).1
 exact(SX.wd h hB).fc (IC _ hk) (Gn _ _ t)
theorem CI.step(h:SX rg l r Xs)(hB:BD Xs){st:St}{k:Nat}{PL:List uM}(hk:k<Xs.length)(hP:PV Xs st k)(hC:CI l Xs st PL):∃lV,CI l Xs (qw Xs st k) lV:=by
 have hW:=SX.wd h hB;unfold qw;cases hm:st.bB k
 .rw[aP af]
  obtain⟨hc,CS⟩:=h.walk hB hP hk hm;obtain⟨Z,z1,z2,z3⟩:=SX.rings h hB hc;generalize hL:dR Xs st.bB k=L at*;have iK:=hc.free;have hmk:=marks hc.nd iK;have zin:∀z∈Z,∀s∈z.2,∃i∈L,s=pi l Xs i:=λz hz s hs=>by
   have:s∈(Z.map Prod.snd).flatten:=Dj.2 ⟨z.2,bQ.2 ⟨z,hz,rfl⟩,hs⟩;obtain⟨i,hi,e⟩:=bQ.1 (z3.mem_iff.1 this);exact⟨i,hi,e.symm⟩
  have Fu:∀z∈Z,∀s∈z.2,Fc (sS (aW l) Xs) (pi l Xs k) s:=λz hz s hs=>by
   obtain⟨i,hi,rfl⟩:=zin z hz s hs;exact SX.Vn h hB hc hi
  have hnd:(Z.map Prod.snd).flatten.Nodup:=by
   refine z3.nodup_iff.2 ?_;refine List.Pairwise.map _ (λa b hab e=>?_) (wU (R:=λa b=>a≠b) (S:=λa b=>a∈L/\b∈L/\a≠b) (λha hb k=>⟨ha,hb,k⟩) hc.nd)
   exact hab.2.2 (SX.EX h (iK a hab.1).1 (iK b hab.2.1).1 e)
  by_cases mN:(cJ Xs L).any (dA Xs)=true
  .rw[aV mN];rw[<-z1,List.any_map] at mN;obtain⟨Z1,z0,Z2,eZ,hs0,kJ⟩:=afp _ Z mN;have hz0:z0∈Z:=by rw[eZ];simp
   have tU:∀z∈Z2,dA Xs z.1=false:=λz hz=>by
    cases q:dA Xs z.1
    .rfl
    .exfalso;have hzZ:z∈Z:=by rw[eZ];simp[hz]
     have r0:=z2 z0 hz0;have r1:=z2 z hzZ;obtain⟨a,_,ha,_⟩:=mE r0.lr.ring.ne;obtain⟨a',_,ha',_⟩:=mE r1.lr.ring.ne;have ma:a∈z0.2:=rQ ha;have ma':a'∈z.2:=rQ ha';have e:=r0.lr.one hW r1.lr (r0.sh.1 hs0) (r1.sh.1 q) ha ha' ((Fu z0 hz0 a ma).symm.trans (Fu z hzZ a' ma'));rw[eZ] at hnd;simp only[jV,gM,Ws,Dd] at hnd;have hd:=(Pq.1 (Pq.1 hnd).2.1).2.2;exact hd a ma a (Dj.2 ⟨z.2,bQ.2 ⟨z,hz,rfl⟩,by rw[<-e];exact ma⟩) rfl
   have Vo:dA Xs z0.1=true:=hs0;have hsh:wF (dA Xs) (cJ Xs L)=z0.1:=by
    rw[<-z1,eZ,jV,gM];exact ara Vo λy hy=>by
     obtain⟨z,hz,rfl⟩:=bQ.1 hy;exact tU z hz
   have yo:((cJ Xs L).filter λr=> !dA Xs r)=(Z1++Z2).map Prod.fst:=by
    rw[<-z1,eZ,jV,gM,J8,wT (by simp[Vo])]
    rw[jV];congr 1
    .rw[Pb];intro y hy;obtain⟨z,hz,rfl⟩:=bQ.1 hy;have:dA Xs z.1=false:=kJ z hz;simp[this]
    .rw[Pb];intro y hy;obtain⟨z,hz,rfl⟩:=bQ.1 hy;simp[tU z hz]
   rw[hsh,yo];have afr:∀z∈Z1++Z2,z∈Z/\dA Xs z.1=false:=λz hz=>by
    rcases dF.1 hz with q|q
    .exact⟨by rw[eZ];simp[q],kJ z q⟩
    .exact⟨by rw[eZ];simp[q],tU z q⟩
   refine⟨PL++[(z0,Z1++Z2)],?_,λp hp=>?_,λj hj nR=>?_,?_⟩
   .show st.ps++[_]=_;rw[hC.ps];simp[oU]
   .rcases dF.1 hp with q|q
    .exact hC.ok p q
    .rw[dB.1 q];refine⟨z2 z0 hz0,(z2 z0 hz0).sh.1 Vo,λz hz=>?_,λz hz a ha s hs=>?_⟩
     .obtain⟨k1,k2⟩:=afr z hz;exact⟨z2 z k1,λw=>by rw[(z2 z k1).sh.2 w] at k2;cases k2⟩
     .exact(Fu z0 hz0 a ha).symm.trans (Fu z (afr z hz).1 s hs)
   .show ∃p,(PL++[(z0,Z1++Z2)])[if L.contains j then st.ps.length else st.ow j]?=some p/\_
    have JB:(st.bB j||L.contains j)=true:=nR
    cases q:L.contains j
    .rw[q,Kf] at JB;obtain⟨p,e,hp⟩:=hC.own j hj JB;refine⟨p,?_,hp⟩;rw[aP af,fM (cG.1 e).1]
     exact e
    .refine⟨(z0,Z1++Z2),?_,λa ha=>(Fu z0 hz0 a ha).symm.trans (SX.Vn h hB hc (wW.1 q))⟩
     rw[aV rfl,hC.ps,gG,nE (aY _)];simp
   .show(lD (PL++[(z0,Z1++Z2)])).Perm (((List.range Xs.length).filter λj=>st.bB j||L.contains j).map (pi l Xs))
    have e1:lD (PL++[(z0,Z1++Z2)])=lD PL++(z0.2++((Z1++Z2).map Prod.snd).flatten):=by simp[lD,yt]
    rw[e1];refine(ahz hC.per ?_).trans ((hmk.map _).trans (by rw[jV])).symm
    refine List.Perm.trans ?_ z3;rw[eZ];simp only[jV,gM,Ws,Dd];rw[<-fL,<-fL];exact List.perm_append_comm.append_right _
  .rw[aP mN];have hno:∀ring∈cJ Xs L,dA Xs ring=false:=λring hr=>by
    cases q:dA Xs ring
    .rfl
    .exact absurd (WJ.2 ⟨ring,hr,q⟩) mN
   have tB:=h.low hB hP hk hm (by rw[hL];exact hno)
   obtain⟨p,ep,hpf⟩:=hC.own _ tB.2.1 tB.2.2;have NM:=SX.aq9 h hB hc CS hno;generalize hq:st.ow (ji Xs (xi Xs k).f)=q at*;have mU:st.ps.getD q ([],[])=oU p:=by
    rw[n9,hC.ps,iy,ep];rfl
   have zT:∀a∈p.1.2,Fc (sS (aW l) Xs) a (pi l Xs k):=λa ha=>(hpf a ha).trans NM.symm
   refine⟨PL.set q (p.1,p.2++Z),?_,λp' hp'=>?_,λj hj nR=>?_,?_⟩
   .show st.ps.set q _=_;rw[mU,hC.ps,WG];congr 1;show((oU p).1,(oU p).2++cJ Xs L)=_;rw[<-z1];unfold oU;simp
   .rcases WE hp' with w|w
    .exact hC.ok p' w
    .subst w;have hp:=hC.ok p (bA ep);refine⟨hp.shell,hp.Vm,λz hz=>?_,λz hz a ha s hs=>?_⟩
     .rcases dF.1 hz with w|w
      .exact hp.hole z w
      .refine⟨z2 z w,λv=>?_⟩
       have:=(z2 z w).sh.2 v;rw[hno z.1 (by rw[<-z1];exact bQ.2 ⟨z,w,rfl⟩)] at this
       cases this
     .rcases dF.1 hz with w|w
      .exact hp.part z w a ha s hs
      .exact(zT a ha).trans (Fu z w s hs)
   .have oO:q<PL.length:=(cG.1 ep).1;show ∃p',(PL.set q (p.1,p.2++Z))[if L.contains j then q else st.ow j]?=some p'/\_
    have JB:(st.bB j||L.contains j)=true:=nR
    cases w:L.contains j
    .rw[w,Kf] at JB;obtain⟨p',e',hp'⟩:=hC.own j hj JB;rw[aP af]
     by_cases Fi:st.ow j=q
     .rw[Fi] at e'⊢;rw[ep] at e';obtain rfl:p=p':=jt e';exact⟨(p.1,p.2++Z),by rw[tK oO],hp'⟩
     .exact⟨p',by rw[wP (λx=>Fi x.symm)];exact e',hp'⟩
    .rw[aV rfl];exact⟨(p.1,p.2++Z),by rw[tK oO],λa ha=>(zT a ha).trans (SX.Vn h hB hc (wW.1 w))⟩
   .show(lD (PL.set q (p.1,p.2++Z))).Perm (((List.range Xs.length).filter λj=>st.bB j||L.contains j).map (pi l Xs))
    refine(arb ep Z).trans ?_;refine(ahz hC.per z3).trans ((hmk.map _).trans (by rw[jV])).symm
 .rw[aV rfl];exact⟨PL,hC⟩
theorem SX.ci(h:SX rg l r Xs)(hB:BD Xs):∀k,k<=Xs.length->∃PL,CI l Xs (bH Xs k) PL
 |0,_=>⟨[],rfl,af,λj _ hm=>by simp[bH] at hm,by simp[bH,lD]⟩
 |k+1,hk=>by
  obtain⟨PL,hC⟩:=SX.ci h hB k aa
  rw[CL];exact CI.step h hB aa (h.pv hB k aa) hC
theorem SX.ym(h:SX rg l r Xs)(hB:BD Xs):∃PL,(bH Xs Xs.length).ps=PL.map oU/\(∀p∈PL,afo l Xs p)/\(lD PL).Perm (sS (aW l) Xs):=by
 obtain⟨PL,hC⟩:=SX.ci h hB Xs.length (aY _);refine⟨PL,hC.ps,hC.ok,hC.per.trans ?_⟩;have hP:=h.pv hB Xs.length (aY _);have e:(List.range Xs.length).filter (bH Xs Xs.length).bB=List.range Xs.length:=by
  rw[Pb];intro a ha;exact hP.low a (tN.1 ha)
 rw[e];unfold sS;have e2:(List.range Xs.length).map (pi l Xs)=Xs.map (ph (aW l)):=by
  refine AO af λi h1 h2=>?_
  simp only[ahw,List.getElem_range];unfold pi xi;rw[n9,bo (by simpa using h2)]
  rfl
 rw[e2]
end
end Gb
end Go.Proofs.YtkjhhooecopolaaGreatDoor

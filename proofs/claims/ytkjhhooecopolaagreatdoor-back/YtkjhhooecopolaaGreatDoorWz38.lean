import Derived.Test.YtkjhhooecopolaaGreatDoorWz37
set_option maxRecDepth 100000
set_option maxHeartbeats 4000000
namespace Go.Proofs.YtkjhhooecopolaaGreatDoor
open Go.RowKit
theorem akB(s:ByteArray)(r:Int)(w:World)(hm:s.size<=maxLen)(yN:Gl w)(h0:(Pl.err s.data.toList).1≠0):
  Calls Tryz.prog 39 #[.string s,.int .u8 r] w fun e w'=>e=.returned (.tuple #[.string ⟨#[]⟩,.int .i64 (Pl.err s.data.toList).1,.int .i64 (Pl.err s.data.toList).2])/\Below w.heap.size w w':=by
 have hne:(((Pl.err s.data.toList).1:Int) != 0)=true:=by rw[Kr];omega
 have HR:Hid (∀w1,Gl w1->Calls Tryz.prog 33 #[.string s] w1 fun e w'=>Below w1.heap.size w1 w'/\∃pv,e=.returned (.tuple #[.pointer pv,.int .i64 (Pl.err s.data.toList).1,.int .i64 (Pl.err s.data.toList).2])):=fun w1 g1=>by
  refine(Hw s w1 hm g1).mono ?_;rintro e w' ⟨hb,pv,rfl,_⟩;exact⟨hb,pv,rfl⟩
 generalize(Pl.err s.data.toList).1=E at*;generalize(Pl.err s.data.toList).2=Pp at*;clear h0
 go_enter Tryz.func39,Tryz.ntmps39
 go_wp2_with fail
 refine(HR.out _ yN).mono ?_;rintro e w1 ⟨hb1,pv,rfl⟩
 go_wp2_with fail
 refine bodyPost_ret (v:=.tuple #[.string ⟨#[]⟩,.int .i64 E,.int .i64 Pp]) (by simp[results,Tryz.results39,go_sem]) rfl ⟨rfl,hb1⟩
theorem ZM(s:ByteArray)(hm:s.size<=maxLen)(h0:(Pl.err s.data.toList).1=0):∀w1,Gl w1->Calls Tryz.prog 33 #[.string s] w1 fun e w'=>Below w1.heap.size w1 w'/\∃rb rv,e=.returned (.tuple #[.pointer (some ⟨rb,0,none⟩),.int .i64 0,.int .i64 0])/\
  w'.cell? ⟨rb,6,none⟩=some rv/\rb<w'.heap.size/\xL w' rv (Pl.rings s.data.toList):=fun w1 g1=>by
 have hp2:=(uk h0).2.1;refine(Hw s w1 hm g1).mono ?_;rintro e w' ⟨hb,pv,rfl,lZ⟩;obtain⟨rb,rfl,_,hR⟩:=lZ h0;obtain⟨c,t,r,tv,rv,hc,hl',hbk,hown,akC⟩:=hR;exact⟨hb,rb,rv,by rw[h0,hp2];rfl,cell_of hbk 6,lt_of_heap hbk,adZ akC⟩
theorem akD(s:ByteArray)(r:Int)(w:World)(hm:s.size<=maxLen)(yN:Gl w)(h0:(Pl.err s.data.toList).1=0)(hr:Ge.rule r=false):
  Calls Tryz.prog 39 #[.string s,.int .u8 r] w fun e w'=>e=.returned (.tuple #[.string ⟨#[]⟩,.int .i64 4,.int .i64 0])/\Below w.heap.size w w':=by
 have HR:Hid (∀w1,Gl w1->Calls Tryz.prog 33 #[.string s] w1 fun e w'=>Below w1.heap.size w1 w'/\∃rb rv,e=.returned (.tuple #[.pointer (some ⟨rb,0,none⟩),.int .i64 0,.int .i64 0])/\
  w'.cell? ⟨rb,6,none⟩=some rv/\rb<w'.heap.size/\xL w' rv (Pl.rings s.data.toList)):=ZM s hm h0
 have HI:Hid (∀w,Calls Tryz.prog 66 #[.int .u8 r] w fun e w'=>e=.returned (.bool false)/\w'=w):=fun w=>by
  have:=T8 r w;rw[hr] at this;exact this
 clear hr h0
 go_enter Tryz.func39,Tryz.ntmps39
 go_wp2_with fail
 refine(HR.out _ yN).mono ?_;rintro e w1 ⟨hb1,rb,rv,rfl,_⟩;have wz:Hid (Below w.heap.size w w1):=hb1;clear hb1 HR
 go_wp2_with fail
 refine(HI.out _).mono ?_;rintro e w2 ⟨rfl,rfl⟩;clear HI
 go_wp2_with fail
 refine bodyPost_ret (v:=.tuple #[.string ⟨#[]⟩,.int .i64 4,.int .i64 0]) (by simp[results,Tryz.results39,go_sem]) rfl ⟨rfl,wz.out⟩
def mG(rg:List (List Ge.Pt))(r:Int)(TX:List UInt8):Prop:=∃Ps l,l.map Ge.ax=Ge.gV (Ge.ae rg)/\(∀n∈l,Ge.Can n)/\nO (Ge.ae rg) l Ps/\(kU r (Ge.ae rg) Ps).length<=85000000/\TX=qW (kU r (Ge.ae rg) Ps)
theorem akE(s:ByteArray)(r:Int)(w:World)(hm:s.size<=maxLen)(yN:Gl w)(h0:(Pl.err s.data.toList).1=0)(hr:Ge.rule r=true):
  Calls Tryz.prog 39 #[.string s,.int .u8 r] w fun e w'=>(∃TX,e=.returned (.tuple #[.string (ba TX),.int .i64 0,.int .i64 0])/\mG (Pl.rings s.data.toList) r TX)/\Below w.heap.size w w':=by
 have HR:Hid (∀w1,Gl w1->Calls Tryz.prog 33 #[.string s] w1 fun e w'=>Below w1.heap.size w1 w'/\∃rb rv,e=.returned (.tuple #[.pointer (some ⟨rb,0,none⟩),.int .i64 0,.int .i64 0])/\
  w'.cell? ⟨rb,6,none⟩=some rv/\rb<w'.heap.size/\xL w' rv (Pl.rings s.data.toList)):=ZM s hm h0
 have HI:Hid (∀w,Calls Tryz.prog 66 #[.int .u8 r] w fun e w'=>e=.returned (.bool true)/\w'=w):=fun w=>by
  have:=T8 r w;rw[hr] at this;exact this
 obtain⟨hro,hrl,kq,hel⟩:=Mc h0;have ZN:=Pl.aei h0;have ZO:Hid (∀v w1,xL w1 v (Pl.rings s.data.toList)->Calls Tryz.prog 36 #[v] w1 fun e w'=>∃v,e=.returned v/\iW w' v (Ge.ae (Pl.rings s.data.toList))/\Below w1.heap.size w1 w'):=fun v w1 hv=>ad4 _ v w1 hv hro hrl
 have PA:Hid (∀v w1,iW w1 v (Ge.ae (Pl.rings s.data.toList))->Gl w1->Calls Tryz.prog 68 #[v,.int .u8 r] w1 fun e w'=>∃lv,e=.returned lv/\Calls Tryz.prog 69 #[lv] w' fun e w2=>∃lp,e=.returned lp/\Below w1.heap.size w1 w2/\Calls Tryz.prog 67 #[lp] w2 fun e w3=>(∃TX,e=.returned (.string (ba TX))/\mG (Pl.rings s.data.toList) r TX)/\Below w1.heap.size w1 w3):=fun v w1 hv bO=>by
  refine(agF _ r v w1 hv ZN kq (fun e he=>Ge.GW he)).mono ?_
  rintro e w' ⟨lv,rfl,Ps,l,wb,bs,mh,fZ,qN,hbb,jy,hbl⟩;refine⟨lv,rfl,?_⟩;refine(ajF mh fZ kq qN jy hbl (bO.below hbb bO.sz)).mono ?_;rintro e w2 ⟨lp,rfl,hb2,hW⟩;have PC:Below w1.heap.size w1 w2:=hbb.trans (hb2.mono hbb.size);refine⟨lp,rfl,PC,hW.mono ?_⟩;rintro e w3 ⟨rfl,hb3⟩;exact⟨⟨_,rfl,Ps,l,mh,fZ,qN,by rw[<-jy.len];exact hbl,rfl⟩,PC.trans (hb3.mono PC.size)⟩
 have ZQ:Hid (∃P:List UInt8->Prop,P=mG (Pl.rings s.data.toList) r):=⟨_,rfl⟩;obtain⟨P,hP⟩:=ZQ.out;rw[<-hP] at PA;rw[<-hP];clear hr h0 hro hrl kq hel ZN ZQ hP;generalize Pl.rings s.data.toList=RG at*;generalize Ge.ae RG=ES at*
 go_enter Tryz.func39,Tryz.ntmps39
 go_wp2_with fail
 refine(HR.out _ yN).mono ?_;rintro e w1 ⟨hb1,rb,rv,rfl,c6,hlt,ZR⟩;have bO:=yN.below hb1 yN.sz
 go_wp2_with fail
 refine(HI.out _).mono ?_;rintro e w2 ⟨rfl,rfl⟩;clear HI HR
 go_wp2_with fail
 refine(ZO.out _ _ ZR).mono ?_;rintro e w3 ⟨ev,rfl,vB,hb3⟩;have iI:Below w.heap.size w w3:=hb1.trans (hb3.mono hb1.size);have qz:=bO.below hb3 bO.sz;have nQ:Hid (Below w.heap.size w w3):=iI;have hcall:=PA.out _ _ vB qz;clear PA ZO ZR vB hb3 iI hb1 c6
 go_wp2_with fail
 refine hcall.mono ?_;rintro e w4 ⟨lv,rfl,ZT⟩;clear hcall
 go_wp2_with fail
 refine ZT.mono ?_;rintro e w5 ⟨lp,rfl,az,ZU⟩;clear ZT
 go_wp2_with fail
 refine ZU.mono ?_;rintro e w6 ⟨⟨TX,rfl,ZV⟩,aF⟩;have HX':Hid (P TX):=ZV;have E3:Hid (Below w.heap.size w w6):=nQ.out.trans (aF.mono nQ.out.size);clear ZU az aF ZV
 go_wp2_with fail
 refine bodyPost_ret (v:=.tuple #[.string (ba TX),.int .i64 0,.int .i64 0]) (by simp[results,Tryz.results39,go_sem]) rfl ⟨⟨TX,rfl,HX'.out⟩,E3.out⟩
namespace Gb
open Ge Ga
theorem ZW:∀{l l':List Nd},(∀n∈l,Ge.Can n)->(∀n∈l',Ge.Can n)->l.map ax=l'.map ax->l=l'
 |[],[],_,_,_=>rfl
 |[],_::_,_,_,h=>by simp at h
 |_::_,[],_,_,h=>by simp at h
 |a::A,b::B,ha,hb,h=>by
  rw[eI,eI] at h;injection h with h1 h2;have e:a=b:=Ge.um (ha a (by simp)) (hb b (by simp)) (by rw[h1];exact Ge.xC _)
  rw[e,ZW (fun n hn=>ha n (by simp[hn])) (fun n hn=>hb n (by simp[hn])) h2]
theorem akG{rg:List (List Pt)}{r:Int}{T:List UInt8}(h:mG rg r T):T≠[]:=by
 obtain⟨Ps,l,_,_,_,_,rfl⟩:=h;unfold qW E5 uO;split
 ·unfold JM;simp
 ·unfold yI;simp
theorem akH{a b:List (List Pt)}(h:a.Perm b):(ae a).Perm (ae b):=by
 unfold ae;exact h.flatMap_right _
end Gb
end Go.Proofs.YtkjhhooecopolaaGreatDoor
namespace Go.Proofs.YtkjhhooecopolaaGreatDoor.Gb
open Ge Ga
section
variable{rg:List (List Pt)}{l:List Nd}{r:Int}{Xs:List PB}
theorem SX.lf1(h:SX rg l r Xs)(h0:takes r 0=false){dm:List (List Pt)}(hc:(ae dm).Perm (sS (aa l) Xs)){s:Sg}(hs:s∈sS (aa l) Xs)(hx:(dr s).1≠0):Lf (ae dm) s=1:=by
 have hN:=h.nl;obtain⟨hM,hO⟩:=bC.ok hN;obtain⟨a,b,gf,rfl⟩:=(SX.tB h).1 hs;obtain⟨_,ha,hb⟩:=eF hN gf.pc;have ZX:∀{x y:Nd},x∈l->y∈l->(0<(dr (PM (aa l) x,PM (aa l) y)).1↔0<(wv x y).1):=fun{x y} hx hy=>by
  obtain⟨p,q,hp,hq,e1,_⟩:=fO hM (hO x hx) (hO y hy);exact(iJ hp hq e1).1
 rcases QH hx with q|q
 ·have q':0<(dr (PM (aa l) b,PM (aa l) a)).1:=by
   have:dr (PM (aa l) b,PM (aa l) a)=neg (dr (PM (aa l) a,PM (aa l) b)):=jT (PM (aa l) a,PM (aa l) b);rw[this];show 0< -(dr (PM (aa l) a,PM (aa l) b)).1;omega
  have hw:=(ZX hb ha).1 q';rcases gf with⟨k,_⟩|⟨k,k1,k2⟩
  ·have:=tU (k.facts hN).2.2;have e:(wv b a).1= -(wv a b).1:=by rw[dU];rfl
   omega
  ·have c:=((SX.count h) h0 hc k hw).1;rw[k1] at c;have t:=(zi ((SX.kK h) hc k)).1;rw[jH,c] at t;have e:neg (dr (PM (aa l) b,PM (aa l) a))=dr (PM (aa l) a,PM (aa l) b):=(jT (PM (aa l) b,PM (aa l) a)).symm;rw[e] at t;exact t.symm
 ·have hw:=(ZX ha hb).1 q;rcases gf with⟨k,k1,k2⟩|⟨k,_⟩
  ·have c:=((SX.count h) h0 hc k hw).2;rw[k1] at c;have t:=(rG ((SX.kK h) hc k)).2;rw[jH,c] at t;exact t.symm
  ·have:=tU (k.facts hN).2.2;have e:(wv b a).1= -(wv a b).1:=by rw[dU];rfl
   omega
theorem SX.once(h:SX rg l r Xs)(hB:BD Xs)(h0:takes r 0=false){s:Sg}(hs:s∈sS (aa l) Xs):Lf (sS (aa l) Xs) s=1/\Rt (sS (aa l) Xs) s=0:=by
 have hN:=h.nl;have hW:=SX.wd h hB;obtain⟨dm,hc⟩:=(SX.chain h) hB;have hL:Lf (ae dm) s=1:=by
  obtain⟨PL,_,hok,wQ⟩:=SX.qU h hB;obtain⟨R,hR,hsR⟩:∃R,LR (sS (aa l) Xs) (iA (aa l) Xs) R/\s∈R:=by
   obtain⟨L,hL,EL⟩:=tO.1 (wQ.mem_iff.2 hs);obtain⟨p,hp,rfl⟩:=aN.1 hL;rcases bQ.1 EL with q|q
   ·exact⟨_,(hok p hp).shell.lr,q⟩
   ·obtain⟨H,hH,Pe⟩:=tO.1 q;obtain⟨z,hz,rfl⟩:=aN.1 hH;exact⟨_,((hok p hp).hole z hz).1.lr,Pe⟩
  cases R with
  |nil=>simp at hsR
  |cons a T=>
   have hin:In (sS (aa l) Xs) (ae dm):=fun e he=>ag (hc.mem_iff.1 he)
   have fa:=hR.ring.fc hW (a:=a) rfl hsR (ae dm) ⟨dm,rfl⟩ hin;have ht:=hR.turn hW;have hl:(a::T).getLast?=some (T.getLastD a):=by rw[uV,jE]
   by_cases q:(dr a).1=0
   ·have q2:(dr (T.getLastD a)).1≠0:=fun w=>ht (by unfold cr;rw[q,w];simp)
    have mz:=pB hl;have fz:=hR.ring.fc hW (a:=a) rfl mz (ae dm) ⟨dm,rfl⟩ hin;rw[<-fa,fz];exact(SX.lf1 h) h0 hc (hR.ring.mem _ mz) q2
   ·rw[<-fa];exact(SX.lf1 h) h0 hc (hR.ring.mem a (by simp)) q
 have hL':Lf (sS (aa l) Xs) s=1:=by rw[<-abZ hc];exact hL
 refine⟨hL',?_⟩;obtain⟨a,b,gf,rfl⟩:=(SX.tB h).1 hs;have k:=(SX.Zm h) gf.pc;have e2:decide ((PM (aa l) b,PM (aa l) a)∈sS (aa l) Xs)=false:=gv fun q=>by
  have:=hW.two _ hs _ q rfl;have e:neg (dr (PM (aa l) b,PM (aa l) a))=dr (PM (aa l) a,PM (aa l) b):=(jT (PM (aa l) b,PM (aa l) a)).symm;rw[e,jJ (hW.dK hs)] at this;cases this
 rw[eN hs,e2] at k;have e:Lf (sS (aa l) Xs) (PM (aa l) a,PM (aa l) b)=Rt (sS (aa l) Xs) (PM (aa l) a,PM (aa l) b)+Ga.AS (sS (aa l) Xs) (n1 (PM (aa l) a)) (fun z=>ai z (dr (PM (aa l) a,PM (aa l) b))):=rfl
 rw[k,hL'] at e;simp[bb] at e;omega
def o9(F:List NP):List (List Nd):=F.flatMap fun p=>p.1::p.2
theorem SX.rsF(h:SX rg l r Xs)(hB:BD Xs):∃RL,Rs (sS (aa l) Xs) (iA (aa l) Xs) RL/\((o9 (fin Xs)).map (·.map (PM (aa l)))).Perm (RL.map aY):=by
 obtain⟨PL,e1,hok,wQ⟩:=SX.qU h hB;have Bg:=h.pn hB Xs.length (ay _);have uQ:∀p∈PL,(∀a∈p.1.1,a<Xs.length)/\∀z∈p.2,∀a∈z.1,a<Xs.length:=fun p hp=>by
  have:=Bg (mF p) (by rw[e1];exact aN.2 ⟨p,hp,rfl⟩)
  exact⟨this.1.lt,fun z hz=>(this.2 z.1 (aN.2 ⟨z,hz,rfl⟩)).lt⟩
 have can:∀q:List Nat,(∀a∈q,a<Xs.length)->∀n∈Go.Proofs.YtkjhhooecopolaaGreatDoor.fr Xs q,Ge.Can n:=fun q hq n hn=>h.nl.can n (Rel.nodes h hq n hn)
 have hole:∀p∈PL,(iZ (qc Xs) (p.2.map Prod.fst)).Perm (p.2.map Prod.fst):=fun p hp=>by
  refine(Fa (qc Xs) (p.2.map Prod.fst) (uM (fun i:Fin (p.2.map Prod.fst).length=>Go.Proofs.YtkjhhooecopolaaGreatDoor.fr Xs (p.2.map Prod.fst)[i]) fun i a ha=>?_)).1
  have hm:(p.2.map Prod.fst)[i]∈p.2.map Prod.fst:=gw _;obtain⟨z,hz,e⟩:=aN.1 hm;have ha':a∈Go.Proofs.YtkjhhooecopolaaGreatDoor.fr Xs (p.2.map Prod.fst)[i]:=ha;rw[<-e] at ha';exact can z.1 ((uQ p hp).2 z hz) a ha'
 have hsw:Sort.SWO (ltOf fun i j:Fin ((aM Xs Xs.length).ps.map (dA Xs)).length=>mD Xs ((aM Xs Xs.length).ps.map (dA Xs))[i] ((aM Xs Xs.length).ps.map (dA Xs))[j]):=
  uM (fun i:Fin ((aM Xs Xs.length).ps.map (dA Xs)).length=>Go.Proofs.YtkjhhooecopolaaGreatDoor.fr Xs ((aM Xs Xs.length).ps.map (dA Xs))[i].1) fun i a ha=>by
   have hm:((aM Xs Xs.length).ps.map (dA Xs))[i]∈(aM Xs Xs.length).ps.map (dA Xs):=gw _;obtain⟨g,hg,eg⟩:=aN.1 hm;have hg':g∈PL.map mF:=by rw[<-e1];exact hg
   obtain⟨p,hp,rfl⟩:=aN.1 hg';have ha':a∈Go.Proofs.YtkjhhooecopolaaGreatDoor.fr Xs ((aM Xs Xs.length).ps.map (dA Xs))[i].1:=ha;have e2:((aM Xs Xs.length).ps.map (dA Xs))[i].1=p.1.1:=by rw[<-eg];rfl
   rw[e2] at ha';exact can p.1.1 (uQ p hp).1 a ha'
 have t1:=(Fa (mD Xs) ((aM Xs Xs.length).ps.map (dA Xs)) hsw).1;refine⟨PL.flatMap fun p=>p.1.2::p.2.map Prod.snd,⟨fun R hR=>?_,?_⟩,?_⟩
 ·obtain⟨p,hp,hR⟩:=nu.1 hR;rcases aP.1 hR with q|q
  ·rw[q];exact(hok p hp).shell.lr
  ·obtain⟨z,hz,rfl⟩:=aN.1 q;exact((hok p hp).hole z hz).1.lr
 ·have:∀jQ:List qX,(jQ.flatMap fun p=>p.1.2::p.2.map Prod.snd).flatten=jr jQ:=fun jQ=>by
   unfold jr;induction jQ with
   |nil=>rfl
   |cons p jQ ih=>
    rw[po,Qu,eI,tN,ih];rfl
  rw[this];exact wQ
 ·have p1:(o9 (fin Xs)).Perm (((aM Xs Xs.length).ps.map (dA Xs)).flatMap fun g=>Go.Proofs.YtkjhhooecopolaaGreatDoor.fr Xs g.1::g.2.map (Go.Proofs.YtkjhhooecopolaaGreatDoor.fr Xs)):=by
   unfold o9 fin;rw[QI];exact t1.flatMap_right _
  rw[e1,fL,QI] at p1;have p2:(PL.flatMap fun p=>Go.Proofs.YtkjhhooecopolaaGreatDoor.fr Xs (dA Xs (mF p)).1::(dA Xs (mF p)).2.map (Go.Proofs.YtkjhhooecopolaaGreatDoor.fr Xs)).Perm (PL.flatMap fun p=>Go.Proofs.YtkjhhooecopolaaGreatDoor.fr Xs p.1.1::p.2.map fun z=>Go.Proofs.YtkjhhooecopolaaGreatDoor.fr Xs z.1):=by
   have:∀jQ:List qX,(∀p∈jQ,p∈PL)->(jQ.flatMap fun p=>Go.Proofs.YtkjhhooecopolaaGreatDoor.fr Xs (dA Xs (mF p)).1::(dA Xs (mF p)).2.map (Go.Proofs.YtkjhhooecopolaaGreatDoor.fr Xs)).Perm (jQ.flatMap fun p=>Go.Proofs.YtkjhhooecopolaaGreatDoor.fr Xs p.1.1::p.2.map fun z=>Go.Proofs.YtkjhhooecopolaaGreatDoor.fr Xs z.1):=by
    intro jQ;induction jQ with
    |nil=>intro _;exact FP _
    |cons p jQ ih=>
     intro hm;rw[po,po];refine abw ?_ (ih fun x hx=>hm x (aT _ hx))
     refine List.Perm.cons _ ?_;have:=(hole p (hm p (by simp))).map (Go.Proofs.YtkjhhooecopolaaGreatDoor.fr Xs)
     rw[fL] at this;exact this
   exact this PL fun _ h=>h
  refine((p1.trans p2).map _).trans (List.Perm.of_eq ?_);rw[List.map_flatMap,List.map_flatMap];have:∀jQ:List qX,(∀p∈jQ,p∈PL)->(jQ.flatMap fun p=>(Go.Proofs.YtkjhhooecopolaaGreatDoor.fr Xs p.1.1::p.2.map fun z=>Go.Proofs.YtkjhhooecopolaaGreatDoor.fr Xs z.1).map (·.map (PM (aa l))))=jQ.flatMap fun p=>(p.1.2::p.2.map Prod.snd).map aY:=by
   intro jQ;induction jQ with
   |nil=>intro _;rfl
   |cons p jQ ih=>
    intro hm;rw[po,po,ih fun x hx=>hm x (aT _ hx)]
    congr 1;have ok:=hok p (hm p (by simp))
    rw[eI,eI,ok.shell.aY,fL,fL];congr 1;refine rB fun z hz=>?_
    exact(ok.hole z hz).1.aY
  exact this PL fun _ h=>h
end
theorem akJ{R:List Sg}{v:Pt}(h:v∈aY R):∃t∈R,t.1=v:=by
 obtain⟨t,ht,e⟩:=aN.1 h;exact⟨t,JY _ _ _ ht,e⟩
theorem akK(g:List Pt):(closing g).map Prod.fst=g:=by
 cases g with
 |nil=>rfl
 |cons a r=>
  show((a::r).zip (r++[a])).map Prod.fst=a::r;rw[List.map_fst_zip];simp
theorem ray{p q x D:Pt}(h1:ai (dr (p,q)) D=true)(h2:ai (dr (p,x)) D=true):x=q\/ai (dr (x,q)) D=true\/ai (dr (q,x)) D=true:=by
 obtain⟨a1,a2⟩:=(bA _ _).1 h1;obtain⟨b1,b2⟩:=(bA _ _).1 h2;have hD:=(vX h1).2;have c1:cr (dr (q,x)) D=cr (dr (p,x)) D-cr (dr (p,q)) D:=by unfold cr dr;simp only;grind
 have e:dr (x,q)=neg (dr (q,x)):=jT (q,x);rcases eK (dt (dr (q,x)) D) 0 with w|w|w
 ·right;left;rw[e];exact(bA _ _).2 ⟨by rw[dI];omega,by rw[lh];omega⟩
 ·left;have hz:dr (q,x)=(0,0):=by
   apply fV;intro hn;have k:=(par hD (r:=dr (q,x)) (s:=dr (q,x)) (by rw[bT];omega) (by rw[bT];omega)).2
   rw[iR D,w,uW] at k;have:=aR (Ga.cP hD) (Ga.cP hn);omega
  exact(gS.1 hz).symm
 ·right;right;exact(bA _ _).2 ⟨by omega,w⟩
structure Two(M:Int)(S:List Sg)(nx:Sg->Sg)(RL:List (List Sg))(cG:List (List Pt)):Prop where
 pos:0<M
 wd:Wd S nx
 rs:Rs S nx RL
 one:∀s∈S,Lf S s=1/\Rt S s=0
 per:(cG.map (·.map (aD M))).Perm (RL.map aY)
section
variable{M:Int}{S:List Sg}{nx:Sg->Sg}{RL:List (List Sg)}{cG:List (List Pt)}{l':List Nd}
theorem Bi(M:Int)(p:Pt):PM M (p.1,p.2,1)=aD M p:=by
 unfold PM aD;rw[Int.ediv_one];exact bX (dX _ _) (dX _ _)
theorem Two.dY(t:Two M S nx RL cG):(lK M (ae cG)).Perm (ae (RL.map aY)):=by
 rw[<-AJ t.pos];exact akH t.per
theorem Two.bg(t:Two M S nx RL cG)(p d:Pt):Ga.bg (ae cG) (p.1,p.2,1) d=Ga.bg S (n1 (aD M p)) d/\bH (ae cG) (p.1,p.2,1) d=bH S (n1 (aD M p)) d:=by
 have hO:OK M (p.1,p.2,1):=⟨by show(0:Int)<1;decide,⟨M,by simp⟩⟩
 obtain⟨b1,b2⟩:=Nr t.pos hO (ae cG) (D6 d);rw[Bi] at b1 b2;obtain⟨c1,c2⟩:=J1 t.dY (n1 (aD M p)) d;obtain⟨d1,d2⟩:=t.rs.bg t.wd (aD M p) d;exact⟨by rw[<-b1,c1,d1],by rw[<-b2,c2,d2]⟩
theorem Two.ring(t:Two M S nx RL cG){v:Pt}(hv:Vp RL v=true):∃g∈cG,∃p∈g,v=aD M p:=by
 obtain⟨R,hR,yO⟩:=Px.1 hv;have h1:aY R∈cG.map (·.map (aD M)):=t.per.mem_iff.2 (aN.2 ⟨R,hR,rfl⟩)
 obtain⟨g,hg,e⟩:=aN.1 h1;rw[<-e] at yO;obtain⟨p,hp,e2⟩:=aN.1 yO;exact⟨g,hg,p,hp,e2.symm⟩
theorem Two.vp(t:Two M S nx RL cG){g:List Pt}(hg:g∈cG){p:Pt}(hp:p∈g):Vp RL (aD M p)=true:=by
 have h1:g.map (aD M)∈RL.map aY:=t.per.mem_iff.1 (aN.2 ⟨g,hg,rfl⟩);obtain⟨R,hR,e⟩:=aN.1 h1;refine JZ hR ?_;rw[e];exact aN.2 ⟨p,hp,rfl⟩
theorem Two.Bj(t:Two M S nx RL cG)(hN:bC (ae cG) l'){n:Nd}(hn:n∈l'):∃p:Pt,n=(p.1,p.2,1)/\Vp RL (aD M p)=true:=by
 have fZ:=hN.can n hn;have hi:isNode (ae cG) (ax n):=by
  refine((xP _).2.2 _).1 ?_;rw[<-hN.map];exact aN.2 ⟨n,hn,rfl⟩
 have Fj:∀z:Pt,ax n=pt z->n=(z.1,z.2,1):=fun z e=>zT fZ (DW z) (by rw[DX];exact e)
 rcases hi with⟨e,he,q⟩|⟨e,he,f,hf,hc,hq,o1,o2⟩
 ·obtain⟨g,hg,m1,m2⟩:=Sk he;rcases q with q|q
  ·exact⟨e.1,Fj _ q,t.vp hg m1⟩
  ·exact⟨e.2,Fj _ q,t.vp hg m2⟩
 ·rw[<-hq,zW fZ] at o1 o2;have PD:∀u:Pt,rl (M*n.1,M*n.2.1,n.2.2) (aD M u)=Ga.sc M (rl n u):=fun u=>by
   unfold rl rel aD Ga.sc;exact bX (by simp only;grind) (by simp only;grind)
  have ZY:∀{u v:Pt},on (rl n u) (rl n v)=true->on (rl (M*n.1,M*n.2.1,n.2.2) (aD M u)) (rl (M*n.1,M*n.2.1,n.2.2) (aD M v))=true:=fun{u v} q=>by
   rw[PD,PD,Pm.on (uz t.pos _) (uz t.pos _)];exact q
  have mE:∀{e:Sg},e∈ae cG->(aD M e.1,aD M e.2)∈ae (RL.map aY):=fun{e} he=>t.dY.mem_iff.1 (aN.2 ⟨e,he,rfl⟩)
  have hc':cr (dr (aD M e.1,aD M e.2)) (dr (aD M f.1,aD M f.2))≠0:=fun q=>hc (((yM t.pos e.1 e.2).cr (yM t.pos f.1 f.2)).2.2.2 q)
  obtain⟨v,hv,hz⟩:=t.rs.node t.wd (mE he) (mE hf) (n:=(M*n.1,M*n.2.1,n.2.2)) fZ.pos (ZY o1) (ZY o2) hc';obtain⟨g,hg,p,hp,rfl⟩:=t.ring hv;refine⟨p,?_,hv⟩;rw[PD] at hz;have z1:=au Prod.fst hz;have z2:=au Prod.snd hz;unfold Ga.sc rl rel at z1 z2;simp only at z1 z2;have y1:=(dE t.pos).1 z1;have y2:=(dE t.pos).1 z2;have g1:=fZ.co;have d1:n.2.2∣n.1:=⟨p.1,by omega⟩
  have d2:n.2.2∣n.2.1:=⟨p.2,by omega⟩
  have hd1:n.2.2.natAbs∣Int.gcd (Int.gcd n.1 n.2.1) n.2.2:=Int.dvd_gcd (aa9 (FX.2 d1) (FX.2 d2)) (FX.2 (Int.dvd_refl _));rw[g1] at hd1;have hp0:=fZ.pos;have h1:n.2.2.natAbs=1:=Nat.dvd_one.1 hd1;have h2:n.2.2=1:=by omega
  rw[h2] at y1 y2;exact bX (by simp only;omega) (bX (by simp only;omega) h2)
theorem Two.Au(t:Two M S nx RL cG)(hN:bC (ae cG) l'){v:Pt}(hv:Vp RL v=true):∃p:Pt,v=aD M p/\(p.1,p.2,1)∈l':=by
 obtain⟨R,hR,yO⟩:=Px.1 hv;have h1:v∈(closing (aY R)).map Prod.fst:=by rw[akK];exact yO
 obtain⟨e,he,e1⟩:=aN.1 h1;have hne:e.1≠e.2:=by
  cases R with
  |nil=>simp[aY,tG] at yO
  |cons a T=>
   obtain⟨g1,g2⟩:=t.rs.Py t.wd hR;rw[g1] at he;obtain⟨s,_,_,hd⟩:=ZH ((t.rs.lr _ hR).ring.path rfl) (fun s hs=>t.wd.ne s ((t.rs.lr _ hR).ring.mem s hs)) g2 (n:=n1 e.1) (by show(0:Int)<1;decide) he (lj _ _ (ag (by rw[cd];exact gS.2 rfl)))
   exact fun q=>(vX hd).1 (gS.2 q)
 have h2:e∈ae (RL.map aY):=nu.2 ⟨aY R,aN.2 ⟨R,hR,rfl⟩,eY.2 ⟨he,eN hne⟩⟩;obtain⟨e0,Ar,q⟩:=aN.1 (t.dY.mem_iff.2 h2);refine⟨e0.1,?_,(hN.Aq Ar).1⟩;rw[<-e1,<-q]
theorem Two.fst(t:Two M S nx RL cG){v:Pt}(hv:Vp RL v=true):∃u∈S,u.1=v:=by
 obtain⟨R,hR,yO⟩:=Px.1 hv;obtain⟨u,hu,e⟩:=akJ yO;exact⟨u,t.rs.mem hR hu,e⟩
theorem Two.at_end(t:Two M S nx RL cG){s:Sg}(hs:s∈S):Ga.bg S (n1 s.2) (neg (dr s))=1/\bH S (n1 s.2) (neg (dr s))=0:=by
 have hc:Cl RL.flatten:=Cl.flat fun R hR=>((t.rs.lr R hR).cl t.wd).1
 have hi:In S RL.flatten:=fun e he=>ag (t.rs.per.mem_iff.1 he)
 obtain⟨k1,k2⟩:=t.wd.at_end hc hi hs;obtain⟨p1,p2⟩:=J1 t.rs.per (n1 s.2) (neg (dr s));obtain⟨q1,q2⟩:=J1 t.rs.per (n1 s.1) (dr s);obtain⟨o1,o2⟩:=t.one s hs;unfold Lf at k1 o1;unfold Rt at k2 o2;exact⟨by rw[<-p1,<-k1,q2,o1],by rw[<-p2,<-k2,q1,o2]⟩
theorem Two.jump(t:Two M S nx RL cG){v:Pt}(hv:Vp RL v=true){D:Pt}(hne:Ga.bg S (n1 v) D≠bH S (n1 v) D):(∃e∈S,e.1=v/\ai (dr e) D=true/\Ga.bg S (n1 v) D=0/\bH S (n1 v) D=1)\/∃e∈S,e.2=v/\ai (neg (dr e)) D=true/\Ga.bg S (n1 v) D=1/\bH S (n1 v) D=0:=by
 obtain⟨u,hu,hu1⟩:=t.fst hv;obtain⟨z,hz,uS⟩:∃z∈arms S (n1 v),ai z D=true:=by
  apply fV;intro hn;apply hne;have e:Ga.AS S (n1 v) (fun z=>ai z D)=Ga.AS S (n1 v) (fun _=>false):=vo (tT D) fun z hz=>by
   cases q:ai z D
   ·rfl
   ·exact absurd ⟨z,hz,q⟩ hn
  have e2:bH S (n1 v) D=Ga.bg S (n1 v) D+Ga.AS S (n1 v) (fun z=>ai z D):=rfl
  rw[e2,e,Ca];omega
 obtain⟨hz0,e,he,ho,om⟩:=jG.1 hz;rw[cd,cd] at ho om;have hm:v=e.1\/v=e.2:=by
  rw[<-hu1] at ho⊢;exact t.wd.zk u hu e he ho
 have zz:dr (v,v)=(0,0):=gS.2 rfl;rcases hm with q|q
 ·left;have ez:z=dr e:=by
   rcases om with w|w
   ·rw[<-q] at w;exact absurd (w.trans zz) hz0
   ·rw[w,q]
  rw[ez] at uS;obtain⟨o1,o2⟩:=t.one e he;obtain⟨b1,b2⟩:=DZ (es:=S) (n:=n1 v) uS;refine⟨e,he,q.symm,uS,?_,?_⟩
  ·rw[<-b1,q];exact o2
  ·rw[<-b2,q];exact o1
 ·right;have ez:z=neg (dr e):=by
   rcases om with w|w
   ·rw[w,q];exact jT e
   ·rw[<-q] at w;exact absurd (w.trans zz) hz0
  rw[ez] at uS;obtain⟨o1,o2⟩:=t.at_end he;obtain⟨b1,b2⟩:=DZ (es:=S) (n:=n1 v) uS;refine⟨e,he,q.symm,uS,?_,?_⟩
  ·rw[<-b1,q];exact o1
  ·rw[<-b2,q];exact o2
theorem Two.run(t:Two M S nx RL cG){s:Sg}(hs:s∈S){x:Pt}:∀m,(∀i,i<m->Vp RL (it nx i s).2=false)->ai (dr (s.1,(it nx m s).2)) (dr s)=true/\ai (dr (it nx m s)) (dr s)=true/\(on (dr (x,s.1)) (dr (x,(it nx m s).2))=true->∃i,i<=m/\on (dr (x,(it nx i s).1)) (dr (x,(it nx i s).2))=true)
 |0,_=>⟨jJ (t.wd.dK hs),jJ (t.wd.dK hs),fun h=>⟨0,ay _,h⟩⟩
 |m+1,hv=>by
  obtain⟨h1,h2,h3⟩:=t.run hs (x:=x) m fun i hi=>hv i (by omega)
  have hm:=t.wd.iG hs m;obtain⟨tD,tE⟩:=t.wd.qs _ hm;have k:=t.wd.lW hm tD tE (t.rs.only t.wd hm (hv m (by omega))).2.1
  have k2:ai (dr (nx (it nx m s))) (dr s)=true:=jd (jU k) h2;have k3:ai (dr ((it nx m s).2,(nx (it nx m s)).2)) (dr s)=true:=by rw[<-tE];exact k2
  refine⟨?_,k2,fun ho=>?_⟩
  ·show ai (dr (s.1,(nx (it nx m s)).2)) (dr s)=true;rw[zx s.1 (it nx m s).2 _];exact zw h1 k3
  ·rcases ZG (c:=(it nx m s).2) (jd h1 (jU k3)) ho with w|w
   ·obtain⟨i,hi,q⟩:=h3 w;exact⟨i,by omega,q⟩
   ·refine⟨m+1,ay _,?_⟩;show on (dr (x,(nx (it nx m s)).1)) _=true;rw[tE];exact w
theorem wR(p q:Pt):wv (p.1,p.2,1) (q.1,q.2,1)=dr (p,q):=by unfold wv dr;exact bX (by simp only;omega) (by simp only;omega)
theorem Two.side(t:Two M S nx RL cG)(hN:bC (ae cG) l'){inn:Int->Bool}(i1:inn 1=true)(i0:inn 0=false){s:Sg}(hs:s∈S)(hV:Vp RL s.1=true):∃p q:Pt,∃m,s.1=aD M p/\Sd (ae cG) l' inn (p.1,p.2,1) (q.1,q.2,1)/\(it nx m s).2=aD M q/\(∀i,i<m->Vp RL (it nx i s).2=false)/\Vp RL (it nx m s).2=true:=by
 obtain⟨p,ep,hp⟩:=t.Au hN hV;obtain⟨m,m1,m2⟩:=t.rs.stop t.wd hs;obtain⟨q,eq,hq⟩:=t.Au hN m2;refine⟨p,q,m,ep,?_,eq,m1,m2⟩;obtain⟨o1,o2⟩:=t.one s hs;obtain⟨b1,b2⟩:=t.bg p (dr s);unfold Lf at o1;unfold Rt at o2;rw[<-ep] at b1 b2;rw[o2] at b1;rw[o1] at b2;obtain⟨z,hz,uS⟩:∃z∈arms (ae cG) (p.1,p.2,1),ai z (dr s)=true:=by
  apply fV;intro hn;have e:Ga.AS (ae cG) (p.1,p.2,1) (fun z=>ai z (dr s))=Ga.AS (ae cG) (p.1,p.2,1) (fun _=>false):=vo (tT _) fun z hz=>by
   cases w:ai z (dr s)
   ·rfl
   ·exact absurd ⟨z,hz,w⟩ hn
  have e2:bH (ae cG) (p.1,p.2,1) (dr s)=Ga.bg (ae cG) (p.1,p.2,1) (dr s)+Ga.AS (ae cG) (p.1,p.2,1) (fun z=>ai z (dr s)):=rfl
  rw[e,Ca] at e2;omega
 obtain⟨c1,c2⟩:=DZ (es:=ae cG) (n:=((p.1,p.2,1):N3)) uS;obtain⟨n',gf,hd⟩:=D4 hN hp (inn:=inn) ⟨hz,by rw[c1,b1];exact i0,by rw[c2,b2];exact i1⟩
 obtain⟨_,_,hn'⟩:=eF hN gf.pc;obtain⟨x,rfl,Fk⟩:=t.Bj hN hn';rw[wR] at hd;have dx:ai (dr (p,x)) (dr s)=true:=jd hd uS;have ZZ:ai (dr (s.1,aD M x)) (dr s)=true:=by
  rw[ep,<-Pm.ai (yM t.pos p x) (D6 _)];exact dx
 obtain⟨g1,_,g3⟩:=t.run hs (x:=aD M x) m m1;have dq:ai (dr (p,q)) (dr s)=true:=by
  rw[eq,ep] at g1;rw[Pm.ai (yM t.pos p q) (D6 _)];exact g1
 rcases ray dq dx with w|w|w
 ·rw[w] at gf;exact gf
 ·
  exfalso;have wM:ai (dr (aD M x,(it nx m s).2)) (dr s)=true:=by
   rw[eq,<-Pm.ai (yM t.pos x q) (D6 _)];exact w
  have ho:on (dr (aD M x,s.1)) (dr (aD M x,(it nx m s).2))=true:=by
   have e:dr (aD M x,s.1)=neg (dr (s.1,aD M x)):=jT (s.1,aD M x);obtain⟨k1,k2⟩:=(bA _ _).1 (jd ZZ (jU wM));rw[e,jt,dI,lh];omega
  obtain⟨i,hi,oi⟩:=g3 ho;obtain⟨u,hu,hu1⟩:=t.fst Fk;have hm:=t.wd.iG hs i;rw[<-hu1] at oi;rcases t.wd.zk u hu _ hm oi with y|y
  ·rw[hu1] at y;cases i with
   |zero=>exact(vX ZZ).1 (gS.2 y.symm)
   |succ i=>
    rw[t.wd.ou hs i] at y;rw[y,m1 i (by omega)] at Fk
    cases Fk
  ·rw[hu1] at y;by_cases him:i=m
   ·subst him;exact(vX wM).1 (gS.2 y)
   ·rw[y,m1 i (by omega)] at Fk
    cases Fk
 ·
  exfalso;rcases gf.pc with k|k
  ·have hr:=(k.facts hN).2.2;refine k.gap hN hq ⟨kQ hr ?_ ?_,kQ hr ?_ ?_⟩<;>rw[wR,wR]
   ·exact((bA _ _).1 (jd dx (jU dq))).1
   ·exact((bA _ _).1 (jd dx (jU dq))).2
   ·exact((bA _ _).1 (jd dx (jU w))).1
   ·exact((bA _ _).1 (jd dx (jU w))).2
  ·have hr:=(k.facts hN).2.2;have e1:dr (x,p)=neg (dr (p,x)):=jT (p,x);have e2:dr (x,q)=neg (dr (q,x)):=jT (q,x);have e3:dr (q,p)=neg (dr (p,q)):=jT (p,q);refine k.gap hN hq ⟨kQ hr ?_ ?_,kQ hr ?_ ?_⟩<;>rw[wR,wR,e1]
   ·rw[e2,dI,dP];have:=((bA _ _).1 (jd dx (jU w))).1;omega
   ·rw[e2,lh,ju];have:=((bA _ _).1 (jd dx (jU w))).2;omega
   ·rw[e3,dI,dP];have:=((bA _ _).1 (jd dx (jU dq))).1;omega
   ·rw[e3,lh,ju];have:=((bA _ _).1 (jd dx (jU dq))).2;omega
end
theorem Z0:∀{l:List Nd},(∀n∈l,n.2.2=1)->aa l=1
 |[],_=>rfl
 |n::l,h=>by
  unfold aa;rw[h n (by simp),Z0 fun m hm=>h m (aT _ hm)]
  rfl
theorem akM(p:Pt):aD 1 p=p:=by unfold aD;exact bX (by simp) (by simp)
theorem map_inj{M:Int}(hM:0<M):∀{a b:List Pt},a.map (aD M)=b.map (aD M)->a=b
 |[],[],_=>rfl
 |[],_::_,h=>by simp at h
 |_::_,[],h=>by simp at h
 |x::a,y::b,h=>by
  rw[eI,eI] at h;injection h with h1 h2;rw[wG hM h1,map_inj hM h2]
theorem Rs.find{S:List Sg}{nx:Sg->Sg}{RL:List (List Sg)}(r:Rs S nx RL)(h:Wd S nx){R:List Sg}(k:LR S nx R):R∈RL:=by
 obtain⟨a,_,ha,_⟩:=jI k.ring.ne;have ma:=qj ha;obtain⟨R2,h2,m2⟩:=r.ring (k.ring.mem a ma);rw[k.eq h (r.lr R2 h2) ma m2];exact h2
section
variable{M:Int}{S:List Sg}{nx:Sg->Sg}{RL:List (List Sg)}{cG:List (List Pt)}{l':List Nd}{r':Int}{iM:List PB}
theorem Two.mul(t:Two M S nx RL cG)(hN:bC (ae cG) l'):aa l'=1:=Z0 fun n hn=>by
 obtain⟨p,rfl,_⟩:=t.Bj hN hn;rfl
theorem Two.pm(t:Two M S nx RL cG)(hN:bC (ae cG) l')(p:Pt):PM (aa l') (p.1,p.2,1)=p:=by rw[Bi,t.mul hN,akM]
theorem Two.tB(t:Two M S nx RL cG)(h':SX cG l' r' iM){s:Sg}:s∈sS (aa l') iM↔Sd (ae cG) l' (takes r') (s.1.1,s.1.2,1) (s.2.1,s.2.2,1):=by
 rw[SX.tB h'];constructor
 ·rintro⟨a,b,hs,rfl⟩;obtain⟨_,ha,hb⟩:=eF h'.nl hs.pc;obtain⟨p,rfl,_⟩:=t.Bj h'.nl ha;obtain⟨q,rfl,_⟩:=t.Bj h'.nl hb;rw[t.pm h'.nl,t.pm h'.nl];exact hs
 ·intro hs;exact⟨_,_,hs,by rw[t.pm h'.nl,t.pm h'.nl]⟩
theorem Two.cs(t:Two M S nx RL cG)(h':SX cG l' r' iM)(hB':BD iM)(i1:takes r' 1=true)(i0:takes r' 0=false):Cs M (Vp RL) S nx (sS (aa l') iM) (iA (aa l') iM):=by
 refine⟨t.pos,t.wd,SX.wd h' hB',fun s hs hv u hu e=>(t.rs.only t.wd hs hv).1 u hu e,fun s hs hv=>(t.rs.only t.wd hs hv).2.1,fun s hs hv=>?_,fun s' hs'=>?_⟩
 ·obtain⟨p,q,m,e1,gf,e2,m1,m2⟩:=t.side h'.nl i1 i0 hs hv;exact⟨(p,q),(t.tB h').2 gf,m,e1.symm,e2.symm,m1,m2⟩
 ·have gf:=(t.tB h').1 hs';obtain⟨_,ha,hb⟩:=eF h'.nl gf.pc;obtain⟨p,ep,Fm⟩:=t.Bj h'.nl ha;have ep':p=s'.1:=by
   injection ep with q1 q2;injection q2 with q2 _;exact bX q1.symm q2.symm
  subst ep';obtain⟨k1,k2⟩:=gf.leave h'.nl;rw[wR] at k1 k2;obtain⟨b1,b2⟩:=t.bg s'.1 (dr (s'.1,s'.2));rw[b1] at k1;rw[b2] at k2;rcases t.jump Fm (D:=dr (s'.1,s'.2)) (fun q=>by rw[q,k2] at k1;cases k1) with⟨e,he,e1,hd,_⟩|⟨e,he,e1,hd,_,q0⟩
  ·obtain⟨p2,q2,m,f1,akO,f2,m1,m2⟩:=t.side h'.nl i1 i0 he (by rw[e1];exact Fm)
   have ep2:p2=s'.1:=wG t.pos (f1.symm.trans e1);subst ep2;obtain⟨g1,_,_⟩:=t.run he (x:=(0,0)) m m1;have dq:ai (dr (s'.1,q2)) (dr e)=true:=by
    rw[f2,f1] at g1;rw[Pm.ai (yM t.pos s'.1 q2) (D6 _)];exact g1
   have eq:=vY h'.nl gf.pc akO.pc (by rw[wR,wR];exact jU (jd dq hd))
   have eq':s'.2=q2:=by
    injection eq with q1 q3;injection q3 with q3 _;exact bX q1 q3
   refine⟨e,he,by rw[e1];exact Fm,m,e1.symm,?_,m1,m2⟩
   rw[eq'];exact f2.symm
  ·rw[q0,i0] at k2;cases k2
theorem Cs.lf{V:Pt->Bool}{S':List Sg}{nx':Sg->Sg}(c:Cs M V S nx S' nx'){co:Sg->Sg}(hc:uR M V S nx S' co){a:Sg}{T:List Sg}(k:LR S nx (a::T))(va:V a.1=true){s:Sg}(hs:s∈S)(vs:V s.1=true):Lf (co a::cg V co T) (co s)=Lf (a::T) s:=by
 obtain⟨_,m,ks⟩:=hc s hs vs;have hO:OK M ((co s).1.1,(co s).1.2,1):=⟨by show(0:Int)<1;decide,⟨M,by simp⟩⟩
 obtain⟨_,b2⟩:=Nr c.pos hO (co a::cg V co T) (ks.dir c hs).1.symm;have e1:lK M (co a::cg V co T)=gp V a.1 T a.1:=c.gpR hc k.ring va;have e2:PM M ((co s).1.1,(co s).1.2,1)=s.1:=by rw[Bi M (co s).1];exact ks.1
 rw[e1,e2,(Zz (k.ring.path rfl) (fun s hs=>c.wd.ne s (k.ring.mem s hs)) (c.ZC k.ring) s.1 (dr s)).2] at b2
 exact b2.symm
theorem J2{R:List Sg}(h:R≠[]):∃a T,R=a::T:=by
 cases R with
 |nil=>exact absurd rfl h
 |cons a T=>exact⟨a,T,rfl⟩
theorem Two.back(t:Two M S nx RL cG)(h':SX cG l' r' iM)(hB':BD iM)(i1:takes r' 1=true)(i0:takes r' 0=false){co:Sg->Sg}(hc:uR M (Vp RL) S nx (sS (aa l') iM) co){R':List Sg}(k:LR (sS (aa l') iM) (iA (aa l') iM) R'):∃a T,a::T∈RL/\R'=co a::cg (Vp RL) co T:=by
 have c:=t.cs h' hB' i1 i0;obtain⟨a',T',rfl⟩:=J2 k.ring.ne;obtain⟨s,hs,vs,m,ks⟩:=c.ZB a' (k.ring.mem a' (by simp))
 obtain⟨R,hR,hsR⟩:=t.rs.ring hs;obtain⟨a,T,rfl⟩:=J2 (t.rs.lr R hR).ring.ne;have va:=t.rs.head t.wd hR;obtain⟨k',_⟩:=c.ring hc (t.rs.lr _ hR) va;refine⟨a,T,hR,?_⟩;obtain⟨_,m2,ks2⟩:=hc s hs vs;have e:co s=a':=ks2.uniq c ks;have e2:co a::cg (Vp RL) co T=cg (Vp RL) co (a::T):=by unfold cg;rw[oc (by simp[va])];rfl
 have hm:a'∈co a::cg (Vp RL) co T:=by rw[e2];exact Po.2 ⟨s,hsR,vs,e⟩
 exact k.eq c.wd' k' (by simp) hm
theorem Two.canon(t:Two M S nx RL cG)(h':SX cG l' r' iM)(hB':BD iM)(i1:takes r' 1=true)(i0:takes r' 0=false){l:List Nd}(hM:M=aa l){F:List NP}(cF:Canon S nx l F)(hw:∀p∈F,(∀n∈p.1,n.2.2=1)/\∀g∈p.2,∀n∈g,n.2.2=1):Canon (sS (aa l') iM) (iA (aa l') iM) l' F:=by
 have c:=t.cs h' hB' i1 i0;obtain⟨co,hc⟩:=c.cho;have hW':=c.wd';have hN:=h'.nl;subst hM;have Fb:∀n:Nd,n.2.2=1->n=((n.1,n.2.1).1,(n.1,n.2.1).2,1):=fun n hn=>bX rfl (bX rfl hn)
 have pm1:∀{g:List Nd},(∀n∈g,n.2.2=1)->g.map (PM (aa l))=(g.map (PM (aa l'))).map (aD (aa l)):=fun{g} hg=>by
  rw[fL];refine rB fun n hn=>?_
  show PM (aa l) n=aD (aa l) (PM (aa l') n);rw[Fb n (hg n hn),Bi,t.pm hN]
 have nodes:∀{g:List Nd}{R:List Sg},(∀n∈g,n.2.2=1)->LR S nx R->g.map (PM (aa l))=aY R->∀n∈g,n∈l':=fun{g R} hg hR e n hn=>by
  have hv:Vp RL (PM (aa l) n)=true:=JZ (t.rs.find t.wd hR) (by rw[<-e];exact aN.2 ⟨n,hn,rfl⟩)
  obtain⟨p,ep,hp⟩:=t.Au hN hv;rw[Fb n (hg n hn),Bi] at ep;have:=wG t.pos ep;rw[Fb n (hg n hn),this];exact hp
 have coarse:∀{a:Sg}{T:List Sg},LR S nx (a::T)->Vp RL a.1=true:=fun{a T} k=>t.rs.head t.wd (t.rs.find t.wd k)
 have J3:∀{g:List Nd}{a:Sg}{T:List Sg},(∀n∈g,n.2.2=1)->LR S nx (a::T)->(g.map (PM (aa l))=aY (a::T)↔g.map (PM (aa l'))=aY (co a::cg (Vp RL) co T)):=fun{g a T} hg k=>by
  rw[pm1 hg,<-(c.aY hc k (coarse k)).1];exact⟨fun e=>map_inj t.pos e,fun e=>by rw[e]⟩
 have Z3:=SX.canon h' hB';refine⟨fun p hp=>?_,fun p hp=>?_,fun R' hR' hs=>?_,fun H' hH' hs=>?_,cF.s1,cF.s2⟩
 ·obtain⟨R,r1,_,r3,r4⟩:=cF.c1 p hp;refine⟨nodes (hw p hp).1 r1 r3,fun g hg=>?_⟩
  obtain⟨H,h1,_,h3,_⟩:=r4 g hg;exact nodes ((hw p hp).2 g hg) h1 h3
 ·obtain⟨R,r1,r2,r3,r4⟩:=cF.c1 p hp;obtain⟨a,T,rfl⟩:=J2 r1.ring.ne;obtain⟨kR,_⟩:=c.ring hc r1 (coarse r1);refine⟨_,kR,(c.aY hc r1 (coarse r1)).2.2 r2,(J3 (hw p hp).1 r1).1 r3,fun g hg=>?_⟩
  obtain⟨H,h1,h2,h3,h4⟩:=r4 g hg;obtain⟨b,U,rfl⟩:=J2 h1.ring.ne;obtain⟨kH,_⟩:=c.ring hc h1 (coarse h1);have nH:¬shl (co b::cg (Vp RL) co U):=fun q=>h2 ((c.aY hc h1 (coarse h1)).2.1 q)
  refine⟨_,kH,nH,(J3 ((hw p hp).2 g hg) h1).1 h3,?_⟩;obtain⟨p',hp',g',hg',eg⟩:=Z3.c3 _ kH nH;obtain⟨R1',s1,s2,s3,s4⟩:=Z3.c1 p' hp';obtain⟨H1',t1,t2,t3,t4⟩:=s4 g' hg';have eH:H1'=co b::cg (Vp RL) co U:=t1.GG hW' kH (t3.symm.trans eg);rw[eH] at t4;obtain⟨a1,T1,dL,rfl⟩:=t.back h' hB' i1 i0 hc s1;have Bk:=t.rs.lr _ dL;have bS:=h1.ring.mem b (by simp)
  have aS:=r1.ring.mem a (by simp)
  have Z4:=h4 a (by simp) b (by simp)
  have Z5:=t4 (co a1) (by simp) (co b) (by simp)
  by_cases hne:co a1::cg (Vp RL) co T1=co a::cg (Vp RL) co T
  ·rw[hne] at t4;exact t4
  ·exfalso;have Ld:co a≠co a1:=fun e=>hne (s1.ring.eq hW' kR.ring (by rw[List.head?_cons,List.head?_cons,e]))
   obtain⟨x,z,hx,hz⟩:=jI kR.ring.ne;obtain rfl:co a=x:=gA hx;obtain⟨x1,z1,hx1,hz1⟩:=jI s1.ring.ne;obtain rfl:co a1=x1:=gA hx1;obtain⟨M1,dm⟩:=kR.rg hW' hx hz;obtain⟨M2,zJ⟩:=s1.rg hW' hx1 hz1;refine dm.asym hW' zJ Ld ?_ ?_
   ·rw[c.lf hc Bk (coarse Bk) aS (coarse r1),Z4 _ (Bk.cl t.wd).1 (Bk.cl t.wd).2,<-c.lf hc Bk (coarse Bk) bS (coarse h1),<-Z5 _ (s1.cl hW').1 (s1.cl hW').2];exact(s1.val hW' hx1).1 s2
   ·rw[Z5 _ (kR.cl hW').1 (kR.cl hW').2,c.lf hc r1 (coarse r1) bS (coarse h1),<-Z4 _ (r1.cl t.wd).1 (r1.cl t.wd).2];exact(r1.val t.wd rfl).1 r2
 ·obtain⟨a,T,hR,rfl⟩:=t.back h' hB' i1 i0 hc hR';have k:=t.rs.lr _ hR;obtain⟨p,hp,e⟩:=cF.c2 _ k ((c.aY hc k (coarse k)).2.1 hs);exact⟨p,hp,(J3 (hw p hp).1 k).1 e⟩
 ·obtain⟨a,T,hR,rfl⟩:=t.back h' hB' i1 i0 hc hH';have k:=t.rs.lr _ hR;obtain⟨p,hp,g,hg,e⟩:=cF.c3 _ k (fun q=>hs ((c.aY hc k (coarse k)).2.2 q))
  exact⟨p,hp,g,hg,(J3 ((hw p hp).2 g hg) k).1 e⟩
theorem Two.none(t:Two M S nx RL cG)(h':SX cG l' 45 iM):iM=[]:=by
 cases e:iM with
 |nil=>rfl
 |cons x X=>
  exfalso;have gf:=h'.mem x (by rw[e];simp)
  obtain⟨_,ha,hb⟩:=eF h'.nl gf.pc;obtain⟨p,ep,Fm⟩:=t.Bj h'.nl ha;obtain⟨k1,k2⟩:=gf.leave h'.nl;rw[ep] at k1 k2;obtain⟨b1,b2⟩:=t.bg p (wv (p.1,p.2,1) x.t);rw[b1] at k1;rw[b2] at k2;rcases t.jump Fm (D:=wv (p.1,p.2,1) x.t) (fun q=>by rw[q,k2] at k1;cases k1) with⟨_,_,_,_,_,q⟩|⟨_,_,_,_,_,q⟩
  ·rw[q] at k2;revert k2;decide
  ·rw[q] at k2;revert k2;decide
end
section
variable{rg:List (List Pt)}{l:List Nd}{r:Int}{Xs:List PB}
theorem SX.two(h:SX rg l r Xs)(hB:BD Xs)(h0:takes r 0=false)(hw:∀p∈fin Xs,(∀n∈p.1,n.2.2=1)/\∀g∈p.2,∀n∈g,n.2.2=1):∃RL,Two (aa l) (sS (aa l) Xs) (iA (aa l) Xs) RL ((o9 (fin Xs)).map (·.map fun n=>(n.1,n.2.1))):=by
 obtain⟨RL,r1,r2⟩:=SX.rsF h hB;refine⟨RL,(bC.ok h.nl).1,SX.wd h hB,r1,fun s hs=>SX.once h hB h0 hs,?_⟩
 have e:((o9 (fin Xs)).map (·.map fun n:Nd=>(n.1,n.2.1))).map (·.map (aD (aa l)))=(o9 (fin Xs)).map (·.map (PM (aa l))):=by
  rw[fL];refine rB fun g hg=>?_
  show(g.map fun n:Nd=>(n.1,n.2.1)).map (aD (aa l))=g.map (PM (aa l))
  rw[fL];refine rB fun n hn=>?_
  have h1:n.2.2=1:=by
   obtain⟨p,hp,zR⟩:=nu.1 hg;rcases aP.1 zR with q|q
   ·rw[q] at hn;exact(hw p hp).1 n hn
   ·exact(hw p hp).2 g q n hn
  have h2:n=(n.1,n.2.1,1):=bX rfl (bX rfl h1);show aD (aa l) (n.1,n.2.1)=PM (aa l) n;rw[h2];exact(Bi _ (n.1,n.2.1)).symm
 rw[e];exact r2
end
end Go.Proofs.YtkjhhooecopolaaGreatDoor.Gb

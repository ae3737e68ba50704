import Derived.Test.YtkjhhooecopolaaGreatDoorSz10
set_option maxRecDepth 100000
set_option maxHeartbeats 4000000
namespace Go.Proofs.YtkjhhooecopolaaGreatDoor
open Tryz
open Value renaming int->az,complex->aA,float->aB,agg->aC,bool->aD,string->aF,slice->aG,pointer->aH,tuple->aI
open IntKind renaming i64->aJ
open FloatKind renaming f64->aK
open Ending renaming returned->aL
open Go renaming World->aM,Value->aN,floatOfInt->aO
section
open Go.RowKit
def jP:List Ge.Qt->List Ge.Qt->Int
 |p::a,q::b=>if Ge.pc p q=0 then jP a b else Ge.pc p q
 |a,b=>(a.length:Int)-(b.length:Int)
theorem acJ(a b:List Ge.Qt)(v u:aN)(w:aM)(hR:nK w v a)(hS:nK w u b)(ha:∀q∈a,fY q)(hb:∀q∈b,fY q)(lJ:a.length<=20000000402)(hlb:b.length<=20000000402):
  ak 51 #[v,u] w λe w'=>e=aL (az aJ (jP a b))/\aj w w':=by
 obtain⟨so,cap,rfl⟩:=zz hR;obtain⟨to,xR,rfl⟩:=zz hS;have HR:Hid (nK w (aG so a.length cap) a):=hR;have HS:Hid (nK w (aG to b.length xR) b):=hS;have HQ:Hid ((∀q∈a,fY q)/\∀q∈b,fY q):=⟨ha,hb⟩;clear hR hS ha hb
 go_enter func51,ntmps51
 go_wp2_with fail
 go_loopg [5] a.length (λg iv wr=>∃i:Nat,i+g=a.length/\i<=b.length/\iv=az aJ i/\Hid (aj w wr/\jP a b=jP (a.drop i) (b.drop i)))
 case atStart=>exact⟨0,aa,aa,rfl,Below.refl _ _,rfl⟩
 case round=>
  obtain⟨i,hg,hib,rfl,HI⟩:=hrel;by_cases hlt:i<a.length/\i<b.length
  .obtain⟨h1,h2⟩:=hlt;obtain⟨p,hp⟩:∃p,a[i]?=some p:=⟨_,bo h1⟩;obtain⟨q,hq⟩:∃q,b[i]?=some q:=⟨_,bo h2⟩;obtain⟨X,rfl,hX,x0,x1,x2,x3⟩:=zA HR.out hp;obtain⟨Y,rfl,hY,y0,y1,y2,y3⟩:=zA HS.out hq;have HE:Hid (jP a b=if Ge.pc p q=0 then jP (a.drop (i+1)) (b.drop (i+1)) else Ge.pc p q):=by
    show _=_;rw[HI.out.2,rK h1,rK h2,(cG.1 hp).2,(cG.1 hq).2];rfl
   have hc:=λ(o:Nat)(h:X<w.heap.size)=>HI.out.1.cell (p:=⟨X,o,none⟩) h
   have hd:=λ(o:Nat)(h:Y<w.heap.size)=>HI.out.1.cell (p:=⟨Y,o,none⟩) h
   replace x0:=(hc _ hX).trans x0
   replace x1:=(hc _ hX).trans x1
   replace x2:=(hc _ hX).trans x2
   replace x3:=(hc _ hX).trans x3
   replace y0:=(hd _ hY).trans y0
   replace y1:=(hd _ hY).trans y1
   replace y2:=(hd _ hY).trans y2
   replace y3:=(hd _ hY).trans y3
   have HP:Hid (∀w1,ak 47 #[aC (qA p),aC (qA q)] w1 λe w'=>e=aL (az aJ (Ge.pc p q))/\aj w1 w'):=λw1=>QZ p q w1 (HQ.out.1 p (bA hp)) (HQ.out.2 q (bA hq))
   have m1:(i:Int)<(a.length:Int):=aa
   have m2:(i:Int)<(b.length:Int):=aa
   have pD:Hid (aj w wr):=HI.out.1;clear hc hd hp hq HI
   go_wp2_with fail
   go_region_held3 (λw'=>w'.cell? ⟨X,i*4,none⟩=some (az aJ p.1.1)/\w'.cell? ⟨X,i*4+1,none⟩=some (az aJ p.1.2)/\w'.cell? ⟨X,i*4+2,none⟩=some (az aJ p.2.1)/\w'.cell? ⟨X,i*4+3,none⟩=some (az aJ p.2.2)/\w'.cell? ⟨Y,i*4,none⟩=some (az aJ q.1.1)/\w'.cell? ⟨Y,i*4+1,none⟩=some (az aJ q.1.2)/\w'.cell? ⟨Y,i*4+2,none⟩=some (az aJ q.2.1)/\w'.cell? ⟨Y,i*4+3,none⟩=some (az aJ q.2.2)) (go_keep) (first
    |(go_at_call 47;refine(HP.out _).mono ?_;rintro e w7 ⟨rfl,bu⟩;have hk:=λ(b o:Nat)(h:b<wr.heap.size)=>(bu.cell (p:=⟨b,o,none⟩) h);have hs:=pD.out.size;replace x0:=(hk X _ aa).trans x0;replace x1:=(hk X _ aa).trans x1;replace x2:=(hk X _ aa).trans x2;replace x3:=(hk X _ aa).trans x3;replace y0:=(hk Y _ aa).trans y0;replace y1:=(hk Y _ aa).trans y1;replace y2:=(hk Y _ aa).trans y2;replace y3:=(hk Y _ aa).trans y3;have pF:Hid (aj w w7):=pD.out.drew.trans (bu.mono pD.out.drew.size);clear hk hs bu))
   obtain⟨z,hz⟩:∃z,z=Ge.pc p q:=⟨_,rfl⟩;have jQ:=HE.out;rw[<-hz] at jQ⊢;by_cases h0:z=0
   .subst h0;have ir:Hid (jP a b=jP (a.drop (i+1)) (b.drop (i+1))):=by rw[jQ];rfl
    clear jQ HE hz
    go_wp2_with fail
    go_roundg (a.length-(i+1))
    case measure=>omega
    case rel=>exact⟨i+1,aa,aa,aZ _ aa,pF.out,ir.out⟩
   .have ir:Hid (jP a b=z):=by rw[jQ,aP h0];rfl
    have hzb:(z != 0)=true:=by simp[h0]
    clear jQ HE hz h0
    go_wp2_with fail
    go_ret
    exact⟨by rw[ir.out];rfl,pF.out⟩
  .have hf:jP a b=(a.length:Int)-(b.length:Int):=by
    rw[HI.out.2];rcases nW i a.length with z|z
    .rw[show b.drop i=[] from AR aa]
     have e:(i:Int)=b.length:=aa
     cases hd:a.drop i with
     |nil=>have:=aZ List.length hd;simp at this;omega
     |cons p r=>have:=aZ List.length hd;simp only[rJ] at this;simp only[jP,ib];omega
    .rw[show a.drop i=[] from AR z]
     simp only[jP,ib,rJ];omega
   have HF:Hid (jP a b=(a.length:Int)-(b.length:Int)):=hf;have hwr:IntKind.i64.wrap ((a.length:Int)-(b.length:Int))=(a.length:Int)-(b.length:Int):=by rw[IntKind.wrap_i64];omega
   have HB:=HI.out.1;clear hf HI;by_cases z:i<a.length
   .have m1:(i:Int)<(a.length:Int):=aa
    have m2:¬(i:Int)<(b.length:Int):=aa
    clear hlt
    go_wp2_with fail
    go_ret
    exact⟨by rw[HF.out];rfl,HB⟩
   .have m1:¬(i:Int)<(a.length:Int):=aa
    clear hlt
    go_wp2_with fail
    go_ret
    exact⟨by rw[HF.out];rfl,HB⟩
end
section
open Ge
def pG(a b:Qt):Qt:=if 0<pc a b then b else a
def pH(a b:Qt):Qt:=if 0<pc a b then a else b
structure E4(a b c d:Qt):Prop where
 x:¬(lS a b c*lS a b d<0/\lS c d a*lS c d b<0)
 y:lS a b c=0->lS a b d=0->pc (pH a b) (pG c d)<=0\/pc (pH c d) (pG a b)<=0
structure Rk(g:List Qt)(sh:Bool):Prop where
 len:3<=g.length
 trn:∀(i:Nat)(a b c:Qt),g[(i+g.length-1)%g.length]?=some a->g[i]?=some b->g[(i+1)%g.length]?=some c->lS a b c≠0/\(i=0->(0<lS a b c↔sh=true))
 dst:∀(i k:Nat)(a b:Qt),k<i->g[k]?=some a->g[i]?=some b->pc a b≠0/\(k=0->pc a b<=0)
def dH{α:Type}:List α->List (α×α)
 |[]=>[]
 |a::r=>(a::r).zip (r++[a])
theorem Np{α β:Type}(f:α->β):∀g:List α,dH (g.map f)=(dH g).map λe=>(f e.1,f e.2)
 |[]=>rfl
 |a::r=>by
  show((a::r).map f).zip (r.map f++[f a])=_;rw[show r.map f++[f a]=(r++[a]).map f by simp,List.zip_map]
  rfl
theorem TJ{α:Type}{g:List α}{e:α×α}(h:e∈dH g):e.1∈g/\e.2∈g:=by
 cases g with
 |nil=>simp[dH] at h
 |cons a r=>
  obtain⟨x,y⟩:=e;have:=List.of_mem_zip (show(x,y)∈(a::r).zip (r++[a]) from h)
  refine⟨this.1,?_⟩;rcases dF.1 this.2 with q|q
  .exact bV _ q
  .rw[dB.1 q];simp
theorem TM{α:Type}{R:α->α->Prop}{L:List α}(h:L.Pairwise R){i j:Nat}(hij:i<j){a b:α}(ha:L[i]?=some a)(hb:L[j]?=some b):R a b:=by
 obtain⟨h1,e1⟩:=cG.1 ha;obtain⟨h2,e2⟩:=cG.1 hb;have:=lW.1 h i j h1 h2 hij;rw[e1,e2] at this;exact this
structure Io(ps:List (List (List Qt))):Prop where
 ring:∀p∈ps,∀(k:Nat)(g:List Qt),p[k]?=some g->Rk g (decide (k=0))
 hole:∀p∈ps,∀(k:Nat)(h g:List Qt),p[k+1]?=some h->p[k+2]?=some g->jP h g<0
 pol:∀(i:Nat)(p q:List (List Qt)),ps[i]?=some p->ps[i+1]?=some q->∀g h,p[0]?=some g->q[0]?=some h->jP g h<0
 ap:(ps.flatMap λp=>p.flatMap dH).Pairwise λe f=>E4 f.1 f.2 e.1 e.2
end
section
open Go.RowKit
variable{A r l:List Pl.Tk}{pb tb cap b base T B:Nat}{w w' w4 w5:aM}{v:aN}
theorem anD(s:ByteArray)(i:Nat)(w:aM)(hi:s.size<=i)(_hi2:i<=20000000400)(_hs:s.size<=20000000400):
  ak 57 #[aF s,az aJ i] w λe w'=>e=aL (aI #[aC (ub ⟨101,[],0,i⟩),az aJ i])/\aj w w':=by
 go_enter func57,ntmps57
 go_wp2
 exact bodyPost_ret (v:=aI #[aC #[az .u8 101,aF ⟨#[]⟩,az aJ 0,az aJ i],az aJ i]) (by simp[results,results57,go_sem]) rfl ⟨rfl,aw _ _⟩
theorem anE(s:ByteArray)(i:Nat)(w:aM)(hi:i<s.size)(hs:s.size<=20000000400)(hc:s[i].toNat=40\/s[i].toNat=41\/s[i].toNat=44\/s[i].toNat=47):
  ak 57 #[aF s,az aJ i] w λe w'=>e=aL (aI #[aC #[az .u8 s[i].toNat,aF (s.extract i (i+1)),az aJ 0,az aJ i],az aJ ((i+1:Nat):Int)])/\aj w w':=by
 have key:∀a b c d:Bool,((s[i].toNat:Int) == 40)=a->((s[i].toNat:Int) == 41)=b->((s[i].toNat:Int) == 44)=c->((s[i].toNat:Int) == 47)=d->(a||b||c||d)=true->
   ak 57 #[aF s,az aJ i] w λe w'=>e=aL (aI #[aC #[az .u8 s[i].toNat,aF (s.extract i (i+1)),az aJ 0,az aJ i],az aJ ((i+1:Nat):Int)])/\aj w w':=by
  intro a b c d ha hb hc' hd hor;clear hc;cases a
  .cases b
   .cases c
    .cases d
     .cases hor
     .go_enter func57,ntmps57
      go_wp2
      exact bodyPost_ret (v:=aI #[aC #[az .u8 s[i].toNat,aF (s.extract i (i+1)),az aJ 0,az aJ i],az aJ ((i+1:Nat):Int)]) (by simp[results,results57,go_sem]) rfl ⟨rfl,aw _ _⟩
    .go_enter func57,ntmps57
     go_wp2
     exact bodyPost_ret (v:=aI #[aC #[az .u8 s[i].toNat,aF (s.extract i (i+1)),az aJ 0,az aJ i],az aJ ((i+1:Nat):Int)]) (by simp[results,results57,go_sem]) rfl ⟨rfl,aw _ _⟩
   .go_enter func57,ntmps57
    go_wp2
    exact bodyPost_ret (v:=aI #[aC #[az .u8 s[i].toNat,aF (s.extract i (i+1)),az aJ 0,az aJ i],az aJ ((i+1:Nat):Int)]) (by simp[results,results57,go_sem]) rfl ⟨rfl,aw _ _⟩
  .go_enter func57,ntmps57
   go_wp2
   exact bodyPost_ret (v:=aI #[aC #[az .u8 s[i].toNat,aF (s.extract i (i+1)),az aJ 0,az aJ i],az aJ ((i+1:Nat):Int)]) (by simp[results,results57,go_sem]) rfl ⟨rfl,aw _ _⟩
 refine key _ _ _ _ rfl rfl rfl rfl ?_;simp;omega
theorem anG(s:ByteArray)(i k:Nat)(w:aM)(hi:i<s.size)(hs:s.size<=20000000400)(hl:Pl.isLet s[i]=true)(hk:k=i+((s.data.toList.drop i).takeWhile Pl.isLet).length):
  ak 57 #[aF s,az aJ i] w λe w'=>e=aL (aI #[aC #[az .u8 119,aF (s.extract i k),az aJ 0,az aJ i],az aJ k])/\aj w w':=by
 obtain⟨q1,q2,q3,q4⟩:=Q6 (aS hl);have hk1:i<=k/\k<=s.size:=by
  have:=(rI Pl.isLet (l:=s.data.toList.drop i)).length_le;simp at this;omega
 have HK:Hid (k=i+((s.data.toList.drop i).takeWhile Pl.isLet).length):=hk;clear hk
 go_enter func57,ntmps57
 go_wp2_with (go_at_call 85;refine(DX _ _).mono ?_;rintro e w' ⟨rfl,rfl⟩)
 go_loop [1] (λt=>∃j:Nat,i<=j/\j<=s.size/\t=az aJ j/\Hid (j+((s.data.toList.drop j).takeWhile Pl.isLet).length=k)) (λt=>s.size-(intOf t).toNat)
 case atStart=>exact⟨i,aY _,aa,rfl,HK.out.symm⟩
 case round=>
  obtain⟨j,hij,hj,rfl,HE⟩:=hrel;by_cases hlt:j<s.size
  .by_cases hp:Pl.isLet s[j]=true
   .have HS:Hid (j+1+((s.data.toList.drop (j+1)).takeWhile Pl.isLet).length=k):=by
     have h1:=Qu Pl.isLet s.data.toList j (by simpa using hlt) hp
     have h2:=HE.out;show _=_;omega
    clear HE
    go_wp2_with (go_at_call 85;refine(DX _ _).mono ?_;rintro e w' ⟨rfl,rfl⟩)
    go_round
    case rel=>exact⟨j+1,aa,aa,ai,HS⟩
    case measure=>simp[intOf];omega
   .have hp':Pl.isLet s[j]=false:=by simpa using hp
    have hjk:j=k:=by
     have h1:=Qv Pl.isLet s.data.toList j (by simpa using hlt) hp'
     have h2:=HE.out;omega
    subst hjk;clear HE hp HK
    go_wp2_with (go_at_call 85;refine(DX _ _).mono ?_;rintro e w' ⟨rfl,rfl⟩)
    exact bodyPost_ret (v:=aI #[aC #[az .u8 119,aF (s.extract i j),az aJ 0,az aJ i],az aJ j]) (by simp[results,results57,go_sem]) rfl ⟨rfl,aw _ _⟩
  .have hjk:j=k:=by
    have h2:=HE.out;rw[Ay (by simp;omega:s.data.toList.length<=j)] at h2
    simpa using h2
   subst hjk;clear HE HK
   go_wp2_with (go_at_call 85;refine(DX _ _).mono ?_;rintro e w' ⟨rfl,rfl⟩)
   exact bodyPost_ret (v:=aI #[aC #[az .u8 119,aF (s.extract i j),az aJ 0,az aJ i],az aJ j]) (by simp[results,results57,go_sem]) rfl ⟨rfl,aw _ _⟩
def acK(neg:Bool)(s:ByteArray)(i d:Nat)(w:aM)(e:Ending)(w':aM):Prop:=
 aj w w'/\
 (((eG s d=[]\/9<(eG s d).length)/\∃j:Nat,j<=20000001000/\e=aL (aI #[aC #[az .u8 120,aF ⟨#[]⟩,az aJ 0,az aJ i],az aJ j]))\/
  (¬(eG s d=[]\/9<(eG s d).length)/\e=aL (aI #[aC #[az .u8 110,aF ⟨#[]⟩,az aJ (if neg then -(Pl.fH (eG s d):Int) else(Pl.fH (eG s d):Int)),az aJ i],az aJ ((d+(eG s d).length:Nat):Int)])))
theorem anH(s:ByteArray)(i:Nat)(w:aM)(hi:i<s.size)(hs:s.size<=20000000400)(hl:Pl.isLet s[i]=false)
  (hq:¬(s[i].toNat=40\/s[i].toNat=41\/s[i].toNat=44\/s[i].toNat=47))(hm:((s[i].toNat:Int) == 45)=false):
  ak 57 #[aF s,az aJ i] w (acK false s i i w):=by
 obtain⟨q1,q2,q3,q4⟩:=Q6 (aR (aR (aR hq)));clear hq;have hD:(eG s i).length<=s.size-i:=by
  have:=(rI Pl.bZ (l:=s.data.toList.drop i)).length_le;simp at this;unfold eG;omega
 have HG:Hid (∀j(hj:j<(eG s i).length),∃h:i+j<s.size,(eG s i)[j]=s[i+j]/\Pl.bZ s[i+j]=true):=λj hj=>Yx s i j hj
 have HS:Hid (∀h:i+(eG s i).length<s.size,Pl.bZ s[i+(eG s i).length]=false):=Yy s i;have HL:Hid (∀j,Pl.fH ((eG s i).take j)<10 ^ j):=λj=>Q7 j _ (Gw _)
 generalize Dv:eG s i=D at*;have uF:Hid (eG s i=D):=Dv;clear Dv
 go_enter func57,ntmps57
 go_wp2_with (go_at_call 85;refine(DX _ _).mono ?_;rintro e w' ⟨rfl,rfl⟩)
 go_loop [1,8] (λt n=>∃j:Nat,j<=D.length/\j<=10/\t=az aJ ((i+j:Nat):Int)/\n=az aJ ((Pl.fH (D.take j):Nat):Int)) (λt _=>20000001000-(intOf t).toNat)
 case atStart=>exact⟨0,aa,aa,ai,rfl⟩
 case round=>
  obtain⟨j,hj,anI,rfl,rfl⟩:=hrel;by_cases hgo:j<D.length/\j<10
  .obtain⟨h1,h2⟩:=hgo;obtain⟨hlt,hg,hp⟩:=HG.out j h1;have hv:Pl.fH (D.take j)<10000000000:=bW (HL.out j) (Px aa (by omega:j<=10))
   have HE:Hid (Pl.fH (D.take (j+1))=10*Pl.fH (D.take j)+(s[i+j].toNat-48)):=by
    show _=_;rw[qD h1,Le,hg]
   have hd:=ia hp;generalize Pl.fH (D.take j)=V at*;clear hg HG HS HL uF
   go_wp2_with (go_at_call 86;refine(DY _ _).mono ?_;rintro e w' ⟨rfl,rfl⟩)
   exact⟨⟨j+1,aa,aa,aZ (Value.int aJ) aa,aZ (Value.int aJ) (by rw[HE.out];omega)⟩,by simp[intOf];omega⟩
  .by_cases Ct:j=D.length
   .have hst:∀h:i+j<s.size,Pl.bZ s[i+j]=false:=by
     intro h;subst Ct;exact HS.out h
    have HV:Hid (D.take j=D):=by
     show _=_;rw[qE aa]
    have hv:Pl.fH (D.take j)<10000000000:=bW (HL.out j) (Px aa (by omega:j<=10))
    have Cu:Hid (Pl.fH (D.take j)=Pl.fH D):=aZ Pl.fH HV.out;have xU:Hid (j=D.length):=Ct;generalize Pl.fH (D.take j)=V at*;clear HG HS HL Ct HV hj;have hcs:(j<=0/\((i:Int)+(j:Int) == (i:Int))=true)\/(¬j=0/\j<=9/\((i:Int)+(j:Int) == (i:Int))=false)\/(¬j<=9/\((i:Int)+(j:Int) == (i:Int))=false):=by simp;omega
    by_cases hlt:i+j<s.size
    all_goals
     try have hp:=hst hlt
     clear hst;rcases hcs with⟨h0,ha⟩|⟨Cv,IQ,ha⟩|⟨IQ,ha⟩
    all_goals first
     |(exfalso;omega)
     |(go_wp2_with (go_at_call 86;refine(DY _ _).mono ?_;rintro e w' ⟨rfl,rfl⟩);first |(refine bodyPost_ret (v:=aI #[aC #[az .u8 120,aF ⟨#[]⟩,az aJ 0,az aJ i],az aJ ((i+j:Nat):Int)]) (by simp[results,results57,go_sem]) rfl ?_;refine⟨aw _ _,aS ⟨?_,i+j,aa,rfl⟩⟩;rw[uF.out];first |exact aR (by have:=xU.out;omega)|exact aS (atA (by have:=xU.out;omega)))|(refine bodyPost_ret (v:=aI #[aC #[az .u8 110,aF ⟨#[]⟩,az aJ ((V:Int)),az aJ i],az aJ ((i+j:Nat):Int)]) (by simp[results,results57,go_sem]) rfl ?_;refine⟨aw _ _,aR ⟨?_,?_⟩⟩;(rw[uF.out];have IU:=xU.out;rintro(h|h);(rw[h] at IU;simp at IU;omega);omega);rw[uF.out,<-xU.out,<-Cu.out];simp))
   .obtain⟨hlt,hg,hp⟩:=HG.out j aa
    have IQ:¬j<=9:=aa
    have ha:((i:Int)+(j:Int) == (i:Int))=false:=by simp;omega
    generalize Pl.fH (D.take j)=V at*;clear HG HS HL hg
    go_wp2_with (go_at_call 86;refine(DY _ _).mono ?_;rintro e w' ⟨rfl,rfl⟩)
    refine bodyPost_ret (v:=aI #[aC #[az .u8 120,aF ⟨#[]⟩,az aJ 0,az aJ i],az aJ ((i+j:Nat):Int)]) (by simp[results,results57,go_sem]) rfl ?_
    refine⟨aw _ _,aS ⟨?_,i+j,aa,rfl⟩⟩
    rw[uF.out];exact aR aa
theorem anJ(s:ByteArray)(i:Nat)(w:aM)(hi:i<s.size)(hs:s.size<=20000000400)(hl:Pl.isLet s[i]=false)
  (hq:¬(s[i].toNat=40\/s[i].toNat=41\/s[i].toNat=44\/s[i].toNat=47))(hm:((s[i].toNat:Int) == 45)=true):
  ak 57 #[aF s,az aJ i] w (acK true s i (i+1) w):=by
 obtain⟨q1,q2,q3,q4⟩:=Q6 (aR (aR (aR hq)));clear hq;have hD:(eG s (i+1)).length<=s.size-(i+1):=by
  have:=(rI Pl.bZ (l:=s.data.toList.drop (i+1))).length_le;simp at this;unfold eG;omega
 have HG:Hid (∀j(hj:j<(eG s (i+1)).length),∃h:(i+1)+j<s.size,(eG s (i+1))[j]=s[(i+1)+j]/\Pl.bZ s[(i+1)+j]=true):=λj hj=>Yx s (i+1) j hj
 have HS:Hid (∀h:(i+1)+(eG s (i+1)).length<s.size,Pl.bZ s[(i+1)+(eG s (i+1)).length]=false):=Yy s (i+1);have HL:Hid (∀j,Pl.fH ((eG s (i+1)).take j)<10 ^ j):=λj=>Q7 j _ (Gw _)
 generalize Dv:eG s (i+1)=D at*;have uF:Hid (eG s (i+1)=D):=Dv;clear Dv
 go_enter func57,ntmps57
 go_wp2_with (go_at_call 85;refine(DX _ _).mono ?_;rintro e w' ⟨rfl,rfl⟩)
 go_loop [1,8] (λt n=>∃j:Nat,j<=D.length/\j<=10/\t=az aJ (((i+1)+j:Nat):Int)/\n=az aJ ((Pl.fH (D.take j):Nat):Int)) (λt _=>20000001000-(intOf t).toNat)
 case atStart=>exact⟨0,aa,aa,ai,rfl⟩
 case round=>
  obtain⟨j,hj,anI,rfl,rfl⟩:=hrel;by_cases hgo:j<D.length/\j<10
  .obtain⟨h1,h2⟩:=hgo;obtain⟨hlt,hg,hp⟩:=HG.out j h1;have hv:Pl.fH (D.take j)<10000000000:=bW (HL.out j) (Px aa (by omega:j<=10))
   have HE:Hid (Pl.fH (D.take (j+1))=10*Pl.fH (D.take j)+(s[(i+1)+j].toNat-48)):=by
    show _=_;rw[qD h1,Le,hg]
   have hd:=ia hp;generalize Pl.fH (D.take j)=V at*;clear hg HG HS HL uF
   go_wp2_with (go_at_call 86;refine(DY _ _).mono ?_;rintro e w' ⟨rfl,rfl⟩)
   exact⟨⟨j+1,aa,aa,aZ (Value.int aJ) aa,aZ (Value.int aJ) (by rw[HE.out];omega)⟩,by simp[intOf];omega⟩
  .by_cases Ct:j=D.length
   .have hst:∀h:(i+1)+j<s.size,Pl.bZ s[(i+1)+j]=false:=by
     intro h;subst Ct;exact HS.out h
    have HV:Hid (D.take j=D):=by
     show _=_;rw[qE aa]
    have hv:Pl.fH (D.take j)<10000000000:=bW (HL.out j) (Px aa (by omega:j<=10))
    have Cu:Hid (Pl.fH (D.take j)=Pl.fH D):=aZ Pl.fH HV.out;have xU:Hid (j=D.length):=Ct;generalize Pl.fH (D.take j)=V at*;clear HG HS HL Ct HV hj;have hcs:(j<=0/\(((i:Int)+1)+(j:Int) == ((i:Int)+1))=true)\/(¬j=0/\j<=9/\(((i:Int)+1)+(j:Int) == ((i:Int)+1))=false)\/(¬j<=9/\(((i:Int)+1)+(j:Int) == ((i:Int)+1))=false):=by simp;omega
    by_cases hlt:(i+1)+j<s.size
    all_goals
     try have hp:=hst hlt
     clear hst;rcases hcs with⟨h0,ha⟩|⟨Cv,IQ,ha⟩|⟨IQ,ha⟩
    all_goals first
     |(exfalso;omega)
     |(go_wp2_with (go_at_call 86;refine(DY _ _).mono ?_;rintro e w' ⟨rfl,rfl⟩);first |(refine bodyPost_ret (v:=aI #[aC #[az .u8 120,aF ⟨#[]⟩,az aJ 0,az aJ i],az aJ (((i+1)+j:Nat):Int)]) (by simp[results,results57,go_sem]) rfl ?_;refine⟨aw _ _,aS ⟨?_,(i+1)+j,aa,rfl⟩⟩;rw[uF.out];first |exact aR (by have:=xU.out;omega)|exact aS (atA (by have:=xU.out;omega)))|(refine bodyPost_ret (v:=aI #[aC #[az .u8 110,aF ⟨#[]⟩,az aJ (-(V:Int)),az aJ i],az aJ (((i+1)+j:Nat):Int)]) (by simp[results,results57,go_sem]) rfl ?_;refine⟨aw _ _,aR ⟨?_,?_⟩⟩;(rw[uF.out];have IU:=xU.out;rintro(h|h);(rw[h] at IU;simp at IU;omega);omega);rw[uF.out,<-xU.out,<-Cu.out];simp))
   .obtain⟨hlt,hg,hp⟩:=HG.out j aa
    have IQ:¬j<=9:=aa
    have ha:(((i:Int)+1)+(j:Int) == ((i:Int)+1))=false:=by simp;omega
    generalize Pl.fH (D.take j)=V at*;clear HG HS HL hg
    go_wp2_with (go_at_call 86;refine(DY _ _).mono ?_;rintro e w' ⟨rfl,rfl⟩)
    refine bodyPost_ret (v:=aI #[aC #[az .u8 120,aF ⟨#[]⟩,az aJ 0,az aJ i],az aJ (((i+1)+j:Nat):Int)]) (by simp[results,results57,go_sem]) rfl ?_
    refine⟨aw _ _,aS ⟨?_,(i+1)+j,aa,rfl⟩⟩
    rw[uF.out];exact aR aa
def anK(t:Pl.Tk)(w:aM)(e:Ending)(w':aM):Prop:=
 aj w w'/\∃j:Nat,e=aL (aI #[aC (ub t),az aJ j])/\j<=20000001000/\(¬(t.k=101\/t.k=120)->j=t.pl+t.raw.length)
theorem anL(s:ByteArray)(i:Nat)(w:aM)(hi:i<=s.size)(hs:s.size<=20000000400):
  ak 57 #[aF s,az aJ i] w (anK (Pl.dI (s.data.toList.drop i) i) w):=by
 by_cases hlt:i<s.size
 .rw[Pl.drop_cons s i hlt];by_cases sP:s[i].toNat=40\/s[i].toNat=41\/s[i].toNat=44\/s[i].toNat=47
  .refine(anE s i w hlt hs sP).mono ?_;rintro e w' ⟨rfl,hb⟩;have e1:Pl.dI (s[i]::s.data.toList.drop (i+1)) i=⟨s[i].toNat,[s[i]],0,i⟩:=by simp only[Pl.dI];rw[aV sP]
   rw[e1];refine⟨hb,i+1,?_,aa,λ_=>rfl⟩
   have e2:s.extract i (i+1)=⟨#[s[i]]⟩:=by
    rw[Pl.extract_eq,J5,Pl.drop_cons s i hlt];rfl
   rw[e2];have e3:Pl.rS ⟨s[i].toNat,[s[i]],0,i⟩=[s[i]]:=by unfold Pl.rS;rw[aP (by show ¬s[i].toNat=110;omega)]
   unfold ub;rw[e3]
  .by_cases hl:Pl.isLet s[i]=true
   .refine(anG s i _ w hlt hs hl rfl).mono ?_;rintro e w' ⟨rfl,hb⟩;have e1:Pl.dI (s[i]::s.data.toList.drop (i+1)) i=⟨119,(s[i]::s.data.toList.drop (i+1)).takeWhile Pl.isLet,0,i⟩:=by simp only[Pl.dI];rw[aP sP,aV hl]
    rw[e1,<-Pl.drop_cons s i hlt];have hle:=(rI Pl.isLet (l:=s.data.toList.drop i)).length_le;simp at hle;refine⟨hb,i+((s.data.toList.drop i).takeWhile Pl.isLet).length,?_,aa,λ_=>rfl⟩
    rw[Pl.extract_eq,J5,Pl.take_takeWhile];rfl
   .have hl':Pl.isLet s[i]=false:=by simpa using hl
    have pB:∀d,(eG s d).length<=s.size-d:=λd=>by
     have:=(rI Pl.bZ (l:=s.data.toList.drop d)).length_le;simp at this;unfold eG;omega
    by_cases hm:s[i].toNat=45
    .refine(anJ s i w hlt hs hl' sP (by simp;omega)).mono ?_
     rintro e w' ⟨hb,h⟩;have e1:Pl.dI (s[i]::s.data.toList.drop (i+1)) i=(if eG s (i+1)=[]\/9<(eG s (i+1)).length then⟨120,[],0,i⟩ else⟨110,s[i]::eG s (i+1), -(Pl.fH (eG s (i+1)):Int),i⟩):=by
      simp only[Pl.dI];rw[aP sP,aP hl,aV hm];rfl
     rw[e1];rcases h with⟨h1,j,hj,rfl⟩|⟨h1,rfl⟩
     .rw[aV h1];exact⟨hb,j,rfl,hj,λh=>absurd (aR rfl) h⟩
     .rw[aP h1];have:=pB (i+1);exact⟨hb,_,rfl,aa,λ_=>by simp only[dG];omega⟩
    .refine(anH s i w hlt hs hl' sP (by simp;omega)).mono ?_
     rintro e w' ⟨hb,h⟩;have e1:Pl.dI (s[i]::s.data.toList.drop (i+1)) i=(if eG s i=[]\/9<(eG s i).length then⟨120,[],0,i⟩ else⟨110,eG s i,(Pl.fH (eG s i):Int),i⟩):=by
      simp only[Pl.dI];rw[aP sP,aP hl,aP hm];unfold eG;rw[Pl.drop_cons s i hlt]
     rw[e1];rcases h with⟨h1,j,hj,rfl⟩|⟨h1,rfl⟩
     .rw[aV h1];exact⟨hb,j,rfl,hj,λh=>absurd (aR rfl) h⟩
     .rw[aP h1];have:=pB i;exact⟨hb,_,rfl,aa,λ_=>rfl⟩
 .have he:i=s.size:=aa
  refine(anD s i w aa aa hs).mono ?_
  rintro e w' ⟨rfl,hb⟩;have e1:Pl.dI (s.data.toList.drop i) i=⟨101,[],0,i⟩:=by
   rw[Ay (by simp;omega)];rfl
  rw[e1];exact⟨hb,i,rfl,aa,λh=>absurd (aS rfl) h⟩
theorem acL(s:ByteArray)(w:aM)(hs:s.size<=20000000400):
  ak 28 #[aF s] w λe w'=>∃v,e=aL v/\w'.ownsRow w.heap.size 61 4 v (Pl.all s.data.toList).length (qT (Pl.all s.data.toList))/\aj w w':=by
 obtain⟨i0,hi,hz0,hz1,hz2⟩:=info_parts ajd
 go_enter func28,ntmps28
 go_wp2_with fail
 go_loopg [3,4,5] (s.size+2) (λg lv iv kv wr=>∃(c:List Pl.Tk)(i:Nat)(k:Nat),iv=az aJ i/\kv=az .u8 k/\c.length<=20000000402/\i<=20000001000/\Hid (Q8 s w c lv wr)/\
   Hid ((k≠101/\k≠120/\i<=s.size/\s.size<g+i/\1<=g/\c.length<=i/\∃f,s.size<f+i/\c++Pl.iF s.data.toList f i=Pl.all s.data.toList)\/((k=101\/k=120)/\c=Pl.all s.data.toList)))
 case atStart=>
  refine⟨[],0,32,rfl,rfl,af,aa,⟨World.ownsRow_nil _ _ _ _,Below.refl _ _,aY _⟩,aS ⟨aa,aa,aa,aa,aa,af,s.size+1,aa,?_⟩⟩
  unfold Pl.all;simp
 case round=>
  obtain⟨c,i,k,rfl,rfl,hc,hi1,HT,HR⟩:=hrel;rcases HR.out with⟨hk1,hk2,hi2,hg,hg1,hci,f,hf,iq⟩|⟨hk,rfl⟩
  .obtain⟨hown,aX,hsz⟩:=HT.out;have q1:((k:Int) != 101)=true:=by rw[Az];omega
   have q2:((k:Int) != 120)=true:=by rw[Az];omega
   obtain⟨f1,rfl⟩:∃f1,f=f1+1:=⟨f-1,aa⟩
   have hbl:=Pl.Qq s.data.toList i (by simpa using hi2)
   have hnx:=Pl.Gu s.data.toList i (by simpa using hi2)
   have tV:Pl.bl s.data.toList i<=s.size:=by simpa using hbl.2
   have kJ:(Pl.tk s.data.toList i).pl+(Pl.tk s.data.toList i).raw.length<=s.size:=by simpa using hnx.1
   have HC:Hid (∀w1,ak 57 #[aF s,az aJ (Pl.bl s.data.toList i)] w1 λe w'=>aj w1 w'/\∃j:Nat,e=aL (aI #[aC #[az .u8 (Pl.tk s.data.toList i).k,aF ⟨(Pl.rS (Pl.tk s.data.toList i)).toArray⟩,az aJ (Pl.tk s.data.toList i).n,az aJ (Pl.tk s.data.toList i).pl],az aJ j])/\j<=20000001000/\(¬((Pl.tk s.data.toList i).k=101\/(Pl.tk s.data.toList i).k=120)->j=(Pl.tk s.data.toList i).pl+(Pl.tk s.data.toList i).raw.length)):=λw1=>anL s _ w1 tV hs
   have HA:Hid (c++Pl.iF s.data.toList (f1+1) i=Pl.all s.data.toList):=iq;have HJ:Hid (Pl.bl s.data.toList i=i+((s.data.toList.drop i).takeWhile Pl.iZ).length):=rfl;have HN:Hid ((Pl.tk s.data.toList i).pl+(Pl.tk s.data.toList i).raw.length<=s.size/\((Pl.tk s.data.toList i).k=101\/(Pl.tk s.data.toList i).k=120\/i+1<=(Pl.tk s.data.toList i).pl+(Pl.tk s.data.toList i).raw.length)):=⟨kJ,hnx.2⟩;have oK:Hid (Pl.iF s.data.toList (f1+1) i=if(Pl.tk s.data.toList i).k=101\/(Pl.tk s.data.toList i).k=120 then[Pl.tk s.data.toList i] else Pl.tk s.data.toList i::Pl.iF s.data.toList f1 ((Pl.tk s.data.toList i).pl+(Pl.tk s.data.toList i).raw.length)):=by
    show _=_;rw[Pl.iF]
   clear iq hnx hbl kJ;generalize Pl.bl s.data.toList i=b at*;generalize Pl.tk s.data.toList i=t at*;generalize hrs:(Pl.rS t)=rs at*;have HRS:Hid (Pl.rS t=rs):=hrs;clear hrs;clear HR HT
   go_wp2_with fail
   obtain⟨wo,rfl⟩:∃wo:aM,wo=wr:=⟨_,rfl⟩
   go_loop [4] (λt=>∃j:Nat,j<=s.size/\t=az aJ j/\Hid (j+((s.data.toList.drop j).takeWhile Pl.iZ).length=b)) (λt=>s.size-(intOf t).toNat)
   case atStart=>exact⟨i,hi2,rfl,HJ.out.symm⟩
   case round=>
    obtain⟨j,hj,rfl,HE⟩:=hrel;have acN:(¬∃h:j<s.size,Pl.iZ s[j]=true)->j=b:=by
     intro h;have h2:=HE.out;by_cases hlt:j<s.size
     .have hp':Pl.iZ s[j]=false:=by
       cases hp:Pl.iZ s[j]
       .rfl
       .exact absurd ⟨hlt,hp⟩ h
      have h1:=Qv Pl.iZ s.data.toList j (by simpa using hlt) hp'
      omega
     .rw[Ay (by simp;omega:s.data.toList.length<=j)] at h2
      simpa using h2
    have HST:Hid ((¬∃h:j<s.size,Pl.iZ s[j]=true)->j=b):=acN;clear acN;by_cases hgo:∃h:j<s.size,Pl.iZ s[j]=true
    .obtain⟨hlt,hp⟩:=hgo;have HS:Hid (j+1+((s.data.toList.drop (j+1)).takeWhile Pl.iZ).length=b):=by
      have h1:=Qu Pl.iZ s.data.toList j (by simpa using hlt) hp
      have h2:=HE.out;show _=_;omega
     have anM:((s[j].toNat:Int) == 32)=true:=by have:=ia hp;simp;omega
     clear HE HST hp
     go_wp2_with fail
     go_round
     case rel=>exact⟨j+1,aa,ai,HS⟩
     case measure=>simp[intOf];omega
    .have hjb:=HST.out hgo;subst hjb;clear HE HST;by_cases hlt:j<s.size
     .have anM:((s[j].toNat:Int) == 32)=false:=by
       have:¬Pl.iZ s[j]=true:=λh=>hgo ⟨hlt,h⟩
       unfold Pl.iZ at this;simp at this⊢;omega
      clear hgo
      go_wp2_with fail
      refine(HC.out _).mono ?_;rintro e w1 ⟨hb1,j1,rfl,TN,zV⟩;have dw:Hid (¬(t.k=101\/t.k=120)->j1=t.pl+t.raw.length):=zV;clear zV;have hown1:=bG hown (λk hk=>hb1.block k (bn hown k hk).2)
      have hs1:=hb1.size
      go_wp2_with (at_builtin;refine wpList_append_lies _ rfl (.tmp 32) (.tmp 34) 52 rfl w.heap.size 61 i0 _ 4 40 underlying52 hi hz0 hz1 hz2 rfl ah u3 c.length (qT c) rfl (bG hown1 (λk hk=>(Below.heap_alloc _ _ _ (by have:=(bn hown1 k hk).2;simp;omega)).trans (Below.heap_alloc _ _ _ (bn hown1 k hk).2))) ⟨w1.heap.size+1,0,none⟩ 1 1 [az .u8 t.k,aF ⟨rs.toArray⟩,az aJ t.n,az aJ t.pl] rfl rfl (World.news_of_block (cs:= #[az .u8 t.k,aF ⟨rs.toArray⟩,az aJ t.n,az aJ t.pl]) (t:=61) (fr:=(0,0)) (by have:=heap_alloc_new (w1.alloc (.cells #[az .u8 t.k,aF ⟨rs.toArray⟩,az aJ t.n,az aJ t.pl] 61)) (.cells #[az .u8 t.k,aF ⟨rs.toArray⟩,az aJ t.n,az aJ t.pl] 61);simpa using this)) (by simp[Value.oneCell']) ah (by unfold maxLen;omega) aa (by simp;omega) (w1.heap.size+2) af ?_;intro g cap w2 ho hgrow hat ik;have jJ:=(Lg hgrow (λe=>by have:=(bn hown1 _ e).2;omega)).1;have x0:=cL jJ)
      have hk2:=(Lg hgrow (λe=>by have:=(bn hown1 _ e).2;omega)).2
      have xV:Q8 s w (c++[t]) (aG (some ⟨g,0,none⟩) (c.length+1) cap) w2:=by
       refine⟨?_,?_,?_⟩
       .rw[Yz];simp only[bX,dG,ib,jH];rw[<-HRS.out] at ho;exact ho
       .exact(((aX.trans (hb1.mono hsz)).alloc aa _).alloc (by simp;omega) _).grown hgrow (by simp;omega) (λk hk=>(bn hown1 k hk).1)
       .have:=hgrow.size;simp at this;omega
      obtain⟨n1,n2⟩:=HN.out;have htk:=oK.out;have hap:=HA.out
      go_roundg (gk-1)
      case measure=>omega
      case rel=>
       refine⟨c++[t],j1,t.k,rfl,rfl,?_,TN,xV,?_⟩
       .simp;omega
       .by_cases hst:t.k=101\/t.k=120
        .refine aR ⟨hst,?_⟩;rw[htk,aV hst] at hap;exact hap
        .have hj:=dw.out hst;have hge:i+1<=t.pl+t.raw.length:=by
          rcases n2 with h|h|h
          .exact absurd (aS h) hst
          .exact absurd (aR h) hst
          .exact h
         rw[htk,aP hst] at hap;refine aS ⟨λh=>hst (aS h),λh=>hst (aR h),aa,aa,aa,by simp;omega,f1,aa,?_⟩
         rw[hj,fL];exact hap
     .clear hgo
      go_wp2_with fail
      refine(HC.out _).mono ?_;rintro e w1 ⟨hb1,j1,rfl,TN,zV⟩;have dw:Hid (¬(t.k=101\/t.k=120)->j1=t.pl+t.raw.length):=zV;clear zV;have hown1:=bG hown (λk hk=>hb1.block k (bn hown k hk).2)
      have hs1:=hb1.size
      go_wp2_with (at_builtin;refine wpList_append_lies _ rfl (.tmp 32) (.tmp 34) 52 rfl w.heap.size 61 i0 _ 4 40 underlying52 hi hz0 hz1 hz2 rfl ah u3 c.length (qT c) rfl (bG hown1 (λk hk=>(Below.heap_alloc _ _ _ (by have:=(bn hown1 k hk).2;simp;omega)).trans (Below.heap_alloc _ _ _ (bn hown1 k hk).2))) ⟨w1.heap.size+1,0,none⟩ 1 1 [az .u8 t.k,aF ⟨rs.toArray⟩,az aJ t.n,az aJ t.pl] rfl rfl (World.news_of_block (cs:= #[az .u8 t.k,aF ⟨rs.toArray⟩,az aJ t.n,az aJ t.pl]) (t:=61) (fr:=(0,0)) (by have:=heap_alloc_new (w1.alloc (.cells #[az .u8 t.k,aF ⟨rs.toArray⟩,az aJ t.n,az aJ t.pl] 61)) (.cells #[az .u8 t.k,aF ⟨rs.toArray⟩,az aJ t.n,az aJ t.pl] 61);simpa using this)) (by simp[Value.oneCell']) ah (by unfold maxLen;omega) aa (by simp;omega) (w1.heap.size+2) af ?_;intro g cap w2 ho hgrow hat ik;have jJ:=(Lg hgrow (λe=>by have:=(bn hown1 _ e).2;omega)).1;have x0:=cL jJ)
      have hk2:=(Lg hgrow (λe=>by have:=(bn hown1 _ e).2;omega)).2
      have xV:Q8 s w (c++[t]) (aG (some ⟨g,0,none⟩) (c.length+1) cap) w2:=by
       refine⟨?_,?_,?_⟩
       .rw[Yz];simp only[bX,dG,ib,jH];rw[<-HRS.out] at ho;exact ho
       .exact(((aX.trans (hb1.mono hsz)).alloc aa _).alloc (by simp;omega) _).grown hgrow (by simp;omega) (λk hk=>(bn hown1 k hk).1)
       .have:=hgrow.size;simp at this;omega
      obtain⟨n1,n2⟩:=HN.out;have htk:=oK.out;have hap:=HA.out
      go_roundg (gk-1)
      case measure=>omega
      case rel=>
       refine⟨c++[t],j1,t.k,rfl,rfl,?_,TN,xV,?_⟩
       .simp;omega
       .by_cases hst:t.k=101\/t.k=120
        .refine aR ⟨hst,?_⟩;rw[htk,aV hst] at hap;exact hap
        .have hj:=dw.out hst;have hge:i+1<=t.pl+t.raw.length:=by
          rcases n2 with h|h|h
          .exact absurd (aS h) hst
          .exact absurd (aR h) hst
          .exact h
         rw[htk,aP hst] at hap;refine aS ⟨λh=>hst (aS h),λh=>hst (aR h),aa,aa,aa,by simp;omega,f1,aa,?_⟩
         rw[hj,fL];exact hap
  .obtain⟨hown,aX,_⟩:=HT.out;rcases hk with rfl|rfl
   .clear HR HT
    go_wp2_with fail
    go_ret
    exact⟨_,rfl,hown,aX⟩
   .clear HR HT
    go_wp2_with fail
    go_ret
    exact⟨_,rfl,hown,aX⟩
def PX(pb tb cap:Nat)(A l:List Pl.Tk)(w:aM):Prop:=
 tb≠pb/\(∃cur,w.heap[tb]?=some (.cells cur 61 (0,0))/\∀(j:Nat) u,(qT A)[j]?=some u->cur[j]?=some u)/\
 ∃c,c++l=A/\w.heap[pb]?=some (.cells #[aG (some ⟨tb,0,none⟩) A.length cap,az aJ c.length,aD false,az aJ (-1)] 55 (0,0))
theorem PX.cells{t:Pl.Tk}(h:PX pb tb cap A (t::r) w):
  ∃c:List Pl.Tk,c++t::r=A/\w.heap[pb]?=some (.cells #[aG (some ⟨tb,0,none⟩) A.length cap,az aJ c.length,aD false,az aJ (-1)] 55 (0,0))/\
   w.cell? ⟨tb,c.length*4,none⟩=some (az .u8 t.k)/\w.cell? ⟨tb,c.length*4+1,none⟩=some (aF ⟨(Pl.rS t).toArray⟩)/\w.cell? ⟨tb,c.length*4+2,none⟩=some (az aJ t.n)/\w.cell? ⟨tb,c.length*4+3,none⟩=some (az aJ t.pl)/\
   c.length<A.length/\tb<w.heap.size:=by
 obtain⟨hne,⟨cur,fX,hrow⟩,c,hc,hb⟩:=h;have hg:A[c.length]?=some t:=by rw[<-hc];simp
 have hcell:∀j u,j<4->(ub t)[j]?=some u->w.cell? ⟨tb,c.length*4+j,none⟩=some u:=λj u hj hu=>by
  rw[cell_of fX];exact hrow _ _ (by rw[YI A c.length t hg j hj];exact hu)
 exact⟨c,hc,hb,by simpa using hcell 0 (az .u8 t.k) aa rfl,hcell 1 _ aa rfl,hcell 2 _ aa rfl,hcell 3 _ aa rfl,by rw[<-hc];simp,lt_of_heap fX⟩
theorem PX.mono(h:PX pb tb cap A l w)(hk:∀k,k<w.heap.size->w'.heap[k]?=w.heap[k]?):PX pb tb cap A l w':=by
 obtain⟨hne,⟨cur,fX,hrow⟩,c,hc,hb⟩:=h;exact⟨hne,⟨cur,(hk _ (lt_of_heap fX)).trans fX,hrow⟩,c,hc,(hk _ (lt_of_heap hb)).trans hb⟩
theorem PX.put{l':List Pl.Tk}(h:PX pb tb cap A l w)(c:List Pl.Tk)(hc:c++l'=A)
  (hk:∀k,k<w.heap.size->k≠pb->w'.heap[k]?=w.heap[k]?)(hb:w'.heap[pb]?=some (.cells #[aG (some ⟨tb,0,none⟩) A.length cap,az aJ c.length,aD false,az aJ (-1)] 55 (0,0))):PX pb tb cap A l' w':=by
 obtain⟨hne,⟨cur,fX,hrow⟩,_⟩:=h;exact⟨hne,⟨cur,(hk _ (lt_of_heap fX) hne).trans fX,hrow⟩,c,hc,hb⟩
theorem E5(pb tb cap:Nat)(A r:List Pl.Tk)(t:Pl.Tk)(w:aM)(k:Nat)(hP:PX pb tb cap A (t::r) w)(hl:A.length<=20000000402)(hk:t.k=k):
  ak 42 #[aH (some ⟨pb,0,none⟩),az .u8 k] w λe w'=>e=aL (aI #[])/\PX pb tb cap A r w'/\Fp pb w w':=by
 obtain⟨c,hc,hb,e0,e1,e2,e3,hcl,pI⟩:=hP.cells;have HC:Hid (c++t::r=A):=hc;have c0:=cL hb;have c1:=cK hb;have c2:=eN hb;have f1:=bK hb 1;rw[hk] at e0;clear hc hk;have hib:(c.length:Int)<(A.length:Int):=aa
 go_enter func42,ntmps42
 go_wp2_with fail
 go_quiet (fail)
 go_wp2_with fail
 go_end0
 refine⟨rfl,hP.put (c++[t]) (by rw[<-HC.out];simp) (λk hk hne=>dS hne _) ?_,((Fp.refl pb w).drewN nq).set 1 _⟩
 have q:=heap_set (w:=w.drewN nq) (o:=1) hb (az aJ ((c.length:Int)+1));simpa using q
theorem IW(pb tb cap:Nat)(A r:List Pl.Tk)(t:Pl.Tk)(w:aM)(k:Nat)(hP:PX pb tb cap A (t::r) w)(_hl:A.length<=20000000402):
  ak 44 #[aH (some ⟨pb,0,none⟩),az .u8 k] w λe w'=>e=aL (aD (decide (t.k=k)))/\∃n,w'=w.drewN n:=by
 obtain⟨c,hc,hb,e0,e1,e2,e3,hcl,pI⟩:=hP.cells;have HC:Hid (c++t::r=A):=hc;have c0:=cL hb;have c1:=cK hb;have c2:=eN hb;have c3:=kA hb;have f1:=bK hb 1;have f2:=bK hb 2;have f3:=bK hb 3;have hib:(c.length:Int)<(A.length:Int):=aa
 clear hc
 go_enter func44,ntmps44
 go_wp2_with fail
 go_quiet (fail)
 go_wp2_with fail
 go_ret
 refine⟨vg ?_,_,rfl⟩;rw[mP];simp;omega
theorem TP(pb tb cap:Nat)(A r:List Pl.Tk)(t:Pl.Tk)(w:aM)(q:ByteArray)(hP:PX pb tb cap A (t::r) w)(hl:A.length<=20000000402)(hk:t.k=119)(hq:(⟨t.raw.toArray⟩:ByteArray)=q):
  ak 29 #[aH (some ⟨pb,0,none⟩),aF q] w λe w'=>e=aL (aD true)/\PX pb tb cap A r w'/\Fp pb w w':=by
 obtain⟨c,hc,hb,e0,e1,e2,e3,hcl,pI⟩:=hP.cells;have HC:Hid (c++t::r=A):=hc;have c0:=cL hb;have c1:=cK hb;have c2:=eN hb;have c3:=kA hb;have f1:=bK hb 1;have f2:=bK hb 2;have f3:=bK hb 3;have hib:(c.length:Int)<(A.length:Int):=aa
 have hpb:pb<w.heap.size:=lt_of_heap hb;clear hc;have hrs:Pl.rS t=t.raw:=by unfold Pl.rS;rw[aP aa]
 rw[hrs,hq] at e1;rw[hk] at e0;clear hk hq hrs
 go_enter func29,ntmps29
 go_wp2_with fail
 go_quiet (fail)
 go_wp2_with fail
 go_ret
 refine⟨rfl,hP.put (c++[t]) (by rw[<-HC.out];simp) (λk hk hne=>dS hne _) ?_,((Fp.refl pb w).drewN nq).set 1 _⟩
 have q:=heap_set (w:=w.drewN nq) (o:=1) hb (az aJ ((c.length:Int)+1));simpa using q
theorem anN(pb tb cap:Nat)(A r:List Pl.Tk)(t:Pl.Tk)(w:aM)(q:ByteArray)(hP:PX pb tb cap A (t::r) w)(_hl:A.length<=20000000402)(hk:t.k≠119):
  ak 29 #[aH (some ⟨pb,0,none⟩),aF q] w λe w'=>e=aL (aD false)/\∃n,w'=w.drewN n:=by
 obtain⟨c,hc,hb,e0,e1,e2,e3,hcl,pI⟩:=hP.cells;have HC:Hid (c++t::r=A):=hc;have c0:=cL hb;have c1:=cK hb;have c2:=eN hb;have c3:=kA hb;have f1:=bK hb 1;have f2:=bK hb 2;have f3:=bK hb 3;have hib:(c.length:Int)<(A.length:Int):=aa
 have hpb:pb<w.heap.size:=lt_of_heap hb;clear hc;have hkb:((t.k:Int) == 119)=false:=by rw[tJ];omega
 clear hk
 go_enter func29,ntmps29
 go_wp2_with fail
 go_quiet (fail)
 go_wp2_with fail
 go_ret
 exact⟨rfl,_,rfl⟩
abbrev We(w:aM)(pb:Nat)(c:List Pl.Tk)(t:Pl.Tk):aM:=((w.setCell ⟨pb,1,none⟩ (az aJ ((c.length:Int)+1))).alloc (.cells #[az aJ 0,az aJ 0] 97)).alloc (.cells #[az .u8 110,aF ⟨(Pl.rS t).toArray⟩,az aJ t.n,az aJ t.pl] 61)
theorem acO(w:aM)(a b:Obj)(n:Nat)(h:w.heap.size=n):((w.alloc a).alloc b).heap[n]?=some a/\((w.alloc a).alloc b).heap[n+1]?=some b:=by
 subst h;refine⟨(Below.heap_alloc _ _ _ af).trans (heap_alloc_new w a),?_⟩
 have:=heap_alloc_new (w.alloc a) b;simpa using this
theorem Fp.ob(h:Fp pb w w'){k:Nat}{o:Obj}(hk:w.heap[k]?=some o)(hne:k≠pb):w'.heap[k]?=some o:=(h.block k (lt_of_heap hk) hne).trans hk
theorem Nq{p a:Addr}{u:aN}(h:w.cell? a=some u)(hn:p.block≠a.block):(w.setCell p v).cell? a=some u:=(World.cell?_setCell_far w p a v hn).trans h
theorem PX.keep(h:PX pb tb cap A l w)(h1:w'.heap[pb]?=w.heap[pb]?)(h2:w'.heap[tb]?=w.heap[tb]?):PX pb tb cap A l w':=by
 obtain⟨hne,⟨cur,fX,hrow⟩,c,hc,hb⟩:=h;exact⟨hne,⟨cur,h2.trans fX,hrow⟩,c,hc,h1.trans hb⟩
theorem Fp.Nr{a:aM}(h:Fp pb a w)(hb:a.heap.size<=b)(o:Nat)(v:aN):Fp pb a (w.setCell ⟨b,o,none⟩ v):=
 ⟨h.os,h.tape,h.output,by simp;exact h.size,λk hk hne=>(dS aa _).trans (h.block k hk hne)⟩
theorem anO(pb tb cap:Nat)(A r:List Pl.Tk)(t u:Pl.Tk)(w:aM)(hP:PX pb tb cap A (t::u::r) w)(hl:A.length<=20000000402)(hk:t.k=110)(hu:u.k≠47):
  ak 73 #[aH (some ⟨pb,0,none⟩)] w λe w'=>e=aL (aC #[az aJ t.n,az aJ 1])/\PX pb tb cap A (u::r) w'/\Fp pb w w':=by
 obtain⟨c,hc,hb,e0,e1,e2,e3,hcl,pI⟩:=hP.cells;have HC:Hid (c++t::u::r=A):=hc;have c0:=cL hb;have c1:=cK hb;have c2:=eN hb;have f1:=bK hb 1;have hib:(c.length:Int)<(A.length:Int):=aa
 have hpb:pb<w.heap.size:=lt_of_heap hb;clear hc;rw[hk] at e0;clear hk;have n0:=World.new_ne w _ c0;have n1:=World.new_ne w _ c1;have n2:=World.new_ne w _ e0;have n3:=World.new_ne w _ e1;have n4:=World.new_ne w _ e2;have n5:=World.new_ne w _ e3
 go_enter func73,ntmps73
 go_wp2_with fail
 go_region_held3 (λw'=>w'.cell? ⟨pb,0,none⟩=some (aG (some ⟨tb,0,none⟩) A.length cap)/\w'.cell? ⟨pb,1,none⟩=some (az aJ c.length)/\w'.cell? ⟨tb,c.length*4,none⟩=some (az .u8 110)/\w'.cell? ⟨tb,c.length*4+1,none⟩=some (aF ⟨(Pl.rS t).toArray⟩)/\w'.cell? ⟨tb,c.length*4+2,none⟩=some (az aJ t.n)/\w'.cell? ⟨tb,c.length*4+3,none⟩=some (az aJ t.pl)) (go_keep) (fail)
 go_wp2_with fail
 obtain⟨b0,b1⟩:=acO (w.setCell ⟨pb,1,none⟩ (az aJ ((c.length:Int)+1))) (.cells #[az aJ 0,az aJ 0] 97) (.cells #[az .u8 110,aF ⟨(Pl.rS t).toArray⟩,az aJ t.n,az aJ t.pl] 61) w.heap.size af
 have hF:Fp pb w (We w pb c t).drew:=((((Fp.refl pb w).set 1 _).alloc _).alloc _).drew;have lL:PX pb tb cap A (u::r) (We w pb c t).drew:=by
  refine hP.put (c++[t]) (by rw[<-HC.out];simp) hF.block ?_
  have q:=(Below.heap_alloc _ (.cells #[az .u8 110,aF ⟨(Pl.rS t).toArray⟩,az aJ t.n,az aJ t.pl] 61) pb (by simp;omega)).trans ((Below.heap_alloc _ (.cells #[az aJ 0,az aJ 0] 97) pb (by simp;exact hpb)).trans (heap_set (w:=w) (o:=1) hb (az aJ ((c.length:Int)+1))))
  simp only[bX,dG,ib];exact q
 have HF:Hid (Fp pb w (We w pb c t).drew):=hF
 change(We w pb c t).drew.heap[w.heap.size]?=_ at b0
 change(We w pb c t).drew.heap[w.heap.size+1]?=_ at b1
 have HT:Hid (pb<w.heap.size/\tb<w.heap.size):=⟨hpb,pI⟩;clear hF c0 c1 c2 f1 e0 e1 e2 e3 n0 n1 n2 n3 n4 n5 hb pI hcl hib;generalize(We w pb c t).drew=W at*;refine(IW pb tb cap A r u W 47 lL hl).mono ?_;rintro e w2 ⟨rfl,nn,rfl⟩;have kT:PX pb tb cap A (u::r) (W.drewN nn):=lL.mono λk hk=>rfl
 have uG:(W.drewN nn).heap[w.heap.size]?=some (.cells #[az aJ 0,az aJ 0] 97 (0,0)):=b0;have sW:(W.drewN nn).heap[w.heap.size+1]?=some (.cells #[az .u8 110,aF ⟨(Pl.rS t).toArray⟩,az aJ t.n,az aJ t.pl] 61 (0,0)):=b1;have Ns:Hid (Fp pb w (W.drewN nn)):=HF.out.drewN nn;have E6:Hid (PX pb tb cap A (u::r) (W.drewN nn)):=kT;clear b0 b1 lL kT HF hP;generalize W.drewN nn=W2 at*;have hd:decide (u.k=47)=false:=jU hu;rw[hd];have z0:=bK uG 0;have z1:=bK uG 1;have y0:=cL uG;have y1:=cK uG;have y2:=eN sW;clear hu hd sW
 go_wp2_with fail
 refine bodyPost_ret (v:=aC #[az aJ t.n,az aJ 1]) (by simp[results,results73,go_sem,y0,y1]) rfl ⟨rfl,E6.out.keep ?_ ?_,(Ns.out.Nr (aY _) 0 _).Nr (aY _) 1 _⟩
 .rw[dS (wV HT.out.1),dS (wV HT.out.1)]
 .rw[dS (wV HT.out.2),dS (wV HT.out.2)]
theorem anP(pb tb cap:Nat)(A r:List Pl.Tk)(t u d:Pl.Tk)(w:aM)(hP:PX pb tb cap A (t::u::d::r) w)(hl:A.length<=20000000402)(hk:t.k=110)(hu:u.k=47)(hd0:d.k=110)(hd2:2<=d.n)(hd3:d.n<=1000000000)(ht3: -1000000000<=t.n/\t.n<=1000000000)(iK:Ge.bO t.n d.n=(t.n,d.n)):
  ak 73 #[aH (some ⟨pb,0,none⟩)] w λe w'=>e=aL (aC #[az aJ t.n,az aJ d.n])/\PX pb tb cap A r w'/\Fp pb w w':=by
 obtain⟨c,hc,hb,e0,e1,e2,e3,hcl,pI⟩:=hP.cells;have HC:Hid (c++t::u::d::r=A):=hc;have c0:=cL hb;have c1:=cK hb;have c2:=eN hb;have f1:=bK hb 1;have hib:(c.length:Int)<(A.length:Int):=aa
 have hpb:pb<w.heap.size:=lt_of_heap hb;clear hc;rw[hk] at e0;clear hk;have n0:=World.new_ne w _ c0;have n1:=World.new_ne w _ c1;have n2:=World.new_ne w _ e0;have n3:=World.new_ne w _ e1;have n4:=World.new_ne w _ e2;have n5:=World.new_ne w _ e3
 go_enter func73,ntmps73
 go_wp2_with fail
 go_region_held3 (λw'=>w'.cell? ⟨pb,0,none⟩=some (aG (some ⟨tb,0,none⟩) A.length cap)/\w'.cell? ⟨pb,1,none⟩=some (az aJ c.length)/\w'.cell? ⟨tb,c.length*4,none⟩=some (az .u8 110)/\w'.cell? ⟨tb,c.length*4+1,none⟩=some (aF ⟨(Pl.rS t).toArray⟩)/\w'.cell? ⟨tb,c.length*4+2,none⟩=some (az aJ t.n)/\w'.cell? ⟨tb,c.length*4+3,none⟩=some (az aJ t.pl)) (go_keep) (fail)
 go_wp2_with fail
 obtain⟨b0,b1⟩:=acO (w.setCell ⟨pb,1,none⟩ (az aJ ((c.length:Int)+1))) (.cells #[az aJ 0,az aJ 0] 97) (.cells #[az .u8 110,aF ⟨(Pl.rS t).toArray⟩,az aJ t.n,az aJ t.pl] 61) w.heap.size af
 have hF:Fp pb w (We w pb c t).drew:=((((Fp.refl pb w).set 1 _).alloc _).alloc _).drew;have lL:PX pb tb cap A (u::d::r) (We w pb c t).drew:=by
  refine hP.put (c++[t]) (by rw[<-HC.out];simp) hF.block ?_
  have q:=(Below.heap_alloc _ (.cells #[az .u8 110,aF ⟨(Pl.rS t).toArray⟩,az aJ t.n,az aJ t.pl] 61) pb (by simp;omega)).trans ((Below.heap_alloc _ (.cells #[az aJ 0,az aJ 0] 97) pb (by simp;exact hpb)).trans (heap_set (w:=w) (o:=1) hb (az aJ ((c.length:Int)+1))))
  simp only[bX,dG,ib];exact q
 have HF:Hid (Fp pb w (We w pb c t).drew):=hF
 change(We w pb c t).drew.heap[w.heap.size]?=_ at b0
 change(We w pb c t).drew.heap[w.heap.size+1]?=_ at b1
 have HT:Hid (pb<w.heap.size/\tb<w.heap.size):=⟨hpb,pI⟩;clear hF c0 c1 c2 f1 e0 e1 e2 e3 n0 n1 n2 n3 n4 n5 hb pI hcl hib;generalize(We w pb c t).drew=W at*;refine(IW pb tb cap A (d::r) u W 47 lL hl).mono ?_;rintro e w2 ⟨rfl,nn,rfl⟩;have kT:PX pb tb cap A (u::d::r) (W.drewN nn):=lL.mono λk hk=>rfl
 have uG:(W.drewN nn).heap[w.heap.size]?=some (.cells #[az aJ 0,az aJ 0] 97 (0,0)):=b0;have sW:(W.drewN nn).heap[w.heap.size+1]?=some (.cells #[az .u8 110,aF ⟨(Pl.rS t).toArray⟩,az aJ t.n,az aJ t.pl] 61 (0,0)):=b1;have Ns:Hid (Fp pb w (W.drewN nn)):=HF.out.drewN nn;have E6:Hid (PX pb tb cap A (u::d::r) (W.drewN nn)):=kT;clear b0 b1 lL kT HF hP;generalize W.drewN nn=W2 at*;have hd:decide (u.k=47)=true:=iD hu;rw[hd];obtain⟨m,mb,mA,q0,q1,q2,q3⟩:∃m:Nat,W2.heap[pb]?=some (.cells #[aG (some ⟨tb,0,none⟩) A.length cap,az aJ m,aD false,az aJ (-1)] 55 (0,0))/\(m+1<A.length/\(∃c2,c2.length=m+2/\c2++r=A))/\W2.cell? ⟨tb,(m+1)*4,none⟩=some (az .u8 110)/\W2.cell? ⟨tb,(m+1)*4+1,none⟩=some (aF ⟨(Pl.rS d).toArray⟩)/\W2.cell? ⟨tb,(m+1)*4+2,none⟩=some (az aJ d.n)/\W2.cell? ⟨tb,(m+1)*4+3,none⟩=some (az aJ d.pl):=by
  obtain⟨hne,⟨cur,fX,hrow⟩,c',hc',hb'⟩:=E6.out;have hg:A[c'.length+1]?=some d:=by rw[<-hc'];simp
  have hcell:∀j u,j<4->(ub d)[j]?=some u->W2.cell? ⟨tb,(c'.length+1)*4+j,none⟩=some u:=λj u hj hu=>by
   rw[cell_of fX];exact hrow _ _ (by rw[YI A (c'.length+1) d hg j hj];exact hu)
  refine⟨c'.length,hb',⟨?_,c'++[u,d],af,by rw[<-hc'];simp⟩,by simpa[hd0] using hcell 0 (az .u8 d.k) aa rfl,hcell 1 _ aa rfl,hcell 2 _ aa rfl,hcell 3 _ aa rfl⟩
  rw[<-hc'];simp
 obtain⟨mA1,c2,hc2,hc3⟩:=mA;have q8:Hid (c2.length=m+2/\c2++r=A):=⟨hc2,hc3⟩;clear hc2 hc3;have z0:=bK uG 0;have z1:=bK uG 1;have y0:=cL uG;have y1:=cK uG;have y2:=eN sW;have p0:=cL mb;have p1:=cK mb;have p2:=eN mb;have g1:=bK mb 1;have g2:=bK mb 2;have hmA:(m:Int)+1<(A.length:Int):=aa
 have HW:Hid (w.heap.size+1<W2.heap.size/\W2.heap[w.heap.size+1]?=some (.cells #[az .u8 110,aF ⟨(Pl.rS t).toArray⟩,az aJ t.n,az aJ t.pl] 61 (0,0))/\W2.heap[w.heap.size]?=some (.cells #[az aJ 0,az aJ 0] 97 (0,0))/\W2.heap[pb]?=some (.cells #[aG (some ⟨tb,0,none⟩) A.length cap,az aJ m,aD false,az aJ (-1)] 55 (0,0))):=⟨lt_of_heap sW,sW,uG,mb⟩;have Nt:Hid (tb≠pb):=E6.out.1;have Cc:¬(tb=pb):=Nt.out;have n0:=World.new_ne W2 _ p0;have n1:=World.new_ne W2 _ q0;clear hu hd sW uG mb
 go_wp2_with fail
 have hm2:((m:Int)+1)=((m+1:Nat):Int):=aa
 rw[hm2] at hmA⊢;have s0:(W2.setCell ⟨pb,1,none⟩ (az aJ ((m+1:Nat):Int))).heap[pb]?=some (.cells #[aG (some ⟨tb,0,none⟩) A.length cap,az aJ ((m+1:Nat):Int),aD false,az aJ (-1)] 55 (0,0)):=heap_set (o:=1) HW.out.2.2.2 _;have sk:∀k,k≠pb->(W2.setCell ⟨pb,1,none⟩ (az aJ ((m+1:Nat):Int))).heap[k]?=W2.heap[k]?:=λk hk=>dS hk _
 have q0':(W2.setCell ⟨pb,1,none⟩ (az aJ ((m+1:Nat):Int))).cell? ⟨tb,(m+1)*4,none⟩=some (az .u8 110):=Nq q0 (λe=>Cc e.symm)
 have q1':(W2.setCell ⟨pb,1,none⟩ (az aJ ((m+1:Nat):Int))).cell? ⟨tb,(m+1)*4+1,none⟩=some (aF ⟨(Pl.rS d).toArray⟩):=Nq q1 (λe=>Cc e.symm)
 have q2':(W2.setCell ⟨pb,1,none⟩ (az aJ ((m+1:Nat):Int))).cell? ⟨tb,(m+1)*4+2,none⟩=some (az aJ d.n):=Nq q2 (λe=>Cc e.symm)
 have q3':(W2.setCell ⟨pb,1,none⟩ (az aJ ((m+1:Nat):Int))).cell? ⟨tb,(m+1)*4+3,none⟩=some (az aJ d.pl):=Nq q3 (λe=>Cc e.symm)
 have HF3:Hid (Fp pb w (W2.setCell ⟨pb,1,none⟩ (az aJ ((m+1:Nat):Int)))):=Ns.out.set 1 _;have HP3:Hid (PX pb tb cap A (d::r) (W2.setCell ⟨pb,1,none⟩ (az aJ ((m+1:Nat):Int)))):=by
  obtain⟨hl2,he2⟩:=q8.out;obtain⟨hne,⟨cur,fX,hrow⟩,c',hc',hb'⟩:=E6.out;have em:c'.length=m:=by
   have h1:=HW.out.2.2.2;rw[hb'] at h1;injection h1 with h1;injection h1 with h1 _ _;have h2:=aZ (λa:Array aN=>a[1]?) h1
   simp at h2;omega
  exact⟨hne,⟨cur,(sk tb hne).trans fX,hrow⟩,c'++[u],by rw[<-hc'];simp,by rw[s0];simp[em]⟩
 have b0:(W2.setCell ⟨pb,1,none⟩ (az aJ ((m+1:Nat):Int))).heap[w.heap.size]?=some (.cells #[az aJ 0,az aJ 0] 97 (0,0)):=(sk _ (nZ HT.out.1)).trans HW.out.2.2.1;have b1:(W2.setCell ⟨pb,1,none⟩ (az aJ ((m+1:Nat):Int))).heap[w.heap.size+1]?=some (.cells #[az .u8 110,aF ⟨(Pl.rS t).toArray⟩,az aJ t.n,az aJ t.pl] 61 (0,0)):=(sk _ (by have:=HT.out.1;omega)).trans HW.out.2.1
 clear sk q0 q1 q2 q3 z0 z1 y0 y1 y2 p0 p1 p2 g1 g2 n0 n1 HW Ns E6 hm2;generalize W2.setCell ⟨pb,1,none⟩ (az aJ ((m+1:Nat):Int))=W3 at*;have Nu:Hid (∃m2,m2=m+1):=⟨_,rfl⟩;generalize TQ:m+1=m2 at*;have p0:=cL s0;have p1:=cK s0;have p2:=eN s0;have g1:=bK s0 1;have g2:=bK s0 2;have y2:=eN b1;have n0:=World.new_ne W3 _ p0;have n1:=World.new_ne W3 _ p1;have n2:=World.new_ne W3 _ q0';have n3:=World.new_ne W3 _ q1';have n4:=World.new_ne W3 _ q2';have n5:=World.new_ne W3 _ q3';have n6:=World.new_ne W3 _ y2;have auP:decide (d.n<2)=false:=by simp;omega
 have HD:Hid (2<=d.n/\d.n<=1000000000/\(-1000000000<=t.n/\t.n<=1000000000)/\Ge.bO t.n d.n=(t.n,d.n)):=⟨hd2,hd3,ht3,iK⟩;have auQ:(m2:Int)<=20000000402:=aa
 clear hd2 hd3 ht3 iK hd0 TQ mA1 Nu
 go_region_held3 (λw'=>w'.cell? ⟨pb,0,none⟩=some (aG (some ⟨tb,0,none⟩) A.length cap)/\w'.cell? ⟨pb,1,none⟩=some (az aJ m2)/\w'.cell? ⟨tb,m2*4,none⟩=some (az .u8 110)/\w'.cell? ⟨tb,m2*4+1,none⟩=some (aF ⟨(Pl.rS d).toArray⟩)/\w'.cell? ⟨tb,m2*4+2,none⟩=some (az aJ d.n)/\w'.cell? ⟨tb,m2*4+3,none⟩=some (az aJ d.pl)) (go_keep) (fail)
 have k4:∀(k:Nat)(o:Obj),W3.heap[k]?=some o->(W3.alloc (.cells #[az .u8 110,aF ⟨(Pl.rS d).toArray⟩,az aJ d.n,az aJ d.pl] 61)).drew.heap[k]?=some o:=λk o h=>(Below.heap_alloc _ _ _ (lt_of_heap h)).trans h
 have t4:(W3.alloc (.cells #[az .u8 110,aF ⟨(Pl.rS d).toArray⟩,az aJ d.n,az aJ d.pl] 61)).drew.heap[W3.heap.size]?=some (.cells #[az .u8 110,aF ⟨(Pl.rS d).toArray⟩,az aJ d.n,az aJ d.pl] 61 (0,0)):=heap_alloc_new _ _;have HF4:Hid (Fp pb w (W3.alloc (.cells #[az .u8 110,aF ⟨(Pl.rS d).toArray⟩,az aJ d.n,az aJ d.pl] 61)).drew):=(HF3.out.alloc _).drew;have HP4:Hid (PX pb tb cap A (d::r) (W3.alloc (.cells #[az .u8 110,aF ⟨(Pl.rS d).toArray⟩,az aJ d.n,az aJ d.pl] 61)).drew):=HP3.out.mono λk hk=>Below.heap_alloc _ _ _ hk
 have s4:=k4 _ _ s0;have b4:=k4 _ _ b0;have b5:=k4 _ _ b1;have hx3:w.heap.size<=W3.heap.size/\w.heap.size≠W3.heap.size:=by have:=lt_of_heap b0;omega
 have HX:Hid (w.heap.size<=W3.heap.size/\w.heap.size≠W3.heap.size):=hx3;clear k4 hx3 s0 b0 b1 p0 p1 p2 g1 g2 y2 n0 n1 n2 n3 n4 n5 n6 q0' q1' q2' q3' HF3 HP3;generalize(W3.alloc (.cells #[az .u8 110,aF ⟨(Pl.rS d).toArray⟩,az aJ d.n,az aJ d.pl] 61)).drew=W4 at*;generalize W3.heap.size=X3 at*;have p1:=cK s4;have p2:=eN s4;have g1:=bK s4 1;have g2:=bK s4 2;have y2:=eN b5;have x0:=cL t4;have x2:=eN t4
 go_wp2_with fail
 have s5:(W4.setCell ⟨pb,1,none⟩ (az aJ ((m2:Int)+1))).heap[pb]?=some (.cells #[aG (some ⟨tb,0,none⟩) A.length cap,az aJ ((m2:Int)+1),aD false,az aJ (-1)] 55 (0,0)):=heap_set (o:=1) s4 _;have sk:∀(k:Nat)(o:Obj),k≠pb->W4.heap[k]?=some o->(W4.setCell ⟨pb,1,none⟩ (az aJ ((m2:Int)+1))).heap[k]?=some o:=λk o hk h=>(dS hk _).trans h
 have HF5:Hid (Fp pb w (W4.setCell ⟨pb,1,none⟩ (az aJ ((m2:Int)+1)))):=HF4.out.set 1 _;have HP5:Hid (PX pb tb cap A r (W4.setCell ⟨pb,1,none⟩ (az aJ ((m2:Int)+1)))):=by
  obtain⟨hne,⟨cur,fX,hrow⟩,c',hc',hb'⟩:=HP4.out;have em:(c'.length:Int)=m2:=by
   have h1:=s4;rw[hb'] at h1;injection h1 with h1;injection h1 with h1 _ _;have h2:=aZ (λa:Array aN=>a[1]?) h1
   simp at h2;omega
  exact⟨hne,⟨cur,sk _ _ hne fX,hrow⟩,c'++[d],by rw[<-hc'];simp,by rw[s5];simp[em]⟩
 have b6:=sk _ _ (nZ HT.out.1) b4;have t6:=sk _ _ (by have:=HT.out.1;have:=HX.out.1;omega) t4
 obtain⟨i1,i2,i3,i4⟩:=HD.out;have HCF:Hid (ak 46 #[az aJ t.n,az aJ d.n] (W4.setCell ⟨pb,1,none⟩ (az aJ ((m2:Int)+1))) λe w'=>e=aL (aC #[az aJ t.n,az aJ d.n])/\Below (W4.setCell ⟨pb,1,none⟩ (az aJ ((m2:Int)+1))).heap.size (W4.setCell ⟨pb,1,none⟩ (az aJ ((m2:Int)+1))) w'):=by
  have h:=ajb t.n d.n (W4.setCell ⟨pb,1,none⟩ (az aJ ((m2:Int)+1))) aa aa aa
  rw[i4] at h;exact h
 clear i1 i2 i3 i4 sk p1 p2 g1 g2 y2 x0 x2 s4 b4 b5 t4 HF4 HP4 HD;generalize(W4.setCell ⟨pb,1,none⟩ (az aJ ((m2:Int)+1)))=V at*;refine HCF.out.mono ?_;rintro e w5 ⟨rfl,bh⟩;have al:∀(k:Nat)(o:Obj),V.heap[k]?=some o->(w5.alloc (.cells #[az aJ t.n,az aJ d.n] 97)).heap[k]?=some o:=λk o h=>(Below.heap_alloc _ _ _ (bW (lt_of_heap h) bh.size)).trans ((bh.block k (lt_of_heap h)).trans h)
 have nf:(w5.alloc (.cells #[az aJ t.n,az aJ d.n] 97)).heap[w5.heap.size]?=some (.cells #[az aJ t.n,az aJ d.n] 97 (0,0)):=heap_alloc_new _ _;have HF6:Hid (Fp pb w (w5.alloc (.cells #[az aJ t.n,az aJ d.n] 97))):=(HF5.out.trans (Fp.of_below bh)).alloc _;have HP6:Hid (PX pb tb cap A r (w5.alloc (.cells #[az aJ t.n,az aJ d.n] 97))):=HP5.out.mono λk hk=>(Below.heap_alloc _ _ _ (bW hk bh.size)).trans (bh.block k hk)
 have s7:=al _ _ s5;have b7:=al _ _ b6;have t7:=al _ _ t6;have p2:(w5.alloc (.cells #[az aJ t.n,az aJ d.n] 97)).cell? ⟨pb,2,none⟩=some (aD false):=cell_of s7 2;have g2:=bK s7 2;have z0:=bK b7 0;have z1:=bK b7 1;have y0:(w5.alloc (.cells #[az aJ t.n,az aJ d.n] 97)).cell? ⟨w.heap.size,0,none⟩=some (az aJ 0):=cell_of b7 0;have y1:(w5.alloc (.cells #[az aJ t.n,az aJ d.n] 97)).cell? ⟨w.heap.size,1,none⟩=some (az aJ 0):=cell_of b7 1;have x2:(w5.alloc (.cells #[az aJ t.n,az aJ d.n] 97)).cell? ⟨X3,2,none⟩=some (az aJ d.n):=cell_of t7 2;have v0:(w5.alloc (.cells #[az aJ t.n,az aJ d.n] 97)).cell? ⟨w5.heap.size,0,none⟩=some (az aJ t.n):=cell_of nf 0;have v1:(w5.alloc (.cells #[az aJ t.n,az aJ d.n] 97)).cell? ⟨w5.heap.size,1,none⟩=some (az aJ d.n):=cell_of nf 1;have HS7:Hid ((w5.alloc (.cells #[az aJ t.n,az aJ d.n] 97)).heap[pb]?=some (.cells #[aG (some ⟨tb,0,none⟩) A.length cap,az aJ ((m2:Int)+1),aD false,az aJ (-1)] 55 (0,0))):=s7;have kJ:¬(pb=w.heap.size):=wV HT.out.1;have tU:¬(w5.heap.size=pb):=by have:=bh.size;have:=lt_of_heap s5;omega
 clear al nf s7 b7 t7 s5 b6 t6 bh HF5 HP5 HCF
 go_wp2_with fail
 have HP7:PX pb tb cap A r ((w5.alloc (.cells #[az aJ t.n,az aJ d.n] 97)).setCell ⟨pb,2,none⟩ (aD false)):=by
  refine HP6.out.keep ?_ (dS HP6.out.1 _);rw[heap_set (o:=2) HS7.out,HS7.out];rfl
 refine bodyPost_ret (v:=aC #[az aJ t.n,az aJ d.n]) (by simp[results,results73,go_sem,y0,y1]) rfl ⟨rfl,HP7.keep ?_ ?_,((HF6.out.set 2 _).Nr (aY _) 0 _).Nr (aY _) 1 _⟩
 .rw[dS (wV HT.out.1),dS (wV HT.out.1)]
 .rw[dS (wV HT.out.2),dS (wV HT.out.2)]
def sZ(l l':List Pl.Tk)(q:Int×Int):Prop:=
 (∃t u r,l=t::u::r/\l'=u::r/\t.k=110/\u.k≠47/\q=(t.n,1))\/
 (∃t u d r,l=t::u::d::r/\l'=r/\t.k=110/\u.k=47/\d.k=110/\2<=d.n/\d.n<=1000000000/\(-1000000000<=t.n/\t.n<=1000000000)/\Ge.bO t.n d.n=(t.n,d.n)/\q=(t.n,d.n))
theorem ac0(pb tb cap:Nat)(A l l':List Pl.Tk)(q:Int×Int)(w:aM)(hP:PX pb tb cap A l w)(hl:A.length<=20000000402)(h:sZ l l' q):
  ak 73 #[aH (some ⟨pb,0,none⟩)] w λe w'=>e=aL (aC #[az aJ q.1,az aJ q.2])/\PX pb tb cap A l' w'/\Fp pb w w':=by
 rcases h with⟨t,u,r,rfl,rfl,h1,h2,rfl⟩|⟨t,u,d,r,rfl,rfl,h1,h2,h3,h4,h5,h6,h7,rfl⟩
 .exact anO pb tb cap A r t u w hP hl h1 h2
 .exact anP pb tb cap A l' t u d w hP hl h1 h2 h3 h4 h5 h6 h7
def Cw:List Pl.Tk->List Pl.Tk->List Ge.Qt->Prop
 |_,_,[]=>False
 |l,l',[p]=>∃l1 t r,sZ l l1 p.1/\sZ l1 (t::r) p.2/\t.k=41/\l'=t::r
 |l,l',p::q::ps=>∃l1 t r,sZ l l1 p.1/\sZ l1 (t::r) p.2/\t.k=44/\Cw r l' (q::ps)
theorem PX.box(h:PX pb tb cap A l w):
  ∃c:List Pl.Tk,c++l=A/\w.heap[pb]?=some (.cells #[aG (some ⟨tb,0,none⟩) A.length cap,az aJ c.length,aD false,az aJ (-1)] 55 (0,0)):=by
 obtain⟨_,_,c,hc,hb⟩:=h;exact⟨c,hc,hb⟩
theorem Nv{e:TypeId}{size:Nat}{n:Nat}{xs:List aN}(h:w.ownsRow base e size v n xs)(hf:Fp pb w w')(hP:PX pb tb cap A l w)(he:55≠e:=by decide):w'.ownsRow base e size v n xs:=by
 obtain⟨c,_,hb⟩:=hP.box;exact bG h λk hk=>hf.block k (bn h k hk).2 (λe'=>tY h hb he (by rw[hk,e']))
theorem PX.next{t:Pl.Tk}(h:PX pb tb cap A (t::r) w)(c:List Pl.Tk)(hc:c++t::r=A)(hb:w.heap[pb]?=some (.cells #[aG (some ⟨tb,0,none⟩) A.length cap,az aJ c.length,aD false,az aJ (-1)] 55 (0,0))):
  PX pb tb cap A r (w.setCell ⟨pb,1,none⟩ (az aJ ((c.length:Int)+1))):=by
 refine h.put (c++[t]) (by rw[<-hc];simp) (λk hk hne=>dS hne _) ?_
 have q:=heap_set (w:=w) (o:=1) hb (az aJ ((c.length:Int)+1));simpa using q
theorem PX.Rm{o1 o2:Obj}{row:Option Nat}{e:TypeId}(h:PX pb tb cap A l w4)(hg:((w4.alloc o1).alloc o2).grownBy w5 row)
  (hrow:∀k,row=some k->∃cur,w4.heap[k]?=some (.cells cur e (0,0)))(he:e≠61/\e≠55):PX pb tb cap A l w5:=by
 obtain⟨hne,⟨cur,fX,hr⟩,c,hc,hb⟩:=h;have key:∀(k:Nat)(cur':Array aN)(e':TypeId),w4.heap[k]?=some (Obj.cells cur' e' (0,0))->e≠e'->w5.heap[k]?=some (Obj.cells cur' e' (0,0)):=λk cur' e' hk Ik=>by
  have hk':=lt_of_heap hk;rw[hg.block k (by simp;omega) (λer=>by
   obtain⟨c2,h2⟩:=hrow k er.symm;rw[hk] at h2;injection h2 with h2;injection h2 with _ h2 _;exact Ik h2.symm),Below.heap_alloc _ _ _ (by simp;omega),Below.heap_alloc _ _ _ hk']
  exact hk
 exact⟨hne,⟨cur,key _ _ _ fX he.1,hr⟩,c,hc,key _ _ _ hb he.2⟩
theorem anU(l:List Ge.Qt):(jz l).length=l.length*4:=by
 induction l with
 |nil=>rfl
 |cons p l ih=>simp[jz,qA] at ih⊢;omega
theorem anV{cp m:Nat}{acc:List Ge.Qt}(h:w.ownsRow base 100 4 (aG (some ⟨b,0,none⟩) acc.length cp) acc.length (jz acc))(hm:acc.length=m+1):w.ownsRow base 100 4 (aG (some ⟨b,0,none⟩) m cp) m (jz acc.dropLast):=by
 have e:jz acc=jz acc.dropLast++jz (acc.drop m):=by
  have:acc=acc.dropLast++acc.drop m:=by
   have h1:=AE m acc;have h2:acc.dropLast=acc.take m:=by rw[List.dropLast_eq_take,hm];rfl
   rw[h2,h1]
  conv=>lhs;rw[this]
  simp[jz]
 have hl:(jz acc.dropLast).length=m*4:=by rw[anU,List.length_dropLast,hm];rfl
 refine⟨hl,?_⟩;rcases h.2 with⟨hv,_⟩|⟨g,cap,cur,hv,h1,h2,h3,h4,h5,h6⟩
 .cases hv
 .injection hv with e1 e2 e3;injection e1 with e1;injection e1 with e1;subst e1 e3;refine aR ⟨b,cp,cur,rfl,h1,h2,aa,h4,h5,?_⟩
  have h7:=aZ (List.take (m*4)) h6;rw[AK,Dc aa,e,ahm aa,<-hl,gv] at h7
  rw[<-hl];exact h7
def Nw(pb tb cap:Nat)(A l':List Pl.Tk)(ps:List Ge.Qt)(w:aM)(g:Nat)(lv:aN)(more:Bool)(wr:aM):Prop:=
 ∃l acc rest,PX pb tb cap A l wr/\Fp pb w wr/\wr.ownsRow w.heap.size 100 4 lv acc.length (jz acc)/\acc++rest=ps/\rest.length=g/\(more=true->Cw l l' rest)/\(more=false->rest=[]/\l=l')
theorem anW(pb tb cap:Nat)(A r r2:List Pl.Tk)(t t2:Pl.Tk)(ps:List Ge.Qt)(w:aM)(hP:PX pb tb cap A (t::r) w)(hl:A.length<=20000000402)(hk:t.k=40)(hT:Cw r (t2::r2) ps)(hk2:t2.k=41)(hps:ps.length<=20000000402)(h4:4<=ps.length)(hfl:ps[0]?=ps[ps.length-1]?):
  ak 43 #[aH (some ⟨pb,0,none⟩)] w λe w'=>∃v,e=aL v/\PX pb tb cap A r2 w'/\Fp pb w w'/\w'.ownsRow w.heap.size 100 4 v (ps.length-1) (jz ps.dropLast):=by
 obtain⟨i0,hi,hz0,hz1,hz2⟩:=info_parts ajN
 go_enter func43,ntmps43
 go_wp2_with fail
 refine(E5 pb tb cap A r t w 40 hP hl hk).mono ?_;rintro e w1 ⟨rfl,lL,xC⟩;obtain⟨c1,hc1,hb1⟩:=lL.box;have b2:=eN hb1;have cQ:Hid (Nw pb tb cap A (t2::r2) ps w ps.length (aG none 0 0) true w1):=⟨r,[],ps,lL,xC,World.ownsRow_nil _ _ _ _,rfl,rfl,λ_=>hT,λh=>(by cases h)⟩
 clear hc1 hb1 lL xC hP hT
 go_wp2_with fail
 clear b2
 go_loopg [3,4] ps.length (λg lv mv wr=>∃more:Bool,mv=aD more/\Hid (Nw pb tb cap A (t2::r2) ps w g lv more wr))
 case atStart=>exact⟨_,rfl,cQ⟩
 case round=>
  obtain⟨more,rfl,HR⟩:=hrel;obtain⟨l,acc,rest,kT,hf2,hown,iq,mH,rB,hfin⟩:=HR.out;have hs2:=hf2.size;clear HR cQ;cases more
  .obtain⟨rfl,rfl⟩:=hfin rfl;clear hfin rB
   go_wp2_with fail
   refine(E5 pb tb cap A r2 t2 _ 41 kT hl hk2).mono ?_;rintro e w4 ⟨rfl,sJ,uH⟩;have zW:=hf2.trans uH;have xW:=Nv hown uH kT;rw[qC] at iq;subst iq;obtain⟨b,cp,rfl⟩:∃b cp,u3=aG (some ⟨b,0,none⟩) acc.length cp:=by
    rcases hown.2 with⟨_,h0⟩|⟨b,cp,cur,hv,_⟩
    .omega
    .exact⟨b,cp,hv⟩
   have TU:nK w4 (aG (some ⟨b,0,none⟩) acc.length cp) acc:=⟨xW.1,by
    rcases xW.2 with h|⟨g,cap,cur,h1,_,h3⟩
    .exact aS h
    .exact aR ⟨g,cap,cur,h1,iW _,h3⟩⟩
   obtain⟨p0,hp0⟩:∃p0,acc[0]?=some p0:=⟨_,bo aa⟩
   obtain⟨b',e1,hb',a0,a1,a2,a3⟩:=zA TU hp0;obtain⟨b'',e2,_,d0,d1,d2,d3⟩:=zA TU (hfl.symm.trans hp0);obtain rfl:b=b':=by injection e1 with e1;injection e1
   obtain rfl:b=b'':=by injection e2 with e2;injection e2
   have HO:Hid (PX pb tb cap A r2 w4/\Fp pb w w4/\w4.ownsRow w.heap.size 100 4 (aG (some ⟨b,0,none⟩) acc.length cp) acc.length (jz acc)):=⟨sJ,zW,xW⟩;obtain⟨m,hm⟩:∃m,acc.length=m+1:=⟨acc.length-1,aa⟩
   have TQ:3<=m:=aa
   rw[hm,ahe] at d0 d1 d2 d3;rw[hm] at hps;rw[hm];have hcp:m+1<=cp:=by
    rcases xW.2 with⟨h,_⟩|⟨g,cap,cur,h1,_,_,h4,_⟩
    .cases h
    .injection h1 with _ h1 h2;omega
   rw[wR] at a0;rw[wR,jH] at a1 a2 a3;clear TU xW zW sJ uH hown hf2 kT hp0 e1 e2 h4 hfl mH
   go_wp2_with fail
   have auS:decide ((m:Int)<3)=false:=by simp;omega
   have hmi:(m:Int)<(m:Int)+1:=aa
   go_region_held3 (λw'=>w'.cell? ⟨b,0,none⟩=some (az aJ p0.1.1)/\w'.cell? ⟨b,1,none⟩=some (az aJ p0.1.2)/\w'.cell? ⟨b,2,none⟩=some (az aJ p0.2.1)/\w'.cell? ⟨b,3,none⟩=some (az aJ p0.2.2)/\w'.cell? ⟨b,m*4,none⟩=some (az aJ p0.1.1)/\w'.cell? ⟨b,m*4+1,none⟩=some (az aJ p0.1.2)/\w'.cell? ⟨b,m*4+2,none⟩=some (az aJ p0.2.1)/\w'.cell? ⟨b,m*4+3,none⟩=some (az aJ p0.2.2)) (go_keep) (fail)
   go_wp2_with fail
   go_ret
   obtain⟨o1,o2,o3⟩:=HO.out;refine⟨_,rfl,o1,o2.drew,?_⟩;rw[hm,ahe];exact anV o3 hm
  .have hT:=rB rfl;clear hfin rB;obtain⟨p,rest',rfl⟩:∃p rest',rest=p::rest':=by
    cases rest with
    |nil=>exact hT.elim
    |cons p rest'=>exact⟨p,rest',rfl⟩
   obtain⟨l1,t1,r1,hx,hy,hc⟩:∃l1 t1 r1,sZ l l1 p.1/\sZ l1 (t1::r1) p.2/\((t1.k=41/\rest'=[]/\t2::r2=t1::r1)\/(t1.k=44/\Cw r1 (t2::r2) rest')):=by
    cases rest' with
    |nil=>
     obtain⟨l1,t1,r1,h1,h2,h3,h4⟩:=hT;exact⟨l1,t1,r1,h1,h2,aS ⟨h3,rfl,h4⟩⟩
    |cons q rest'=>
     obtain⟨l1,t1,r1,h1,h2,h3,h4⟩:=hT;exact⟨l1,t1,r1,h1,h2,aR ⟨h3,h4⟩⟩
   have HC:Hid ((t1.k=41/\rest'=[]/\t2::r2=t1::r1)\/(t1.k=44/\Cw r1 (t2::r2) rest')):=hc;have HRX:Hid (sZ l l1 p.1):=hx;have HRY:Hid (sZ l1 (t1::r1) p.2):=hy;have oD:Hid (acc++p::rest'=ps/\(p::rest').length=gk):=⟨iq,mH⟩;clear hc hT hx hy iq mH
   go_wp2_with fail
   refine(ac0 pb tb cap A l l1 p.1 _ kT hl HRX.out).mono ?_;rintro e w4 ⟨rfl,sJ,uH⟩;have hs4:=uH.size;have xW:=Nv hown uH kT;have zW:=hf2.trans uH;have TV:PX pb tb cap A l1 (w4.alloc (.cells #[az aJ p.1.1,az aJ p.1.2] 97)):=sJ.mono λk hk=>Below.heap_alloc _ _ _ hk
   have ac3:=bG xW (λk hk=>Below.heap_alloc w4 (.cells #[az aJ p.1.1,az aJ p.1.2] 97) _ (bn xW k hk).2)
   have ac4:=zW.alloc (.cells #[az aJ p.1.1,az aJ p.1.2] 97);have nf4:=heap_alloc_new w4 (.cells #[az aJ p.1.1,az aJ p.1.2] 97);have hnb:w4.heap.size≠pb:=by obtain⟨_,_,hb⟩:=sJ.box;have:=lt_of_heap hb;omega
   clear kT hf2 hown sJ uH xW zW HRX
   go_wp2_with fail
   generalize w4.alloc (.cells #[az aJ p.1.1,az aJ p.1.2] 97)=W4 at*;generalize w4.heap.size=X4 at*;refine(ac0 pb tb cap A l1 (t1::r1) p.2 _ TV hl HRY.out).mono ?_;rintro e w5 ⟨rfl,xX,IX⟩;have hs5:=IX.size;have rV:=Nv ac3 IX TV;have zX:=ac4.trans IX;have nf5:=IX.ob nf4 hnb;have al:∀(k:Nat)(o:Obj),w5.heap[k]?=some o->(w5.alloc (.cells #[az aJ p.2.1,az aJ p.2.2] 97)).heap[k]?=some o:=λk o h=>(Below.heap_alloc _ _ _ (lt_of_heap h)).trans h
   have m4:=al _ _ nf5;have m5:=heap_alloc_new w5 (.cells #[az aJ p.2.1,az aJ p.2.2] 97);have x0:(w5.alloc (.cells #[az aJ p.2.1,az aJ p.2.2] 97)).cell? ⟨X4,0,none⟩=some (az aJ p.1.1):=cell_of m4 0;have x1:(w5.alloc (.cells #[az aJ p.2.1,az aJ p.2.2] 97)).cell? ⟨X4,1,none⟩=some (az aJ p.1.2):=cell_of m4 1;have y0:(w5.alloc (.cells #[az aJ p.2.1,az aJ p.2.2] 97)).cell? ⟨w5.heap.size,0,none⟩=some (az aJ p.2.1):=cell_of m5 0;have y1:(w5.alloc (.cells #[az aJ p.2.1,az aJ p.2.2] 97)).cell? ⟨w5.heap.size,1,none⟩=some (az aJ p.2.2):=cell_of m5 1;have ac7:=zX.size;have IY:acc.length<=20000000402:=by
    have h1:=aZ List.length oD.out.1;simp at h1;omega
   clear TV ac3 ac4 nf4 nf5 IX al m4 m5 HRY
   go_wp2_with (at_builtin;refine wpList_append_lies _ rfl (.tmp 20) (.tmp 24) 92 rfl w.heap.size 100 i0 _ 4 32 underlying92 hi hz0 hz1 hz2 rfl ah u3 acc.length (jz acc) rfl (bG rV (λk hk=>(Below.heap_alloc _ _ _ (by have:=(bn rV k hk).2;simp;omega)).trans (Below.heap_alloc _ _ _ (bn rV k hk).2))) ⟨w5.heap.size+1,0,none⟩ 1 1 [az aJ p.1.1,az aJ p.1.2,az aJ p.2.1,az aJ p.2.2] rfl rfl (World.news_of_block (cs:= #[az aJ p.1.1,az aJ p.1.2,az aJ p.2.1,az aJ p.2.2]) (t:=100) (fr:=(0,0)) (by have:=heap_alloc_new (w5.alloc (.cells #[az aJ p.2.1,az aJ p.2.2] 97)) (.cells #[az aJ p.1.1,az aJ p.1.2,az aJ p.2.1,az aJ p.2.2] 100);simpa using this)) (by simp[Value.oneCell']) ah (by unfold maxLen;omega) aa (by simp;omega) (w5.heap.size+2) af ?_;intro g cap' w6 ho hgrow hat BF)
   have nP:=xX.Rm hgrow (λk hk=>vh rV hk) ah
   have wh:=zX.Rm hgrow (λk hk=>(bn rV k hk).1)
   have ho':w6.ownsRow w.heap.size 100 4 (aG (some ⟨g,0,none⟩) (acc.length+1) cap') (acc++[p]).length (jz (acc++[p])):=by
    rw[ajM];simpa[qA] using ho
   clear hgrow ho hat rV zX xX x0 x1 y0 y1 IY;refine(IW pb tb cap A r1 t1 _ 44 nP hl).mono ?_;rintro e w7 ⟨rfl,n7,rfl⟩;obtain⟨qo,kK⟩:=oD.out;rcases HC.out with⟨k1,rfl,k3⟩|⟨k1,k2⟩
   .have hd:decide (t1.k=44)=false:=jU aa
    rw[hd];have HN:Hid (Nw pb tb cap A (t2::r2) ps w 0 (aG (some ⟨g,0,none⟩) (acc.length+1) cap') false (w6.drewN n7)):=⟨t1::r1,acc++[p],[],nP,wh.drewN n7,ho',by rw[<-qo];simp,rfl,λh=>(by cases h),λ_=>⟨rfl,k3.symm⟩⟩
    have hg0:0<gk:=by rw[<-kK];simp
    clear HC oD nP wh ho' k3 qo kK hd
    go_wp2_with fail
    go_roundg 0
    case measure=>omega
    case rel=>exact⟨_,rfl,HN⟩
   .have hd:decide (t1.k=44)=true:=iD k1;rw[hd];obtain⟨c3,hc3,pJ⟩:=nP.box;have zY:PX pb tb cap A r1 ((w6.drewN n7).setCell ⟨pb,1,none⟩ (az aJ ((c3.length:Int)+1))):=PX.next (w:=w6.drewN n7) nP c3 hc3 pJ
    have HN:Hid (Nw pb tb cap A (t2::r2) ps w (gk-1) (aG (some ⟨g,0,none⟩) (acc.length+1) cap') true ((w6.drewN n7).setCell ⟨pb,1,none⟩ (az aJ ((c3.length:Int)+1)))):=⟨r1,acc++[p],rest',zY,(wh.drewN n7).set 1 _,bG ho' (λk hk=>dS (λe=>tY (w:=w6) ho' pJ ah (by rw[hk,e])) _),by rw[<-qo];simp,by rw[<-kK];simp,λ_=>k2,λh=>(by cases h)⟩
    have b1:(w6.drewN n7).cell? ⟨pb,1,none⟩=some (az aJ c3.length):=cell_of (w:=w6.drewN n7) pJ 1;have g1':(w6.drewN n7).frozen? ⟨pb,1,none⟩=false:=bK (w:=w6.drewN n7) pJ 1;have hcl:c3.length<=20000000402:=by have h:=aZ List.length hc3;simp at h;omega
    have hg0:0<gk:=by rw[<-kK];simp
    clear HC oD nP wh ho' qo kK hd zY hc3 pJ k2;generalize w6.drewN n7=w8 at*
    go_wp2_with fail
    go_roundg (gk-1)
    case measure=>omega
    case rel=>exact⟨_,rfl,HN⟩
def zZ(w:aM)(v:aN)(gs:List (List Ge.Qt)):Prop:=Bt 92 nK w v gs
def oL(w:aM)(v:aN)(ps:List (List (List Ge.Qt))):Prop:=Bt 91 zZ w v ps
theorem Cy:xy [92,100] zZ:=YY uf
theorem ac8:xy [91,92,100] oL:=YY Cy
def xB(g:List Ge.Qt):Prop:=4<=g.length/\g.length<=20000000402/\g[0]?=g[g.length-1]?
def IZ(l:List Pl.Tk)(t3:Pl.Tk)(r3:List Pl.Tk)(g:List Ge.Qt):Prop:=∃t r t2,l=t::r/\t.k=40/\Cw r (t2::t3::r3) g/\t2.k=41/\xB g
def E7:List Pl.Tk->List Pl.Tk->List (List Ge.Qt)->Prop
 |_,_,[]=>False
 |l,l',[g]=>∃t3 r3,IZ l t3 r3 g/\t3.k=41/\l'=t3::r3
 |l,l',g::h::gs=>∃t3 r3,IZ l t3 r3 g/\t3.k=44/\E7 r3 l' (h::gs)
def I0(l:List Pl.Tk)(t3:Pl.Tk)(r3:List Pl.Tk)(gs:List (List Ge.Qt)):Prop:=∃t r t2,l=t::r/\t.k=40/\E7 r (t2::t3::r3) gs/\t2.k=41/\gs.length<=20000000402
def Cz:List Pl.Tk->List Pl.Tk->List (List (List Ge.Qt))->Prop
 |_,_,[]=>False
 |l,l',[p]=>∃t3 r3,I0 l t3 r3 p/\t3.k=41/\l'=t3::r3
 |l,l',p::q::ps=>∃t3 r3,I0 l t3 r3 p/\t3.k=44/\Cz r3 l' (q::ps)
def opn(g:List Ge.Qt):List Ge.Qt:=g.dropLast
theorem anY:(Tryz.prog.info? 92).map (λi=>(i.zero,i.size,i.bytes))=some (some (aG none 0 0),1,24):=ag
theorem anZ:(Tryz.prog.info? 91).map (λi=>(i.zero,i.size,i.bytes))=some (some (aG none 0 0),1,24):=ag
theorem an0{α:Type}{ts:List Nat}{R:aM->aN->α->Prop}(hR:xy ts R)(hts:55∉ts){x:α}(h:R w v x)(hf:Fp pb w w')(hP:PX pb tb cap A l w):R w' v x:=by
 obtain⟨c,_,hb⟩:=hP.box;refine hR w w' v x h λk cur e hc he=>hf.block k (lt_of_heap hc) λek=>?_
 rw[ek,hb] at hc;injection hc with hc;injection hc with _ hc _;exact hts (by rw[hc];exact he)
theorem PX.GR{o1:Obj}{row:Option Nat}{e:TypeId}(h:PX pb tb cap A l w4)(hg:(w4.alloc o1).grownBy w5 row)
  (hrow:∀k,row=some k->∃cur,w4.heap[k]?=some (.cells cur e (0,0)))(he:e≠61/\e≠55):PX pb tb cap A l w5:=by
 obtain⟨hne,⟨cur,fX,hr⟩,c,hc,hb⟩:=h;have key:∀(k:Nat)(cur':Array aN)(e':TypeId),w4.heap[k]?=some (Obj.cells cur' e' (0,0))->e≠e'->w5.heap[k]?=some (Obj.cells cur' e' (0,0)):=λk cur' e' hk Ik=>by
  rw[Rn hg k (lt_of_heap hk) (λer=>by
   obtain⟨c2,h2⟩:=hrow k er;rw[hk] at h2;injection h2 with h2;injection h2 with _ h2 _;exact Ik h2.symm)]
  exact hk
 exact⟨hne,⟨cur,key _ _ _ fX he.1,hr⟩,c,hc,key _ _ _ hb he.2⟩
def Mk{α:Type}(T:Nat)(R:aM->aN->α->Prop)(B:Nat)(v:aN)(acc:List α)(w:aM):Prop:=∃vs:List aN,vs.length=acc.length/\w.ownsRow B T 1 v acc.length vs/\∀(i:Nat) u x,vs[i]?=some u->acc[i]?=some x->R w u x
theorem Mk.nil{α:Type}(T:Nat)(R:aM->aN->α->Prop)(B:Nat)(w:aM):Mk T R B (aG none 0 0) [] w:=⟨[],rfl,World.ownsRow_nil _ _ _ _,λi u x h=>by simp at h⟩
theorem Mk.fx{α:Type}{R:aM->aN->α->Prop}{ts:List Nat}{acc:List α}(hR:xy ts R)(hts:55∉T::ts)(h:Mk T R B v acc w)(hf:Fp pb w w')(hP:PX pb tb cap A l w):Mk T R B v acc w':=by
 obtain⟨vs,h1,h2,h3⟩:=h;exact⟨vs,h1,Nv h2 hf hP (λe=>hts (by rw[e];simp)),λi u x hu hx=>an0 hR (λe=>hts (bV _ e)) (h3 i u x hu hx) hf hP⟩
theorem Mk.rd{α:Type}{R:aM->aN->α->Prop}{acc:List α}(h:Mk T R B v acc w):Bt T R w v acc:=by
 obtain⟨vs,h1,h2,h3⟩:=h;exact⟨vs,h1,xz h2,h3⟩
def Ny(pb tb cap:Nat)(A l':List Pl.Tk)(gs:List (List Ge.Qt))(w6:aM)(g:Nat)(lv:aN)(more:Bool)(wr:aM):Prop:=
 ∃l acc rest,PX pb tb cap A l wr/\Fp pb w6 wr/\Mk 92 nK w6.heap.size lv acc wr/\acc++rest.map opn=gs.map opn/\rest.length=g/\g<=gs.length/\(more=true->E7 l l' rest)/\(more=false->rest=[]/\l=l')
def Nz(pb tb cap:Nat)(A l':List Pl.Tk)(ps:List (List (List Ge.Qt)))(W1:aM)(g:Nat)(lv:aN)(more:Bool)(wr:aM):Prop:=
 ∃l acc rest,PX pb tb cap A l wr/\Fp pb W1 wr/\Mk 91 zZ W1.heap.size lv acc wr/\acc++rest.map (·.map opn)=ps.map (·.map opn)/\rest.length=g/\g<=ps.length/\(more=true->Cz l l' rest)/\(more=false->rest=[]/\l=l')
theorem an1(s:ByteArray)(w:aM)(hs:s.size<=20000000400)(t0 te:Pl.Tk)(r0 re:List Pl.Tk)(ps:List (List (List Ge.Qt)))(hA:Pl.all s.data.toList=t0::r0)(nQ:(Pl.all s.data.toList).length<=20000000402)(xf:t0.k=119)(xY:t0.raw=Pl.fI)(hps:ps.length<=20000000402)
  (hT:∃t1 r1 t2,r0=t1::r1/\t1.k=40/\Cz r1 (t2::te::re) ps/\t2.k=41)(hte:te.k=101)
  (z8:∀w1 v,Below w.heap.size w w1->oL w1 v (ps.map (·.map opn))->ak 45 #[v] w1 λe w'=>e=aL (aF s)/\Below w1.heap.size w1 w'):
  ak 24 #[aF s] w λe w'=>∃v,e=aL (aI #[v,aD true])/\oL w' v (ps.map (·.map opn))/\Below w.heap.size w w':=by
 obtain⟨i1,hi1,an2,an3,an4⟩:=info_parts anY;obtain⟨i2,hi2,an5,an6,an7⟩:=info_parts anZ;have oK:=acL s w hs;have HA:Hid (Pl.all s.data.toList=t0::r0):=hA;have hne:(Pl.all s.data.toList).length≠0:=by rw[hA];simp
 have an8:Hid (∀w1 v,Below w.heap.size w w1->oL w1 v (ps.map (·.map opn))->ak 45 #[v] w1 λe w'=>e=aL (aF s)/\Below w1.heap.size w1 w'):=z8
 clear hA z8;generalize Pl.all s.data.toList=A at*
 go_enter func24,ntmps24
 go_wp2_with fail
 refine oK.mono ?_;rintro e w1 ⟨v,rfl,hown1,hb1⟩;obtain⟨tb,cap,cur,rfl,pI,fX,hcap⟩:∃tb cap cur,v=aG (some ⟨tb,0,none⟩) A.length cap/\w.heap.size<=tb/\w1.heap[tb]?=some (.cells cur 61 (0,0))/\∀(j:Nat) u,(qT A)[j]?=some u->cur[j]?=some u:=by
  rcases hown1.2 with⟨_,h0⟩|⟨g,cap,cur,hv,hg,hc,_,_,_,h6⟩
  .exact absurd h0 hne
  .refine⟨g,cap,cur,hv,hg,hc,λj u hj=>?_⟩
   rw[<-h6,lH] at hj;split at hj
   .rw[<-hj];simp
   .cases hj
 clear oK hown1 hne
 go_wp2_with fail
 obtain⟨t1,r1,t2,rfl,hk1,NA,hk2⟩:=hT;have lL:PX w1.heap.size tb cap A (t0::t1::r1) (w1.alloc (.cells #[aG (some ⟨tb,0,none⟩) A.length cap,az aJ 0,aD false,az aJ (-1)] 55)):=
  ⟨wV (lt_of_heap fX),⟨cur,(Below.heap_alloc _ _ _ (lt_of_heap fX)).trans fX,hcap⟩,[],HA.out.symm,heap_alloc_new _ _⟩
 have jA:Below w.heap.size w (w1.alloc (.cells #[aG (some ⟨tb,0,none⟩) A.length cap,az aJ 0,aD false,az aJ (-1)] 55)):=hb1.alloc hb1.size _;have TW:w.heap.size<=w1.heap.size:=hb1.size;clear fX hcap pI hb1 cur HA;generalize w1.alloc (.cells #[aG (some ⟨tb,0,none⟩) A.length cap,az aJ 0,aD false,az aJ (-1)] 55)=W1 at*;generalize w1.heap.size=pb at*;refine(TP pb tb cap A (t1::r1) t0 W1 ⟨#[77,85,76,84,73,80,79,76,89,71,79,78]⟩ lL nQ xf (by rw[xY];rfl)).mono ?_
 rintro e w2 ⟨rfl,kT,hf2⟩
 go_wp2_with fail
 refine(anN pb tb cap A r1 t1 w2 ⟨#[69,77,80,84,89]⟩ kT nQ aa).mono ?_
 rintro e w3 ⟨rfl,n3,rfl⟩
 go_wp2_with fail
 refine(E5 pb tb cap A r1 t1 (w2.drewN n3) 40 kT nQ hk1).mono ?_;rintro e w4 ⟨rfl,sJ,uH⟩;have zW:Fp pb W1 w4:=(hf2.drewN n3).trans uH;obtain⟨c4,_,hb4⟩:=sJ.box;have b2:=eN hb4;clear lL kT hf2 uH hb4 xf xY hk1
 go_wp2_with fail
 have cQ:Hid (Nz pb tb cap A (t2::te::re) ps W1 ps.length (aG none 0 0) true w4):=⟨r1,[],ps,sJ,zW,Mk.nil _ _ _ _,rfl,rfl,aY _,λ_=>NA,λh=>(by cases h)⟩
 clear b2 sJ zW NA
 go_loopg [5,8] ps.length (λg lv mv wr=>∃more:Bool,mv=aD more/\Hid (Nz pb tb cap A (t2::te::re) ps W1 g lv more wr))
 case atStart=>exact⟨_,rfl,cQ⟩
 case round=>
  obtain⟨more,rfl,HR⟩:=hrel;obtain⟨l,out,rest,xX,zX,NB,iq,mH,hgl,rB,hfin⟩:=HR.out;clear HR cQ;cases more
  .obtain⟨rfl,rfl⟩:=hfin rfl;clear hfin rB;rw[J2,qC] at iq;subst iq
   go_wp2_with fail
   refine(E5 pb tb cap A (te::re) t2 _ 41 xX nQ hk2).mono ?_;rintro e w6 ⟨rfl,nP,wj⟩;have I1:=NB.fx Cy ah wj xX
   have wh:=zX.trans wj;obtain⟨c6,TY,bp,e0,e1,e2,e3,hcl,pI⟩:=nP.cells;have p0:=cL bp;have p1:=cK bp;have p2:=eN bp;have hib:(c6.length:Int)<(A.length:Int):=aa
   rw[hte] at e0;have qp:Hid (Below w.heap.size w w6):=jA.trans (wh.below w.heap.size TW jA.size);have Ev:Hid (oL w6 u5 (ps.map (·.map opn))):=I1.rd
   clear xX zX NB wj nP bp TY I1 wh mH hgl
   go_wp2_with fail
   go_region_held3 (λw'=>w'.cell? ⟨pb,0,none⟩=some (aG (some ⟨tb,0,none⟩) A.length cap)/\w'.cell? ⟨pb,1,none⟩=some (az aJ c6.length)/\w'.cell? ⟨pb,2,none⟩=some (aD false)/\w'.cell? ⟨tb,c6.length*4,none⟩=some (az .u8 101)) (go_keep) (fail)
   go_wp2_with fail
   have TZ:oL w6.drew u5 (ps.map (·.map opn)):=ac8 _ _ _ _ Ev.out λk cur e h _=>rfl
   refine(an8.out _ _ qp.out.drew TZ).mono ?_;rintro e w7 ⟨rfl,bu⟩;have HR8:Hid (oL w7 u5 (ps.map (·.map opn))):=ac8 _ _ _ _ TZ λk cur e h _=>bu.block k (lt_of_heap h)
   have CC:Hid (Below w.heap.size w w7):=qp.out.drew.trans (bu.mono qp.out.drew.size);clear TZ bu Ev qp
   go_wp2_with fail
   exact bodyPost_ret (v:=aI #[u5,aD true]) (by simp[results,results24,go_sem]) rfl ⟨_,rfl,HR8.out,CC.out⟩
  .have hT:=rB rfl;clear hfin rB;obtain⟨gs,rest',rfl⟩:∃p rest',rest=p::rest':=by
    cases rest with
    |nil=>exact hT.elim
    |cons p rest'=>exact⟨p,rest',rfl⟩
   obtain⟨t3,r3,hPg,hc⟩:∃t3 r3,I0 l t3 r3 gs/\((t3.k=41/\rest'=[]/\t2::te::re=t3::r3)\/(t3.k=44/\Cz r3 (t2::te::re) rest')):=by
    cases rest' with
    |nil=>
     obtain⟨t3,r3,h1,h2,h3⟩:=hT;exact⟨t3,r3,h1,aS ⟨h2,rfl,h3⟩⟩
    |cons q rest'=>
     obtain⟨t3,r3,h1,h2,h3⟩:=hT;exact⟨t3,r3,h1,aR ⟨h2,h3⟩⟩
   obtain⟨t,r,t4,rfl,M5,ac9,hk4,aob⟩:=hPg;have HC:Hid ((t3.k=41/\rest'=[]/\t2::te::re=t3::r3)\/(t3.k=44/\Cz r3 (t2::te::re) rest')):=hc;have oD:Hid (out++(gs::rest').map (·.map opn)=ps.map (·.map opn)/\(gs::rest').length=gk/\gk<=ps.length):=⟨iq,mH,hgl⟩
   obtain⟨m1,mf⟩:∃m1,m1=gk:=⟨_,rfl⟩;clear hc hT iq mH hgl
   go_wp2_with fail
   refine(E5 pb tb cap A r t _ 40 xX nQ M5).mono ?_;rintro e w6 ⟨rfl,nP,wj⟩;obtain⟨c6,_,bp⟩:=nP.box;have b2:=eN bp;have I1:=NB.fx Cy ah wj xX
   have cQ:Hid (Ny pb tb cap A (t4::t3::r3) gs w6 gs.length (aG none 0 0) true w6):=⟨r,[],gs,nP,Fp.refl _ _,Mk.nil _ _ _ _,rfl,rfl,aY _,λ_=>ac9,λh=>(by cases h)⟩
   have HO6:Hid (PX pb tb cap A r w6/\Fp pb W1 w6/\Mk 91 zZ W1.heap.size u5 out w6):=⟨nP,zX.trans wj,I1⟩;clear xX zX NB wj bp nP I1 ac9
   go_wp2_with fail
   clear b2;have E8:Hid (m1=gk):=mf;clear mf
   go_loopg [9,10] gs.length (λg lv mv wr=>∃more:Bool,mv=aD more/\Hid (Ny pb tb cap A (t4::t3::r3) gs w6 g lv more wr))
   case atStart=>exact⟨_,rfl,cQ⟩
   case round=>
    obtain⟨again,rfl,HR⟩:=hrel;obtain⟨l,acc,rest,E9,ND,NF,iq,mH,hgl,rB,hfin⟩:=HR.out;clear HR cQ;cases again
    .obtain⟨rfl,rfl⟩:=hfin rfl;clear hfin rB;rw[J2,qC] at iq;subst iq;have auU:gs.length<=20000000402:=aob
     go_wp2_with fail
     refine(E5 pb tb cap A (t3::r3) t4 _ 41 E9 nQ hk4).mono ?_;rintro e w8 ⟨rfl,I2,CD⟩;have xZ:=NF.fx uf ah CD E9
     have T8:=ND.trans CD;obtain⟨z1,z2,z3⟩:=HO6.out;have CE:=z2.trans T8;have hO8:=z3.fx Cy ah T8 z1
     have hs8:=CE.size;have I3:zZ w8 u9 (gs.map opn):=xZ.rd;obtain⟨so,vn,vc,rfl⟩:∃so n c,u9=aG so n c:=by
      obtain⟨us,_,h2,_⟩:=xZ;rcases h2.2 with⟨hv,_⟩|⟨g,cap,cur,hv,_⟩
      .exact⟨_,_,_,hv⟩
      .exact⟨_,_,_,hv⟩
     obtain⟨us,NG,uI,I4⟩:=hO8;have IY:out.length<=20000000402:=by
      have h1:=aZ List.length oD.out.1;simp at h1;omega
     clear E9 ND NF CD xZ T8 z1 z2 z3 HO6
     go_wp2_with (at_builtin;refine wpList_append_lies _ rfl (.tmp 63) (.tmp 65) 45 rfl W1.heap.size 91 i2 _ 1 24 underlying45 hi2 an5 an6 an7 rfl ah u5 out.length us rfl (bG uI (λk hk=>Below.heap_alloc _ _ _ (bn uI k hk).2)) ⟨w8.heap.size,0,none⟩ 1 1 [aG so vn vc] rfl rfl (World.news_of_block (cs:= #[aG so vn vc]) (t:=91) (fr:=(0,0)) (heap_alloc_new w8 _)) (by simp[Value.oneCell']) ah (by unfold maxLen;omega) aa (by simp;omega) (w8.heap.size+1) af ?_;intro gg cap' w9 ho hgrow hat sI)
     have x9:∀k,u5.ownBlock=some k->∃cur,w8.heap[k]?=some (.cells cur 91 (0,0)):=λk hk=>vh uI hk
     have pK:=I2.GR hgrow x9 ah
     have yg:=CE.GR hgrow (λk hk=>(bn uI k hk).1)
     have yh:Mk 91 zZ W1.heap.size (aG (some ⟨gg,0,none⟩) (out.length+1) cap') (out++[gs.map opn]) w9:=by
      refine⟨us++[aG so vn vc],by simp[NG],by simpa using ho,?_⟩
      exact YZ NG (λi u x hu hx=>LF Cy hgrow x9 ah (I4 i u x hu hx)) (LF Cy hgrow x9 ah I3)
     clear hgrow ho hat uI CE I2 IY I3 I4 x9;refine(IW pb tb cap A r3 t3 _ 44 pK nQ).mono ?_;rintro e ZQ ⟨rfl,n10,rfl⟩;obtain⟨qo,kK,vG⟩:=oD.out;have mf:=E8.out;rcases HC.out with⟨k1,rfl,k3⟩|⟨k1,k2⟩
     .have hd:decide (t3.k=44)=false:=jU aa
      rw[hd];have HN:Hid (Nz pb tb cap A (t2::te::re) ps W1 0 (aG (some ⟨gg,0,none⟩) (out.length+1) cap') false (w9.drewN n10)):=⟨t3::r3,out++[gs.map opn],[],pK,yg.drewN n10,yh,by rw[<-qo];simp,rfl,iW _,λh=>(by cases h),λ_=>⟨rfl,k3.symm⟩⟩
      have hg0:0<m1:=by rw[mf,<-kK];simp
      clear HC oD pK yg yh k3 qo kK hd mf
      go_wp2_with fail
      go_roundg 0
      case measure=>have:=E8.out;omega
      case rel=>exact⟨_,rfl,HN⟩
     .have hd:decide (t3.k=44)=true:=iD k1;rw[hd];obtain⟨c3,hc3,pJ⟩:=pK.box;have zY:PX pb tb cap A r3 ((w9.drewN n10).setCell ⟨pb,1,none⟩ (az aJ ((c3.length:Int)+1))):=PX.next (w:=w9.drewN n10) pK c3 hc3 pJ
      have I5:Fp pb (w9.drewN n10) ((w9.drewN n10).setCell ⟨pb,1,none⟩ (az aJ ((c3.length:Int)+1))):=(Fp.refl pb _).set 1 _;have HN:Hid (Nz pb tb cap A (t2::te::re) ps W1 (m1-1) (aG (some ⟨gg,0,none⟩) (out.length+1) cap') true ((w9.drewN n10).setCell ⟨pb,1,none⟩ (az aJ ((c3.length:Int)+1)))):=
       ⟨r3,out++[gs.map opn],rest',zY,(yg.drewN n10).set 1 _,Mk.fx (w:=w9.drewN n10) Cy ah yh I5 pK,by rw[<-qo];simp,by rw[mf,<-kK];simp,aa,λ_=>k2,λh=>(by cases h)⟩
      have b1:(w9.drewN n10).cell? ⟨pb,1,none⟩=some (az aJ c3.length):=cell_of (w:=w9.drewN n10) pJ 1;have g1':(w9.drewN n10).frozen? ⟨pb,1,none⟩=false:=bK (w:=w9.drewN n10) pJ 1;have hcl:c3.length<=20000000402:=by have h:=aZ List.length hc3;simp at h;omega
      have hg0:0<m1:=by rw[mf,<-kK];simp
      clear HC oD pK yg yh qo kK hd zY hc3 pJ k2 I5 mf;generalize w9.drewN n10=w11 at*
      go_wp2_with fail
      go_roundg (m1-1)
      case measure=>have:=E8.out;omega
      case rel=>exact⟨_,rfl,HN⟩
    .have hT:=rB rfl;clear hfin rB;obtain⟨g,Aa,rfl⟩:∃p rest',rest=p::rest':=by
      cases rest with
      |nil=>exact hT.elim
      |cons p rest'=>exact⟨p,rest',rfl⟩
     obtain⟨t5,r5,hRg,hc⟩:∃t5 r5,IZ l t5 r5 g/\((t5.k=41/\Aa=[]/\t4::t3::r3=t5::r5)\/(t5.k=44/\E7 r5 (t4::t3::r3) Aa)):=by
      cases Aa with
      |nil=>
       obtain⟨t3,r3,h1,h2,h3⟩:=hT;exact⟨t3,r3,h1,aS ⟨h2,rfl,h3⟩⟩
      |cons q rest'=>
       obtain⟨t3,r3,h1,h2,h3⟩:=hT;exact⟨t3,r3,h1,aR ⟨h2,h3⟩⟩
     obtain⟨ta,ra,tz,rfl,hka,adb,hkz,hok⟩:=hRg;have q8:Hid ((t5.k=41/\Aa=[]/\t4::t3::r3=t5::r5)\/(t5.k=44/\E7 r5 (t4::t3::r3) Aa)):=hc;have NH:Hid (acc++(g::Aa).map opn=gs.map opn/\(g::Aa).length=gk/\gk<=gs.length):=⟨iq,mH,hgl⟩;have uv:=anW pb tb cap A ra (t5::r5) ta tz g _ E9 nQ hka adb hkz hok.2.1 hok.1 hok.2.2;clear hc hT iq mH hgl adb hok
     go_wp2_with fail
     refine uv.mono ?_;rintro e w8 ⟨v,rfl,I2,CD,T9⟩;have xZ:=NF.fx uf ah CD E9
     have CE:=ND.trans CD;have hs8:=CE.size;have I3:nK w8 v (opn g):=by
      have:=xz T9;unfold nK opn;rw[List.length_dropLast];exact this
     obtain⟨so,vn,vc,rfl⟩:∃so n c,v=aG so n c:=by
      rcases T9.2 with⟨hv,_⟩|⟨g,cap,cur,hv,_⟩
      .exact⟨_,_,_,hv⟩
      .exact⟨_,_,_,hv⟩
     obtain⟨vs,hvs,uI,I4⟩:=xZ;have IY:acc.length<=20000000402:=by
      have h1:=aZ List.length NH.out.1;simp at h1;omega
     clear E9 ND NF CD T9 uv
     go_wp2_with (at_builtin;refine wpList_append_lies _ rfl (.tmp 47) (.tmp 49) 91 rfl w6.heap.size 92 i1 _ 1 24 underlying91 hi1 an2 an3 an4 rfl ah u9 acc.length vs rfl (bG uI (λk hk=>Below.heap_alloc _ _ _ (bn uI k hk).2)) ⟨w8.heap.size,0,none⟩ 1 1 [aG so vn vc] rfl rfl (World.news_of_block (cs:= #[aG so vn vc]) (t:=92) (fr:=(0,0)) (heap_alloc_new w8 _)) (by simp[Value.oneCell']) ah (by unfold maxLen;omega) aa (by simp;omega) (w8.heap.size+1) af ?_;intro gg cap' w9 ho hgrow hat sI)
     have x9:∀k,u9.ownBlock=some k->∃cur,w8.heap[k]?=some (.cells cur 92 (0,0)):=λk hk=>vh uI hk
     have pK:=I2.GR hgrow x9 ah
     have yg:=CE.GR hgrow (λk hk=>(bn uI k hk).1)
     have yh:Mk 92 nK w6.heap.size (aG (some ⟨gg,0,none⟩) (acc.length+1) cap') (acc++[opn g]) w9:=by
      refine⟨vs++[aG so vn vc],by simp[hvs],by simpa using ho,?_⟩
      exact YZ hvs (λi u x hu hx=>LF uf hgrow x9 ah (I4 i u x hu hx)) (LF uf hgrow x9 ah I3)
     clear hgrow ho hat uI CE I2 IY I3 I4 x9;refine(IW pb tb cap A r5 t5 _ 44 pK nQ).mono ?_;rintro e ZQ ⟨rfl,n10,rfl⟩;obtain⟨qo,kK,vG⟩:=NH.out;rcases q8.out with⟨k1,rfl,k3⟩|⟨k1,k2⟩
     .have hd:decide (t5.k=44)=false:=jU aa
      rw[hd];have HN:Hid (Ny pb tb cap A (t4::t3::r3) gs w6 0 (aG (some ⟨gg,0,none⟩) (acc.length+1) cap') false (w9.drewN n10)):=⟨t5::r5,acc++[opn g],[],pK,yg.drewN n10,yh,by rw[<-qo];simp,rfl,iW _,λh=>(by cases h),λ_=>⟨rfl,k3.symm⟩⟩
      have hg0:0<gk:=by rw[<-kK];simp
      clear q8 NH pK yg yh k3 qo kK hd
      go_wp2_with fail
      go_roundg 0
      case measure=>omega
      case rel=>exact⟨_,rfl,HN⟩
     .have hd:decide (t5.k=44)=true:=iD k1;rw[hd];obtain⟨c3,hc3,pJ⟩:=pK.box;have zY:PX pb tb cap A r5 ((w9.drewN n10).setCell ⟨pb,1,none⟩ (az aJ ((c3.length:Int)+1))):=PX.next (w:=w9.drewN n10) pK c3 hc3 pJ
      have I5:Fp pb (w9.drewN n10) ((w9.drewN n10).setCell ⟨pb,1,none⟩ (az aJ ((c3.length:Int)+1))):=(Fp.refl pb _).set 1 _;have HN:Hid (Ny pb tb cap A (t4::t3::r3) gs w6 (gk-1) (aG (some ⟨gg,0,none⟩) (acc.length+1) cap') true ((w9.drewN n10).setCell ⟨pb,1,none⟩ (az aJ ((c3.length:Int)+1)))):=
       ⟨r5,acc++[opn g],Aa,zY,(yg.drewN n10).set 1 _,Mk.fx (w:=w9.drewN n10) uf ah yh I5 pK,by rw[<-qo];simp,by rw[<-kK];simp,aa,λ_=>k2,λh=>(by cases h)⟩
      have b1:(w9.drewN n10).cell? ⟨pb,1,none⟩=some (az aJ c3.length):=cell_of (w:=w9.drewN n10) pJ 1;have g1':(w9.drewN n10).frozen? ⟨pb,1,none⟩=false:=bK (w:=w9.drewN n10) pJ 1;have hcl:c3.length<=20000000402:=by have h:=aZ List.length hc3;simp at h;omega
      have hg0:0<gk:=by rw[<-kK];simp
      clear q8 NH pK yg yh qo kK hd zY hc3 pJ k2 I5;generalize w9.drewN n10=w11 at*
      go_wp2_with fail
      go_roundg (gk-1)
      case measure=>omega
      case rel=>exact⟨_,rfl,HN⟩
end
end Go.Proofs.YtkjhhooecopolaaGreatDoor

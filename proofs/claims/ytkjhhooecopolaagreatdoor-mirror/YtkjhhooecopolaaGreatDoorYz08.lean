import Derived.Test.YtkjhhooecopolaaGreatDoorYz06
set_option maxRecDepth 100000
set_option maxHeartbeats 4000000
namespace Go.Proofs.YtkjhhooecopolaaGreatDoor
open Go.RowKit
namespace Ge
abbrev Fr:=Int×Int
abbrev Qt:=Fr×Fr
def fc(a b:Fr):Int:=(a.1*b.2-b.1*a.2).sign
def pc(p q:Qt):Int:=if fc p.1 q.1=0 then fc p.2 q.2 else fc p.1 q.1
structure Dv(a:Fr):Prop where
 pos:0<a.2
 co:Int.gcd a.1 a.2=1
structure fR(p:Qt):Prop where
 x:Dv p.1
 y:Dv p.2
theorem Uh(a b:Fr):fc b a= -fc a b:=by
 unfold fc;rw[<-RL];congr 1;omega
theorem MC{k m n:Int}(h:Int.gcd k m=1)(hd:k∣m*n):k∣n:=by
 have h1:=anR.2 hd;rw[nV] at h1;exact anR.1 (Nat.Coprime.dvd_of_dvd_mul_left h h1)
theorem MD{a b:Fr}(ha:Dv a)(hb:Dv b)(h:fc a b=0):a=b:=by
 unfold fc at h;have h':a.1*b.2=b.1*a.2:=by have:=vZ.1 h;omega
 have d1:a.2∣b.2:=by
  have:a.2∣a.1*b.2:=by rw[h'];exact Int.dvd_mul_left _ _
  exact MC (by rw[acv];exact ha.co) this
 have d2:b.2∣a.2:=by
  have:b.2∣b.1*a.2:=by rw[<-h'];exact Int.dvd_mul_left _ _
  exact MC (by rw[acv];exact hb.co) this
 have e2:a.2=b.2:=Int.dvd_antisymm (dM ha.pos) (dM hb.pos) d1 d2;have e1:a.1=b.1:=by
  rw[e2] at h';exact RH (acq hb.pos) h'
 exact eB e1 e2
theorem Aw(a:Fr):fc a a=0:=by
 unfold fc;rw[show a.1*a.2-a.1*a.2=0 by omega]
 rfl
theorem Ui(z:Int):(z.sign= -1/\z<0)\/(z.sign=0/\z=0)\/(z.sign=1/\0<z):=by
 rcases fD z 0 with h|h|h
 ·exact ae ⟨Gm h,h⟩
 ·exact af (ae ⟨by rw[h];rfl,h⟩)
 ·exact af (af ⟨pX h,h⟩)
theorem Uj{a b:Fr}:fc a b<0↔a.1*b.2<b.1*a.2:=by
 unfold fc;have:=Ui (a.1*b.2-b.1*a.2);omega
theorem Uk{a b:Fr}:fc a b=0↔a.1*b.2=b.1*a.2:=by
 unfold fc;have:=Ui (a.1*b.2-b.1*a.2);omega
theorem wO{a b c d e f:Int}(hb:0<b)(hd:0<d)(hf:0<f)(h1:a*d<c*b)(h2:c*f<=e*d):a*f<e*b:=by
 have k1:a*d*f<c*b*f:=RF h1 hf;have k2:c*f*b<=e*d*b:=anS h2 (dM hb);have k3:d*(a*f)<d*(e*b):=by
  have e1:d*(a*f)=a*d*f:=by ac_rfl
  have e2:d*(e*b)=e*d*b:=by ac_rfl
  have e3:c*b*f=c*f*b:=by ac_rfl
  rw[e1,e2];omega
 exact anT k3 (dM hd)
theorem ME{a b c d e f:Int}(hb:0<b)(hd:0<d)(hf:0<f)(h1:a*d<=c*b)(h2:c*f<e*d):a*f<e*b:=by
 have k1:a*d*f<=c*b*f:=anS h1 (dM hf);have k2:c*f*b<e*d*b:=RF h2 hb;have k3:d*(a*f)<d*(e*b):=by
  have e1:d*(a*f)=a*d*f:=by ac_rfl
  have e2:d*(e*b)=e*d*b:=by ac_rfl
  have e3:c*b*f=c*f*b:=by ac_rfl
  rw[e1,e2];omega
 exact anT k3 (dM hd)
theorem MF{a b c d e f:Int}(hd:0<d)(h1:a*d=c*b)(h2:c*f=e*d):a*f=e*b:=by
 have k3:d*(a*f)=d*(e*b):=by
  have e1:d*(a*f)=a*d*f:=by ac_rfl
  have e2:d*(e*b)=e*d*b:=by ac_rfl
  have e3:c*b*f=c*f*b:=by ac_rfl
  rw[e1,e2,h1,e3,h2]
 exact zQ (acq hd) k3
def lt(p q:Qt):Prop:=pc p q<0
theorem aeF{p q:Qt}:pc p q<0↔fc p.1 q.1<0\/(fc p.1 q.1=0/\fc p.2 q.2<0):=by
 unfold pc;split<;>omega
theorem H0(p q:Qt):pc q p= -pc p q:=by
 unfold pc;rw[Uh p.1 q.1,Uh p.2 q.2];split<;>split<;>omega
theorem aeG{p q:Qt}(hp:fR p)(hq:fR q)(h:pc p q=0):p=q:=by
 unfold pc at h;split at h
 ·rename_i h1
  exact eB (MD hp.x hq.x h1) (MD hp.y hq.y h)
 ·rename_i h1;exact absurd h h1
theorem yA(p:Qt):pc p p=0:=by
 unfold pc;rw[Aw,ah rfl,Aw]
theorem lt_trans{p q r:Qt}(hp:fR p)(hq:fR q)(hr:fR r)(h1:lt p q)(h2:lt q r):lt p r:=by
 unfold lt at*;rw[aeF] at*;rw[Uj,Uk,Uj] at*;rcases h1 with h1|⟨h1,h1'⟩
 ·rcases h2 with h2|⟨h2,_⟩
  ·exact ae (wO hp.x.pos hq.x.pos hr.x.pos h1 (dM h2))
  ·exact ae (wO hp.x.pos hq.x.pos hr.x.pos h1 (K8 h2))
 ·rcases h2 with h2|⟨h2,h2'⟩
  ·exact ae (ME hp.x.pos hq.x.pos hr.x.pos (K8 h1) h2)
  ·exact af ⟨MF hq.x.pos h1 h2,wO hp.y.pos hq.y.pos hr.y.pos h1' (dM h2')⟩
theorem lt_irrefl(p:Qt):¬lt p p:=by unfold lt;rw[yA];decide
def sJ(l:List Qt):Prop:=l.Pairwise lt
def ins(p:Qt):List Qt->List Qt
 |[]=>[p]
 |q::l=>if pc q p=0 then q::l else if pc q p<0 then q::ins p l else p::q::l
theorem sK{p:Qt}(hp:fR p):∀{l:List Qt},(∀q∈l,fR q)->∀r,r∈ins p l↔r=p\/r∈l
 |[],_,r=>by simp[ins]
 |q::l,hl,r=>by
  unfold ins;split
  ·rename_i h
   have e:=aeG (hl q (by simp)) hp h
   subst e;simp
  ·split
   ·have ih:=sK hp (l:=l) (fun x hx=>hl x (by simp[hx])) r
    simp only[aV,ih];constructor
    ·rintro(h|h|h)
     ·exact af (ae h)
     ·exact ae h
     ·exact af (af h)
    ·rintro(h|h|h)
     ·exact af (ae h)
     ·exact ae h
     ·exact af (af h)
   ·simp
theorem wP{p:Qt}(hp:fR p){l:List Qt}(hl:∀q∈l,fR q):∀q∈ins p l,fR q:=fun q hq=>by
 rcases(sK hp hl q).1 hq with h|h
 ·rw[h];exact hp
 ·exact hl q h
theorem Ul{p:Qt}(hp:fR p):∀{l:List Qt},(∀q∈l,fR q)->sJ l->sJ (ins p l)
 |[],_,_=>by simp[ins,sJ]
 |q::l,hl,ha=>by
  have ha':=gv.1 ha;unfold ins;split
  ·exact ha
  ·split
   ·rename_i _ h
    refine gv.2 ⟨fun r hr=>?_,Ul hp (fun x hx=>hl x (by simp[hx])) ha'.2⟩
    rcases(sK hp (fun x hx=>hl x (by simp[hx])) r).1 hr with e|e
    ·rw[e];exact h
    ·exact ha'.1 r e
   ·rename_i h0 h1
    have kN:lt p q:=by unfold lt;have:=H0 q p;omega
    refine gv.2 ⟨fun r hr=>?_,ha⟩
    rcases aV.1 hr with e|e
    ·rw[e];exact kN
    ·exact lt_trans hp (hl q (by simp)) (hl r (by simp[e])) kN (ha'.1 r e)
theorem Um:∀{a b:List Qt},(∀q∈a,fR q)->(∀q∈b,fR q)->sJ a->sJ b->(∀q,q∈a↔q∈b)->a=b
 |[],[],_,_,_,_,_=>rfl
 |[],q::l,_,_,_,_,h=>by have:=(h q).2 (by simp);simp at this
 |q::l,[],_,_,_,_,h=>by have:=(h q).1 (by simp);simp at this
 |p::a,q::b,ra,rb,ha,hb,h=>by
  have ha':=gv.1 ha;have hb':=gv.1 hb;have e:p=q:=by
   rcases aV.1 ((h p).1 (by simp)) with e|e
   ·exact e
   ·rcases aV.1 ((h q).2 (by simp)) with e'|e'
    ·exact e'.symm
    ·have h1:=hb'.1 p e;have h2:=ha'.1 q e';exact absurd (lt_trans (ra p (by simp)) (rb q (by simp)) (ra p (by simp)) h2 h1) (lt_irrefl p)
  subst e;congr 1;refine Um (fun x hx=>ra x (by simp[hx])) (fun x hx=>rb x (by simp[hx])) ha'.2 hb'.2 fun r=>?_
  constructor
  ·intro hr;rcases aV.1 ((h r).1 (by simp[hr])) with e|e
   ·exact absurd (ha'.1 r hr) (by rw[e];exact lt_irrefl p)
   ·exact e
  ·intro hr;rcases aV.1 ((h r).2 (by simp[hr])) with e|e
   ·exact absurd (hb'.1 r hr) (by rw[e];exact lt_irrefl p)
   ·exact e
end Ge
namespace Ge
def aW(n d:Int):Fr:=if d<0 then(Dk (-n) (-d),yt (-n) (-d)) else(Dk n d,yt n d)
theorem Un{n d g:Int}{a b:Int}(hg:(Int.gcd n d:Int)=g)(hp:0<g)(h1:n=g*a)(h2:d=g*b):Int.gcd a b=1:=by
 have e:Int.gcd (g*a) (g*b)=g.natAbs*Int.gcd a b:=acw ..;rw[<-h1,<-h2] at e;have e2:(Int.gcd n d)=g.natAbs:=by omega
 rw[e2] at e;have hpos:0<g.natAbs:=by omega
 have e3:g.natAbs*1=g.natAbs*Int.gcd a b:=by rw[Nat.mul_one];exact e
 exact(anU hpos e3).symm
theorem Ax{n d:Int}(hd:d≠0):Dv (aW n d):=by
 unfold aW;split
 ·rename_i h
  exact⟨TW (by omega),Un rfl (by have:=sI (n:= -n) (d:= -d) (by omega);omega) (Ht (-n) (-d)) (Dl (-n) (-d))⟩
 ·exact⟨TW (by omega),Un rfl (by have:=sI (n:=n) hd;omega) (Ht n d) (Dl n d)⟩
theorem Ay{n d:Int}(hd:d≠0):∃g,g≠0/\n=g*(aW n d).1/\d=g*(aW n d).2/\(0<g↔0<d):=by
 unfold aW;split
 ·rename_i h
  have hg:=sI (n:= -n) (d:= -d) (by omega)
  have e1:=Ht (-n) (-d);have e2:=Dl (-n) (-d);refine⟨-(Int.gcd (-n) (-d):Int),by omega,?_,?_,by omega⟩
  ·simp only;rw[iG,<-e1];omega
  ·simp only;rw[iG,<-e2];omega
 ·have hg:=sI (n:=n) hd;exact⟨_,by omega,Ht n d,Dl n d,by omega⟩
theorem H6(n:Int):aW n 1=(n,1):=by
 unfold aW;rw[aa (by decide)]
 unfold Dk yt;rw[RM];simp
theorem Az{n d m e:Int}(hd:d≠0)(he:e≠0)(h:n*e=m*d):aW n d=aW m e:=by
 obtain⟨g,g0,h1,h2,_⟩:=Ay (n:=n) hd;obtain⟨k,k0,h3,h4,_⟩:=Ay (n:=m) he;refine MD (Ax hd) (Ax he) (Uk.2 ?_);have e1:g*(aW n d).1*(k*(aW m e).2)=k*(aW m e).1*(g*(aW n d).2):=by rw[<-h1,<-h2,<-h3,<-h4];exact h
 have e2:(g*k)*((aW n d).1*(aW m e).2)=(g*k)*((aW m e).1*(aW n d).2):=by
  calc (g*k)*((aW n d).1*(aW m e).2)=g*(aW n d).1*(k*(aW m e).2):=by ac_rfl
   _=k*(aW m e).1*(g*(aW n d).2):=e1
   _=(g*k)*((aW m e).1*(aW n d).2):=by ac_rfl
 exact zQ (acx g0 k0) e2
end Ge
theorem AA(c:UInt8)(w:World):
  Calls Tryz.prog 85 #[.int .u8 c.toNat] w fun e w'=>e=.returned (.bool (Pl.isLet c))/\w'=w:=by
 go_enter Tryz.func85,Tryz.ntmps85
 go_wp2
 all_goals
  go_ret
  refine⟨r9 ?_,rfl⟩;unfold Pl.isLet;rw[nj];simp;omega
theorem mq(c:UInt8)(w:World):
  Calls Tryz.prog 86 #[.int .u8 c.toNat] w fun e w'=>e=.returned (.bool (Pl.aR c))/\w'=w:=by
 go_enter Tryz.func86,Tryz.ntmps86
 go_wp2
 all_goals
  go_ret
  refine⟨r9 ?_,rfl⟩;unfold Pl.aR;rw[nj];simp;omega
def Pl.rS(t:Pl.Tk):List UInt8:=if t.k=110 then[] else t.raw
def sL(t:Pl.Tk):Array Value:= #[.int .u8 t.k,.string ⟨(Pl.rS t).toArray⟩,.int .i64 t.n,.int .i64 t.pl]
theorem aeH(s:ByteArray)(i:Nat)(w:World)(hi:s.size<=i)(_hi2:i<=400)(_hs:s.size<=400):
  Calls Tryz.prog 57 #[.string s,.int .i64 i] w fun e w'=>e=.returned (.tuple #[.agg (sL ⟨101,[],0,i⟩),.int .i64 i])/\Below w.heap.size w w':=by
 go_enter Tryz.func57,Tryz.ntmps57
 go_wp2
 exact bodyPost_ret (v:=.tuple #[.agg #[.int .u8 101,.string ⟨#[]⟩,.int .i64 0,.int .i64 i],.int .i64 i]) (by simp[results,Tryz.results57,go_sem]) rfl ⟨rfl,(Below.refl _ _).alloc (ai _) _⟩
theorem aeI(s:ByteArray)(i:Nat)(w:World)(hi:i<s.size)(hs:s.size<=400)(hc:s[i].toNat=40\/s[i].toNat=41\/s[i].toNat=44\/s[i].toNat=47):
  Calls Tryz.prog 57 #[.string s,.int .i64 i] w fun e w'=>e=.returned (.tuple #[.agg #[.int .u8 s[i].toNat,.string (s.extract i (i+1)),.int .i64 0,.int .i64 i],.int .i64 ((i+1:Nat):Int)])/\Below w.heap.size w w':=by
 have key:∀a b c d:Bool,((s[i].toNat:Int) == 40)=a->((s[i].toNat:Int) == 41)=b->((s[i].toNat:Int) == 44)=c->((s[i].toNat:Int) == 47)=d->(a||b||c||d)=true->
   Calls Tryz.prog 57 #[.string s,.int .i64 i] w fun e w'=>e=.returned (.tuple #[.agg #[.int .u8 s[i].toNat,.string (s.extract i (i+1)),.int .i64 0,.int .i64 i],.int .i64 ((i+1:Nat):Int)])/\Below w.heap.size w w':=by
  intro a b c d ha hb hc' hd hor;clear hc;cases a
  ·cases b
   ·cases c
    ·cases d
     ·cases hor
     ·go_enter Tryz.func57,Tryz.ntmps57
      go_wp2
      exact bodyPost_ret (v:=.tuple #[.agg #[.int .u8 s[i].toNat,.string (s.extract i (i+1)),.int .i64 0,.int .i64 i],.int .i64 ((i+1:Nat):Int)]) (by simp[results,Tryz.results57,go_sem]) rfl ⟨rfl,(Below.refl _ _).alloc (ai _) _⟩
    ·go_enter Tryz.func57,Tryz.ntmps57
     go_wp2
     exact bodyPost_ret (v:=.tuple #[.agg #[.int .u8 s[i].toNat,.string (s.extract i (i+1)),.int .i64 0,.int .i64 i],.int .i64 ((i+1:Nat):Int)]) (by simp[results,Tryz.results57,go_sem]) rfl ⟨rfl,(Below.refl _ _).alloc (ai _) _⟩
   ·go_enter Tryz.func57,Tryz.ntmps57
    go_wp2
    exact bodyPost_ret (v:=.tuple #[.agg #[.int .u8 s[i].toNat,.string (s.extract i (i+1)),.int .i64 0,.int .i64 i],.int .i64 ((i+1:Nat):Int)]) (by simp[results,Tryz.results57,go_sem]) rfl ⟨rfl,(Below.refl _ _).alloc (ai _) _⟩
  ·go_enter Tryz.func57,Tryz.ntmps57
   go_wp2
   exact bodyPost_ret (v:=.tuple #[.agg #[.int .u8 s[i].toNat,.string (s.extract i (i+1)),.int .i64 0,.int .i64 i],.int .i64 ((i+1:Nat):Int)]) (by simp[results,Tryz.results57,go_sem]) rfl ⟨rfl,(Below.refl _ _).alloc (ai _) _⟩
 refine key _ _ _ _ rfl rfl rfl rfl ?_;simp;omega
theorem MG{c:UInt8}(h:Pl.isLet c=true\/Pl.aR c=true\/c.toNat=45\/¬(c.toNat=40\/c.toNat=41\/c.toNat=44\/c.toNat=47)):
  ((c.toNat:Int) == 40)=false/\((c.toNat:Int) == 41)=false/\((c.toNat:Int) == 44)=false/\((c.toNat:Int) == 47)=false:=by
 have h':¬(c.toNat=40\/c.toNat=41\/c.toNat=44\/c.toNat=47):=by
  rcases h with h|h|h|h
  ·have:=eW h;omega
  ·have:=eW h;omega
  ·omega
  ·exact h
 simp only[uv];omega
theorem aeK(s:ByteArray)(i k:Nat)(w:World)(hi:i<s.size)(hs:s.size<=400)(hl:Pl.isLet s[i]=true)(hk:k=i+((s.data.toList.drop i).takeWhile Pl.isLet).length):
  Calls Tryz.prog 57 #[.string s,.int .i64 i] w fun e w'=>e=.returned (.tuple #[.agg #[.int .u8 119,.string (s.extract i k),.int .i64 0,.int .i64 i],.int .i64 k])/\Below w.heap.size w w':=by
 obtain⟨q1,q2,q3,q4⟩:=MG (ae hl);have hk1:i<=k/\k<=s.size:=by
  have:=(qc Pl.isLet (l:=s.data.toList.drop i)).length_le;simp at this;omega
 have HK:Hid (k=i+((s.data.toList.drop i).takeWhile Pl.isLet).length):=hk;clear hk
 go_enter Tryz.func57,Tryz.ntmps57
 go_wp2_with (go_at_call 85;refine(AA _ _).mono ?_;rintro e w' ⟨rfl,rfl⟩)
 go_loop [1] (fun t=>∃j:Nat,i<=j/\j<=s.size/\t=.int .i64 j/\Hid (j+((s.data.toList.drop j).takeWhile Pl.isLet).length=k)) (fun t=>s.size-(intOf t).toNat)
 case atStart=>exact⟨i,ai _,by omega,rfl,HK.out.symm⟩
 case round=>
  obtain⟨j,hij,hj,rfl,HE⟩:=hrel;by_cases hlt:j<s.size
  ·by_cases hp:Pl.isLet s[j]=true
   ·have HS:Hid (j+1+((s.data.toList.drop (j+1)).takeWhile Pl.isLet).length=k):=by
     have h1:=C7 Pl.isLet s.data.toList j (by simpa using hlt) hp
     have h2:=HE.out;show _=_;omega
    clear HE
    go_wp2_with (go_at_call 85;refine(AA _ _).mono ?_;rintro e w' ⟨rfl,rfl⟩)
    go_round
    case rel=>exact⟨j+1,by omega,by omega,by go_num,HS⟩
    case measure=>simp[intOf];omega
   ·have hp':Pl.isLet s[j]=false:=by simpa using hp
    have hjk:j=k:=by
     have h1:=C8 Pl.isLet s.data.toList j (by simpa using hlt) hp'
     have h2:=HE.out;omega
    subst hjk;clear HE hp HK
    go_wp2_with (go_at_call 85;refine(AA _ _).mono ?_;rintro e w' ⟨rfl,rfl⟩)
    exact bodyPost_ret (v:=.tuple #[.agg #[.int .u8 119,.string (s.extract i j),.int .i64 0,.int .i64 i],.int .i64 j]) (by simp[results,Tryz.results57,go_sem]) rfl ⟨rfl,(Below.refl _ _).alloc (ai _) _⟩
  ·have hjk:j=k:=by
    have h2:=HE.out;rw[zL (by simp;omega:s.data.toList.length<=j)] at h2
    simpa using h2
   subst hjk;clear HE HK
   go_wp2_with (go_at_call 85;refine(AA _ _).mono ?_;rintro e w' ⟨rfl,rfl⟩)
   exact bodyPost_ret (v:=.tuple #[.agg #[.int .u8 119,.string (s.extract i j),.int .i64 0,.int .i64 i],.int .i64 j]) (by simp[results,Tryz.results57,go_sem]) rfl ⟨rfl,(Below.refl _ _).alloc (ai _) _⟩
theorem H7(l:List UInt8)(c:UInt8):Pl.dI (l++[c])=10*Pl.dI l+(c.toNat-48):=by simp[Pl.dI]
theorem MH:∀(j:Nat)(l:List UInt8),(∀c∈l,Pl.aR c=true)->Pl.dI (l.take j)<10 ^ j
 |0,l,_=>by simp[Pl.dI]
 |j+1,l,h=>by
  have ih:=MH j l h;by_cases hj:j<l.length
  ·rw[oY hj,H7];have:=eW (h l[j] (iw hj));rw[acy];omega
  ·have e:l.take (j+1)=l.take j:=by rw[rV (by omega),rV (by omega)]
   rw[e,acy];omega
def cZ(s:ByteArray)(d:Nat):List UInt8:=(s.data.toList.drop d).takeWhile Pl.aR
theorem Uo(s:ByteArray)(d j:Nat)(hj:j<(cZ s d).length):∃h:d+j<s.size,(cZ s d)[j]=s[d+j]/\Pl.aR s[d+j]=true:=by
 have hp:=(qc Pl.aR (l:=s.data.toList.drop d));have hl:=hp.length_le;simp at hl;have hd:d+j<s.size:=by unfold cZ at hj;omega
 have e:(cZ s d)[j]=s[d+j]:=by
  have h1:=hp.getElem (i:=j) hj;unfold cZ;rw[h1];simp;rfl
 refine⟨hd,e,?_⟩;rw[<-e];exact Da _ _ (iw hj)
theorem Uq(s:ByteArray)(d:Nat)(h:d+(cZ s d).length<s.size):Pl.aR s[d+(cZ s d).length]=false:=by
 have key:∀(l:List UInt8)(h:(l.takeWhile Pl.aR).length<l.length),Pl.aR l[(l.takeWhile Pl.aR).length]=false:=by
  intro l;induction l with
  |nil=>intro h;simp at h
  |cons a r ih=>
   intro h;by_cases ha:Pl.aR a=true
   ·have e:((a::r).takeWhile Pl.aR)=a::r.takeWhile Pl.aR:=by simp[ha]
    simp only[e,bW] at h⊢;exact ih (by simpa using h)
   ·have e:((a::r).takeWhile Pl.aR)=[]:=by simp[ha]
    simp only[e,fJ];simpa using ha
 have h2:=key (s.data.toList.drop d) (by simp;unfold cZ at h;omega)
 unfold cZ at h⊢;rw[List.getElem_drop] at h2;exact h2
def Ur(neg:Bool)(s:ByteArray)(i d:Nat)(w:World)(e:Ending)(w':World):Prop:=
  Below w.heap.size w w'/\
  (((cZ s d=[]\/9<(cZ s d).length)/\∃j:Nat,j<=1000/\e=.returned (.tuple #[.agg #[.int .u8 120,.string ⟨#[]⟩,.int .i64 0,.int .i64 i],.int .i64 j]))\/
   (¬(cZ s d=[]\/9<(cZ s d).length)/\e=.returned (.tuple #[.agg #[.int .u8 110,.string ⟨#[]⟩,.int .i64 (if neg then -(Pl.dI (cZ s d):Int) else(Pl.dI (cZ s d):Int)),.int .i64 i],.int .i64 ((d+(cZ s d).length:Nat):Int)])))
theorem aeL(s:ByteArray)(i:Nat)(w:World)(hi:i<s.size)(hs:s.size<=400)(hl:Pl.isLet s[i]=false)
    (hq:¬(s[i].toNat=40\/s[i].toNat=41\/s[i].toNat=44\/s[i].toNat=47))(hm:((s[i].toNat:Int) == 45)=false):
    Calls Tryz.prog 57 #[.string s,.int .i64 i] w (Ur false s i i w):=by
  obtain⟨q1,q2,q3,q4⟩:=MG (af (af (af hq)));clear hq;have hD:(cZ s i).length<=s.size-i:=by
    have:=(qc Pl.aR (l:=s.data.toList.drop i)).length_le;simp at this;unfold cZ;omega
  have HG:Hid (∀j(hj:j<(cZ s i).length),∃h:i+j<s.size,(cZ s i)[j]=s[i+j]/\Pl.aR s[i+j]=true):=fun j hj=>Uo s i j hj
  have HS:Hid (∀h:i+(cZ s i).length<s.size,Pl.aR s[i+(cZ s i).length]=false):=Uq s i;have HL:Hid (∀j,Pl.dI ((cZ s i).take j)<10 ^ j):=fun j=>MH j _ (Da _)
  generalize Ac:cZ s i=D at*;have jK:Hid (cZ s i=D):=Ac;clear Ac
  go_enter Tryz.func57,Tryz.ntmps57
  go_wp2_with (go_at_call 85;refine(AA _ _).mono ?_;rintro e w' ⟨rfl,rfl⟩)
  go_loop [1,8] (fun t n=>∃j:Nat,j<=D.length/\j<=10/\t=.int .i64 ((i+j:Nat):Int)/\n=.int .i64 ((Pl.dI (D.take j):Nat):Int)) (fun t _=>1000-(intOf t).toNat)
  case atStart=>exact⟨0,by omega,by omega,by go_num,rfl⟩
  case round=>
    obtain⟨j,hj,aeM,rfl,rfl⟩:=hrel;by_cases hgo:j<D.length/\j<10
    · obtain⟨h1,h2⟩:=hgo;obtain⟨hlt,hg,hp⟩:=HG.out j h1;have hv:Pl.dI (D.take j)<10000000000:=aQ (HL.out j) (RN (by omega) (by omega:j<=10))
      have HE:Hid (Pl.dI (D.take (j+1))=10*Pl.dI (D.take j)+(s[i+j].toNat-48)):=by
        show _=_;rw[oY h1,H7,hg]
      have hd:=eW hp;generalize Pl.dI (D.take j)=V at*;clear hg HG HS HL jK
      go_wp2_with (go_at_call 86;refine(mq _ _).mono ?_;rintro e w' ⟨rfl,rfl⟩)
      exact⟨⟨j+1,by omega,by omega,aw (Value.int .i64) (by omega),aw (Value.int .i64) (by rw[HE.out];omega)⟩,by simp[intOf];omega⟩
    · by_cases yB:j=D.length
      · have hst:∀h:i+j<s.size,Pl.aR s[i+j]=false:=by
          intro h;subst yB;exact HS.out h
        have HV:Hid (D.take j=D):=by
          show _=_;rw[rV (by omega)]
        have hv:Pl.dI (D.take j)<10000000000:=aQ (HL.out j) (RN (by omega) (by omega:j<=10))
        have uP:Hid (Pl.dI (D.take j)=Pl.dI D):=aw Pl.dI HV.out;have lI:Hid (j=D.length):=yB;generalize Pl.dI (D.take j)=V at*;clear HG HS HL yB HV hj;by_cases hlt:i+j<s.size
        · have hp:=hst hlt;clear hst;by_cases pD:j=0
          · have h0:j<=0:=by omega
            have ha:((i:Int)+(j:Int) == (i:Int))=true:=by simp;omega
            clear pD
            go_wp2_with (go_at_call 86;refine(mq _ _).mono ?_;rintro e w' ⟨rfl,rfl⟩)
            refine bodyPost_ret (v:=.tuple #[.agg #[.int .u8 120,.string ⟨#[]⟩,.int .i64 0,.int .i64 i],.int .i64 ((i+j:Nat):Int)]) (by simp[results,Tryz.results57,go_sem]) rfl ?_
            refine⟨(Below.refl _ _).alloc (ai _) _,ae ⟨?_,i+j,by omega,rfl⟩⟩
            rw[jK.out];exact ae (RO (by have:=lI.out;omega))
          · by_cases Dw:j<=9
            · have ha:((i:Int)+(j:Int) == (i:Int))=false:=by simp;omega
              go_wp2_with (go_at_call 86;refine(mq _ _).mono ?_;rintro e w' ⟨rfl,rfl⟩)
              refine bodyPost_ret (v:=.tuple #[.agg #[.int .u8 110,.string ⟨#[]⟩,.int .i64 ((V:Int)),.int .i64 i],.int .i64 ((i+j:Nat):Int)]) (by simp[results,Tryz.results57,go_sem]) rfl ?_
              refine⟨(Below.refl _ _).alloc (ai _) _,af ⟨?_,?_⟩⟩
              · rw[jK.out];have qR:=lI.out;rintro(h|h)
                · rw[h] at qR;simp at qR;omega
                · omega
              · rw[jK.out,<-lI.out,<-uP.out];simp
            · have ha:((i:Int)+(j:Int) == (i:Int))=false:=by simp;omega
              go_wp2_with (go_at_call 86;refine(mq _ _).mono ?_;rintro e w' ⟨rfl,rfl⟩)
              refine bodyPost_ret (v:=.tuple #[.agg #[.int .u8 120,.string ⟨#[]⟩,.int .i64 0,.int .i64 i],.int .i64 ((i+j:Nat):Int)]) (by simp[results,Tryz.results57,go_sem]) rfl ?_
              refine⟨(Below.refl _ _).alloc (ai _) _,ae ⟨?_,i+j,by omega,rfl⟩⟩
              rw[jK.out];exact af (by have:=lI.out;omega)
        · clear hst;by_cases pD:j=0
          · have h0:j<=0:=by omega
            have ha:((i:Int)+(j:Int) == (i:Int))=true:=by simp;omega
            first
              | (exfalso;omega)
              | (clear pD
                 go_wp2_with (go_at_call 86;refine(mq _ _).mono ?_;rintro e w' ⟨rfl,rfl⟩)
                 refine bodyPost_ret (v:=.tuple #[.agg #[.int .u8 120,.string ⟨#[]⟩,.int .i64 0,.int .i64 i],.int .i64 ((i+j:Nat):Int)]) (by simp[results,Tryz.results57,go_sem]) rfl ?_
                 refine⟨(Below.refl _ _).alloc (ai _) _,ae ⟨?_,i+j,by omega,rfl⟩⟩
                 rw[jK.out];exact ae (RO (by have:=lI.out;omega)))
          · by_cases Dw:j<=9
            · have ha:((i:Int)+(j:Int) == (i:Int))=false:=by simp;omega
              go_wp2_with (go_at_call 86;refine(mq _ _).mono ?_;rintro e w' ⟨rfl,rfl⟩)
              refine bodyPost_ret (v:=.tuple #[.agg #[.int .u8 110,.string ⟨#[]⟩,.int .i64 ((V:Int)),.int .i64 i],.int .i64 ((i+j:Nat):Int)]) (by simp[results,Tryz.results57,go_sem]) rfl ?_
              refine⟨(Below.refl _ _).alloc (ai _) _,af ⟨?_,?_⟩⟩
              · rw[jK.out];have qR:=lI.out;rintro(h|h)
                · rw[h] at qR;simp at qR;omega
                · omega
              · rw[jK.out,<-lI.out,<-uP.out];simp
            · have ha:((i:Int)+(j:Int) == (i:Int))=false:=by simp;omega
              go_wp2_with (go_at_call 86;refine(mq _ _).mono ?_;rintro e w' ⟨rfl,rfl⟩)
              refine bodyPost_ret (v:=.tuple #[.agg #[.int .u8 120,.string ⟨#[]⟩,.int .i64 0,.int .i64 i],.int .i64 ((i+j:Nat):Int)]) (by simp[results,Tryz.results57,go_sem]) rfl ?_
              refine⟨(Below.refl _ _).alloc (ai _) _,ae ⟨?_,i+j,by omega,rfl⟩⟩
              rw[jK.out];exact af (by have:=lI.out;omega)
      · obtain⟨hlt,hg,hp⟩:=HG.out j (by omega)
        have Dw:¬j<=9:=by omega
        have ha:((i:Int)+(j:Int) == (i:Int))=false:=by simp;omega
        generalize Pl.dI (D.take j)=V at*;clear HG HS HL hg
        go_wp2_with (go_at_call 86;refine(mq _ _).mono ?_;rintro e w' ⟨rfl,rfl⟩)
        refine bodyPost_ret (v:=.tuple #[.agg #[.int .u8 120,.string ⟨#[]⟩,.int .i64 0,.int .i64 i],.int .i64 ((i+j:Nat):Int)]) (by simp[results,Tryz.results57,go_sem]) rfl ?_
        refine⟨(Below.refl _ _).alloc (ai _) _,ae ⟨?_,i+j,by omega,rfl⟩⟩
        rw[jK.out];exact af (by omega)
theorem aeN(s:ByteArray)(i:Nat)(w:World)(hi:i<s.size)(hs:s.size<=400)(hl:Pl.isLet s[i]=false)
    (hq:¬(s[i].toNat=40\/s[i].toNat=41\/s[i].toNat=44\/s[i].toNat=47))(hm:((s[i].toNat:Int) == 45)=true):
    Calls Tryz.prog 57 #[.string s,.int .i64 i] w (Ur true s i (i+1) w):=by
  obtain⟨q1,q2,q3,q4⟩:=MG (af (af (af hq)));clear hq;have hD:(cZ s (i+1)).length<=s.size-(i+1):=by
    have:=(qc Pl.aR (l:=s.data.toList.drop (i+1))).length_le;simp at this;unfold cZ;omega
  have HG:Hid (∀j(hj:j<(cZ s (i+1)).length),∃h:(i+1)+j<s.size,(cZ s (i+1))[j]=s[(i+1)+j]/\Pl.aR s[(i+1)+j]=true):=fun j hj=>Uo s (i+1) j hj
  have HS:Hid (∀h:(i+1)+(cZ s (i+1)).length<s.size,Pl.aR s[(i+1)+(cZ s (i+1)).length]=false):=Uq s (i+1);have HL:Hid (∀j,Pl.dI ((cZ s (i+1)).take j)<10 ^ j):=fun j=>MH j _ (Da _)
  generalize Ac:cZ s (i+1)=D at*;have jK:Hid (cZ s (i+1)=D):=Ac;clear Ac
  go_enter Tryz.func57,Tryz.ntmps57
  go_wp2_with (go_at_call 85;refine(AA _ _).mono ?_;rintro e w' ⟨rfl,rfl⟩)
  go_loop [1,8] (fun t n=>∃j:Nat,j<=D.length/\j<=10/\t=.int .i64 (((i+1)+j:Nat):Int)/\n=.int .i64 ((Pl.dI (D.take j):Nat):Int)) (fun t _=>1000-(intOf t).toNat)
  case atStart=>exact⟨0,by omega,by omega,by go_num,rfl⟩
  case round=>
    obtain⟨j,hj,aeM,rfl,rfl⟩:=hrel;by_cases hgo:j<D.length/\j<10
    · obtain⟨h1,h2⟩:=hgo;obtain⟨hlt,hg,hp⟩:=HG.out j h1;have hv:Pl.dI (D.take j)<10000000000:=aQ (HL.out j) (RN (by omega) (by omega:j<=10))
      have HE:Hid (Pl.dI (D.take (j+1))=10*Pl.dI (D.take j)+(s[(i+1)+j].toNat-48)):=by
        show _=_;rw[oY h1,H7,hg]
      have hd:=eW hp;generalize Pl.dI (D.take j)=V at*;clear hg HG HS HL jK
      go_wp2_with (go_at_call 86;refine(mq _ _).mono ?_;rintro e w' ⟨rfl,rfl⟩)
      exact⟨⟨j+1,by omega,by omega,aw (Value.int .i64) (by omega),aw (Value.int .i64) (by rw[HE.out];omega)⟩,by simp[intOf];omega⟩
    · by_cases yB:j=D.length
      · have hst:∀h:(i+1)+j<s.size,Pl.aR s[(i+1)+j]=false:=by
          intro h;subst yB;exact HS.out h
        have HV:Hid (D.take j=D):=by
          show _=_;rw[rV (by omega)]
        have hv:Pl.dI (D.take j)<10000000000:=aQ (HL.out j) (RN (by omega) (by omega:j<=10))
        have uP:Hid (Pl.dI (D.take j)=Pl.dI D):=aw Pl.dI HV.out;have lI:Hid (j=D.length):=yB;generalize Pl.dI (D.take j)=V at*;clear HG HS HL yB HV hj;by_cases hlt:(i+1)+j<s.size
        · have hp:=hst hlt;clear hst;by_cases pD:j=0
          · have h0:j<=0:=by omega
            have ha:(((i:Int)+1)+(j:Int) == ((i:Int)+1))=true:=by simp;omega
            clear pD
            go_wp2_with (go_at_call 86;refine(mq _ _).mono ?_;rintro e w' ⟨rfl,rfl⟩)
            refine bodyPost_ret (v:=.tuple #[.agg #[.int .u8 120,.string ⟨#[]⟩,.int .i64 0,.int .i64 i],.int .i64 (((i+1)+j:Nat):Int)]) (by simp[results,Tryz.results57,go_sem]) rfl ?_
            refine⟨(Below.refl _ _).alloc (ai _) _,ae ⟨?_,(i+1)+j,by omega,rfl⟩⟩
            rw[jK.out];exact ae (RO (by have:=lI.out;omega))
          · by_cases Dw:j<=9
            · have ha:(((i:Int)+1)+(j:Int) == ((i:Int)+1))=false:=by simp;omega
              go_wp2_with (go_at_call 86;refine(mq _ _).mono ?_;rintro e w' ⟨rfl,rfl⟩)
              refine bodyPost_ret (v:=.tuple #[.agg #[.int .u8 110,.string ⟨#[]⟩,.int .i64 (-(V:Int)),.int .i64 i],.int .i64 (((i+1)+j:Nat):Int)]) (by simp[results,Tryz.results57,go_sem]) rfl ?_
              refine⟨(Below.refl _ _).alloc (ai _) _,af ⟨?_,?_⟩⟩
              · rw[jK.out];have qR:=lI.out;rintro(h|h)
                · rw[h] at qR;simp at qR;omega
                · omega
              · rw[jK.out,<-lI.out,<-uP.out];simp
            · have ha:(((i:Int)+1)+(j:Int) == ((i:Int)+1))=false:=by simp;omega
              go_wp2_with (go_at_call 86;refine(mq _ _).mono ?_;rintro e w' ⟨rfl,rfl⟩)
              refine bodyPost_ret (v:=.tuple #[.agg #[.int .u8 120,.string ⟨#[]⟩,.int .i64 0,.int .i64 i],.int .i64 (((i+1)+j:Nat):Int)]) (by simp[results,Tryz.results57,go_sem]) rfl ?_
              refine⟨(Below.refl _ _).alloc (ai _) _,ae ⟨?_,(i+1)+j,by omega,rfl⟩⟩
              rw[jK.out];exact af (by have:=lI.out;omega)
        · clear hst;by_cases pD:j=0
          · have h0:j<=0:=by omega
            have ha:(((i:Int)+1)+(j:Int) == ((i:Int)+1))=true:=by simp;omega
            first
              | (exfalso;omega)
              | (clear pD
                 go_wp2_with (go_at_call 86;refine(mq _ _).mono ?_;rintro e w' ⟨rfl,rfl⟩)
                 refine bodyPost_ret (v:=.tuple #[.agg #[.int .u8 120,.string ⟨#[]⟩,.int .i64 0,.int .i64 i],.int .i64 (((i+1)+j:Nat):Int)]) (by simp[results,Tryz.results57,go_sem]) rfl ?_
                 refine⟨(Below.refl _ _).alloc (ai _) _,ae ⟨?_,(i+1)+j,by omega,rfl⟩⟩
                 rw[jK.out];exact ae (RO (by have:=lI.out;omega)))
          · by_cases Dw:j<=9
            · have ha:(((i:Int)+1)+(j:Int) == ((i:Int)+1))=false:=by simp;omega
              go_wp2_with (go_at_call 86;refine(mq _ _).mono ?_;rintro e w' ⟨rfl,rfl⟩)
              refine bodyPost_ret (v:=.tuple #[.agg #[.int .u8 110,.string ⟨#[]⟩,.int .i64 (-(V:Int)),.int .i64 i],.int .i64 (((i+1)+j:Nat):Int)]) (by simp[results,Tryz.results57,go_sem]) rfl ?_
              refine⟨(Below.refl _ _).alloc (ai _) _,af ⟨?_,?_⟩⟩
              · rw[jK.out];have qR:=lI.out;rintro(h|h)
                · rw[h] at qR;simp at qR;omega
                · omega
              · rw[jK.out,<-lI.out,<-uP.out];simp
            · have ha:(((i:Int)+1)+(j:Int) == ((i:Int)+1))=false:=by simp;omega
              go_wp2_with (go_at_call 86;refine(mq _ _).mono ?_;rintro e w' ⟨rfl,rfl⟩)
              refine bodyPost_ret (v:=.tuple #[.agg #[.int .u8 120,.string ⟨#[]⟩,.int .i64 0,.int .i64 i],.int .i64 (((i+1)+j:Nat):Int)]) (by simp[results,Tryz.results57,go_sem]) rfl ?_
              refine⟨(Below.refl _ _).alloc (ai _) _,ae ⟨?_,(i+1)+j,by omega,rfl⟩⟩
              rw[jK.out];exact af (by have:=lI.out;omega)
      · obtain⟨hlt,hg,hp⟩:=HG.out j (by omega)
        have Dw:¬j<=9:=by omega
        have ha:(((i:Int)+1)+(j:Int) == ((i:Int)+1))=false:=by simp;omega
        generalize Pl.dI (D.take j)=V at*;clear HG HS HL hg
        go_wp2_with (go_at_call 86;refine(mq _ _).mono ?_;rintro e w' ⟨rfl,rfl⟩)
        refine bodyPost_ret (v:=.tuple #[.agg #[.int .u8 120,.string ⟨#[]⟩,.int .i64 0,.int .i64 i],.int .i64 (((i+1)+j:Nat):Int)]) (by simp[results,Tryz.results57,go_sem]) rfl ?_
        refine⟨(Below.refl _ _).alloc (ai _) _,ae ⟨?_,(i+1)+j,by omega,rfl⟩⟩
        rw[jK.out];exact af (by omega)
end Go.Proofs.YtkjhhooecopolaaGreatDoor

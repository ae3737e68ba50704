import Derived.Test.YtkjhhooecopolaaGreatDoorAz05
import Derived.Test.YtkjhhooecopolaaGreatDoorAz00
set_option maxRecDepth 100000
set_option maxHeartbeats 4000000
namespace Go.Proofs.YtkjhhooecopolaaGreatDoor
open Go.Proofs.Tryz
open Value renaming int->I,complex->A,agg->u,bool->aC,string->aD,slice->D,tuple->aG
open IntKind renaming i64->J
open FloatKind renaming f64->C
open Ending renaming returned->aJ
open Go renaming World->G,Value->Y
open Option renaming some->K,none->Z
open Bool renaming true->aP,false->aQ
section
open Go.RowKit
variable{w:G}{x n d XN XD YN YD:Int}
theorem uA(c:UInt8)(w:G):
  M 85 #[I .u8 c.toNat] w λe w'=>e=aJ (aC<|Pl.apP c)/\w'=w:=by go_enter func85,ntmps85;go_wp2;all_goals (go_ret;refine⟨nD ?_,rfl⟩;unfold Pl.apP;rw[ke];simp;omega)
theorem kB(c:UInt8)(w:G):
  M 86 #[I .u8 c.toNat] w λe w'=>e=aJ (aC<|Pl.cE c)/\w'=w:=by go_enter func86,ntmps86;go_wp2;all_goals (go_ret;refine⟨nD ?_,rfl⟩;unfold Pl.cE;rw[ke];simp;omega)
def Pl.rS(t:Pl.Tk):V UInt8:=if t.k=110 then[] else t.raw
def oE(t:Pl.Tk):Array Y:= #[I .u8 t.k,aD ⟨(Pl.rS t).toArray⟩,I J t.n,I J t.pl]
theorem Wc(s:ByteArray)(i:Nat)(w:G)(a:s.size<=i)(_:i<=400)(_:s.size<=400):
  M 57 #[aD s,I J i] w (ai (aG #[u (oE ⟨101,[],0,i⟩),I J i]) w):=by go_enter func57,ntmps57;go_wp2;exact ab (v:=aG #[u #[I .u8 101,aD ⟨#[]⟩,I J 0,I J i],I J i]) (by simp[results,results57,go_sem]) rfl ⟨rfl,aj _ _⟩
theorem We(s:ByteArray)(i:Nat)(w:G)(q:i<s.size)(r:s.size<=400)(k:s[i].toNat=40\/s[i].toNat=41\/s[i].toNat=44\/s[i].toNat=47):
  M 57 #[aD s,I J i] w (ai (aG #[u #[I .u8 s[i].toNat,aD<|s.extract i<|i+1,I J 0,I J i],I J ((i+1:Nat):Int)]) w):=by
 have g:∀a b c d:Bool,((s[i].toNat:Int) == 40)=a->((s[i].toNat:Int) == 41)=b->((s[i].toNat:Int) == 44)=c->((s[i].toNat:Int) == 47)=d->(a||b||c||d)=aP->
   M 57 #[aD s,I J i] w (ai (aG #[u #[I .u8 s[i].toNat,aD<|s.extract i<|i+1,I J 0,I J i],I J ((i+1:Nat):Int)]) w):=by
  intro a b c d m n l p f;clear k;cases a
  .cases b
   .cases c
    .cases d
     .cases f
     .go_enter func57,ntmps57
      go_wp2
      exact ab (v:=aG #[u #[I .u8 s[i].toNat,aD<|s.extract i<|i+1,I J 0,I J i],I J ((i+1:Nat):Int)]) (by simp[results,results57,go_sem]) rfl ⟨rfl,aj _ _⟩
    .go_enter func57,ntmps57
     go_wp2
     exact ab (v:=aG #[u #[I .u8 s[i].toNat,aD<|s.extract i<|i+1,I J 0,I J i],I J ((i+1:Nat):Int)]) (by simp[results,results57,go_sem]) rfl ⟨rfl,aj _ _⟩
   .go_enter func57,ntmps57
    go_wp2
    exact ab (v:=aG #[u #[I .u8 s[i].toNat,aD<|s.extract i<|i+1,I J 0,I J i],I J ((i+1:Nat):Int)]) (by simp[results,results57,go_sem]) rfl ⟨rfl,aj _ _⟩
  .go_enter func57,ntmps57
   go_wp2
   exact ab (v:=aG #[u #[I .u8 s[i].toNat,aD<|s.extract i<|i+1,I J 0,I J i],I J ((i+1:Nat):Int)]) (by simp[results,results57,go_sem]) rfl ⟨rfl,aj _ _⟩
 refine g _ _ _ _ rfl rfl rfl rfl ?_;simp;omega
theorem Fk{c:UInt8}(h:Pl.apP c=aP\/Pl.cE c=aP\/c.toNat=45\/¬(c.toNat=40\/c.toNat=41\/c.toNat=44\/c.toNat=47)):
  ((c.toNat:Int) == 40)=aQ/\((c.toNat:Int) == 41)=aQ/\((c.toNat:Int) == 44)=aQ/\((c.toNat:Int) == 47)=aQ:=by have:¬(c.toNat=40\/c.toNat=41\/c.toNat=44\/c.toNat=47):=(by rcases h with h|h|h|h;have:=ft h;omega;have:=ft h;omega;omega;exact h);grind
theorem Wf(s:ByteArray)(i k:Nat)(w:G)(Q:i<s.size)(S:s.size<=400)(P:Pl.apP s[i]=aP)(p:k=i+((s.data.toList.drop i).takeWhile Pl.apP).length):
  M 57 #[aD s,I J i] w (ai (aG #[u #[I .u8 119,aD<|s.extract i k,I J 0,I J i],I J k]) w):=by obtain⟨o,y,z,A⟩:=Fk<|j P;have B:i<=k/\k<=s.size:=(by have:=(mH Pl.apP (l:=s.data.toList.drop i)).length_le;simp at this;omega);have g:H (k=i+((s.data.toList.drop i).takeWhile Pl.apP).length):=p;clear p;go_enter func57,ntmps57;go_wp2_with (go_at_call 85;refine(uA _ _).mono ?_;rintro e w' ⟨rfl,rfl⟩);go_loop [1] (λt=>∃a:Nat,i<=a/\a<=s.size/\t=I J a/\H (a+((s.data.toList.drop a).takeWhile Pl.apP).length=k)) (λt=>s.size-(intOf t).toNat);exact⟨i,aX _,U,rfl,g.o.symm⟩;obtain⟨a,x,R,rfl,c⟩:=hrel;by_cases d:a<s.size;by_cases m:Pl.apP s[a]=aP;have q:H (a+1+((s.data.toList.drop<|a+1).takeWhile Pl.apP).length=k):=(by have r:=Fg Pl.apP s.data.toList a (by simpa using d) m;have f:=c.o;show _=_;omega);clear c;go_wp2_with (go_at_call 85;refine(uA _ _).mono ?_;rintro e w' ⟨rfl,rfl⟩);go_round;exact⟨a+1,U,U,af,q⟩;simp[intOf];omega;have n:Pl.apP s[a]=aQ:=(by simpa using m);have b:a=k:=(by have r:=Fh Pl.apP s.data.toList a (by simpa using d) n;have f:=c.o;omega);subst b;clear c m g;go_wp2_with (go_at_call 85;refine(uA _ _).mono ?_;rintro e w' ⟨rfl,rfl⟩);exact ab (v:=aG #[u #[I .u8 119,aD<|s.extract i a,I J 0,I J i],I J a]) (by simp[results,results57,go_sem]) rfl ⟨rfl,aj _ _⟩;have b:a=k:=(by have f:=c.o;rw[qK (by simp;omega:s.data.toList.length<=a)] at f;simpa using f);subst b;clear c g;go_wp2_with (go_at_call 85;refine(uA _ _).mono ?_;rintro e w' ⟨rfl,rfl⟩);exact ab (v:=aG #[u #[I .u8 119,aD<|s.extract i a,I J 0,I J i],I J a]) (by simp[results,results57,go_sem]) rfl ⟨rfl,aj _ _⟩
theorem Fm(l:V UInt8)(c:UInt8):Pl.fH (l++[c])=10*Pl.fH l+(c.toNat-48):=by simp[Pl.fH]
theorem Fn:∀(j:Nat)(l:V UInt8),(∀c∈l,Pl.cE c=aP)->Pl.fH (l.take j)<10 ^ j
 |0,l,_=>by simp[Pl.fH]
 |j+1,l,h=>by have:=Fn j l h;by_cases a:j<l.length;rw[lV a,Fm];have:=ft<|h l[j] (eo a);omega;have e:l.take (j+1)=l.take j:=(by rw[ku U,ku U]);grind
def e7(s:ByteArray)(d:Nat):V UInt8:=(s.data.toList.drop d).takeWhile Pl.cE
theorem K0(s:ByteArray)(d j:Nat)(a:j<(e7 s d).length):∃h:d+j<s.size,(e7 s d)[j]=s[d+j]/\Pl.cE s[d+j]=aP:=by have b:=(mH Pl.cE (l:=s.data.toList.drop d));have g:=b.length_le;simp at g;have f:d+j<s.size:=(by unfold e7 at a;omega);have e:(e7 s d)[j]=s[d+j]:=(by have c:=b.getElem (i:=j) a;unfold e7;rw[c];simp;rfl);refine⟨f,e,?_⟩;rw[<-e];exact xg _ _<|eo a
theorem K1(s:ByteArray)(d:Nat)(h:d+(e7 s d).length<s.size):Pl.cE s[d+(e7 s d).length]=aQ:=by have c:∀(l:V UInt8)(h:(l.takeWhile Pl.cE).length<l.length),Pl.cE l[(l.takeWhile Pl.cE).length]=aQ:=(by intro l;induction l with|nil=>grind|cons a r g=>intro h;by_cases b:Pl.cE a=aP;simp_all;simp_all);have f:=c (s.data.toList.drop d) (by simp;unfold e7 at h;omega);unfold e7 at h⊢;rw[J7] at f;exact f
def K2(neg:Bool)(s:ByteArray)(i d:Nat)(w:G)(e:Ending)(w':G):Prop:=
  ag w w'/\
  (((e7 s d=[]\/9<(e7 s d).length)/\∃j:Nat,j<=1000/\e=aJ (aG #[u #[I .u8 120,aD ⟨#[]⟩,I J 0,I J i],I J j]))\/
   (¬(e7 s d=[]\/9<(e7 s d).length)/\e=aJ (aG #[u #[I .u8 110,aD ⟨#[]⟩,I J (if neg then -(Pl.fH (e7 s d):Int) else(Pl.fH (e7 s d):Int)),I J i],I J ((d+(e7 s d).length:Nat):Int)])))
theorem Wg(s:ByteArray)(i:Nat)(w:G)(hi:i<s.size)(hs:s.size<=400)(hl:Pl.apP s[i]=aQ)
    (X:¬(s[i].toNat=40\/s[i].toNat=41\/s[i].toNat=44\/s[i].toNat=47))(hm:((s[i].toNat:Int) == 45)=aQ):
    M 57 #[aD s,I J i] w (K2 aQ s i i w):=by
 obtain⟨q1,q2,q3,q4⟩:=Fk<|F<|F<|F X;have B:=hid<|λc y=>K0 s i c y;have Q:=hid<|K1 s i;have P:H (∀c,Pl.fH ((e7 s i).take c)<10 ^ c):=λc=>Fn c _<|xg _;generalize R:e7 s i=a at*;have d:=hid R;go_enter func57,ntmps57;go_wp2_with (go_at_call 85;refine(uA _ _).mono ?_;rintro e w' ⟨rfl,rfl⟩);go_loop [1,8] (λt n=>∃c:Nat,c<=a.length/\c<=10/\t=I J ((i+c:Nat):Int)/\n=I J ((Pl.fH (a.take c):Nat):Int)) (λt _=>1000-(intOf t).toNat);case atStart=>exact⟨0,U,U,af,rfl⟩
 obtain⟨c,y,O,rfl,rfl⟩:=hrel;by_cases o:c<a.length/\c<10;.obtain⟨N,h2⟩:=o;obtain⟨m,S,z⟩:=B.o c N;have hv:=bg (P.o c)<|J8 U (by omega:c<=10);have T:H (Pl.fH (a.take<|c+1)=10*Pl.fH (a.take c)+(s[i+c].toNat-48)):=(by show _=_;rw[lV N,Fm,S]);have:=ft z;generalize Pl.fH (a.take c)=b at*;clear S B Q P d;go_wp2_with (go_at_call 86;refine(kB _ _).mono ?_;rintro e w' ⟨rfl,rfl⟩);exact⟨⟨c+1,U,U,bd (I J) U,bd (I J) (by rw[T.o];omega)⟩,by simp[intOf];omega⟩
 .by_cases l:c=a.length
  .have p:∀h:i+c<s.size,Pl.cE s[i+c]=aQ:=(by intro h;subst l;exact Q.o h);have L:H (a.take c=a):=(by show _=_;rw[ku U]);have hv:=bg (P.o c)<|J8 U (by omega:c<=10);have r:=hid<|bd Pl.fH L.o;have f:=hid l;generalize Pl.fH (a.take c)=b at*;clear B Q P l L y;by_cases m:i+c<s.size;.have z:=p m;clear p;by_cases k:c=0;(.have W:c<=0:=U;have q:((i:Int)+(c:Int) == (i:Int))=aP:=aq;clear k;go_wp2_with (go_at_call 86;refine(kB _ _).mono ?_;rintro e w' ⟨rfl,rfl⟩);refine ab (v:=aG #[u #[I .u8 120,aD ⟨#[]⟩,I J 0,I J i],I J ((i+c:Nat):Int)]) (by simp[results,results57,go_sem]) rfl ?_;refine⟨aj _ _,j ⟨?_,i+c,U,rfl⟩⟩;rw[d.o];exact j<|J9 (by have:=f.o;omega));.by_cases x:c<=9;(.have q:((i:Int)+(c:Int) == (i:Int))=aQ:=aq;go_wp2_with (go_at_call 86;refine(kB _ _).mono ?_;rintro e w' ⟨rfl,rfl⟩);refine ab (v:=aG #[u #[I .u8 110,aD ⟨#[]⟩,I J<|(b:Int),I J i],I J ((i+c:Nat):Int)]) (by simp[results,results57,go_sem]) rfl ?_;refine⟨aj _ _,F ⟨?_,?_⟩⟩;(.rw[d.o];have g:=f.o;rintro(h|h);(.rw[h] at g;simp at g;omega);.omega);.rw[d.o,<-f.o,<-r.o];simp);.have q:((i:Int)+(c:Int) == (i:Int))=aQ:=aq;go_wp2_with (go_at_call 86;refine(kB _ _).mono ?_;rintro e w' ⟨rfl,rfl⟩);refine ab (v:=aG #[u #[I .u8 120,aD ⟨#[]⟩,I J 0,I J i],I J ((i+c:Nat):Int)]) (by simp[results,results57,go_sem]) rfl ?_;refine⟨aj _ _,j ⟨?_,i+c,U,rfl⟩⟩;rw[d.o];exact F (by have:=f.o;omega)
   .clear p;by_cases k:c=0
    .have W:c<=0:=U;have q:((i:Int)+(c:Int) == (i:Int))=aP:=aq
     first
       | (exfalso;omega)
       | (clear k
          go_wp2_with (go_at_call 86;refine(kB _ _).mono ?_;rintro e w' ⟨rfl,rfl⟩);refine ab (v:=aG #[u #[I .u8 120,aD ⟨#[]⟩,I J 0,I J i],I J ((i+c:Nat):Int)]) (by simp[results,results57,go_sem]) rfl ?_;refine⟨aj _ _,j ⟨?_,i+c,U,rfl⟩⟩;rw[d.o];exact j (J9 (by have:=f.o;omega)))
    by_cases x:c<=9;(.have q:((i:Int)+(c:Int) == (i:Int))=aQ:=aq;go_wp2_with (go_at_call 86;refine(kB _ _).mono ?_;rintro e w' ⟨rfl,rfl⟩);refine ab (v:=aG #[u #[I .u8 110,aD ⟨#[]⟩,I J<|(b:Int),I J i],I J ((i+c:Nat):Int)]) (by simp[results,results57,go_sem]) rfl ?_;refine⟨aj _ _,F ⟨?_,?_⟩⟩;(.rw[d.o];have g:=f.o;rintro(h|h);(.rw[h] at g;simp at g;omega);.omega);.rw[d.o,<-f.o,<-r.o];simp);.have q:((i:Int)+(c:Int) == (i:Int))=aQ:=aq;go_wp2_with (go_at_call 86;refine(kB _ _).mono ?_;rintro e w' ⟨rfl,rfl⟩);refine ab (v:=aG #[u #[I .u8 120,aD ⟨#[]⟩,I J 0,I J i],I J ((i+c:Nat):Int)]) (by simp[results,results57,go_sem]) rfl ?_;refine⟨aj _ _,j ⟨?_,i+c,U,rfl⟩⟩;rw[d.o];exact F (by have:=f.o;omega)
  obtain⟨m,S,z⟩:=B.o c U;have x:¬c<=9:=U;have q:((i:Int)+(c:Int) == (i:Int))=aQ:=aq;generalize Pl.fH (a.take c)=b at*;go_wp2_with (go_at_call 86;refine(kB _ _).mono ?_;rintro e w' ⟨rfl,rfl⟩);refine ab (v:=aG #[u #[I .u8 120,aD ⟨#[]⟩,I J 0,I J i],I J ((i+c:Nat):Int)]) (by simp[results,results57,go_sem]) rfl ?_;refine⟨aj _ _,j ⟨?_,i+c,U,rfl⟩⟩;rw[d.o];exact F U
theorem Wh(s:ByteArray)(i:Nat)(w:G)(hi:i<s.size)(hs:s.size<=400)(hl:Pl.apP s[i]=aQ)
    (X:¬(s[i].toNat=40\/s[i].toNat=41\/s[i].toNat=44\/s[i].toNat=47))(hm:((s[i].toNat:Int) == 45)=aP):
    M 57 #[aD s,I J i] w (K2 aP s i (i+1) w):=by
 obtain⟨q1,q2,q3,q4⟩:=Fk<|F<|F<|F X;have B:=hid<|λc y=>K0 s (i+1) c y;have Q:=hid<|K1 s<|i+1;have P:H (∀c,Pl.fH ((e7 s<|i+1).take c)<10 ^ c):=λc=>Fn c _<|xg _;generalize R:e7 s (i+1)=a at*;have d:=hid R;go_enter func57,ntmps57;go_wp2_with (go_at_call 85;refine(uA _ _).mono ?_;rintro e w' ⟨rfl,rfl⟩);go_loop [1,8] (λt n=>∃c:Nat,c<=a.length/\c<=10/\t=I J (((i+1)+c:Nat):Int)/\n=I J ((Pl.fH (a.take c):Nat):Int)) (λt _=>1000-(intOf t).toNat);case atStart=>exact⟨0,U,U,af,rfl⟩
 obtain⟨c,y,O,rfl,rfl⟩:=hrel;by_cases o:c<a.length/\c<10;.obtain⟨N,h2⟩:=o;obtain⟨m,S,z⟩:=B.o c N;have hv:=bg (P.o c)<|J8 U (by omega:c<=10);have T:H (Pl.fH (a.take<|c+1)=10*Pl.fH (a.take c)+(s[(i+1)+c].toNat-48)):=(by show _=_;rw[lV N,Fm,S]);have:=ft z;generalize Pl.fH (a.take c)=b at*;clear S B Q P d;go_wp2_with (go_at_call 86;refine(kB _ _).mono ?_;rintro e w' ⟨rfl,rfl⟩);exact⟨⟨c+1,U,U,bd (I J) U,bd (I J) (by rw[T.o];omega)⟩,by simp[intOf];omega⟩
 .by_cases l:c=a.length
  .have p:∀h:(i+1)+c<s.size,Pl.cE s[(i+1)+c]=aQ:=(by intro h;subst l;exact Q.o h);have L:H (a.take c=a):=(by show _=_;rw[ku U]);have hv:=bg (P.o c)<|J8 U (by omega:c<=10);have r:=hid<|bd Pl.fH L.o;have f:=hid l;generalize Pl.fH (a.take c)=b at*;clear B Q P l L y;by_cases m:(i+1)+c<s.size;.have z:=p m;clear p;by_cases k:c=0;(.have W:c<=0:=U;have q:(((i:Int)+1)+(c:Int) == ((i:Int)+1))=aP:=aq;clear k;go_wp2_with (go_at_call 86;refine(kB _ _).mono ?_;rintro e w' ⟨rfl,rfl⟩);refine ab (v:=aG #[u #[I .u8 120,aD ⟨#[]⟩,I J 0,I J i],I J (((i+1)+c:Nat):Int)]) (by simp[results,results57,go_sem]) rfl ?_;refine⟨aj _ _,j ⟨?_,(i+1)+c,U,rfl⟩⟩;rw[d.o];exact j<|J9 (by have:=f.o;omega));.by_cases x:c<=9;(.have q:(((i:Int)+1)+(c:Int) == ((i:Int)+1))=aQ:=aq;go_wp2_with (go_at_call 86;refine(kB _ _).mono ?_;rintro e w' ⟨rfl,rfl⟩);refine ab (v:=aG #[u #[I .u8 110,aD ⟨#[]⟩,I J<|-(b:Int),I J i],I J (((i+1)+c:Nat):Int)]) (by simp[results,results57,go_sem]) rfl ?_;refine⟨aj _ _,F ⟨?_,?_⟩⟩;(.rw[d.o];have g:=f.o;rintro(h|h);(.rw[h] at g;simp at g;omega);.omega);.rw[d.o,<-f.o,<-r.o];simp);.have q:(((i:Int)+1)+(c:Int) == ((i:Int)+1))=aQ:=aq;go_wp2_with (go_at_call 86;refine(kB _ _).mono ?_;rintro e w' ⟨rfl,rfl⟩);refine ab (v:=aG #[u #[I .u8 120,aD ⟨#[]⟩,I J 0,I J i],I J (((i+1)+c:Nat):Int)]) (by simp[results,results57,go_sem]) rfl ?_;refine⟨aj _ _,j ⟨?_,(i+1)+c,U,rfl⟩⟩;rw[d.o];exact F (by have:=f.o;omega)
   .clear p;by_cases k:c=0
    .have W:c<=0:=U;have q:(((i:Int)+1)+(c:Int) == ((i:Int)+1))=aP:=aq
     first
       | (exfalso;omega)
       | (clear k
          go_wp2_with (go_at_call 86;refine(kB _ _).mono ?_;rintro e w' ⟨rfl,rfl⟩);refine ab (v:=aG #[u #[I .u8 120,aD ⟨#[]⟩,I J 0,I J i],I J (((i+1)+c:Nat):Int)]) (by simp[results,results57,go_sem]) rfl ?_;refine⟨aj _ _,j ⟨?_,(i+1)+c,U,rfl⟩⟩;rw[d.o];exact j (J9 (by have:=f.o;omega)))
    by_cases x:c<=9;(.have q:(((i:Int)+1)+(c:Int) == ((i:Int)+1))=aQ:=aq;go_wp2_with (go_at_call 86;refine(kB _ _).mono ?_;rintro e w' ⟨rfl,rfl⟩);refine ab (v:=aG #[u #[I .u8 110,aD ⟨#[]⟩,I J<|-(b:Int),I J i],I J (((i+1)+c:Nat):Int)]) (by simp[results,results57,go_sem]) rfl ?_;refine⟨aj _ _,F ⟨?_,?_⟩⟩;(.rw[d.o];have g:=f.o;rintro(h|h);(.rw[h] at g;simp at g;omega);.omega);.rw[d.o,<-f.o,<-r.o];simp);.have q:(((i:Int)+1)+(c:Int) == ((i:Int)+1))=aQ:=aq;go_wp2_with (go_at_call 86;refine(kB _ _).mono ?_;rintro e w' ⟨rfl,rfl⟩);refine ab (v:=aG #[u #[I .u8 120,aD ⟨#[]⟩,I J 0,I J i],I J (((i+1)+c:Nat):Int)]) (by simp[results,results57,go_sem]) rfl ?_;refine⟨aj _ _,j ⟨?_,(i+1)+c,U,rfl⟩⟩;rw[d.o];exact F (by have:=f.o;omega)
  obtain⟨m,S,z⟩:=B.o c U;have x:¬c<=9:=U;have q:(((i:Int)+1)+(c:Int) == ((i:Int)+1))=aQ:=aq;generalize Pl.fH (a.take c)=b at*;go_wp2_with (go_at_call 86;refine(kB _ _).mono ?_;rintro e w' ⟨rfl,rfl⟩);refine ab (v:=aG #[u #[I .u8 120,aD ⟨#[]⟩,I J 0,I J i],I J (((i+1)+c:Nat):Int)]) (by simp[results,results57,go_sem]) rfl ?_;refine⟨aj _ _,j ⟨?_,(i+1)+c,U,rfl⟩⟩;rw[d.o];exact F U
def Wl(t:Pl.Tk)(w:G)(e:Ending)(w':G):Prop:=
 ag w w'/\∃j:Nat,e=aJ (aG #[u (oE t),I J j])/\j<=1000/\(¬(t.k=101\/t.k=120)->j=t.pl+t.raw.length)
theorem Wm(s:ByteArray)(i:Nat)(w:G)(x:i<=s.size)(n:s.size<=400):
  M 57 #[aD s,I J i] w (Wl (Pl.dY (s.data.toList.drop i) i) w):=by by_cases b:i<s.size;rw[Pl.drop_cons s i b];by_cases c:s[i].toNat=40\/s[i].toNat=41\/s[i].toNat=44\/s[i].toNat=47;refine(We s i w b n c).mono ?_;rintro e w' ⟨rfl,d⟩;have f:Pl.dY (s[i]::s.data.toList.drop (i+1)) i=⟨s[i].toNat,[s[i]],0,i⟩:=(by simp only[Pl.dY];rw[y c]);rw[f];refine⟨d,i+1,?_,U,λ_=>rfl⟩;have t:s.extract i (i+1)=⟨#[s[i]]⟩:=(by rw[Pl.extract_eq,Ae,Pl.drop_cons s i b];rfl);rw[t];have v:Pl.rS ⟨s[i].toNat,[s[i]],0,i⟩=[s[i]]:=(by unfold Pl.rS;grind);unfold oE;rw[v];by_cases k:Pl.apP s[i]=aP;refine(Wf s i _ w b n k rfl).mono ?_;rintro e w' ⟨rfl,d⟩;have f:Pl.dY (s[i]::s.data.toList.drop (i+1)) i=⟨119,(s[i]::s.data.toList.drop (i+1)).takeWhile Pl.apP,0,i⟩:=(by simp only[Pl.dY];grind);rw[f,<-Pl.drop_cons s i b];have q:=(mH Pl.apP (l:=s.data.toList.drop i)).length_le;simp at q;refine⟨d,i+((s.data.toList.drop i).takeWhile Pl.apP).length,?_,U,λ_=>rfl⟩;rw[Pl.extract_eq,Ae,Pl.take_takeWhile];rfl;have m:Pl.apP s[i]=aQ:=(by grind);by_cases r:s[i].toNat=45;refine(Wh s i w b n m c aq).mono ?_;rintro e w' ⟨d,h⟩;have f:Pl.dY (s[i]::s.data.toList.drop (i+1)) i=(if e7 s (i+1)=[]\/9<(e7 s<|i+1).length then⟨120,[],0,i⟩ else⟨110,s[i]::e7 s (i+1), -(Pl.fH (e7 s<|i+1):Int),i⟩):=(by simp only[Pl.dY];rw[X c,X k,y r];rfl);rw[f];rcases h with⟨g,a,p,rfl⟩|⟨g,rfl⟩;rw[y g];exact⟨d,a,rfl,p,λh=>absurd (F rfl) h⟩;rw[X g];exact⟨d,_,rfl,U,λ_=>by grind⟩;refine(Wg s i w b n m c aq).mono ?_;rintro e w' ⟨d,h⟩;have f:Pl.dY (s[i]::s.data.toList.drop (i+1)) i=(if e7 s i=[]\/9<(e7 s i).length then⟨120,[],0,i⟩ else⟨110,e7 s i,(Pl.fH (e7 s i):Int),i⟩):=(by simp only[Pl.dY];rw[X c,X k,X r];unfold e7;rw[Pl.drop_cons s i b]);rw[f];rcases h with⟨g,a,p,rfl⟩|⟨g,rfl⟩;rw[y g];exact⟨d,a,rfl,p,λh=>absurd (F rfl) h⟩;rw[X g];exact⟨d,_,rfl,U,λ_=>rfl⟩;have:i=s.size:=U;refine(Wc s i w U U n).mono ?_;rintro e w' ⟨rfl,d⟩;have f:Pl.dY (s.data.toList.drop i) i=⟨101,[],0,i⟩:=(by rw[qK aq];rfl);rw[f];exact⟨d,i,rfl,U,λh=>absurd (j rfl) h⟩
def oF(c:V Pl.Tk):V Y:=c.flatMap λt=>(oE t).toList
theorem K3(c:V Pl.Tk)(t:Pl.Tk):oF (c++[t])=oF c++(oE t).toList:=by simp[oF]
theorem K4:(Tryz.prog.info? 61).map (λi=>(i.zero,i.size,i.bytes))=K (K<|u #[I .u8 0,aD ⟨#[]⟩,I J 0,I J 0],4,40):=z
theorem AG{w1 w2:G}{o1 o2:Obj}{row:Option Nat}(b:((w1.alloc o1).alloc o2).grownBy w2 row)(a:row≠K w1.heap.size):
  w2.heap[w1.heap.size]?=K o1/\∀k,k<w1.heap.size->row≠K k->w2.heap[k]?=w1.heap[k]?:=by refine⟨?_,λk c d=>?_⟩;rw[b.block w1.heap.size aq<|λe=>a e.symm,ad _ _ _ E];exact aa w1 o1;rw[b.block k aq<|λe=>d e.symm,ad _ _ _ aq,ad _ _ _ c]
def Fo(_:ByteArray)(w:G)(c:V Pl.Tk)(a:Y)(wr:G):Prop:=
 wr.ownsRow w.heap.size 61 4 a c.length (oF c)/\ag w wr/\w.heap.size<=wr.heap.size
theorem Fq(s:ByteArray)(w:G)(hs:s.size<=400):
  M 28 #[aD s] w λe w'=>∃v,e=aJ v/\w'.ownsRow w.heap.size 61 4 v (Pl.all s.data.toList).length (oF<|Pl.all s.data.toList)/\ag w w':=by
 go_enter func28,ntmps28;go_wp2_with fail
 go_loopg [3,4,5] (s.size+2) (λg lv iv kv wr=>∃(c:V Pl.Tk)(i:Nat)(k:Nat),iv=I J i/\kv=I .u8 k/\c.length<=402/\i<=1000/\H (Fo s w c lv wr)/\
   H ((k≠101/\k≠120/\i<=s.size/\s.size<g+i/\1<=g/\c.length<=i/\∃f,s.size<f+i/\c++Pl.kA s.data.toList f i=Pl.all s.data.toList)\/((k=101\/k=120)/\c=Pl.all s.data.toList)))
 (case atStart=>refine⟨[],0,32,rfl,rfl,E,U,⟨ak _ _ _ _,Below.refl _ _,aX _⟩,j ⟨U,U,U,U,U,E,s.size+1,U,?_⟩⟩;unfold Pl.all;simp);case round=>obtain⟨c,i,k,rfl,rfl,hc,hi1,Y,HR⟩:=hrel;rcases HR.o with⟨hk1,hk2,O,hg,hg1,hci,f,hf,o⟩|⟨S,rfl⟩;(.obtain⟨m,q,hsz⟩:=Y.o;have q1:((k:Int) != 101)=aP:=(by rw[qL];omega);have q2:((k:Int) != 120)=aP:=(by rw[qL];omega);obtain⟨C,rfl⟩:∃C,f=C+1:=⟨f-1,U⟩;have hbl:=Pl.Fd s.data.toList i (by simpa using O);have T:=Pl.Az s.data.toList i (by simpa using O);have Wn:Pl.bl s.data.toList i<=s.size:=(by simpa using hbl.2);have abg:(Pl.tk s.data.toList i).pl+(Pl.tk s.data.toList i).raw.length<=s.size:=(by simpa using T.1);have HC:H (∀w1,M 57 #[aD s,I J<|Pl.bl s.data.toList i] w1 λe w'=>ag w1 w'/\∃a:Nat,e=aJ (aG #[u #[I .u8 (Pl.tk s.data.toList i).k,aD ⟨(Pl.rS<|Pl.tk s.data.toList i).toArray⟩,I J (Pl.tk s.data.toList i).n,I J (Pl.tk s.data.toList i).pl],I J a])/\a<=1000/\(¬((Pl.tk s.data.toList i).k=101\/(Pl.tk s.data.toList i).k=120)->a=(Pl.tk s.data.toList i).pl+(Pl.tk s.data.toList i).raw.length)):=λw1=>Wm s _ w1 Wn hs;have HA:H (c++Pl.kA s.data.toList (C+1) i=Pl.all s.data.toList):=o;have HJ:H (Pl.bl s.data.toList i=i+((s.data.toList.drop i).takeWhile Pl.kh).length):=rfl;have HN:H ((Pl.tk s.data.toList i).pl+(Pl.tk s.data.toList i).raw.length<=s.size/\((Pl.tk s.data.toList i).k=101\/(Pl.tk s.data.toList i).k=120\/i+1<=(Pl.tk s.data.toList i).pl+(Pl.tk s.data.toList i).raw.length)):=⟨abg,T.2⟩;have HTK:H (Pl.kA s.data.toList (C+1) i=if(Pl.tk s.data.toList i).k=101\/(Pl.tk s.data.toList i).k=120 then[Pl.tk s.data.toList i] else Pl.tk s.data.toList i::Pl.kA s.data.toList C ((Pl.tk s.data.toList i).pl+(Pl.tk s.data.toList i).raw.length)):=(by show _=_;rw[Pl.kA]);clear o T hbl abg;generalize Pl.bl s.data.toList i=b at*;generalize Pl.tk s.data.toList i=t at*;generalize hrs:(Pl.rS t)=rs at*;have W:H (Pl.rS t=rs):=hrs;clear hrs;clear HR Y;go_wp2_with fail;obtain⟨wo,rfl⟩:∃wo:G,wo=wr:=⟨_,rfl⟩;go_loop [4] (λt=>∃a:Nat,a<=s.size/\t=I J a/\H (a+((s.data.toList.drop a).takeWhile Pl.kh).length=b)) (λt=>s.size-(intOf t).toNat);(case atStart=>exact⟨i,O,rfl,HJ.o.symm⟩);case round=>obtain⟨a,hj,rfl,HE⟩:=hrel;have Q:(¬∃h:a<s.size,Pl.kh s[a]=aP)->a=b:=(by intro h;have h2:=HE.o;by_cases x:a<s.size;have hp':Pl.kh s[a]=aQ:=(by cases hp:Pl.kh s[a];rfl;exact absurd ⟨x,hp⟩ h);have h1:=Fh Pl.kh s.data.toList a (by simpa using x) hp';omega;rw[qK (by simp;omega:s.data.toList.length<=a)] at h2;simpa using h2);have A:H ((¬∃h:a<s.size,Pl.kh s[a]=aP)->a=b):=Q;clear Q;by_cases B:∃h:a<s.size,Pl.kh s[a]=aP;(.obtain⟨x,hp⟩:=B;have HS:H (a+1+((s.data.toList.drop<|a+1).takeWhile Pl.kh).length=b):=(by have h1:=Fg Pl.kh s.data.toList a (by simpa using x) hp;have h2:=HE.o;show _=_;omega);have akh:((s[a].toNat:Int) == 32)=aP:=(by have:=ft hp;simp;omega);clear HE A hp;go_wp2_with fail;go_round;(case rel=>exact⟨a+1,U,af,HS⟩);case measure=>simp[intOf];omega);.have hjb:=A.o B;subst hjb;clear HE A;by_cases x:a<s.size;(.have akh:((s[a].toNat:Int) == 32)=aQ:=(by have:¬Pl.kh s[a]=aP:=λh=>B ⟨x,h⟩;unfold Pl.kh at this;simp at this⊢;omega);clear B;go_wp2_with fail;refine(HC.o _).mono ?_;rintro e w1 ⟨r,j1,rfl,P,l⟩;have z:=hid l;clear l;have hown1:=bH m<|λk S=>r.block k (bn m k S).2;have hs1:=r.size;go_wp2_with (at_builtin;refine ii rfl K4 underlying52 (aao<|aao hown1) AE ?_;intro g cap w2 ho hgrow XK;have N:=(AG hgrow (λe=>by have:=(bn hown1 _ e).2;omega)).1;have x0:=bz N);have L:Fo s w (c++[t]) (D (K ⟨g,0,Z⟩) (c.length+1) cap) w2:=(by refine⟨?_,?_,?_⟩;rw[K3];simp only[bG,dc,fw,ir];rw[<-W.o] at ho;exact ho;exact(((q.trans<|r.mono hsz).alloc U _).alloc aq _).grown hgrow aq (λk S=>(bn hown1 k S).1);have:=hgrow.size;simp at this;omega);obtain⟨n1,n2⟩:=HN.o;have R:=HTK.o;have p:=HA.o;go_roundg (gk-1);(case measure=>omega);case rel=>refine⟨c++[t],j1,t.k,rfl,rfl,?_,P,L,?_⟩;simp;omega;by_cases d:t.k=101\/t.k=120;refine F ⟨d,?_⟩;rw[R,y d] at p;exact p;have hj:=z.o d;have hge:i+1<=t.pl+t.raw.length:=(by rcases n2 with h|h|h;exact absurd (j h) d;exact absurd (F h) d;exact h);rw[R,X d] at p;refine j ⟨λh=>d<|j h,λh=>d<|F h,U,U,U,aq,C,U,?_⟩;rw[hj,aaU];exact p);.clear B;go_wp2_with fail;refine(HC.o _).mono ?_;rintro e w1 ⟨r,j1,rfl,P,l⟩;have z:=hid l;clear l;have hown1:=bH m<|λk S=>r.block k (bn m k S).2;have hs1:=r.size;go_wp2_with (at_builtin;refine ii rfl K4 underlying52 (aao<|aao hown1) AE ?_;intro g cap w2 ho hgrow XK;have N:=(AG hgrow (λe=>by have:=(bn hown1 _ e).2;omega)).1;have x0:=bz N);have L:Fo s w (c++[t]) (D (K ⟨g,0,Z⟩) (c.length+1) cap) w2:=(by refine⟨?_,?_,?_⟩;rw[K3];simp only[bG,dc,fw,ir];rw[<-W.o] at ho;exact ho;exact(((q.trans<|r.mono hsz).alloc U _).alloc aq _).grown hgrow aq (λk S=>(bn hown1 k S).1);have:=hgrow.size;simp at this;omega);obtain⟨n1,n2⟩:=HN.o;have R:=HTK.o;have p:=HA.o;go_roundg (gk-1);(case measure=>omega);case rel=>refine⟨c++[t],j1,t.k,rfl,rfl,?_,P,L,?_⟩;simp;omega;by_cases d:t.k=101\/t.k=120;refine F ⟨d,?_⟩;rw[R,y d] at p;exact p;have hj:=z.o d;have hge:i+1<=t.pl+t.raw.length:=(by rcases n2 with h|h|h;exact absurd (j h) d;exact absurd (F h) d;exact h);rw[R,X d] at p;refine j ⟨λh=>d<|j h,λh=>d<|F h,U,U,U,aq,C,U,?_⟩;rw[hj,aaU];exact p);obtain⟨m,q,_⟩:=Y.o;rcases S with rfl|rfl;clear HR Y;go_wp2_with fail;go_ret;exact⟨_,rfl,m,q⟩;clear HR Y;go_wp2_with fail;go_ret;exact⟨_,rfl,m,q⟩
theorem pZ(a b c d:Int)(w:G)(f: -50<=a/\a<=50)(g: -50<=c/\c<=50):
  M 135 #[u #[I J a,I J b,I J c,I J d]] w (ai (I J<|c-a) w):=by go_enter func135,ntmps135;go_wp2_with fail;go_ret;exact⟨rfl,aj _ _⟩
theorem qZ(a b c d:Int)(w:G)(f: -50<=b/\b<=50)(g: -50<=d/\d<=50):
  M 137 #[u #[I J a,I J b,I J c,I J d]] w (ai (I J<|d-b) w):=by go_enter func137,ntmps137;go_wp2_with fail;go_ret;exact⟨rfl,aj _ _⟩
theorem xE{z:Int}(h:0<z):z.sign=1:=kw h
theorem xF{z:Int}(h:z<0):z.sign= -1:=qN h
theorem qa(a b c d x y:Int)(w:G)(g:a*d=x)(k:c*b=y)(l: -1000000000000000<=x/\x<=1000000000000000)(m: -1000000000000000<=y/\y<=1000000000000000):
  M 49 #[u #[I J a,I J b],u #[I J c,I J d]] w (ai (I J (x-y).sign) w):=by have f:ag w ((w.alloc<|.cells #[I J a,I J b] 97).alloc<|.cells #[I J c,I J d] 97):=(aj _ _).alloc E _;have:J.wrap (a*d)=x:=(by rw[g,ah];omega);have:J.wrap (c*b)=y:=(by rw[k,ah];omega);go_enter func49,ntmps49;rcases dG x y with h|h|h;have e:=xF (z:=x-y) U;rw[e];go_wp2_with fail;go_ret;exact⟨rfl,f⟩;have e:(x-y).sign=0:=(by rw[h,Kc];rfl);rw[e];go_wp2_with fail;go_ret;exact⟨rfl,f⟩;have e:=xE (z:=x-y) U;rw[e];go_wp2_with fail;go_ret;exact⟨rfl,f⟩
def small(z:Int):Prop:= -50<=z/\z<=50
structure FW(XN XD YN YD:Int):Prop where
 xn: -10000000<=XN/\XN<=10000000
 xd:0<XD/\XD<=1000000
 yn: -10000000<=YN/\YN<=10000000
 yd:0<YD/\YD<=1000000
theorem ee{y a b:Int}(c: -a<=x/\x<=a)(d: -b<=y/\y<=b): -(a*b)<=x*y/\x*y<=a*b:=by have:(x*y).natAbs<=(a*b).natAbs:=(by rw[kz,kz];exact uj U U);have:0<=a*b:=gM U U;omega
theorem Bm{b:Nat}{c:Array Y}{T:TypeId}(h:w.heap[b]?=K (.cells c T (0,0)))(o:Nat):w.cell? ⟨b,o,Z⟩=c[o]?:=by simp[World.cell?,h]
theorem Bn(a b c d k f l g:Int)(w:G)(Q:small a)(i:small b)(hc:small c)(hd:small d)(hp:FW k f l g):
  M 133 #[u #[I J a,I J b,I J c,I J d],u #[I J k,I J f,I J l,I J g]] w
   λe w'=>e=aJ (I J ((c-a)*(l-b*g)*f-(d-b)*(k-a*f)*g).sign)/\Below w.heap.size w w':=by
 have HX:=hid<|λw1=>pZ a b c d w1 Q hc;have HY:=hid<|λw1=>qZ a b c d w1 i hd;obtain⟨⟨x1,x2⟩,⟨x3,x4⟩,⟨y1,y2⟩,y3,y4⟩:=hp;have m1:=ee (a:=50) (b:=1000000) i ⟨U,y4⟩;have m2:=ee (a:=50) (b:=1000000) Q ⟨U,x4⟩;have n1: -6000000000<=(c-a)*(l-b*g)/\(c-a)*(l-b*g)<=6000000000:=ee (a:=100) (b:=60000000) (by unfold small at Q hc;omega) U;have n2: -6000000000<=(d-b)*(k-a*f)/\(d-b)*(k-a*f)<=6000000000:=ee (a:=100) (b:=60000000) (by unfold small at i hd;omega) U;have r1:=ee (a:=6000000000) (b:=1000000) n1 ⟨U,x4⟩;have r2:=ee (a:=6000000000) (b:=1000000) n2 ⟨U,y4⟩;have w1:J.wrap (b*g)=b*g:=by rw[ah];omega
 have w2:J.wrap (a*f)=a*f:=by rw[ah];omega
 have w3:J.wrap (l-b*g)=l-b*g:=by rw[ah];omega
 have w4:J.wrap (k-a*f)=k-a*f:=by rw[ah];omega
 have w5:J.wrap ((c-a)*(l-b*g))=(c-a)*(l-b*g):=by rw[ah];omega
 have w6:J.wrap ((d-b)*(k-a*f))=(d-b)*(k-a*f):=by rw[ah];omega
 have w7:J.wrap ((c-a)*(l-b*g)*f)=(c-a)*(l-b*g)*f:=by rw[ah];omega
 have w8:J.wrap ((d-b)*(k-a*f)*g)=(d-b)*(k-a*f)*g:=by rw[ah];omega
 have y:∀L R S:Int,(c-a)*(l-b*g)*f=L->(d-b)*(k-a*f)*g=R->(L-R).sign=S->(decide (R<L)=aP/\S=1)\/(decide (R<L)=aQ/\decide (L<R)=aP/\S= -1)\/(decide (R<L)=aQ/\decide (L<R)=aQ/\S=0)->
   M 133 #[u #[I J a,I J b,I J c,I J d],u #[I J k,I J f,I J l,I J g]] w
    λe w'=>e=aJ (I J S)/\Below w.heap.size w w':=by
  intro L R S hL hR hS t;rw[hL] at w7;rw[hR] at w8;have o:Below w.heap.size w ((w.alloc<|.cells #[I J a,I J b,I J c,I J d] 151).alloc<|.cells #[I J k,I J f,I J l,I J g] 100):=((Below.refl _ _).alloc (aX _) _).alloc E _;go_enter func133,ntmps133;go_wp2_with fail;have x:((w.alloc<|.cells #[I J a,I J b,I J c,I J d] 151).alloc<|.cells #[I J k,I J f,I J l,I J g] 100).heap[w.heap.size]?=K (.cells #[I J a,I J b,I J c,I J d] 151 (0,0)):=by
   rw[ad _ _ _ E];exact aa _ _
  have P:((w.alloc<|.cells #[I J a,I J b,I J c,I J d] 151).alloc<|.cells #[I J k,I J f,I J l,I J g] 100).heap[w.heap.size+1]?=K (.cells #[I J k,I J f,I J l,I J g] 100 (0,0)):=by
   have:=aa (w.alloc<|.cells #[I J a,I J b,I J c,I J d] 151)<|.cells #[I J k,I J f,I J l,I J g] 100;simpa using this
  have hsz:((w.alloc<|.cells #[I J a,I J b,I J c,I J d] 151).alloc<|.cells #[I J k,I J f,I J l,I J g] 100).heap.size=w.heap.size+2:=E;generalize((w.alloc<|.cells #[I J a,I J b,I J c,I J d] 151).alloc<|.cells #[I J k,I J f,I J l,I J g] 100)=W at*;generalize hB:w.heap.size=B at*;have p:B<W.heap.size:=U;have q:B+1<W.heap.size:=U;obtain⟨e0,e1,e2,e3⟩:=ajG x;obtain⟨p0,p1,p2,p3⟩:=ajG P;go_region_held3 (λw'=>as9 w' B (I J a) (I J b) (I J c) (I J d)/\as9 w' (B+1) (I J k) (I J f) (I J l) (I J g)) (go_keep) (first |(go_at_call_of 135 (u #[I J a,I J b,I J c,I J d]);refine(HX.out _).mono ?_;rintro e w5 ⟨rfl,m⟩;obtain⟨z,A,C,D⟩:=ajE m p e0 e1 e2 e3;obtain⟨N,O,T⟩:=ajD m q p0 p1 p2;have V:=(aR m p3 q)));go_wp2_with fail;have r:=bg p m.size;have s:=bg q m.size;go_region_held3 (λw'=>as9 w' B (I J a) (I J b) (I J c) (I J d)/\as9 w' (B+1) (I J k) (I J f) (I J l) (I J g)) (go_keep) (first |(go_at_call_of 137 (u #[I J a,I J b,I J c,I J d]);refine(HY.out _).mono ?_;rintro e w6 ⟨rfl,n⟩;obtain⟨re0,re1,re2,re3⟩:=ajE n r z A C D;obtain⟨rp0,rp1,rp2⟩:=ajD n s N O T;have rp3:=(aR n V s)));have v:Below w.heap.size w w6:=by
   rw[hB];exact(o.drew.trans<|m.mono (by show B<=W.heap.size;omega)).drew.trans<|n.mono (by show B<=w5.heap.size;omega)
  rcases t with⟨X,rfl⟩|⟨X,h2,rfl⟩|⟨X,h2,rfl⟩
  all_goals
   go_wp2_with fail;go_ret;exact⟨rfl,v⟩
 refine y _ _ _ rfl rfl rfl ?_;rcases dG ((c-a)*(l-b*g)*f) ((d-b)*(k-a*f)*g) with h|h|h
 .exact F (j ⟨jd U,ff h,xF U⟩)
 .exact F (F ⟨jd U,jd U,by rw[h,Kc];rfl⟩)
 .exact j ⟨ff h,xE U⟩
def qb(n d:Int):Int:=n.tdiv<|Int.gcd n d
def nN(n d:Int):Int:=d.tdiv<|Int.gcd n d
theorem oI(a:d≠0):0<Int.gcd n d:=Vp _ a
theorem Bo(n d:Int):n=(Int.gcd n d:Int)*qb n d:=(sA<|wP _ _).symm
theorem xG(n d:Int):d=(Int.gcd n d:Int)*nN n d:=(sA<|ul _ _).symm
theorem LW(b:0<d):0<nN n d:=by have:=xG n d;have:=oI (n:=n) (d:=d) U;generalize nN n d=x at*;generalize Int.gcd n d=g at*;rcases dG x 0 with a|a|a;have:=oz (show(0:Int)<g by omega) a;omega;grind;exact a
theorem agt{z:Int}{g:Nat}(h:z=(g:Int)*x)(a:0<g):x.natAbs<=z.natAbs:=by rw[h,kz];exact Kj _<|by omega
theorem dC{b:Nat}{c:Array Y}{T:TypeId}(h:w.heap[b]?=K (.cells c T (0,0)))(o:Nat):w.frozen? ⟨b,o,Z⟩=aQ:=by simp[World.frozen?,h]
theorem LX(a b:Nat):Nat.gcd b (a%b)=Nat.gcd a b:=by rw[Nat.gcd_comm b,<-Nat.gcd_rec,Nat.gcd_comm]
theorem amy(n d:Int)(w:G)(A:Nat)(P:n.natAbs=A)(K:0<d)(z:d<=1000000000000)(L: -1000000000000<=n/\n<=1000000000000)
  (C:(decide (n<0)=aP/\(A:Int)= -n)\/(decide (n<0)=aQ/\(A:Int)=n)):
  M 46 #[I J n,I J d] w λe w'=>e=aJ (u #[I J (qb n d),I J<|nN n d])/\Below w.heap.size w w':=by obtain⟨D,rfl⟩:∃D:Nat,d=D:=⟨d.toNat,U⟩;have:0<Int.gcd n D:=oI U;have p:Nat.gcd A D=Int.gcd n D:=(by rw[Int.gcd,P];rfl);have R:H (qb n D=n.tdiv (Int.gcd n D)):=rfl;have t:H (nN n D=(D:Int).tdiv (Int.gcd n D)):=rfl;generalize Int.gcd n D=c at*;generalize qb n D=x at*;generalize nN n D=RD at*;have l:A<=1000000000000:=U;clear P;have q:Below w.heap.size w (w.alloc<|.cells #[I J 0,I J 0] 97):=(Below.refl _ _).alloc (aX _) _;have k:=aa w<|.cells #[I J 0,I J 0] 97;rcases C with⟨g,f⟩|⟨g,f⟩;all_goals (go_enter func46,ntmps46;go_wp2_with fail;generalize w.alloc (.cells #[I J 0,I J 0] 97)=W at*;generalize o:w.heap.size=B at*;go_loopg [5,6] D (λm S i wr=>∃a b:Nat,S=I J a/\i=I J b/\m=b/\Nat.gcd a b=c/\a<=1000000000000/\b<=1000000000000/\wr=W);(case atStart=>exact⟨A,D,by rw[f],rfl,rfl,p,l,U,rfl⟩);case round=>obtain⟨a,b,rfl,rfl,rfl,r,F,y,rfl⟩:=hrel;by_cases Q:gk=0;(.subst Q;rw[Nat.gcd_zero_right] at r;subst r;have e0:=bz k;have j:=bw k;have:wr.frozen? ⟨B,0,Z⟩=aQ:=dC k 0;have:wr.frozen? ⟨B,1,Z⟩=aQ:=dC k 1;have:¬(a=0):=U;have:J.wrap (n.tdiv (a:Int))=x:=(by rw[R.o];exact afF _ _ ⟨U,U,U⟩);have:J.wrap ((D:Int)/(a:Int))=RD:=(by rw[t.o,ER U,ah];have:=IntWalk.tdiv_le (D:Int) a U U;omega);have:J.wrap ((D:Int).tdiv (a:Int))=RD:=(by rw[t.o];exact afF _ _ ⟨U,U,U⟩);go_wp2_with fail;go_region_held3 (λw'=>w'.frozen? ⟨B,0,Z⟩=aQ/\w'.frozen? ⟨B,1,Z⟩=aQ) (go_keep) (fail);go_wp2_with fail;refine ab (v:=u #[I J x,I J RD]) (by simp[results,results46,go_sem,e0,j]) rfl ⟨rfl,?_⟩;rw[o];exact((q.setCell (aX _) _).setCell (aX _) _).drew);.have:=uq a<|Ki Q;have s:=LX a gk;go_wp2_with fail;go_roundg (a%gk);(case measure=>omega);case rel=>exact⟨gk,a%gk,rfl,af,rfl,by rw[s,r],y,U,rfl⟩)
namespace N
abbrev Fr:=Int×Int
abbrev Qt:=Fr×Fr
def fc(a b:Fr):Int:=(a.1*b.2-b.1*a.2).sign
def pc(p q:Qt):Int:=if fc p.1 q.1=0 then fc p.2 q.2 else fc p.1 q.1
structure acJ(a:Fr):Prop where
 pos:0<a.2
 co:Int.gcd a.1 a.2=1
structure dD(p:Qt):Prop where
 x:acJ p.1
 y:acJ p.2
theorem L4(a b:Fr):fc b a= -fc a b:=by unfold fc;grind
theorem FY{k m n:Int}(h:Int.gcd k m=1)(b:k∣m*n):k∣n:=by have a:=ajj.2 b;rw[kz] at a;exact ajj.1<|Nat.Coprime.dvd_of_dvd_mul_left h a
theorem FZ{a b:Fr}(f:acJ a)(d:acJ b)(h:fc a b=0):a=b:=by unfold fc at h;have c:a.1*b.2=b.1*a.2:=(by grind);have g:a.2∣b.2:=(by have:a.2∣a.1*b.2:=(by simp_all);exact FY (by rw[Vr];exact f.co) this);have k:b.2∣a.2:=(by have:b.2∣b.1*a.2:=(by rw[<-c];simp);exact FY (by rw[Vr];exact d.co) this);have e:a.2=b.2:=Int.dvd_antisymm (dU f.pos) (dU d.pos) g k;have l:a.1=b.1:=(by rw[e] at c;exact Ke (Vs d.pos) c);grind
theorem uT(a:Fr):fc a a=0:=by unfold fc;simp
theorem L5(z:Int):(z.sign= -1/\z<0)\/(z.sign=0/\z=0)\/(z.sign=1/\0<z):=by grind
theorem L6{a b:Fr}:fc a b<0↔a.1*b.2<b.1*a.2:=by unfold fc;grind
theorem L7{a b:Fr}:fc a b=0↔a.1*b.2=b.1*a.2:=by unfold fc;grind
theorem q8{a b c d e f:Int}(m:0<b)(n:0<d)(p:0<f)(k:a*d<c*b)(l:c*f<=e*d):a*f<e*b:=by have:a*d*f<c*b*f:=Kf k p;have:c*f*b<=e*d*b:=Vt l<|dU m;have q:d*(a*f)<d*(e*b):=(by grind);simp_all
theorem F0{a b c d e f:Int}(m:0<b)(n:0<d)(p:0<f)(k:a*d<=c*b)(l:c*f<e*d):a*f<e*b:=by have:a*d*f<=c*b*f:=Vt k<|dU p;have:c*f*b<e*d*b:=Kf l m;have q:d*(a*f)<d*(e*b):=(by grind);simp_all
theorem adE{a b c d e f:Int}(n:0<d)(l:a*d=c*b)(m:c*f=e*d):a*f=e*b:=by have p:d*(a*f)=d*(e*b):=(by grind);exact nu (Vs n) p
def lt(p q:Qt):Prop:=pc p q<0
theorem Xy{p q:Qt}:pc p q<0↔fc p.1 q.1<0\/(fc p.1 q.1=0/\fc p.2 q.2<0):=by unfold pc;omega
theorem uV(p q:Qt):pc q p= -pc p q:=by unfold pc;rw[L4 p.1 q.1,L4 p.2 q.2];omega
theorem L8{p q:Qt}(b:dD p)(c:dD q)(h:pc p q=0):p=q:=by unfold pc at h;split at h;rename_i a;exact dj (FZ b.x c.x a)<|FZ b.y c.y h;omega
theorem tm(p:Qt):pc p p=0:=by unfold pc;rw[uT,y rfl,uT]
theorem lt_trans{p q r:Qt}(d:dD p)(c:dD q)(e:dD r)(b:lt p q)(a:lt q r):lt p r:=by unfold lt at*;rw[Xy] at*;rw[L6,L7,L6] at*;rcases b with b|⟨b,f⟩;rcases a with a|⟨a,_⟩;exact j (q8 d.x.pos c.x.pos e.x.pos b<|dU a);exact j (q8 d.x.pos c.x.pos e.x.pos b<|EP a);rcases a with a|⟨a,g⟩;exact j (F0 d.x.pos c.x.pos e.x.pos (EP b) a);exact F ⟨adE c.x.pos b a,q8 d.y.pos c.y.pos e.y.pos f<|dU g⟩
theorem lt_irrefl(p:Qt):¬lt p p:=by unfold lt;rw[tm];decide
def iG(l:V Qt):Prop:=l.Pairwise lt
def ins(p:Qt):V Qt->V Qt
 |[]=>[p]
 |q::l=>if pc q p=0 then q::l else if pc q p<0 then q::ins p l else p::q::l
theorem nO{p:Qt}(b:dD p):∀{l:V Qt},(∀q∈l,dD q)->∀r,r∈ins p l↔r=p\/r∈l
 |[],_,r=>by simp[ins]
 |q::l,a,r=>by unfold ins;split;rename_i h;have e:=L8 (a q E) b h;grind;split;have d:=nO b (l:=l) (λx c=>a x<|by simp[c]) r;grind;simp
theorem mh{p:Qt}(b:dD p){l:V Qt}(a:∀q∈l,dD q):∀q∈ins p l,dD q:=λq c=>by
 rcases(nO b a q).1 c with h|h
 grind
 grind
theorem qc{p:Qt}(f:dD p):∀{l:V Qt},(∀q∈l,dD q)->iG l->iG (ins p l)
 |[],_,_=>by simp[ins,iG]
 |q::l,c,d=>by have a:=fF.1 d;unfold ins;split;exact d;split;rename_i _ h;refine fF.2 ⟨λr g=>?_,qc f (λx k=>c x<|by simp[k]) a.2⟩;rcases(nO f (λx k=>c x<|by simp[k]) r).1 g with e|e;rw[e];exact h;grind;rename_i m n;have b:lt p q:=(by unfold lt;have:=uV q p;omega);refine fF.2 ⟨λr g=>?_,d⟩;rcases bK.1 g with e|e;grind;exact lt_trans f (c q E) (c r<|by simp[e]) b (a.1 r e)
theorem F4:∀{a b:V Qt},(∀q∈a,dD q)->(∀q∈b,dD q)->iG a->iG b->(∀q,q∈a↔q∈b)->a=b
 |[],[],_,_,_,_,_=>rfl
 |[],q::l,_,_,_,_,h=>by have:=(h q).2 E;grind
 |q::l,[],_,_,_,_,h=>by have:=(h q).1 E;grind
 |p::a,q::b,m,n,v,B,h=>by have c:=fF.1 v;have d:=fF.1 B;have e:p=q:=(by rcases bK.1 ((h p).1 E) with e|e;exact e;rcases bK.1 ((h q).2 E) with g|g;grind;have s:=d.1 p e;have t:=c.1 q g;exact absurd (lt_trans (m p E) (n q E) (m p E) t s)<|lt_irrefl p);subst e;congr 1;refine F4 (λx k=>m x<|by simp[k]) (λx k=>n x<|by simp[k]) c.2 d.2 λr=>?_;constructor;intro f;rcases bK.1 ((h r).1<|by simp[f]) with e|e;exact absurd (c.1 r f) (by rw[e];exact lt_irrefl p);exact e;intro f;rcases bK.1 ((h r).2<|by simp[f]) with e|e;exact absurd (d.1 r f) (by rw[e];exact lt_irrefl p);exact e
end N
namespace N
def bu(n d:Int):Fr:=if d<0 then(qb (-n)<|-d,nN (-n)<|-d) else(qb n d,nN n d)
theorem L9{n d g:Int}{a b:Int}(m:(Int.gcd n d:Int)=g)(p:0<g)(k:n=g*a)(l:d=g*b):Int.gcd a b=1:=by
 have e:Int.gcd (g*a) (g*b)=g.natAbs*Int.gcd a b:=Kg ..;rw[<-k,<-l] at e;have f:(Int.gcd n d)=g.natAbs:=U;rw[f] at e;have c:0<g.natAbs:=U;have h:g.natAbs*1=g.natAbs*Int.gcd a b:=by omega
 exact(ajl c h).symm
theorem lG{n d:Int}(a:d≠0):acJ (bu n d):=by unfold bu;split;rename_i h;exact⟨LW U,L9 rfl (by simp_all) (Bo (-n)<|-d) (xG (-n)<|-d)⟩;exact⟨LW U,L9 rfl (by simp_all) (Bo n d) (xG n d)⟩
theorem kE{n d:Int}(c:d≠0):∃g,g≠0/\n=g*(bu n d).1/\d=g*(bu n d).2/\(0<g↔0<d):=by unfold bu;split;rename_i h;have e:=oI (n:= -n) (d:= -d) U;have a:=Bo (-n)<|-d;have b:=xG (-n)<|-d;refine⟨-(Int.gcd (-n) (-d):Int),U,?_,?_,U⟩;grind;grind;have e:=oI (n:=n) c;exact⟨_,U,Bo n d,xG n d,U⟩
theorem Bs(n:Int):bu n 1=(n,1):=by unfold bu;rw[X ae];unfold qb nN;simp
theorem q9{n d m e:Int}(a:d≠0)(b:e≠0)(h:n*e=m*d):bu n d=bu m e:=by
 obtain⟨g,l,p,q,_⟩:=kE (n:=n) a;obtain⟨k,t,r,s,_⟩:=kE (n:=m) b;refine FZ (lG a) (lG b)<|L7.2 ?_;have c:g*(bu n d).1*(k*(bu m e).2)=k*(bu m e).1*(g*(bu n d).2):=by grind
 have f:(g*k)*((bu n d).1*(bu m e).2)=(g*k)*((bu m e).1*(bu n d).2):=by
  grind
 exact nu (Vu l t) f
theorem Ma{a:Fr}(h:acJ a):bu a.1 a.2=a:=by unfold bu;have:=h.pos;rw[X U];unfold qb nN;rw[h.co];simp
end N
theorem Mb(n d f:Int)(D A:Nat)(w:G)(Y:0<D)(p:D<=1000000000000)(K:A<=1000000000000)(N:Nat.gcd A D=Int.gcd f D)
  (C:(d<0/\J.wrap (-n)=f/\J.wrap (-d)=(D:Int))\/(¬d<0/\f=n/\(D:Int)=d))(F:(f<0/\J.wrap (-f)=(A:Int))\/(¬f<0/\f=(A:Int)))(X: -1000000000000<=f/\f<=1000000000000):
  M 46 #[I J n,I J d] w λe w'=>e=aJ (u #[I J (qb f D),I J<|nN f D])/\Below w.heap.size w w':=by have:0<Int.gcd f D:=oI U;have i:H (qb f D=f.tdiv (Int.gcd f D)):=rfl;have Q:H (nN f D=(D:Int).tdiv (Int.gcd f D)):=rfl;generalize Int.gcd f D=c at*;generalize qb f D=k at*;generalize nN f D=RD at*;have q:Below w.heap.size w (w.alloc<|.cells #[I J 0,I J 0] 97):=(Below.refl _ _).alloc (aX _) _;have l:=aa w<|.cells #[I J 0,I J 0] 97;rcases C with⟨T,k2,k3⟩|⟨T,y,z⟩<;>rcases F with⟨V,P⟩|⟨V,P⟩;all_goals ((try subst y);(try subst z);go_enter func46,ntmps46;go_wp2_with fail;generalize w.alloc (.cells #[I J 0,I J 0] 97)=W at*;generalize L:w.heap.size=B at*;go_loopg [5,6] D (λm j o wr=>∃a b:Nat,j=I J a/\o=I J b/\m=b/\Nat.gcd a b=c/\a<=1000000000000/\b<=1000000000000/\wr=W);(case atStart=>exact⟨A,D,by first |rfl|rw[P],rfl,rfl,N,K,p,rfl⟩);case round=>obtain⟨a,b,rfl,rfl,rfl,r,ha,O,rfl⟩:=hrel;by_cases S:gk=0;(.subst S;rw[Nat.gcd_zero_right] at r;subst r;have e0:=bz l;have R:=bw l;have:=dC l 0;have:=dC l 1;have:¬(a=0):=U;have t:J.wrap (f.tdiv (a:Int))=k:=(by rw[i.o];exact afF _ _ ⟨U,U,U⟩);have:J.wrap ((D:Int)/(a:Int))=RD:=(by rw[Q.o,ER U,ah];have:=IntWalk.tdiv_le (D:Int) a U U;omega);have:J.wrap ((D:Int).tdiv (a:Int))=RD:=(by rw[Q.o];exact afF _ _ ⟨U,U,U⟩);have g:¬f<0->J.wrap (f/(a:Int))=k:=λh=>(by rw[<-t,ER U]);(try(have x:J.wrap ((A:Int)/(a:Int))=k:=by rw[<-P];exact g U));clear g;go_wp2_with fail;go_region_held3 (λw'=>w'.frozen? ⟨B,0,Z⟩=aQ/\w'.frozen? ⟨B,1,Z⟩=aQ) (go_keep) (fail);go_wp2_with fail;refine ab (v:=u #[I J k,I J RD]) (by first |(simp[results,results46,go_sem,e0,R];done)|(simp[results,results46,go_sem,e0,R];exact x)) rfl ⟨rfl,?_⟩;rw[L];exact((q.setCell (aX _) _).setCell (aX _) _).drew);.have:=uq a<|Ki S;have s:=LX a gk;go_wp2_with fail;go_roundg (a%gk);(case measure=>omega);case rel=>exact⟨gk,a%gk,rfl,af,rfl,by rw[s,r],O,U,rfl⟩)
theorem xH(n d:Int)(w:G)(f:d≠0)(g: -1000000000000<=n/\n<=1000000000000)(c: -1000000000000<=d/\d<=1000000000000):
  M 46 #[I J n,I J d] w (ai (u #[I J (N.bu n d).1,I J (N.bu n d).2]) w):=by
 unfold N.bu;by_cases a:d<0
 .rw[y a];have h:=Mb n d (-n) (-d).toNat (-n).natAbs w U U U (by unfold Int.gcd;rfl) (j ⟨a,by rw[ah];omega,by rw[ah];omega⟩) (by
   by_cases b: -n<0
   .exact j ⟨b,by rw[ah];omega⟩
   omega) U
  grind
 .rw[X a];have h:=Mb n d n d.toNat n.natAbs w U U U (by unfold Int.gcd;rfl) (F ⟨a,rfl,U⟩) (by
   by_cases b:n<0
   .exact j ⟨b,by rw[ah];omega⟩
   omega) U
  grind
theorem F5(z:Int): -1<=z.sign/\z.sign<=1:=by grind
theorem Mc(N D a b:Int)(w:G)(Q: -10000000<=N/\N<=10000000)(n:0<D/\D<=1000000)(t:small a)(v:small b):
  M 134 #[u #[I J N,I J D],I J a,I J b] w
   (ai (aC<|decide ((N*1-a*D).sign*(N*1-b*D).sign<=0)) w):=by
 have B:=ee (a:=50) (b:=1000000) t ⟨U,n.2⟩;have P:=ee (a:=50) (b:=1000000) v ⟨U,n.2⟩;have r:=hid<|λw1=>qa N D a 1 _ _ w1 rfl rfl U U;have s:=hid<|λw1=>qa N D b 1 _ _ w1 rfl rfl U U;have p:=F5<|N*1-a*D;have q:=F5<|N*1-b*D;generalize(N*1-a*D).sign=l at*;generalize(N*1-b*D).sign=m at*;have x:=ee (a:=1) (b:=1) p q;have:J.wrap (l*m)=l*m:=by rw[ah];omega
 clear B P x p q;have d:ag w (w.alloc<|.cells #[I J N,I J D] 97):=aj _ _;go_enter func134,ntmps134;go_wp2_with fail;refine(r.out _).mono ?_;rintro e w1 ⟨rfl,f⟩;have g:=(f.block _ E).trans<|aa _ _;have:=bz g;have:=bw g;have c:=d.trans<|f.mono d.size;clear g f d;go_wp2_with fail;refine(s.out _).mono ?_;rintro e R ⟨rfl,k⟩;go_wp2_with fail;go_ret;exact⟨rfl,c.trans<|k.mono c.size⟩
structure oK(XN XD YN YD x y d:Int):Prop where
 bm:FW XN XD YN YD
 ex:∃g,0<g/\x=g*XN/\d=g*XD
 ey:∃g,0<g/\y=g*YN/\d=g*YD
theorem Xz{z:Int}:z.sign<=0↔z<=0:=by simp
theorem XA{z:Int}:z.sign=0↔z=0:=pC
theorem holds_plain{y:Int}(h:oK XN XD YN YD x y d)(a b:Int×Int):
  (decide (((b.1-a.1)*(YN-a.2*YD)*XD-(b.2-a.2)*(XN-a.1*XD)*YD).sign=0)&&
   decide ((XN*1-a.1*XD).sign*(XN*1-b.1*XD).sign<=0)&&decide ((YN*1-a.2*YD).sign*(YN*1-b.2*YD).sign<=0))=N.fo (x,y) d (a,b):=by obtain⟨_,⟨m,k,c,e⟩,n,l,f,g⟩:=h;rw[N.FV a b c e f g k l,N.uS c e k,N.uS c e k,N.uS f g l,N.uS f g l,pD,pD,<-Al,<-Al];rw[ke];unfold N.fo;rw[N.Xu];simp only[jl,pE,Xz,XA,N.rel,and_assoc]
def jq(e:(Int×Int)×(Int×Int)):Array Y:= #[I J e.1.1,I J e.1.2,I J e.2.1,I J e.2.2]
def uW(b a d c:Int):Array Y:= #[I J b,I J a,I J d,I J c]
structure cM(e:(Int×Int)×(Int×Int)):Prop where
 a:small e.1.1
 b:small e.1.2
 c:small e.2.1
 d:small e.2.2
theorem Bt(B:(Int×Int)×(Int×Int))(k f l g x y C:Int)(w:G)(Y:cM B)(r:oK k f l g x y C):
  M 80 #[u (jq B),u<|uW k f l g] w (ai (aC<|N.fo (x,y) C B) w):=by
 obtain⟨⟨a,b⟩,c,d⟩:=B;obtain⟨Q,R,o,z⟩:=Y;simp only at Q R o z;have A:=holds_plain r (a,b) (c,d);simp only[jq,uW];rw[<-A];have L:H (∀w1,M 133 #[u #[I J a,I J b,I J c,I J d],u #[I J k,I J f,I J l,I J g]] w1
   (ai (I J ((c-a)*(l-b*g)*f-(d-b)*(k-a*f)*g).sign) w1)):=λw1=>Bn a b c d k f l g w1 Q R o z r.bm
 have O:H (∀w1,M 134 #[u #[I J k,I J f],I J a,I J c] w1
   (ai (aC (decide ((k*1-a*f).sign*(k*1-c*f).sign<=0))) w1)):=λw1=>Mc k f a c w1 r.bm.xn r.bm.xd Q o
 have T:H (∀w1,M 134 #[u #[I J l,I J g],I J b,I J d] w1
   (ai (aC (decide ((l*1-b*g).sign*(l*1-d*g).sign<=0))) w1)):=λw1=>Mc l g b d w1 r.bm.yn r.bm.yd R z
 generalize((c-a)*(l-b*g)*f-(d-b)*(k-a*f)*g).sign=S at*;generalize decide ((k*1-a*f).sign*(k*1-c*f).sign<=0)=F at*;generalize decide ((l*1-b*g).sign*(l*1-d*g).sign<=0)=BY at*;generalize P:decide (S=0)=BS;have D:(S == 0)=BS:=(by rw[<-P];rfl);go_enter func80,ntmps80;have V:((w.alloc<|.cells #[I J a,I J b,I J c,I J d] 151).alloc<|.cells #[I J k,I J f,I J l,I J g] 100).heap[w.heap.size]?=K (.cells #[I J a,I J b,I J c,I J d] 151 (0,0)):=(by rw[ad _ _ _ E];exact aa _ _);have X:((w.alloc<|.cells #[I J a,I J b,I J c,I J d] 151).alloc<|.cells #[I J k,I J f,I J l,I J g] 100).heap[w.heap.size+1]?=K (.cells #[I J k,I J f,I J l,I J g] 100 (0,0)):=(by have:=aa (w.alloc<|.cells #[I J a,I J b,I J c,I J d] 151)<|.cells #[I J k,I J f,I J l,I J g] 100;simpa using this);have i:ag w ((w.alloc<|.cells #[I J a,I J b,I J c,I J d] 151).alloc<|.cells #[I J k,I J f,I J l,I J g] 100):=(aj _ _).alloc E _;have hsz:w.heap.size+2=((w.alloc<|.cells #[I J a,I J b,I J c,I J d] 151).alloc<|.cells #[I J k,I J f,I J l,I J g] 100).heap.size:=E;go_wp2_with fail;generalize((w.alloc<|.cells #[I J a,I J b,I J c,I J d] 151).alloc<|.cells #[I J k,I J f,I J l,I J g] 100)=W at*;refine(L.o _).mono ?_;rintro e w1 ⟨rfl,m⟩;have p:=(m.block _ (show w.heap.size<W.heap.size by omega)).trans V;have q:=(m.block _ (show w.heap.size+1<W.heap.size by omega)).trans X;have x0:=bz p;have x2:=bQ p;have p0:=bz q;have p1:=bw q;have Z:=m.size;go_wp2_with fail;refine(O.o _).mono ?_;rintro e w2 ⟨rfl,n⟩;have s:=(n.block _ (show w.heap.size<w1.heap.size by omega)).trans p;have t:=(n.block _ (show w.heap.size+1<w1.heap.size by omega)).trans q;have y1:=bw s;have y3:=bV s;have p2:=bQ t;have p3:=bV t;have hs2:=n.size;go_wp2_with fail;refine(T.o _).mono ?_;rintro e w3 ⟨rfl,j⟩;have v:=((i.trans<|m.mono U).trans<|n.mono U).trans<|j.mono U;cases BS<;>cases F;all_goals (go_wp2_with fail;go_ret;exact⟨nD E,v⟩)
def qA(p:N.Qt):Array Y:= #[I J p.1.1,I J p.1.2,I J p.2.1,I J p.2.2]
def cS(p:N.Qt):Prop:=FW p.1.1 p.1.2 p.2.1 p.2.2
theorem uX(e: -10000000<=n/\n<=10000000)(c:0<d/\d<=1000000): -10000000000000<=n*d/\n*d<=10000000000000:=
 ee (a:=10000000) (b:=1000000) e ⟨U,c.2⟩
theorem XB(p q:N.Qt)(a b:Int)(c:N.fc p.1 q.1=a)(d:N.fc p.2 q.2=b):N.pc p q=if a=0 then b else a:=by subst c d;rfl
theorem Bu(p q:N.Qt)(w:G)(B:cS p)(P:cS q):
  M 47 #[u (qA p),u<|qA q] w λe w'=>e=aJ (I J<|N.pc p q)/\ag w w':=by
 obtain⟨⟨a,b⟩,c,d⟩:=p;obtain⟨⟨g,k⟩,l,m⟩:=q;have L:=uX B.xn P.xd;have O:=uX P.xn B.xd;have T:=uX B.yn P.yd;have V:=uX P.yn B.yd;simp only at L O T V;have i:=hid<|λw1=>qa a b g k _ _ w1 rfl rfl U U;have j:=hid<|λw1=>qa c d l m _ _ w1 rfl rfl U U;obtain⟨x,t⟩:∃x,(a*k-g*b).sign=x:=⟨_,rfl⟩;obtain⟨Q,v⟩:∃Q,(c*m-l*d).sign=Q:=⟨_,rfl⟩;rw[XB ((a,b),(c,d)) ((g,k),(l,m)) x Q t v];rw[t] at i;rw[v] at j;simp only[qA];have y:((w.alloc<|.cells #[I J a,I J b,I J c,I J d] 100).alloc<|.cells #[I J g,I J k,I J l,I J m] 100).heap[w.heap.size]?=K (.cells #[I J a,I J b,I J c,I J d] 100 (0,0)):=(by rw[ad _ _ _ E];exact aa _ _);have z:((w.alloc<|.cells #[I J a,I J b,I J c,I J d] 100).alloc<|.cells #[I J g,I J k,I J l,I J m] 100).heap[w.heap.size+1]?=K (.cells #[I J g,I J k,I J l,I J m] 100 (0,0)):=(by have:=aa (w.alloc<|.cells #[I J a,I J b,I J c,I J d] 100)<|.cells #[I J g,I J k,I J l,I J m] 100;simpa using this);have R:ag w ((w.alloc<|.cells #[I J a,I J b,I J c,I J d] 100).alloc<|.cells #[I J g,I J k,I J l,I J m] 100):=(aj _ _).alloc E _;have F:w.heap.size+2=((w.alloc<|.cells #[I J a,I J b,I J c,I J d] 100).alloc<|.cells #[I J g,I J k,I J l,I J m] 100).heap.size:=E;go_enter func47,ntmps47;go_wp2_with fail;generalize(w.alloc<|.cells #[I J a,I J b,I J c,I J d] 100).alloc (.cells #[I J g,I J k,I J l,I J m] 100)=W at*;refine(i.out _).mono ?_;rintro e w1 ⟨rfl,n⟩;have r:=(n.block _ (show w.heap.size<W.heap.size by omega)).trans y;have s:=(n.block _ (show w.heap.size+1<W.heap.size by omega)).trans z;have x2:=bQ r;have x3:=bV r;have Y:=bQ s;have p3:=bV s;have f:=R.trans<|n.mono U;by_cases o:x=0;subst o;go_wp2_with fail;refine(j.out _).mono ?_;rintro e w2 ⟨rfl,S⟩;go_wp2_with fail;go_ret;exact⟨rfl,f.trans<|S.mono f.size⟩
 .go_wp2_with fail;go_ret;refine⟨?_,f⟩
  first
   |rfl
   |(rw[X o];rfl)
theorem Bv(a b:Int)(w:G):
  M 136 #[u #[I J a,I J b]] w (ai (u<|qA ((a,1),(b,1))) w):=by simp only[qA];go_enter func136,ntmps136;go_wp2_with fail;have c:((w.alloc<|.cells #[I J a,I J b] 65).alloc<|.cells #[I J a,I J 1,I J b,I J 1] 100).heap[w.heap.size+1]?=K (.cells #[I J a,I J 1,I J b,I J 1] 100 (0,0)):=(by have:=aa (w.alloc<|.cells #[I J a,I J b] 65)<|.cells #[I J a,I J 1,I J b,I J 1] 100;simpa using this);have d:ag w ((w.alloc<|.cells #[I J a,I J b] 65).alloc<|.cells #[I J a,I J 1,I J b,I J 1] 100):=(aj _ _).alloc E _;generalize(w.alloc<|.cells #[I J a,I J b] 65).alloc (.cells #[I J a,I J 1,I J b,I J 1] 100)=W at*;obtain⟨e0,f,g,k⟩:=ajG c;exact ab (v:=u #[I J a,I J 1,I J b,I J 1]) (by simp[results,results136,go_sem,e0,f,g,k]) rfl ⟨rfl,d⟩
abbrev Ed:=(Int×Int)×(Int×Int)
def lH(l:V Ed):V Y:=l.flatMap λe=>(jq e).toList
def je(w:G)(v:Y)(l:V Ed):Prop:=w.ownsRow 0 151 4 v l.length<|lH l
theorem Md:∀(l:V Ed)(k:Nat)(e:Ed),l[k]?=K e->∀j,j<4->(lH l)[k*4+j]?=(jq e)[j]?
 |[],_,_,h,_,_=>by grind
 |q::r,0,e,h,j,b=>by simp at h;subst h;have a:lH (q::r)=(jq q).toList++lH r:=(by simp[lH]);rw[a,dQ (by simp[jq];omega)];simp
 |q::r,k+1,e,h,j,b=>by have d:=Md r k e (by grind) j b;have a:lH (q::r)=(jq q).toList++lH r:=(by simp[lH]);rw[a,jc (by simp[jq];omega)];have c:(k+1)*4+j-(jq q).toList.length=k*4+j:=(by simp[jq];omega);rw[c,d]
theorem rf{e:TypeId}{size:Nat}{v:Y}{n:Nat}{xs:V Y}(h:w.ownsRow 0 e size v n xs){o:Nat}{u:Y}(k:xs[o]?=K u):
  ∃b cap,v=D (K ⟨b,0,Z⟩) n cap/\b<w.heap.size/\∀d g,xs[d]?=K g->w.cell? ⟨b,d,Z⟩=K g:=by obtain⟨c,p⟩:=h;rcases p with⟨_,m⟩|⟨b,cap,l,r,_,f,_,_,_,q⟩;grind;refine⟨b,cap,r,?_,λd g a=>?_⟩;grind;rw[Bm f d,<-iD];grind
theorem uY{v:Y}{l:V Ed}(h:je w v l):∃e cap,v=D e l.length cap:=by rcases h.2 with⟨a,d⟩|⟨b,cap,c,a,_⟩;grind;grind
theorem xI{so:Option Addr}{n cap:Nat}{l:V Ed}(h:je w (D so n cap) l){k:Nat}{e:Ed}(m:l[k]?=K e):
  ∃b,so=K ⟨b,0,Z⟩/\b<w.heap.size/\w.cell? ⟨b,k*4,Z⟩=K (I J e.1.1)/\w.cell? ⟨b,k*4+1,Z⟩=K (I J e.1.2)/\w.cell? ⟨b,k*4+2,Z⟩=K (I J e.2.1)/\w.cell? ⟨b,k*4+3,Z⟩=K (I J e.2.2):=by have g:=Md l k e m;obtain⟨b,c,d,f,a⟩:=rf h<|g 0 U;injection d with d;exact⟨b,d,f,a _ _<|g 0 U,a _ _<|g 1 U,a _ _<|g 2 U,a _ _<|g 3 U⟩
theorem Bx(f:N.O->N.O->Int){l:V Ed}{k:Nat}{e:Ed}(d:l[k]?=K e):N.total f (l.take<|k+1)=N.total f (l.take k)+f e.1 e.2:=by
 obtain⟨b,a⟩:=bX.1 d;have c:l.take (k+1)=l.take k++[e]:=by rw[lV b,a]
 rw[c,N.uR,N.aa8,N.acK];omega
theorem tn(f:N.O->N.O->Int)(c:∀a b, -1<=f a b/\f a b<=1):∀l:V Ed, -(l.length:Int)<=N.total f l/\N.total f l<=l.length
 |[]=>by simp[N.total]
 |e::l=>by have:=tn f c l;have:=c e.1 e.2;rw[N.aa8];grind
theorem Me(n:N.O)(d:Int)(a b:N.O): -1<=N.fu n d a b/\N.fu n d a b<=1:=by unfold N.fu N.up;omega
theorem Mf(n:N.O)(d:Int)(a b:N.O): -1<=N.fr n d a b/\N.fr n d a b<=1:=by unfold N.fr N.right;omega
theorem uZ(z:Int):(z.sign= -1/\z<0)\/(z.sign=0/\z=0)\/(z.sign=1/\0<z):=by grind
theorem XC(u v C A B S b a:Int)(c: -u.sign=A)(d: -v.sign=B)(e:C.sign=S)(g:0<b↔0<a)(h:b<0↔a<0)(f:a=v-u):
  (if u<=0/\0<v/\C<0 then(-1:Int) else if v<=0/\0<u/\0<C then 1 else 0)=(if b>0/\A≥0/\B<0/\S<0 then -1 else 0)+(if b<0/\B≥0/\A<0/\S>0 then 1 else 0):=by grind
theorem XE{y:Int}(h:oK XN XD YN YD x y d)(e:Ed)(c:0<d)(A B S a:Int)(l:(XN*1-e.1.1*XD).sign=A)(m:(XN*1-e.2.1*XD).sign=B)
  (n:((e.2.1-e.1.1)*(YN-e.1.2*YD)*XD-(e.2.2-e.1.2)*(XN-e.1.1*XD)*YD).sign=S)(f:e.2.1-e.1.1=a):
  N.fu (x,y) d e.1 e.2=(if a>0/\A≥0/\B<0/\S<0 then -1 else 0)+(if a<0/\B≥0/\A<0/\S>0 then 1 else 0):=by obtain⟨_,⟨o,p,g,k⟩,u,R,s,t⟩:=h;rw[N.FV e.1 e.2 g k s t p R] at n;rw[N.uS g k p] at l m;obtain⟨⟨q,i⟩,r,j⟩:=e;simp only[N.fu,N.up,N.rel] at*;have v:d*r-d*q=d*a:=(by grind);have P:0<a↔0<d*a:=(by constructor;exact λh=>bD c h;intro h;rcases(show a<=0\/0<a by omega) with b|b;have:=An (dU c) b;omega;exact b);grind
end
end Go.Proofs.YtkjhhooecopolaaGreatDoor

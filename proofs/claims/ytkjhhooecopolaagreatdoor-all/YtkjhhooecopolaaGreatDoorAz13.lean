import Derived.Test.YtkjhhooecopolaaGreatDoorAz10
import Derived.Test.YtkjhhooecopolaaGreatDoorAz12
set_option maxRecDepth 100000
set_option maxHeartbeats 4000000
namespace Go.Proofs.YtkjhhooecopolaaGreatDoor
open Go.Proofs.Tryz
open Value renaming int->I,complex->A,agg->u,bool->aC,string->aD,slice->D,pointer->aF,tuple->aG
open IntKind renaming i64->J
open FloatKind renaming f64->C
open Ending renaming returned->aJ
open Go renaming World->G,Value->Y,floatOfInt->aM
open Option renaming some->K,none->Z
open Bool renaming true->aP,false->aQ
section
open Go.RowKit
namespace N
theorem Nk{x y d X Y D G:Int}(c:x=G*X)(e:y=G*Y)(b:d=G*D)(a:O):rel (x,y) d a=(G*(rel (X,Y) D a).1,G*(rel (X,Y) D a).2):=by unfold rel;rw[c,e,b];simp only[EX];constructor<;>grind
theorem sc{G z:Int}(h:0<G):(0<G*z↔0<z)/\(G*z<0↔z<0)/\(G*z=0↔z=0)/\(G*z<=0↔z<=0):=by rcases dG z 0 with a|a|a;have:=oz h a;omega;subst a;omega;have:=bD h a;omega
theorem aay(G:Int)(u v:O):L (G*u.1,G*u.2) (G*v.1,G*v.2)=(G*G)*L u v:=by unfold L;grind
theorem aaz(G:Int)(u v:O):i (G*u.1,G*u.2) (G*v.1,G*v.2)=(G*G)*i u v:=by unfold i;grind
theorem Nl{x y d X Y D G:Int}(b:0<G)(f:x=G*X)(g:y=G*Y)(c:d=G*D)(e:O×O):fo (x,y) d e=fo (X,Y) D e:=by unfold fo on;rw[Nk f g c,Nk f g c,aay,aaz];have a:=bD b b;congr 1;exact decide_eq_decide.2 (sc a).2.2.1;exact decide_eq_decide.2 (sc a).2.2.2
theorem an9{x y d X Y D G:Int}(c:0<G)(g:x=G*X)(h:y=G*Y)(f:d=G*D)(a b:O):fr (x,y) d a b=fr (X,Y) D a b:=by unfold fr right;rw[Nk g h f,Nk g h f,aay];have e:=bD c c;simp only[(sc e).1,(sc e).2.1,(sc c).1,(sc c).2.2.2]
theorem aaA{f g:O->O->Int}(l:V (O×O))(h:∀a b,f a b=g a b):total f l=total g l:=by unfold total;congr 1;exact abH λe _=>h e.1 e.2
end N
theorem aaB{s:V UInt8}(h:(Pl.err s).1=0):mg (Pl.bO<|Pl.all s).2.2:=by cases a:(Pl.wd Pl.ew<|Pl.all s).1;exact(Pl.LH h a).2.1;obtain⟨d,e,b,_⟩:=Pl.LG h a;rw[e];exact⟨E,λg c=>by rw[cI.1 c];exact b⟩
theorem aaC{ps:V (V<|V (Int×Int))}(h:∀p∈ps,p.length<=402):ps.flatten.length<=ps.length*402:=by induction ps with|nil=>simp|cons p r b=>have:=b (λx a=>h x<|by simp[a]);have:=h p E;rw[um,bG,dc,Ak];omega
theorem Gz{s:V UInt8}(h:(Pl.err s).1=0):(∀g∈Pl.rings s,uL g/\g.length<=402)/\(Pl.rings s).length<=161604/\(∀e∈N.o (Pl.rings s),cM e)/\(N.o<|Pl.rings s).length<=65000000:=by have a:=aaB h;refine⟨λg d=>?_,?_,aav a,aaw a⟩;obtain⟨p,c,b⟩:=pG.1 d;exact(a.2 p c).2 g b;have:=aaC<|λp c=>(a.2 p c).1;have:=a.1;unfold Pl.rings;omega
theorem aob{s:V UInt8}{x b d:Int}(h:(Pl.err s).1=0)(p:Pl.aeT x b d=aQ){a Y D G:Int}(k:0<G)(m:x=G*a)(n:b=G*Y)(l:d=G*D):
  Pl.ae6 s x b d=if(N.o<|Pl.rings s).any (N.fo (a,Y) D) then(0,aP,0,0) else(N.total (N.fr (a,Y) D)<|N.o<|Pl.rings s,aQ,0,0):=by unfold Pl.ae6;rw[y h,X (by rw[p];simp)];have g:N.fo (x,b) d=N.fo (a,Y) D:=funext λe=>N.Nl k m n l e;rw[g];by_cases c:(N.o<|Pl.rings s).any (N.fo (a,Y) D)=aP;rw[y c,y c];rw[X c,X c];have f:∀e,e∈N.o (Pl.rings s)->N.fo (x,b) d e=aQ:=λe q=>(by rw[g];cases r:N.fo (a,Y) D e;rfl;exact absurd (Aw.2 ⟨e,q,r⟩) c);rw[<-N.amx (x,b) d (Pl.rings s) f,N.aaA _<|N.an9 k m n l]
theorem O7{w w':G}{v:Y}{es:V Ed}(h:kG w v es)(e:ag w w'):kG w' v es:=by obtain⟨g,b,c,d⟩:=h;exact⟨g,b,tc c λk a f=>e.block k<|apJ f,d⟩
theorem aoG(x y d:Int):Pl.aeT x y d=(decide (d<1)||decide (60<d)|| !qW 100000 x|| !qW 100000 y):=by unfold Pl.aeT qW;rw[ke];simp only[E1,pE,uw,E7];omega
theorem aoH(s:ByteArray)(x f d:Int)(w:G)(hm:s.size<=maxLen)(B:Gl w):
  M 17 #[aD s,I J x,I J f,I J d] w λe w'=>e=aJ (Pl.afj<|Pl.ae6 s.data.toList x f d)/\ag w w':=by
 by_cases z:(Pl.err s.data.toList).1=0
 .have hp2:=(tf z).2.1;obtain⟨hro,hrl,ms,hel⟩:=Gz z;have O:H (∀w1,Gl w1->M 33 #[aD s] w1 λe w'=>ag w1 w'/\∃j rv,e=aJ (aG #[aF (K ⟨j,0,Z⟩),I J 0,I J 0])/\
    w'.cell? ⟨j,6,Z⟩=K rv/\j<w'.heap.size/\yv w' rv (Pl.rings s.data.toList)):=λw1 g1=>by
   refine(Lo s w1 hm g1).mono ?_;rintro e w' ⟨hb,pv,rfl,pS⟩;obtain⟨j,rfl,_,hR⟩:=pS z;obtain⟨c,t,r,tv,rv,hc,hl',hbk,hown,L⟩:=hR;exact⟨hb,j,rv,by rw[z,hp2];rfl,apL hbk 6,apJ hbk,aap L⟩
  have n:=hid<|λw1=>Lg x 100000 w1 U U;have p:=hid<|λw1=>Lg f 100000 w1 U U;have g:=aoG x f d;have m:Pl.aeT x f d=aP->Pl.ae6 s.data.toList x f d=(0,aQ,5,0):=λh=>by unfold Pl.ae6;rw[y z,y h]
  by_cases h1:d<1
  .rw[m (by rw[g];simp[h1])];simp only[Pl.afj];clear m g n p;go_enter func17,ntmps17;go_wp2_with fail;refine(O.o _ B).mono ?_;rintro e w1 ⟨k,j,rv,rfl,c6,F,i⟩;go_wp2_with fail;refine ab (v:=aG #[I J 0,aC aQ,I J 5,I J 0]) (by simp[results,results17,go_sem]) rfl ⟨rfl,k⟩
  .by_cases h2:60<d
   .rw[m (by rw[g];simp[h2])];simp only[Pl.afj];clear m g n p;go_enter func17,ntmps17;go_wp2_with fail;refine(O.o _ B).mono ?_;rintro e w1 ⟨k,j,rv,rfl,c6,F,i⟩;go_wp2_with fail;refine ab (v:=aG #[I J 0,aC aQ,I J 5,I J 0]) (by simp[results,results17,go_sem]) rfl ⟨rfl,k⟩
   .cases l:qW 100000 x
    .rw[m (by rw[g,l];simp)];rw[l] at n;simp only[Pl.afj];clear m g p l;go_enter func17,ntmps17;go_wp2_with fail;refine(O.o _ B).mono ?_;rintro e w1 ⟨k,j,rv,rfl,c6,F,i⟩;go_wp2_with fail;refine(n.o _).mono ?_;rintro e w2 ⟨rfl,rfl⟩;go_wp2_with fail;refine ab (v:=aG #[I J 0,aC aQ,I J 5,I J 0]) (by simp[results,results17,go_sem]) rfl ⟨rfl,k⟩
    .cases q:qW 100000 f
     .rw[m (by rw[g,q];simp)];rw[l] at n;rw[q] at p;simp only[Pl.afj];clear m g l q;go_enter func17,ntmps17;go_wp2_with fail;refine(O.o _ B).mono ?_;rintro e w1 ⟨k,j,rv,rfl,c6,F,i⟩;go_wp2_with fail;refine(n.o _).mono ?_;rintro e w2 ⟨rfl,rfl⟩;go_wp2_with fail;refine(p.o _).mono ?_;rintro e w2 ⟨rfl,rfl⟩;go_wp2_with fail;refine ab (v:=aG #[I J 0,aC aQ,I J 5,I J 0]) (by simp[results,results17,go_sem]) rfl ⟨rfl,k⟩
     .have Y:Pl.aeT x f d=aQ:=by rw[g,l,q];simp[h1,h2]
      have: -100000<=x/\x<=100000:=ft l;have: -100000<=f/\f<=100000:=ft q;obtain⟨b,P⟩:∃b,Int.gcd (Int.gcd x f:Nat) d=b:=⟨_,rfl⟩;have V:0<b:=by rw[<-P];exact oI U
      have T:(b:Int)∣(Int.gcd x f:Nat):=by rw[<-P];exact wP _ _
      have dx:=wR T<|wP _ _;have dy:=wR T<|ul _ _;have dd:(b:Int)∣d:=by rw[<-P];exact ul _ _
      have ex:=(sA dx).symm;have ey:=(sA dy).symm;have ed:=(sA dd).symm;rw[aob z Y (show(0:Int)<b by omega) ex ey ed];have lx:=agt ex V;have ly:=agt ey V;have ld:=agt ed V;have fx:Fl (aM C x) x:=rj U;have fy:Fl (aM C f) f:=rj U;have HNA:=hid<|λw1=>YM d fx fy U U U b P w1;have qe:=hid<|λw1=>AK x f w1;have hDp:0<d.tdiv (b:Int):=by
       rcases dG (d.tdiv (b:Int)) 0 with h|h|h
       .have:=oz (show(0:Int)<b by omega) h;omega
       .rw[h] at ed;omega
       .exact h
      have vE:H (∀v w1,kG w1 v (N.o<|Pl.rings s.data.toList)->M 35 #[v,u #[A C (aM C<|x.tdiv b) (aM C<|f.tdiv b),I J<|d.tdiv b]] w1 (ai (if(N.o<|Pl.rings s.data.toList).any (N.fo (x.tdiv b,f.tdiv b)<|d.tdiv b) then aG #[I J 0,aC aP] else aG #[I J (N.total (N.fr (x.tdiv b,f.tdiv b)<|d.tdiv b)<|N.o<|Pl.rings s.data.toList),aC aQ]) w1)):=λv w1 hv=>
       anW _ v w1 hv hel ms (rj U) (rj U) ⟨U,U,U⟩
      have HEO:=hid<|λv w1 hv=>aau _ v w1 hv hro hrl;rw[l] at n;rw[q] at p;clear m g Y l q T dx dy dd ex ey ed lx ly ld fx fy hDp P hel ms hro hrl hp2 z;generalize Pl.rings s.data.toList=RG at*;generalize N.o RG=ES at*;generalize x.tdiv (b:Int)=XQ at*;generalize f.tdiv (b:Int)=YQ at*;generalize d.tdiv (b:Int)=DQ at*
      go_enter func17,ntmps17;go_wp2_with fail;refine(O.o _ B).mono ?_;rintro e w1 ⟨k,j,rv,rfl,c6,F,i⟩;go_wp2_with fail;refine(n.o _).mono ?_;rintro e w2 ⟨rfl,rfl⟩;go_wp2_with fail;refine(p.o _).mono ?_;rintro e w2 ⟨rfl,rfl⟩;go_wp2_with fail;refine(HEO.o _ _ i).mono ?_;rintro e w3 ⟨ev,rfl,hrb,hb3⟩;have Q:=k.trans<|hb3.mono k.size;go_wp2_with fail;refine(qe.o _).mono ?_;rintro e w4 ⟨rfl,rfl⟩;go_wp2_with fail;refine(HNA.o _).mono ?_;rintro e w5 ⟨rfl,W⟩;have R:=Q.trans<|W.mono Q.size;have aoL:=O7 hrb W;go_wp2_with fail;refine(vE.o _ _ aoL).mono ?_;rintro e w6 ⟨rfl,Ek⟩;have S:=R.trans<|Ek.mono R.size;by_cases ha:ES.any (N.fo (XQ,YQ) DQ)=aP
      .rw[y ha];go_wp2_with fail;refine ab (v:=aG #[I J 0,aC aP,I J 0,I J 0]) (by simp[results,results17,go_sem]) rfl ⟨?_,S⟩
       first
        |rfl
        |(rw[y ha];rfl)
      .rw[X ha];go_wp2_with fail;refine ab (v:=aG #[I J (N.total (N.fr (XQ,YQ) DQ) ES),aC aQ,I J 0,I J 0]) (by simp[results,results17,go_sem]) rfl ⟨?_,S⟩
       first
        |rfl
        |(rw[X ha];rfl)
 .have hw:Pl.ae6 s.data.toList x f d=(0,aQ,Pl.err s.data.toList):=X z;rw[hw];have:(((Pl.err s.data.toList).1:Int) != 0)=aP:=by rw[qL];omega
  have O:H (∀w1,Gl w1->M 33 #[aD s] w1 λe w'=>ag w1 w'/\∃pv,e=aJ (aG #[aF pv,I J (Pl.err s.data.toList).1,I J (Pl.err s.data.toList).2])):=λw1 g1=>by
   refine(Lo s w1 hm g1).mono ?_;rintro e w' ⟨hb,pv,rfl,_⟩;exact⟨hb,pv,rfl⟩
  simp only[Pl.afj];generalize(Pl.err s.data.toList).1=a at*;generalize(Pl.err s.data.toList).2=Pp at*;clear hw z;go_enter func17,ntmps17;go_wp2_with fail;refine(O.o _ B).mono ?_;rintro e w1 ⟨k,pv,rfl⟩;go_wp2_with fail;refine ab (v:=aG #[I J 0,aC aQ,I J a,I J Pp]) (by simp[results,results17,go_sem]) rfl ⟨rfl,k⟩
end
end Go.Proofs.YtkjhhooecopolaaGreatDoor

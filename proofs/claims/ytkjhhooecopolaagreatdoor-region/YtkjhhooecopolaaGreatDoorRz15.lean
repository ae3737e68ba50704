import Derived.Test.YtkjhhooecopolaaGreatDoorRz14
set_option maxRecDepth 100000
set_option maxHeartbeats 4000000
namespace Go.Proofs.YtkjhhooecopolaaGreatDoor
open Tryz
open Value renaming int->az,complex->aA,float->aB,agg->aC,bool->aD,string->aF,slice->aG,pointer->aH,tuple->aI
open IntKind renaming i64->aJ
open FloatKind renaming f64->aK
open Ending renaming returned->aL
open Go renaming World->aM,Value->aN,floatOfInt->aO
section
open Ge
def eN{α:Type}:List α->List (α×α)
 |[]=>[]
 |a::r=>(a::r).zip (r++[a])
theorem aeA{α β:Type}(f:α->β):∀g:List α,eN (g.map f)=(eN g).map λe=>(f e.1,f e.2)
 |[]=>rfl
 |a::r=>by
  show((a::r).map f).zip (r.map f++[f a])=_;rw[show r.map f++[f a]=(r++[a]).map f by simp,List.zip_map]
  rfl
theorem ap6{α:Type}{g:List α}{e:α×α}(h:e∈eN g):e.1∈g/\e.2∈g:=by
 cases g with
 |nil=>simp[eN] at h
 |cons a r=>
  obtain⟨x,y⟩:=e;have:=List.of_mem_zip (show(x,y)∈(a::r).zip (r++[a]) from h)
  refine⟨this.1,?_⟩;rcases dv.1 this.2 with q|q
  .exact bX _ q
  .rw[dh.1 q];simp
end
section
open Go.RowKit
variable{A r l:List Pl.Tk}{pb tb cap b base T B:Nat}{w w' w4 w5:aM}{v:aN}
theorem ap7(s:ByteArray)(i:Nat)(w:aM)(hi:s.size<=i)(_hi2:i<=20000000400)(_hs:s.size<=20000000400):
  ak 57 #[aF s,az aJ i] w λe w'=>e=aL (aI #[aC (tN ⟨101,[],0,i⟩),az aJ i])/\aj w w':=by
 go_enter func57,ntmps57
 go_wp2
 exact bodyPost_ret (v:=aI #[aC #[az .u8 101,aF ⟨#[]⟩,az aJ 0,az aJ i],az aJ i]) (by simp[results,results57,go_sem]) rfl ⟨rfl,aw _ _⟩
theorem ap8(s:ByteArray)(i:Nat)(w:aM)(hi:i<s.size)(hs:s.size<=20000000400)(hc:s[i].toNat=40\/s[i].toNat=41\/s[i].toNat=44\/s[i].toNat=47):
  ak 57 #[aF s,az aJ i] w λe w'=>e=aL (aI #[aC #[az .u8 s[i].toNat,aF (s.extract i (i+1)),az aJ 0,az aJ i],az aJ ((i+1:Nat):Int)])/\aj w w':=by
 have key:∀a b c d:Bool,((s[i].toNat:Int) == 40)=a->((s[i].toNat:Int) == 41)=b->((s[i].toNat:Int) == 44)=c->((s[i].toNat:Int) == 47)=d->(a||b||c||d)=true->
   ak 57 #[aF s,az aJ i] w λe w'=>e=aL (aI #[aC #[az .u8 s[i].toNat,aF (s.extract i (i+1)),az aJ 0,az aJ i],az aJ ((i+1:Nat):Int)])/\aj w w':=by
  intro a b c d ha hb hc' hd hor;clear hc;cases a
  .cases b
   .cases c
    .cases d
     .cases hor
     .go_enter func57,ntmps57
      go_wp2
      exact bodyPost_ret (v:=aI #[aC #[az .u8 s[i].toNat,aF (s.extract i (i+1)),az aJ 0,az aJ i],az aJ ((i+1:Nat):Int)]) (by simp[results,results57,go_sem]) rfl ⟨rfl,aw _ _⟩
    .go_enter func57,ntmps57
     go_wp2
     exact bodyPost_ret (v:=aI #[aC #[az .u8 s[i].toNat,aF (s.extract i (i+1)),az aJ 0,az aJ i],az aJ ((i+1:Nat):Int)]) (by simp[results,results57,go_sem]) rfl ⟨rfl,aw _ _⟩
   .go_enter func57,ntmps57
    go_wp2
    exact bodyPost_ret (v:=aI #[aC #[az .u8 s[i].toNat,aF (s.extract i (i+1)),az aJ 0,az aJ i],az aJ ((i+1:Nat):Int)]) (by simp[results,results57,go_sem]) rfl ⟨rfl,aw _ _⟩
  .go_enter func57,ntmps57
   go_wp2
   exact bodyPost_ret (v:=aI #[aC #[az .u8 s[i].toNat,aF (s.extract i (i+1)),az aJ 0,az aJ i],az aJ ((i+1:Nat):Int)]) (by simp[results,results57,go_sem]) rfl ⟨rfl,aw _ _⟩
 refine key _ _ _ _ rfl rfl rfl rfl ?_;simp;omega
theorem aqa(s:ByteArray)(i k:Nat)(w:aM)(hi:i<s.size)(hs:s.size<=20000000400)(hl:Pl.isLet s[i]=true)(hk:k=i+((s.data.toList.drop i).takeWhile Pl.isLet).length):
  ak 57 #[aF s,az aJ i] w λe w'=>e=aL (aI #[aC #[az .u8 119,aF (s.extract i k),az aJ 0,az aJ i],az aJ k])/\aj w w':=by
 obtain⟨q1,q2,q3,q4⟩:=QF (aU hl);have hk1:i<=k/\k<=s.size:=by
  have:=(rq Pl.isLet (l:=s.data.toList.drop i)).length_le;simp at this;omega
 have HK:Hid (k=i+((s.data.toList.drop i).takeWhile Pl.isLet).length):=hk;clear hk
 go_enter func57,ntmps57
 go_wp2_with (go_at_call 85;refine(DC _ _).mono ?_;rintro e w' ⟨rfl,rfl⟩)
 go_loop [1] (λt=>∃j:Nat,i<=j/\j<=s.size/\t=az aJ j/\Hid (j+((s.data.toList.drop j).takeWhile Pl.isLet).length=k)) (λt=>s.size-(intOf t).toNat)
 case atStart=>exact⟨i,aY _,aa,rfl,HK.out.symm⟩
 case round=>
  obtain⟨j,hij,hj,rfl,HE⟩:=hrel;by_cases hlt:j<s.size
  .by_cases hp:Pl.isLet s[j]=true
   .have HS:Hid (j+1+((s.data.toList.drop (j+1)).takeWhile Pl.isLet).length=k):=by
     have h1:=PU Pl.isLet s.data.toList j (by simpa using hlt) hp
     have h2:=HE.out;show _=_;omega
    clear HE
    go_wp2_with (go_at_call 85;refine(DC _ _).mono ?_;rintro e w' ⟨rfl,rfl⟩)
    go_round
    case rel=>exact⟨j+1,aa,aa,ai,HS⟩
    case measure=>simp[intOf];omega
   .have hp':Pl.isLet s[j]=false:=by simpa using hp
    have hjk:j=k:=by
     have h1:=PW Pl.isLet s.data.toList j (by simpa using hlt) hp'
     have h2:=HE.out;omega
    subst hjk;clear HE hp HK
    go_wp2_with (go_at_call 85;refine(DC _ _).mono ?_;rintro e w' ⟨rfl,rfl⟩)
    exact bodyPost_ret (v:=aI #[aC #[az .u8 119,aF (s.extract i j),az aJ 0,az aJ i],az aJ j]) (by simp[results,results57,go_sem]) rfl ⟨rfl,aw _ _⟩
  .have hjk:j=k:=by
    have h2:=HE.out;rw[Ak (by simp;omega:s.data.toList.length<=j)] at h2
    simpa using h2
   subst hjk;clear HE HK
   go_wp2_with (go_at_call 85;refine(DC _ _).mono ?_;rintro e w' ⟨rfl,rfl⟩)
   exact bodyPost_ret (v:=aI #[aC #[az .u8 119,aF (s.extract i j),az aJ 0,az aJ i],az aJ j]) (by simp[results,results57,go_sem]) rfl ⟨rfl,aw _ _⟩
def aeB(neg:Bool)(s:ByteArray)(i d:Nat)(w:aM)(e:Ending)(w':aM):Prop:=
 aj w w'/\
 (((dY s d=[]\/9<(dY s d).length)/\∃j:Nat,j<=20000001000/\e=aL (aI #[aC #[az .u8 120,aF ⟨#[]⟩,az aJ 0,az aJ i],az aJ j]))\/
  (¬(dY s d=[]\/9<(dY s d).length)/\e=aL (aI #[aC #[az .u8 110,aF ⟨#[]⟩,az aJ (if neg then -(Pl.fw (dY s d):Int) else(Pl.fw (dY s d):Int)),az aJ i],az aJ ((d+(dY s d).length:Nat):Int)])))
theorem aqb(s:ByteArray)(i:Nat)(w:aM)(hi:i<s.size)(hs:s.size<=20000000400)(hl:Pl.isLet s[i]=false)
  (hq:¬(s[i].toNat=40\/s[i].toNat=41\/s[i].toNat=44\/s[i].toNat=47))(hm:((s[i].toNat:Int) == 45)=false):
  ak 57 #[aF s,az aJ i] w (aeB false s i i w):=by
 obtain⟨q1,q2,q3,q4⟩:=QF (aT (aT (aT hq)));clear hq;have hD:(dY s i).length<=s.size-i:=by
  have:=(rq Pl.cu (l:=s.data.toList.drop i)).length_le;simp at this;unfold dY;omega
 have HG:Hid (∀j(hj:j<(dY s i).length),∃h:i+j<s.size,(dY s i)[j]=s[i+j]/\Pl.cu s[i+j]=true):=λj hj=>Yc s i j hj
 have HS:Hid (∀h:i+(dY s i).length<s.size,Pl.cu s[i+(dY s i).length]=false):=Yd s i;have HL:Hid (∀j,Pl.fw ((dY s i).take j)<10 ^ j):=λj=>QG j _ (F9 _)
 generalize Df:dY s i=D at*;have uv:Hid (dY s i=D):=Df;clear Df
 go_enter func57,ntmps57
 go_wp2_with (go_at_call 85;refine(DC _ _).mono ?_;rintro e w' ⟨rfl,rfl⟩)
 go_loop [1,8] (λt n=>∃j:Nat,j<=D.length/\j<=10/\t=az aJ ((i+j:Nat):Int)/\n=az aJ ((Pl.fw (D.take j):Nat):Int)) (λt _=>20000001000-(intOf t).toNat)
 case atStart=>exact⟨0,aa,aa,ai,rfl⟩
 case round=>
  obtain⟨j,hj,aqc,rfl,rfl⟩:=hrel;by_cases hgo:j<D.length/\j<10
  .obtain⟨h1,h2⟩:=hgo;obtain⟨hlt,hg,hp⟩:=HG.out j h1;have hv:Pl.fw (D.take j)<10000000000:=bW (HL.out j) (OY aa (by omega:j<=10))
   have HE:Hid (Pl.fw (D.take (j+1))=10*Pl.fw (D.take j)+(s[i+j].toNat-48)):=by
    show _=_;rw[pH h1,KW,hg]
   have hd:=fV hp;generalize Pl.fw (D.take j)=V at*;clear hg HG HS HL uv
   go_wp2_with (go_at_call 86;refine(DF _ _).mono ?_;rintro e w' ⟨rfl,rfl⟩)
   exact⟨⟨j+1,aa,aa,aZ (Value.int aJ) aa,aZ (Value.int aJ) (by rw[HE.out];omega)⟩,by simp[intOf];omega⟩
  .by_cases Cz:j=D.length
   .have hst:∀h:i+j<s.size,Pl.cu s[i+j]=false:=by
     intro h;subst Cz;exact HS.out h
    have HV:Hid (D.take j=D):=by
     show _=_;rw[qw aa]
    have hv:Pl.fw (D.take j)<10000000000:=bW (HL.out j) (OY aa (by omega:j<=10))
    have Cb:Hid (Pl.fw (D.take j)=Pl.fw D):=aZ Pl.fw HV.out;have yg:Hid (j=D.length):=Cz;generalize Pl.fw (D.take j)=V at*;clear HG HS HL Cz HV hj;have hcs:(j<=0/\((i:Int)+(j:Int) == (i:Int))=true)\/(¬j=0/\j<=9/\((i:Int)+(j:Int) == (i:Int))=false)\/(¬j<=9/\((i:Int)+(j:Int) == (i:Int))=false):=by simp;omega
    by_cases hlt:i+j<s.size
    all_goals
     try have hp:=hst hlt
     clear hst;rcases hcs with⟨h0,ha⟩|⟨Ce,Jj,ha⟩|⟨Jj,ha⟩
    all_goals first
     |(exfalso;omega)
     |(go_wp2_with (go_at_call 86;refine(DF _ _).mono ?_;rintro e w' ⟨rfl,rfl⟩);first |(refine bodyPost_ret (v:=aI #[aC #[az .u8 120,aF ⟨#[]⟩,az aJ 0,az aJ i],az aJ ((i+j:Nat):Int)]) (by simp[results,results57,go_sem]) rfl ?_;refine⟨aw _ _,aU ⟨?_,i+j,aa,rfl⟩⟩;rw[uv.out];first |exact aT (by have:=yg.out;omega)|exact aU (asH (by have:=yg.out;omega)))|(refine bodyPost_ret (v:=aI #[aC #[az .u8 110,aF ⟨#[]⟩,az aJ ((V:Int)),az aJ i],az aJ ((i+j:Nat):Int)]) (by simp[results,results57,go_sem]) rfl ?_;refine⟨aw _ _,aT ⟨?_,?_⟩⟩;(rw[uv.out];have Jk:=yg.out;rintro(h|h);(rw[h] at Jk;simp at Jk;omega);omega);rw[uv.out,<-yg.out,<-Cb.out];simp))
   .obtain⟨hlt,hg,hp⟩:=HG.out j aa
    have Jj:¬j<=9:=aa
    have ha:((i:Int)+(j:Int) == (i:Int))=false:=by simp;omega
    generalize Pl.fw (D.take j)=V at*;clear HG HS HL hg
    go_wp2_with (go_at_call 86;refine(DF _ _).mono ?_;rintro e w' ⟨rfl,rfl⟩)
    refine bodyPost_ret (v:=aI #[aC #[az .u8 120,aF ⟨#[]⟩,az aJ 0,az aJ i],az aJ ((i+j:Nat):Int)]) (by simp[results,results57,go_sem]) rfl ?_
    refine⟨aw _ _,aU ⟨?_,i+j,aa,rfl⟩⟩
    rw[uv.out];exact aT aa
theorem aqd(s:ByteArray)(i:Nat)(w:aM)(hi:i<s.size)(hs:s.size<=20000000400)(hl:Pl.isLet s[i]=false)
  (hq:¬(s[i].toNat=40\/s[i].toNat=41\/s[i].toNat=44\/s[i].toNat=47))(hm:((s[i].toNat:Int) == 45)=true):
  ak 57 #[aF s,az aJ i] w (aeB true s i (i+1) w):=by
 obtain⟨q1,q2,q3,q4⟩:=QF (aT (aT (aT hq)));clear hq;have hD:(dY s (i+1)).length<=s.size-(i+1):=by
  have:=(rq Pl.cu (l:=s.data.toList.drop (i+1))).length_le;simp at this;unfold dY;omega
 have HG:Hid (∀j(hj:j<(dY s (i+1)).length),∃h:(i+1)+j<s.size,(dY s (i+1))[j]=s[(i+1)+j]/\Pl.cu s[(i+1)+j]=true):=λj hj=>Yc s (i+1) j hj
 have HS:Hid (∀h:(i+1)+(dY s (i+1)).length<s.size,Pl.cu s[(i+1)+(dY s (i+1)).length]=false):=Yd s (i+1);have HL:Hid (∀j,Pl.fw ((dY s (i+1)).take j)<10 ^ j):=λj=>QG j _ (F9 _)
 generalize Df:dY s (i+1)=D at*;have uv:Hid (dY s (i+1)=D):=Df;clear Df
 go_enter func57,ntmps57
 go_wp2_with (go_at_call 85;refine(DC _ _).mono ?_;rintro e w' ⟨rfl,rfl⟩)
 go_loop [1,8] (λt n=>∃j:Nat,j<=D.length/\j<=10/\t=az aJ (((i+1)+j:Nat):Int)/\n=az aJ ((Pl.fw (D.take j):Nat):Int)) (λt _=>20000001000-(intOf t).toNat)
 case atStart=>exact⟨0,aa,aa,ai,rfl⟩
 case round=>
  obtain⟨j,hj,aqc,rfl,rfl⟩:=hrel;by_cases hgo:j<D.length/\j<10
  .obtain⟨h1,h2⟩:=hgo;obtain⟨hlt,hg,hp⟩:=HG.out j h1;have hv:Pl.fw (D.take j)<10000000000:=bW (HL.out j) (OY aa (by omega:j<=10))
   have HE:Hid (Pl.fw (D.take (j+1))=10*Pl.fw (D.take j)+(s[(i+1)+j].toNat-48)):=by
    show _=_;rw[pH h1,KW,hg]
   have hd:=fV hp;generalize Pl.fw (D.take j)=V at*;clear hg HG HS HL uv
   go_wp2_with (go_at_call 86;refine(DF _ _).mono ?_;rintro e w' ⟨rfl,rfl⟩)
   exact⟨⟨j+1,aa,aa,aZ (Value.int aJ) aa,aZ (Value.int aJ) (by rw[HE.out];omega)⟩,by simp[intOf];omega⟩
  .by_cases Cz:j=D.length
   .have hst:∀h:(i+1)+j<s.size,Pl.cu s[(i+1)+j]=false:=by
     intro h;subst Cz;exact HS.out h
    have HV:Hid (D.take j=D):=by
     show _=_;rw[qw aa]
    have hv:Pl.fw (D.take j)<10000000000:=bW (HL.out j) (OY aa (by omega:j<=10))
    have Cb:Hid (Pl.fw (D.take j)=Pl.fw D):=aZ Pl.fw HV.out;have yg:Hid (j=D.length):=Cz;generalize Pl.fw (D.take j)=V at*;clear HG HS HL Cz HV hj;have hcs:(j<=0/\(((i:Int)+1)+(j:Int) == ((i:Int)+1))=true)\/(¬j=0/\j<=9/\(((i:Int)+1)+(j:Int) == ((i:Int)+1))=false)\/(¬j<=9/\(((i:Int)+1)+(j:Int) == ((i:Int)+1))=false):=by simp;omega
    by_cases hlt:(i+1)+j<s.size
    all_goals
     try have hp:=hst hlt
     clear hst;rcases hcs with⟨h0,ha⟩|⟨Ce,Jj,ha⟩|⟨Jj,ha⟩
    all_goals first
     |(exfalso;omega)
     |(go_wp2_with (go_at_call 86;refine(DF _ _).mono ?_;rintro e w' ⟨rfl,rfl⟩);first |(refine bodyPost_ret (v:=aI #[aC #[az .u8 120,aF ⟨#[]⟩,az aJ 0,az aJ i],az aJ (((i+1)+j:Nat):Int)]) (by simp[results,results57,go_sem]) rfl ?_;refine⟨aw _ _,aU ⟨?_,(i+1)+j,aa,rfl⟩⟩;rw[uv.out];first |exact aT (by have:=yg.out;omega)|exact aU (asH (by have:=yg.out;omega)))|(refine bodyPost_ret (v:=aI #[aC #[az .u8 110,aF ⟨#[]⟩,az aJ (-(V:Int)),az aJ i],az aJ (((i+1)+j:Nat):Int)]) (by simp[results,results57,go_sem]) rfl ?_;refine⟨aw _ _,aT ⟨?_,?_⟩⟩;(rw[uv.out];have Jk:=yg.out;rintro(h|h);(rw[h] at Jk;simp at Jk;omega);omega);rw[uv.out,<-yg.out,<-Cb.out];simp))
   .obtain⟨hlt,hg,hp⟩:=HG.out j aa
    have Jj:¬j<=9:=aa
    have ha:(((i:Int)+1)+(j:Int) == ((i:Int)+1))=false:=by simp;omega
    generalize Pl.fw (D.take j)=V at*;clear HG HS HL hg
    go_wp2_with (go_at_call 86;refine(DF _ _).mono ?_;rintro e w' ⟨rfl,rfl⟩)
    refine bodyPost_ret (v:=aI #[aC #[az .u8 120,aF ⟨#[]⟩,az aJ 0,az aJ i],az aJ (((i+1)+j:Nat):Int)]) (by simp[results,results57,go_sem]) rfl ?_
    refine⟨aw _ _,aU ⟨?_,(i+1)+j,aa,rfl⟩⟩
    rw[uv.out];exact aT aa
def aqe(t:Pl.Tk)(w:aM)(e:Ending)(w':aM):Prop:=
 aj w w'/\∃j:Nat,e=aL (aI #[aC (tN t),az aJ j])/\j<=20000001000/\(¬(t.k=101\/t.k=120)->j=t.pl+t.raw.length)
theorem aqf(s:ByteArray)(i:Nat)(w:aM)(hi:i<=s.size)(hs:s.size<=20000000400):
  ak 57 #[aF s,az aJ i] w (aqe (Pl.dA (s.data.toList.drop i) i) w):=by
 by_cases hlt:i<s.size
 .rw[Pl.drop_cons s i hlt];by_cases rY:s[i].toNat=40\/s[i].toNat=41\/s[i].toNat=44\/s[i].toNat=47
  .refine(ap8 s i w hlt hs rY).mono ?_;rintro e w' ⟨rfl,hb⟩;have e1:Pl.dA (s[i]::s.data.toList.drop (i+1)) i=⟨s[i].toNat,[s[i]],0,i⟩:=by simp only[Pl.dA];rw[aV rY]
   rw[e1];refine⟨hb,i+1,?_,aa,λ_=>rfl⟩
   have e2:s.extract i (i+1)=⟨#[s[i]]⟩:=by
    rw[Pl.extract_eq,JN,Pl.drop_cons s i hlt];rfl
   rw[e2];have e3:Pl.rS ⟨s[i].toNat,[s[i]],0,i⟩=[s[i]]:=by unfold Pl.rS;rw[aQ (by show ¬s[i].toNat=110;omega)]
   unfold tN;rw[e3]
  .by_cases hl:Pl.isLet s[i]=true
   .refine(aqa s i _ w hlt hs hl rfl).mono ?_;rintro e w' ⟨rfl,hb⟩;have e1:Pl.dA (s[i]::s.data.toList.drop (i+1)) i=⟨119,(s[i]::s.data.toList.drop (i+1)).takeWhile Pl.isLet,0,i⟩:=by simp only[Pl.dA];rw[aQ rY,aV hl]
    rw[e1,<-Pl.drop_cons s i hlt];have hle:=(rq Pl.isLet (l:=s.data.toList.drop i)).length_le;simp at hle;refine⟨hb,i+((s.data.toList.drop i).takeWhile Pl.isLet).length,?_,aa,λ_=>rfl⟩
    rw[Pl.extract_eq,JN,Pl.take_takeWhile];rfl
   .have hl':Pl.isLet s[i]=false:=by simpa using hl
    have oZ:∀d,(dY s d).length<=s.size-d:=λd=>by
     have:=(rq Pl.cu (l:=s.data.toList.drop d)).length_le;simp at this;unfold dY;omega
    by_cases hm:s[i].toNat=45
    .refine(aqd s i w hlt hs hl' rY (by simp;omega)).mono ?_
     rintro e w' ⟨hb,h⟩;have e1:Pl.dA (s[i]::s.data.toList.drop (i+1)) i=(if dY s (i+1)=[]\/9<(dY s (i+1)).length then⟨120,[],0,i⟩ else⟨110,s[i]::dY s (i+1), -(Pl.fw (dY s (i+1)):Int),i⟩):=by
      simp only[Pl.dA];rw[aQ rY,aQ hl,aV hm];rfl
     rw[e1];rcases h with⟨h1,j,hj,rfl⟩|⟨h1,rfl⟩
     .rw[aV h1];exact⟨hb,j,rfl,hj,λh=>absurd (aT rfl) h⟩
     .rw[aQ h1];have:=oZ (i+1);exact⟨hb,_,rfl,aa,λ_=>by simp only[dw];omega⟩
    .refine(aqb s i w hlt hs hl' rY (by simp;omega)).mono ?_
     rintro e w' ⟨hb,h⟩;have e1:Pl.dA (s[i]::s.data.toList.drop (i+1)) i=(if dY s i=[]\/9<(dY s i).length then⟨120,[],0,i⟩ else⟨110,dY s i,(Pl.fw (dY s i):Int),i⟩):=by
      simp only[Pl.dA];rw[aQ rY,aQ hl,aQ hm];unfold dY;rw[Pl.drop_cons s i hlt]
     rw[e1];rcases h with⟨h1,j,hj,rfl⟩|⟨h1,rfl⟩
     .rw[aV h1];exact⟨hb,j,rfl,hj,λh=>absurd (aT rfl) h⟩
     .rw[aQ h1];have:=oZ i;exact⟨hb,_,rfl,aa,λ_=>rfl⟩
 .have he:i=s.size:=aa
  refine(ap7 s i w aa aa hs).mono ?_
  rintro e w' ⟨rfl,hb⟩;have e1:Pl.dA (s.data.toList.drop i) i=⟨101,[],0,i⟩:=by
   rw[Ak (by simp;omega)];rfl
  rw[e1];exact⟨hb,i,rfl,aa,λh=>absurd (aU rfl) h⟩
theorem aeC(s:ByteArray)(w:aM)(hs:s.size<=20000000400):
  ak 28 #[aF s] w λe w'=>∃v,e=aL v/\w'.ownsRow w.heap.size 61 4 v (Pl.all s.data.toList).length (qJ (Pl.all s.data.toList))/\aj w w':=by
 obtain⟨i0,hi,hz0,hz1,hz2⟩:=info_parts aiB
 go_enter func28,ntmps28
 go_wp2_with fail
 go_loopg [3,4,5] (s.size+2) (λg lv iv kv wr=>∃(c:List Pl.Tk)(i:Nat)(k:Nat),iv=az aJ i/\kv=az .u8 k/\c.length<=20000000402/\i<=20000001000/\Hid (QH s w c lv wr)/\
   Hid ((k≠101/\k≠120/\i<=s.size/\s.size<g+i/\1<=g/\c.length<=i/\∃f,s.size<f+i/\c++Pl.iq s.data.toList f i=Pl.all s.data.toList)\/((k=101\/k=120)/\c=Pl.all s.data.toList)))
 case atStart=>
  refine⟨[],0,32,rfl,rfl,af,aa,⟨World.ownsRow_nil _ _ _ _,Below.refl _ _,aY _⟩,aU ⟨aa,aa,aa,aa,aa,af,s.size+1,aa,?_⟩⟩
  unfold Pl.all;simp
 case round=>
  obtain⟨c,i,k,rfl,rfl,hc,hi1,HT,HR⟩:=hrel;rcases HR.out with⟨hk1,hk2,hi2,hg,hg1,hci,f,hf,gQ⟩|⟨hk,rfl⟩
  .obtain⟨hown,aW,hsz⟩:=HT.out;have q1:((k:Int) != 101)=true:=by rw[yx];omega
   have q2:((k:Int) != 120)=true:=by rw[yx];omega
   obtain⟨f1,rfl⟩:∃f1,f=f1+1:=⟨f-1,aa⟩
   have hbl:=Pl.PN s.data.toList i (by simpa using hi2)
   have hnx:=Pl.F7 s.data.toList i (by simpa using hi2)
   have F8:Pl.bl s.data.toList i<=s.size:=by simpa using hbl.2
   have kT:(Pl.tk s.data.toList i).pl+(Pl.tk s.data.toList i).raw.length<=s.size:=by simpa using hnx.1
   have HC:Hid (∀w1,ak 57 #[aF s,az aJ (Pl.bl s.data.toList i)] w1 λe w'=>aj w1 w'/\∃j:Nat,e=aL (aI #[aC #[az .u8 (Pl.tk s.data.toList i).k,aF ⟨(Pl.rS (Pl.tk s.data.toList i)).toArray⟩,az aJ (Pl.tk s.data.toList i).n,az aJ (Pl.tk s.data.toList i).pl],az aJ j])/\j<=20000001000/\(¬((Pl.tk s.data.toList i).k=101\/(Pl.tk s.data.toList i).k=120)->j=(Pl.tk s.data.toList i).pl+(Pl.tk s.data.toList i).raw.length)):=λw1=>aqf s _ w1 F8 hs
   have HA:Hid (c++Pl.iq s.data.toList (f1+1) i=Pl.all s.data.toList):=gQ;have HJ:Hid (Pl.bl s.data.toList i=i+((s.data.toList.drop i).takeWhile Pl.iX).length):=rfl;have HN:Hid ((Pl.tk s.data.toList i).pl+(Pl.tk s.data.toList i).raw.length<=s.size/\((Pl.tk s.data.toList i).k=101\/(Pl.tk s.data.toList i).k=120\/i+1<=(Pl.tk s.data.toList i).pl+(Pl.tk s.data.toList i).raw.length)):=⟨kT,hnx.2⟩;have oz:Hid (Pl.iq s.data.toList (f1+1) i=if(Pl.tk s.data.toList i).k=101\/(Pl.tk s.data.toList i).k=120 then[Pl.tk s.data.toList i] else Pl.tk s.data.toList i::Pl.iq s.data.toList f1 ((Pl.tk s.data.toList i).pl+(Pl.tk s.data.toList i).raw.length)):=by
    show _=_;rw[Pl.iq]
   clear gQ hnx hbl kT;generalize Pl.bl s.data.toList i=b at*;generalize Pl.tk s.data.toList i=t at*;generalize hrs:(Pl.rS t)=rs at*;have HRS:Hid (Pl.rS t=rs):=hrs;clear hrs;clear HR HT
   go_wp2_with fail
   obtain⟨wo,rfl⟩:∃wo:aM,wo=wr:=⟨_,rfl⟩
   go_loop [4] (λt=>∃j:Nat,j<=s.size/\t=az aJ j/\Hid (j+((s.data.toList.drop j).takeWhile Pl.iX).length=b)) (λt=>s.size-(intOf t).toNat)
   case atStart=>exact⟨i,hi2,rfl,HJ.out.symm⟩
   case round=>
    obtain⟨j,hj,rfl,HE⟩:=hrel;have aeE:(¬∃h:j<s.size,Pl.iX s[j]=true)->j=b:=by
     intro h;have h2:=HE.out;by_cases hlt:j<s.size
     .have hp':Pl.iX s[j]=false:=by
       cases hp:Pl.iX s[j]
       .rfl
       .exact absurd ⟨hlt,hp⟩ h
      have h1:=PW Pl.iX s.data.toList j (by simpa using hlt) hp'
      omega
     .rw[Ak (by simp;omega:s.data.toList.length<=j)] at h2
      simpa using h2
    have HST:Hid ((¬∃h:j<s.size,Pl.iX s[j]=true)->j=b):=aeE;clear aeE;by_cases hgo:∃h:j<s.size,Pl.iX s[j]=true
    .obtain⟨hlt,hp⟩:=hgo;have HS:Hid (j+1+((s.data.toList.drop (j+1)).takeWhile Pl.iX).length=b):=by
      have h1:=PU Pl.iX s.data.toList j (by simpa using hlt) hp
      have h2:=HE.out;show _=_;omega
     have aqg:((s[j].toNat:Int) == 32)=true:=by have:=fV hp;simp;omega
     clear HE HST hp
     go_wp2_with fail
     go_round
     case rel=>exact⟨j+1,aa,ai,HS⟩
     case measure=>simp[intOf];omega
    .have hjb:=HST.out hgo;subst hjb;clear HE HST;by_cases hlt:j<s.size
     .have aqg:((s[j].toNat:Int) == 32)=false:=by
       have:¬Pl.iX s[j]=true:=λh=>hgo ⟨hlt,h⟩
       unfold Pl.iX at this;simp at this⊢;omega
      clear hgo
      go_wp2_with fail
      refine(HC.out _).mono ?_;rintro e w1 ⟨hb1,j1,rfl,UY,zT⟩;have cV:Hid (¬(t.k=101\/t.k=120)->j1=t.pl+t.raw.length):=zT;clear zT;have hown1:=bB hown (λk hk=>hb1.block k (bn hown k hk).2)
      have hs1:=hb1.size
      go_wp2_with (at_builtin;refine wpList_append_lies _ rfl (.tmp 32) (.tmp 34) 52 rfl w.heap.size 61 i0 _ 4 40 underlying52 hi hz0 hz1 hz2 rfl ah u3 c.length (qJ c) rfl (bB hown1 (λk hk=>(Below.heap_alloc _ _ _ (by have:=(bn hown1 k hk).2;simp;omega)).trans (Below.heap_alloc _ _ _ (bn hown1 k hk).2))) ⟨w1.heap.size+1,0,none⟩ 1 1 [az .u8 t.k,aF ⟨rs.toArray⟩,az aJ t.n,az aJ t.pl] rfl rfl (World.news_of_block (cs:= #[az .u8 t.k,aF ⟨rs.toArray⟩,az aJ t.n,az aJ t.pl]) (t:=61) (fr:=(0,0)) (by have:=heap_alloc_new (w1.alloc (.cells #[az .u8 t.k,aF ⟨rs.toArray⟩,az aJ t.n,az aJ t.pl] 61)) (.cells #[az .u8 t.k,aF ⟨rs.toArray⟩,az aJ t.n,az aJ t.pl] 61);simpa using this)) (by simp[Value.oneCell']) ah (by unfold maxLen;omega) aa (by simp;omega) (w1.heap.size+2) af ?_;intro g cap w2 ho hgrow hat ki;have jH:=(KX hgrow (λe=>by have:=(bn hown1 _ e).2;omega)).1;have x0:=cH jH)
      have hk2:=(KX hgrow (λe=>by have:=(bn hown1 _ e).2;omega)).2
      have xJ:QH s w (c++[t]) (aG (some ⟨g,0,none⟩) (c.length+1) cap) w2:=by
       refine⟨?_,?_,?_⟩
       .rw[Ye];simp only[bY,dw,iJ,jD];rw[<-HRS.out] at ho;exact ho
       .exact(((aW.trans (hb1.mono hsz)).alloc aa _).alloc (by simp;omega) _).grown hgrow (by simp;omega) (λk hk=>(bn hown1 k hk).1)
       .have:=hgrow.size;simp at this;omega
      obtain⟨n1,n2⟩:=HN.out;have htk:=oz.out;have hap:=HA.out
      go_roundg (gk-1)
      case measure=>omega
      case rel=>
       refine⟨c++[t],j1,t.k,rfl,rfl,?_,UY,xJ,?_⟩
       .simp;omega
       .by_cases hst:t.k=101\/t.k=120
        .refine aT ⟨hst,?_⟩;rw[htk,aV hst] at hap;exact hap
        .have hj:=cV.out hst;have hge:i+1<=t.pl+t.raw.length:=by
          rcases n2 with h|h|h
          .exact absurd (aU h) hst
          .exact absurd (aT h) hst
          .exact h
         rw[htk,aQ hst] at hap;refine aU ⟨λh=>hst (aU h),λh=>hst (aT h),aa,aa,aa,by simp;omega,f1,aa,?_⟩
         rw[hj,fH];exact hap
     .clear hgo
      go_wp2_with fail
      refine(HC.out _).mono ?_;rintro e w1 ⟨hb1,j1,rfl,UY,zT⟩;have cV:Hid (¬(t.k=101\/t.k=120)->j1=t.pl+t.raw.length):=zT;clear zT;have hown1:=bB hown (λk hk=>hb1.block k (bn hown k hk).2)
      have hs1:=hb1.size
      go_wp2_with (at_builtin;refine wpList_append_lies _ rfl (.tmp 32) (.tmp 34) 52 rfl w.heap.size 61 i0 _ 4 40 underlying52 hi hz0 hz1 hz2 rfl ah u3 c.length (qJ c) rfl (bB hown1 (λk hk=>(Below.heap_alloc _ _ _ (by have:=(bn hown1 k hk).2;simp;omega)).trans (Below.heap_alloc _ _ _ (bn hown1 k hk).2))) ⟨w1.heap.size+1,0,none⟩ 1 1 [az .u8 t.k,aF ⟨rs.toArray⟩,az aJ t.n,az aJ t.pl] rfl rfl (World.news_of_block (cs:= #[az .u8 t.k,aF ⟨rs.toArray⟩,az aJ t.n,az aJ t.pl]) (t:=61) (fr:=(0,0)) (by have:=heap_alloc_new (w1.alloc (.cells #[az .u8 t.k,aF ⟨rs.toArray⟩,az aJ t.n,az aJ t.pl] 61)) (.cells #[az .u8 t.k,aF ⟨rs.toArray⟩,az aJ t.n,az aJ t.pl] 61);simpa using this)) (by simp[Value.oneCell']) ah (by unfold maxLen;omega) aa (by simp;omega) (w1.heap.size+2) af ?_;intro g cap w2 ho hgrow hat ki;have jH:=(KX hgrow (λe=>by have:=(bn hown1 _ e).2;omega)).1;have x0:=cH jH)
      have hk2:=(KX hgrow (λe=>by have:=(bn hown1 _ e).2;omega)).2
      have xJ:QH s w (c++[t]) (aG (some ⟨g,0,none⟩) (c.length+1) cap) w2:=by
       refine⟨?_,?_,?_⟩
       .rw[Ye];simp only[bY,dw,iJ,jD];rw[<-HRS.out] at ho;exact ho
       .exact(((aW.trans (hb1.mono hsz)).alloc aa _).alloc (by simp;omega) _).grown hgrow (by simp;omega) (λk hk=>(bn hown1 k hk).1)
       .have:=hgrow.size;simp at this;omega
      obtain⟨n1,n2⟩:=HN.out;have htk:=oz.out;have hap:=HA.out
      go_roundg (gk-1)
      case measure=>omega
      case rel=>
       refine⟨c++[t],j1,t.k,rfl,rfl,?_,UY,xJ,?_⟩
       .simp;omega
       .by_cases hst:t.k=101\/t.k=120
        .refine aT ⟨hst,?_⟩;rw[htk,aV hst] at hap;exact hap
        .have hj:=cV.out hst;have hge:i+1<=t.pl+t.raw.length:=by
          rcases n2 with h|h|h
          .exact absurd (aU h) hst
          .exact absurd (aT h) hst
          .exact h
         rw[htk,aQ hst] at hap;refine aU ⟨λh=>hst (aU h),λh=>hst (aT h),aa,aa,aa,by simp;omega,f1,aa,?_⟩
         rw[hj,fH];exact hap
  .obtain⟨hown,aW,_⟩:=HT.out;rcases hk with rfl|rfl
   .clear HR HT
    go_wp2_with fail
    go_ret
    exact⟨_,rfl,hown,aW⟩
   .clear HR HT
    go_wp2_with fail
    go_ret
    exact⟨_,rfl,hown,aW⟩
def PX(pb tb cap:Nat)(A l:List Pl.Tk)(w:aM):Prop:=
 tb≠pb/\(∃cur,w.heap[tb]?=some (.cells cur 61 (0,0))/\∀(j:Nat) u,(qJ A)[j]?=some u->cur[j]?=some u)/\
 ∃c,c++l=A/\w.heap[pb]?=some (.cells #[aG (some ⟨tb,0,none⟩) A.length cap,az aJ c.length,aD false,az aJ (-1)] 55 (0,0))
theorem PX.cells{t:Pl.Tk}(h:PX pb tb cap A (t::r) w):
  ∃c:List Pl.Tk,c++t::r=A/\w.heap[pb]?=some (.cells #[aG (some ⟨tb,0,none⟩) A.length cap,az aJ c.length,aD false,az aJ (-1)] 55 (0,0))/\
   w.cell? ⟨tb,c.length*4,none⟩=some (az .u8 t.k)/\w.cell? ⟨tb,c.length*4+1,none⟩=some (aF ⟨(Pl.rS t).toArray⟩)/\w.cell? ⟨tb,c.length*4+2,none⟩=some (az aJ t.n)/\w.cell? ⟨tb,c.length*4+3,none⟩=some (az aJ t.pl)/\
   c.length<A.length/\tb<w.heap.size:=by
 obtain⟨hne,⟨cur,fL,hrow⟩,c,hc,hb⟩:=h;have hg:A[c.length]?=some t:=by rw[<-hc];simp
 have hcell:∀j u,j<4->(tN t)[j]?=some u->w.cell? ⟨tb,c.length*4+j,none⟩=some u:=λj u hj hu=>by
  rw[cell_of fL];exact hrow _ _ (by rw[Yl A c.length t hg j hj];exact hu)
 exact⟨c,hc,hb,by simpa using hcell 0 (az .u8 t.k) aa rfl,hcell 1 _ aa rfl,hcell 2 _ aa rfl,hcell 3 _ aa rfl,by rw[<-hc];simp,lt_of_heap fL⟩
theorem PX.mono(h:PX pb tb cap A l w)(hk:∀k,k<w.heap.size->w'.heap[k]?=w.heap[k]?):PX pb tb cap A l w':=by
 obtain⟨hne,⟨cur,fL,hrow⟩,c,hc,hb⟩:=h;exact⟨hne,⟨cur,(hk _ (lt_of_heap fL)).trans fL,hrow⟩,c,hc,(hk _ (lt_of_heap hb)).trans hb⟩
theorem PX.put{l':List Pl.Tk}(h:PX pb tb cap A l w)(c:List Pl.Tk)(hc:c++l'=A)
  (hk:∀k,k<w.heap.size->k≠pb->w'.heap[k]?=w.heap[k]?)(hb:w'.heap[pb]?=some (.cells #[aG (some ⟨tb,0,none⟩) A.length cap,az aJ c.length,aD false,az aJ (-1)] 55 (0,0))):PX pb tb cap A l' w':=by
 obtain⟨hne,⟨cur,fL,hrow⟩,_⟩:=h;exact⟨hne,⟨cur,(hk _ (lt_of_heap fL) hne).trans fL,hrow⟩,c,hc,hb⟩
theorem E5(pb tb cap:Nat)(A r:List Pl.Tk)(t:Pl.Tk)(w:aM)(k:Nat)(hP:PX pb tb cap A (t::r) w)(hl:A.length<=20000000402)(hk:t.k=k):
  ak 42 #[aH (some ⟨pb,0,none⟩),az .u8 k] w λe w'=>e=aL (aI #[])/\PX pb tb cap A r w'/\Fp pb w w':=by
 obtain⟨c,hc,hb,e0,e1,e2,e3,hcl,pD⟩:=hP.cells;have HC:Hid (c++t::r=A):=hc;have c0:=cH hb;have c1:=cD hb;have c2:=dU hb;have f1:=bK hb 1;rw[hk] at e0;clear hc hk;have hib:(c.length:Int)<(A.length:Int):=aa
 go_enter func42,ntmps42
 go_wp2_with fail
 go_quiet (fail)
 go_wp2_with fail
 go_end0
 refine⟨rfl,hP.put (c++[t]) (by rw[<-HC.out];simp) (λk hk hne=>dQ hne _) ?_,((Fp.refl pb w).drewN nq).set 1 _⟩
 have q:=heap_set (w:=w.drewN nq) (o:=1) hb (az aJ ((c.length:Int)+1));simpa using q
theorem Jl(pb tb cap:Nat)(A r:List Pl.Tk)(t:Pl.Tk)(w:aM)(k:Nat)(hP:PX pb tb cap A (t::r) w)(_hl:A.length<=20000000402):
  ak 44 #[aH (some ⟨pb,0,none⟩),az .u8 k] w λe w'=>e=aL (aD (decide (t.k=k)))/\∃n,w'=w.drewN n:=by
 obtain⟨c,hc,hb,e0,e1,e2,e3,hcl,pD⟩:=hP.cells;have HC:Hid (c++t::r=A):=hc;have c0:=cH hb;have c1:=cD hb;have c2:=dU hb;have c3:=jG hb;have f1:=bK hb 1;have f2:=bK hb 2;have f3:=bK hb 3;have hib:(c.length:Int)<(A.length:Int):=aa
 clear hc
 go_enter func44,ntmps44
 go_wp2_with fail
 go_quiet (fail)
 go_wp2_with fail
 go_ret
 refine⟨uJ ?_,_,rfl⟩;rw[lF];simp;omega
theorem UZ(pb tb cap:Nat)(A r:List Pl.Tk)(t:Pl.Tk)(w:aM)(q:ByteArray)(hP:PX pb tb cap A (t::r) w)(hl:A.length<=20000000402)(hk:t.k=119)(hq:(⟨t.raw.toArray⟩:ByteArray)=q):
  ak 29 #[aH (some ⟨pb,0,none⟩),aF q] w λe w'=>e=aL (aD true)/\PX pb tb cap A r w'/\Fp pb w w':=by
 obtain⟨c,hc,hb,e0,e1,e2,e3,hcl,pD⟩:=hP.cells;have HC:Hid (c++t::r=A):=hc;have c0:=cH hb;have c1:=cD hb;have c2:=dU hb;have c3:=jG hb;have f1:=bK hb 1;have f2:=bK hb 2;have f3:=bK hb 3;have hib:(c.length:Int)<(A.length:Int):=aa
 have hpb:pb<w.heap.size:=lt_of_heap hb;clear hc;have hrs:Pl.rS t=t.raw:=by unfold Pl.rS;rw[aQ aa]
 rw[hrs,hq] at e1;rw[hk] at e0;clear hk hq hrs
 go_enter func29,ntmps29
 go_wp2_with fail
 go_quiet (fail)
 go_wp2_with fail
 go_ret
 refine⟨rfl,hP.put (c++[t]) (by rw[<-HC.out];simp) (λk hk hne=>dQ hne _) ?_,((Fp.refl pb w).drewN nq).set 1 _⟩
 have q:=heap_set (w:=w.drewN nq) (o:=1) hb (az aJ ((c.length:Int)+1));simpa using q
theorem aqh(pb tb cap:Nat)(A r:List Pl.Tk)(t:Pl.Tk)(w:aM)(q:ByteArray)(hP:PX pb tb cap A (t::r) w)(_hl:A.length<=20000000402)(hk:t.k≠119):
  ak 29 #[aH (some ⟨pb,0,none⟩),aF q] w λe w'=>e=aL (aD false)/\∃n,w'=w.drewN n:=by
 obtain⟨c,hc,hb,e0,e1,e2,e3,hcl,pD⟩:=hP.cells;have HC:Hid (c++t::r=A):=hc;have c0:=cH hb;have c1:=cD hb;have c2:=dU hb;have c3:=jG hb;have f1:=bK hb 1;have f2:=bK hb 2;have f3:=bK hb 3;have hib:(c.length:Int)<(A.length:Int):=aa
 have hpb:pb<w.heap.size:=lt_of_heap hb;clear hc;have hkb:((t.k:Int) == 119)=false:=by rw[sM];omega
 clear hk
 go_enter func29,ntmps29
 go_wp2_with fail
 go_quiet (fail)
 go_wp2_with fail
 go_ret
 exact⟨rfl,_,rfl⟩
abbrev We(w:aM)(pb:Nat)(c:List Pl.Tk)(t:Pl.Tk):aM:=((w.setCell ⟨pb,1,none⟩ (az aJ ((c.length:Int)+1))).alloc (.cells #[az aJ 0,az aJ 0] 97)).alloc (.cells #[az .u8 110,aF ⟨(Pl.rS t).toArray⟩,az aJ t.n,az aJ t.pl] 61)
theorem aeF(w:aM)(a b:Obj)(n:Nat)(h:w.heap.size=n):((w.alloc a).alloc b).heap[n]?=some a/\((w.alloc a).alloc b).heap[n+1]?=some b:=by
 subst h;refine⟨(Below.heap_alloc _ _ _ af).trans (heap_alloc_new w a),?_⟩
 have:=heap_alloc_new (w.alloc a) b;simpa using this
theorem Fp.ob(h:Fp pb w w'){k:Nat}{o:Obj}(hk:w.heap[k]?=some o)(hne:k≠pb):w'.heap[k]?=some o:=(h.block k (lt_of_heap hk) hne).trans hk
theorem NV{p a:Addr}{u:aN}(h:w.cell? a=some u)(hn:p.block≠a.block):(w.setCell p v).cell? a=some u:=(World.cell?_setCell_far w p a v hn).trans h
theorem PX.keep(h:PX pb tb cap A l w)(h1:w'.heap[pb]?=w.heap[pb]?)(h2:w'.heap[tb]?=w.heap[tb]?):PX pb tb cap A l w':=by
 obtain⟨hne,⟨cur,fL,hrow⟩,c,hc,hb⟩:=h;exact⟨hne,⟨cur,h2.trans fL,hrow⟩,c,hc,h1.trans hb⟩
theorem Fp.NW{a:aM}(h:Fp pb a w)(hb:a.heap.size<=b)(o:Nat)(v:aN):Fp pb a (w.setCell ⟨b,o,none⟩ v):=
 ⟨h.os,h.tape,h.output,by simp;exact h.size,λk hk hne=>(dQ aa _).trans (h.block k hk hne)⟩
theorem aqi(pb tb cap:Nat)(A r:List Pl.Tk)(t u:Pl.Tk)(w:aM)(hP:PX pb tb cap A (t::u::r) w)(hl:A.length<=20000000402)(hk:t.k=110)(hu:u.k≠47):
  ak 73 #[aH (some ⟨pb,0,none⟩)] w λe w'=>e=aL (aC #[az aJ t.n,az aJ 1])/\PX pb tb cap A (u::r) w'/\Fp pb w w':=by
 obtain⟨c,hc,hb,e0,e1,e2,e3,hcl,pD⟩:=hP.cells;have HC:Hid (c++t::u::r=A):=hc;have c0:=cH hb;have c1:=cD hb;have c2:=dU hb;have f1:=bK hb 1;have hib:(c.length:Int)<(A.length:Int):=aa
 have hpb:pb<w.heap.size:=lt_of_heap hb;clear hc;rw[hk] at e0;clear hk;have n0:=World.new_ne w _ c0;have n1:=World.new_ne w _ c1;have n2:=World.new_ne w _ e0;have n3:=World.new_ne w _ e1;have n4:=World.new_ne w _ e2;have n5:=World.new_ne w _ e3
 go_enter func73,ntmps73
 go_wp2_with fail
 go_region_held3 (λw'=>w'.cell? ⟨pb,0,none⟩=some (aG (some ⟨tb,0,none⟩) A.length cap)/\w'.cell? ⟨pb,1,none⟩=some (az aJ c.length)/\w'.cell? ⟨tb,c.length*4,none⟩=some (az .u8 110)/\w'.cell? ⟨tb,c.length*4+1,none⟩=some (aF ⟨(Pl.rS t).toArray⟩)/\w'.cell? ⟨tb,c.length*4+2,none⟩=some (az aJ t.n)/\w'.cell? ⟨tb,c.length*4+3,none⟩=some (az aJ t.pl)) (go_keep) (fail)
 go_wp2_with fail
 obtain⟨b0,b1⟩:=aeF (w.setCell ⟨pb,1,none⟩ (az aJ ((c.length:Int)+1))) (.cells #[az aJ 0,az aJ 0] 97) (.cells #[az .u8 110,aF ⟨(Pl.rS t).toArray⟩,az aJ t.n,az aJ t.pl] 61) w.heap.size af
 have hF:Fp pb w (We w pb c t).drew:=((((Fp.refl pb w).set 1 _).alloc _).alloc _).drew;have iE:PX pb tb cap A (u::r) (We w pb c t).drew:=by
  refine hP.put (c++[t]) (by rw[<-HC.out];simp) hF.block ?_
  have q:=(Below.heap_alloc _ (.cells #[az .u8 110,aF ⟨(Pl.rS t).toArray⟩,az aJ t.n,az aJ t.pl] 61) pb (by simp;omega)).trans ((Below.heap_alloc _ (.cells #[az aJ 0,az aJ 0] 97) pb (by simp;exact hpb)).trans (heap_set (w:=w) (o:=1) hb (az aJ ((c.length:Int)+1))))
  simp only[bY,dw,iJ];exact q
 have HF:Hid (Fp pb w (We w pb c t).drew):=hF
 change(We w pb c t).drew.heap[w.heap.size]?=_ at b0
 change(We w pb c t).drew.heap[w.heap.size+1]?=_ at b1
 have HT:Hid (pb<w.heap.size/\tb<w.heap.size):=⟨hpb,pD⟩;clear hF c0 c1 c2 f1 e0 e1 e2 e3 n0 n1 n2 n3 n4 n5 hb pD hcl hib;generalize(We w pb c t).drew=W at*;refine(Jl pb tb cap A r u W 47 iE hl).mono ?_;rintro e w2 ⟨rfl,nn,rfl⟩;have jJ:PX pb tb cap A (u::r) (W.drewN nn):=iE.mono λk hk=>rfl
 have uw:(W.drewN nn).heap[w.heap.size]?=some (.cells #[az aJ 0,az aJ 0] 97 (0,0)):=b0;have sA:(W.drewN nn).heap[w.heap.size+1]?=some (.cells #[az .u8 110,aF ⟨(Pl.rS t).toArray⟩,az aJ t.n,az aJ t.pl] 61 (0,0)):=b1;have NY:Hid (Fp pb w (W.drewN nn)):=HF.out.drewN nn;have vU:Hid (PX pb tb cap A (u::r) (W.drewN nn)):=jJ;clear b0 b1 iE jJ HF hP;generalize W.drewN nn=W2 at*;have hd:decide (u.k=47)=false:=fY hu;rw[hd];have z0:=bK uw 0;have z1:=bK uw 1;have y0:=cH uw;have y1:=cD uw;have y2:=dU sA;clear hu hd sA
 go_wp2_with fail
 refine bodyPost_ret (v:=aC #[az aJ t.n,az aJ 1]) (by simp[results,results73,go_sem,y0,y1]) rfl ⟨rfl,vU.out.keep ?_ ?_,(NY.out.NW (aY _) 0 _).NW (aY _) 1 _⟩
 .rw[dQ (wE HT.out.1),dQ (wE HT.out.1)]
 .rw[dQ (wE HT.out.2),dQ (wE HT.out.2)]
theorem aqj(pb tb cap:Nat)(A r:List Pl.Tk)(t u d:Pl.Tk)(w:aM)(hP:PX pb tb cap A (t::u::d::r) w)(hl:A.length<=20000000402)(hk:t.k=110)(hu:u.k=47)(hd0:d.k=110)(hd2:2<=d.n)(hd3:d.n<=1000000000)(ht3: -1000000000<=t.n/\t.n<=1000000000)(iD:Ge.bC t.n d.n=(t.n,d.n)):
  ak 73 #[aH (some ⟨pb,0,none⟩)] w λe w'=>e=aL (aC #[az aJ t.n,az aJ d.n])/\PX pb tb cap A r w'/\Fp pb w w':=by
 obtain⟨c,hc,hb,e0,e1,e2,e3,hcl,pD⟩:=hP.cells;have HC:Hid (c++t::u::d::r=A):=hc;have c0:=cH hb;have c1:=cD hb;have c2:=dU hb;have f1:=bK hb 1;have hib:(c.length:Int)<(A.length:Int):=aa
 have hpb:pb<w.heap.size:=lt_of_heap hb;clear hc;rw[hk] at e0;clear hk;have n0:=World.new_ne w _ c0;have n1:=World.new_ne w _ c1;have n2:=World.new_ne w _ e0;have n3:=World.new_ne w _ e1;have n4:=World.new_ne w _ e2;have n5:=World.new_ne w _ e3
 go_enter func73,ntmps73
 go_wp2_with fail
 go_region_held3 (λw'=>w'.cell? ⟨pb,0,none⟩=some (aG (some ⟨tb,0,none⟩) A.length cap)/\w'.cell? ⟨pb,1,none⟩=some (az aJ c.length)/\w'.cell? ⟨tb,c.length*4,none⟩=some (az .u8 110)/\w'.cell? ⟨tb,c.length*4+1,none⟩=some (aF ⟨(Pl.rS t).toArray⟩)/\w'.cell? ⟨tb,c.length*4+2,none⟩=some (az aJ t.n)/\w'.cell? ⟨tb,c.length*4+3,none⟩=some (az aJ t.pl)) (go_keep) (fail)
 go_wp2_with fail
 obtain⟨b0,b1⟩:=aeF (w.setCell ⟨pb,1,none⟩ (az aJ ((c.length:Int)+1))) (.cells #[az aJ 0,az aJ 0] 97) (.cells #[az .u8 110,aF ⟨(Pl.rS t).toArray⟩,az aJ t.n,az aJ t.pl] 61) w.heap.size af
 have hF:Fp pb w (We w pb c t).drew:=((((Fp.refl pb w).set 1 _).alloc _).alloc _).drew;have iE:PX pb tb cap A (u::d::r) (We w pb c t).drew:=by
  refine hP.put (c++[t]) (by rw[<-HC.out];simp) hF.block ?_
  have q:=(Below.heap_alloc _ (.cells #[az .u8 110,aF ⟨(Pl.rS t).toArray⟩,az aJ t.n,az aJ t.pl] 61) pb (by simp;omega)).trans ((Below.heap_alloc _ (.cells #[az aJ 0,az aJ 0] 97) pb (by simp;exact hpb)).trans (heap_set (w:=w) (o:=1) hb (az aJ ((c.length:Int)+1))))
  simp only[bY,dw,iJ];exact q
 have HF:Hid (Fp pb w (We w pb c t).drew):=hF
 change(We w pb c t).drew.heap[w.heap.size]?=_ at b0
 change(We w pb c t).drew.heap[w.heap.size+1]?=_ at b1
 have HT:Hid (pb<w.heap.size/\tb<w.heap.size):=⟨hpb,pD⟩;clear hF c0 c1 c2 f1 e0 e1 e2 e3 n0 n1 n2 n3 n4 n5 hb pD hcl hib;generalize(We w pb c t).drew=W at*;refine(Jl pb tb cap A (d::r) u W 47 iE hl).mono ?_;rintro e w2 ⟨rfl,nn,rfl⟩;have jJ:PX pb tb cap A (u::d::r) (W.drewN nn):=iE.mono λk hk=>rfl
 have uw:(W.drewN nn).heap[w.heap.size]?=some (.cells #[az aJ 0,az aJ 0] 97 (0,0)):=b0;have sA:(W.drewN nn).heap[w.heap.size+1]?=some (.cells #[az .u8 110,aF ⟨(Pl.rS t).toArray⟩,az aJ t.n,az aJ t.pl] 61 (0,0)):=b1;have NY:Hid (Fp pb w (W.drewN nn)):=HF.out.drewN nn;have vU:Hid (PX pb tb cap A (u::d::r) (W.drewN nn)):=jJ;clear b0 b1 iE jJ HF hP;generalize W.drewN nn=W2 at*;have hd:decide (u.k=47)=true:=dO hu;rw[hd];obtain⟨m,mb,mA,q0,q1,q2,q3⟩:∃m:Nat,W2.heap[pb]?=some (.cells #[aG (some ⟨tb,0,none⟩) A.length cap,az aJ m,aD false,az aJ (-1)] 55 (0,0))/\(m+1<A.length/\(∃c2,c2.length=m+2/\c2++r=A))/\W2.cell? ⟨tb,(m+1)*4,none⟩=some (az .u8 110)/\W2.cell? ⟨tb,(m+1)*4+1,none⟩=some (aF ⟨(Pl.rS d).toArray⟩)/\W2.cell? ⟨tb,(m+1)*4+2,none⟩=some (az aJ d.n)/\W2.cell? ⟨tb,(m+1)*4+3,none⟩=some (az aJ d.pl):=by
  obtain⟨hne,⟨cur,fL,hrow⟩,c',hc',hb'⟩:=vU.out;have hg:A[c'.length+1]?=some d:=by rw[<-hc'];simp
  have hcell:∀j u,j<4->(tN d)[j]?=some u->W2.cell? ⟨tb,(c'.length+1)*4+j,none⟩=some u:=λj u hj hu=>by
   rw[cell_of fL];exact hrow _ _ (by rw[Yl A (c'.length+1) d hg j hj];exact hu)
  refine⟨c'.length,hb',⟨?_,c'++[u,d],af,by rw[<-hc'];simp⟩,by simpa[hd0] using hcell 0 (az .u8 d.k) aa rfl,hcell 1 _ aa rfl,hcell 2 _ aa rfl,hcell 3 _ aa rfl⟩
  rw[<-hc'];simp
 obtain⟨mA1,c2,hc2,hc3⟩:=mA;have qQ:Hid (c2.length=m+2/\c2++r=A):=⟨hc2,hc3⟩;clear hc2 hc3;have z0:=bK uw 0;have z1:=bK uw 1;have y0:=cH uw;have y1:=cD uw;have y2:=dU sA;have p0:=cH mb;have p1:=cD mb;have p2:=dU mb;have g1:=bK mb 1;have g2:=bK mb 2;have hmA:(m:Int)+1<(A.length:Int):=aa
 have HW:Hid (w.heap.size+1<W2.heap.size/\W2.heap[w.heap.size+1]?=some (.cells #[az .u8 110,aF ⟨(Pl.rS t).toArray⟩,az aJ t.n,az aJ t.pl] 61 (0,0))/\W2.heap[w.heap.size]?=some (.cells #[az aJ 0,az aJ 0] 97 (0,0))/\W2.heap[pb]?=some (.cells #[aG (some ⟨tb,0,none⟩) A.length cap,az aJ m,aD false,az aJ (-1)] 55 (0,0))):=⟨lt_of_heap sA,sA,uw,mb⟩;have MX:Hid (tb≠pb):=vU.out.1;have BC:¬(tb=pb):=MX.out;have n0:=World.new_ne W2 _ p0;have n1:=World.new_ne W2 _ q0;clear hu hd sA uw mb
 go_wp2_with fail
 have hm2:((m:Int)+1)=((m+1:Nat):Int):=aa
 rw[hm2] at hmA⊢;have s0:(W2.setCell ⟨pb,1,none⟩ (az aJ ((m+1:Nat):Int))).heap[pb]?=some (.cells #[aG (some ⟨tb,0,none⟩) A.length cap,az aJ ((m+1:Nat):Int),aD false,az aJ (-1)] 55 (0,0)):=heap_set (o:=1) HW.out.2.2.2 _;have sk:∀k,k≠pb->(W2.setCell ⟨pb,1,none⟩ (az aJ ((m+1:Nat):Int))).heap[k]?=W2.heap[k]?:=λk hk=>dQ hk _
 have q0':(W2.setCell ⟨pb,1,none⟩ (az aJ ((m+1:Nat):Int))).cell? ⟨tb,(m+1)*4,none⟩=some (az .u8 110):=NV q0 (λe=>BC e.symm)
 have q1':(W2.setCell ⟨pb,1,none⟩ (az aJ ((m+1:Nat):Int))).cell? ⟨tb,(m+1)*4+1,none⟩=some (aF ⟨(Pl.rS d).toArray⟩):=NV q1 (λe=>BC e.symm)
 have q2':(W2.setCell ⟨pb,1,none⟩ (az aJ ((m+1:Nat):Int))).cell? ⟨tb,(m+1)*4+2,none⟩=some (az aJ d.n):=NV q2 (λe=>BC e.symm)
 have q3':(W2.setCell ⟨pb,1,none⟩ (az aJ ((m+1:Nat):Int))).cell? ⟨tb,(m+1)*4+3,none⟩=some (az aJ d.pl):=NV q3 (λe=>BC e.symm)
 have HF3:Hid (Fp pb w (W2.setCell ⟨pb,1,none⟩ (az aJ ((m+1:Nat):Int)))):=NY.out.set 1 _;have HP3:Hid (PX pb tb cap A (d::r) (W2.setCell ⟨pb,1,none⟩ (az aJ ((m+1:Nat):Int)))):=by
  obtain⟨hl2,he2⟩:=qQ.out;obtain⟨hne,⟨cur,fL,hrow⟩,c',hc',hb'⟩:=vU.out;have em:c'.length=m:=by
   have h1:=HW.out.2.2.2;rw[hb'] at h1;injection h1 with h1;injection h1 with h1 _ _;have h2:=aZ (λa:Array aN=>a[1]?) h1
   simp at h2;omega
  exact⟨hne,⟨cur,(sk tb hne).trans fL,hrow⟩,c'++[u],by rw[<-hc'];simp,by rw[s0];simp[em]⟩
 have b0:(W2.setCell ⟨pb,1,none⟩ (az aJ ((m+1:Nat):Int))).heap[w.heap.size]?=some (.cells #[az aJ 0,az aJ 0] 97 (0,0)):=(sk _ (oM HT.out.1)).trans HW.out.2.2.1;have b1:(W2.setCell ⟨pb,1,none⟩ (az aJ ((m+1:Nat):Int))).heap[w.heap.size+1]?=some (.cells #[az .u8 110,aF ⟨(Pl.rS t).toArray⟩,az aJ t.n,az aJ t.pl] 61 (0,0)):=(sk _ (by have:=HT.out.1;omega)).trans HW.out.2.1
 clear sk q0 q1 q2 q3 z0 z1 y0 y1 y2 p0 p1 p2 g1 g2 n0 n1 HW NY vU hm2;generalize W2.setCell ⟨pb,1,none⟩ (az aJ ((m+1:Nat):Int))=W3 at*;have NZ:Hid (∃m2,m2=m+1):=⟨_,rfl⟩;generalize hm3:m+1=m2 at*;have p0:=cH s0;have p1:=cD s0;have p2:=dU s0;have g1:=bK s0 1;have g2:=bK s0 2;have y2:=dU b1;have n0:=World.new_ne W3 _ p0;have n1:=World.new_ne W3 _ p1;have n2:=World.new_ne W3 _ q0';have n3:=World.new_ne W3 _ q1';have n4:=World.new_ne W3 _ q2';have n5:=World.new_ne W3 _ q3';have n6:=World.new_ne W3 _ y2;have aub:decide (d.n<2)=false:=by simp;omega
 have HD:Hid (2<=d.n/\d.n<=1000000000/\(-1000000000<=t.n/\t.n<=1000000000)/\Ge.bC t.n d.n=(t.n,d.n)):=⟨hd2,hd3,ht3,iD⟩;have auc:(m2:Int)<=20000000402:=aa
 clear hd2 hd3 ht3 iD hd0 hm3 mA1 NZ
 go_region_held3 (λw'=>w'.cell? ⟨pb,0,none⟩=some (aG (some ⟨tb,0,none⟩) A.length cap)/\w'.cell? ⟨pb,1,none⟩=some (az aJ m2)/\w'.cell? ⟨tb,m2*4,none⟩=some (az .u8 110)/\w'.cell? ⟨tb,m2*4+1,none⟩=some (aF ⟨(Pl.rS d).toArray⟩)/\w'.cell? ⟨tb,m2*4+2,none⟩=some (az aJ d.n)/\w'.cell? ⟨tb,m2*4+3,none⟩=some (az aJ d.pl)) (go_keep) (fail)
 have k4:∀(k:Nat)(o:Obj),W3.heap[k]?=some o->(W3.alloc (.cells #[az .u8 110,aF ⟨(Pl.rS d).toArray⟩,az aJ d.n,az aJ d.pl] 61)).drew.heap[k]?=some o:=λk o h=>(Below.heap_alloc _ _ _ (lt_of_heap h)).trans h
 have t4:(W3.alloc (.cells #[az .u8 110,aF ⟨(Pl.rS d).toArray⟩,az aJ d.n,az aJ d.pl] 61)).drew.heap[W3.heap.size]?=some (.cells #[az .u8 110,aF ⟨(Pl.rS d).toArray⟩,az aJ d.n,az aJ d.pl] 61 (0,0)):=heap_alloc_new _ _;have HF4:Hid (Fp pb w (W3.alloc (.cells #[az .u8 110,aF ⟨(Pl.rS d).toArray⟩,az aJ d.n,az aJ d.pl] 61)).drew):=(HF3.out.alloc _).drew;have HP4:Hid (PX pb tb cap A (d::r) (W3.alloc (.cells #[az .u8 110,aF ⟨(Pl.rS d).toArray⟩,az aJ d.n,az aJ d.pl] 61)).drew):=HP3.out.mono λk hk=>Below.heap_alloc _ _ _ hk
 have s4:=k4 _ _ s0;have b4:=k4 _ _ b0;have b5:=k4 _ _ b1;have hx3:w.heap.size<=W3.heap.size/\w.heap.size≠W3.heap.size:=by have:=lt_of_heap b0;omega
 have HX:Hid (w.heap.size<=W3.heap.size/\w.heap.size≠W3.heap.size):=hx3;clear k4 hx3 s0 b0 b1 p0 p1 p2 g1 g2 y2 n0 n1 n2 n3 n4 n5 n6 q0' q1' q2' q3' HF3 HP3;generalize(W3.alloc (.cells #[az .u8 110,aF ⟨(Pl.rS d).toArray⟩,az aJ d.n,az aJ d.pl] 61)).drew=W4 at*;generalize W3.heap.size=X3 at*;have p1:=cD s4;have p2:=dU s4;have g1:=bK s4 1;have g2:=bK s4 2;have y2:=dU b5;have x0:=cH t4;have x2:=dU t4
 go_wp2_with fail
 have s5:(W4.setCell ⟨pb,1,none⟩ (az aJ ((m2:Int)+1))).heap[pb]?=some (.cells #[aG (some ⟨tb,0,none⟩) A.length cap,az aJ ((m2:Int)+1),aD false,az aJ (-1)] 55 (0,0)):=heap_set (o:=1) s4 _;have sk:∀(k:Nat)(o:Obj),k≠pb->W4.heap[k]?=some o->(W4.setCell ⟨pb,1,none⟩ (az aJ ((m2:Int)+1))).heap[k]?=some o:=λk o hk h=>(dQ hk _).trans h
 have HF5:Hid (Fp pb w (W4.setCell ⟨pb,1,none⟩ (az aJ ((m2:Int)+1)))):=HF4.out.set 1 _;have HP5:Hid (PX pb tb cap A r (W4.setCell ⟨pb,1,none⟩ (az aJ ((m2:Int)+1)))):=by
  obtain⟨hne,⟨cur,fL,hrow⟩,c',hc',hb'⟩:=HP4.out;have em:(c'.length:Int)=m2:=by
   have h1:=s4;rw[hb'] at h1;injection h1 with h1;injection h1 with h1 _ _;have h2:=aZ (λa:Array aN=>a[1]?) h1
   simp at h2;omega
  exact⟨hne,⟨cur,sk _ _ hne fL,hrow⟩,c'++[d],by rw[<-hc'];simp,by rw[s5];simp[em]⟩
 have b6:=sk _ _ (oM HT.out.1) b4;have t6:=sk _ _ (by have:=HT.out.1;have:=HX.out.1;omega) t4
 obtain⟨i1,i2,i3,i4⟩:=HD.out;have HCF:Hid (ak 46 #[az aJ t.n,az aJ d.n] (W4.setCell ⟨pb,1,none⟩ (az aJ ((m2:Int)+1))) λe w'=>e=aL (aC #[az aJ t.n,az aJ d.n])/\Below (W4.setCell ⟨pb,1,none⟩ (az aJ ((m2:Int)+1))).heap.size (W4.setCell ⟨pb,1,none⟩ (az aJ ((m2:Int)+1))) w'):=by
  have h:=QD t.n d.n (W4.setCell ⟨pb,1,none⟩ (az aJ ((m2:Int)+1))) aa aa aa
  rw[i4] at h;exact h
 clear i1 i2 i3 i4 sk p1 p2 g1 g2 y2 x0 x2 s4 b4 b5 t4 HF4 HP4 HD;generalize(W4.setCell ⟨pb,1,none⟩ (az aJ ((m2:Int)+1)))=V at*;refine HCF.out.mono ?_;rintro e w5 ⟨rfl,bg⟩;have al:∀(k:Nat)(o:Obj),V.heap[k]?=some o->(w5.alloc (.cells #[az aJ t.n,az aJ d.n] 97)).heap[k]?=some o:=λk o h=>(Below.heap_alloc _ _ _ (bW (lt_of_heap h) bg.size)).trans ((bg.block k (lt_of_heap h)).trans h)
 have nf:(w5.alloc (.cells #[az aJ t.n,az aJ d.n] 97)).heap[w5.heap.size]?=some (.cells #[az aJ t.n,az aJ d.n] 97 (0,0)):=heap_alloc_new _ _;have HF6:Hid (Fp pb w (w5.alloc (.cells #[az aJ t.n,az aJ d.n] 97))):=(HF5.out.trans (Fp.of_below bg)).alloc _;have HP6:Hid (PX pb tb cap A r (w5.alloc (.cells #[az aJ t.n,az aJ d.n] 97))):=HP5.out.mono λk hk=>(Below.heap_alloc _ _ _ (bW hk bg.size)).trans (bg.block k hk)
 have s7:=al _ _ s5;have b7:=al _ _ b6;have t7:=al _ _ t6;have p2:(w5.alloc (.cells #[az aJ t.n,az aJ d.n] 97)).cell? ⟨pb,2,none⟩=some (aD false):=cell_of s7 2;have g2:=bK s7 2;have z0:=bK b7 0;have z1:=bK b7 1;have y0:(w5.alloc (.cells #[az aJ t.n,az aJ d.n] 97)).cell? ⟨w.heap.size,0,none⟩=some (az aJ 0):=cell_of b7 0;have y1:(w5.alloc (.cells #[az aJ t.n,az aJ d.n] 97)).cell? ⟨w.heap.size,1,none⟩=some (az aJ 0):=cell_of b7 1;have x2:(w5.alloc (.cells #[az aJ t.n,az aJ d.n] 97)).cell? ⟨X3,2,none⟩=some (az aJ d.n):=cell_of t7 2;have v0:(w5.alloc (.cells #[az aJ t.n,az aJ d.n] 97)).cell? ⟨w5.heap.size,0,none⟩=some (az aJ t.n):=cell_of nf 0;have v1:(w5.alloc (.cells #[az aJ t.n,az aJ d.n] 97)).cell? ⟨w5.heap.size,1,none⟩=some (az aJ d.n):=cell_of nf 1;have HS7:Hid ((w5.alloc (.cells #[az aJ t.n,az aJ d.n] 97)).heap[pb]?=some (.cells #[aG (some ⟨tb,0,none⟩) A.length cap,az aJ ((m2:Int)+1),aD false,az aJ (-1)] 55 (0,0))):=s7;have kT:¬(pb=w.heap.size):=wE HT.out.1;have tD:¬(w5.heap.size=pb):=by have:=bg.size;have:=lt_of_heap s5;omega
 clear al nf s7 b7 t7 s5 b6 t6 bg HF5 HP5 HCF
 go_wp2_with fail
 have HP7:PX pb tb cap A r ((w5.alloc (.cells #[az aJ t.n,az aJ d.n] 97)).setCell ⟨pb,2,none⟩ (aD false)):=by
  refine HP6.out.keep ?_ (dQ HP6.out.1 _);rw[heap_set (o:=2) HS7.out,HS7.out];rfl
 refine bodyPost_ret (v:=aC #[az aJ t.n,az aJ d.n]) (by simp[results,results73,go_sem,y0,y1]) rfl ⟨rfl,HP7.keep ?_ ?_,((HF6.out.set 2 _).NW (aY _) 0 _).NW (aY _) 1 _⟩
 .rw[dQ (wE HT.out.1),dQ (wE HT.out.1)]
 .rw[dQ (wE HT.out.2),dQ (wE HT.out.2)]
def sH(l l':List Pl.Tk)(q:Int×Int):Prop:=
 (∃t u r,l=t::u::r/\l'=u::r/\t.k=110/\u.k≠47/\q=(t.n,1))\/
 (∃t u d r,l=t::u::d::r/\l'=r/\t.k=110/\u.k=47/\d.k=110/\2<=d.n/\d.n<=1000000000/\(-1000000000<=t.n/\t.n<=1000000000)/\Ge.bC t.n d.n=(t.n,d.n)/\q=(t.n,d.n))
theorem aeS(pb tb cap:Nat)(A l l':List Pl.Tk)(q:Int×Int)(w:aM)(hP:PX pb tb cap A l w)(hl:A.length<=20000000402)(h:sH l l' q):
  ak 73 #[aH (some ⟨pb,0,none⟩)] w λe w'=>e=aL (aC #[az aJ q.1,az aJ q.2])/\PX pb tb cap A l' w'/\Fp pb w w':=by
 rcases h with⟨t,u,r,rfl,rfl,h1,h2,rfl⟩|⟨t,u,d,r,rfl,rfl,h1,h2,h3,h4,h5,h6,h7,rfl⟩
 .exact aqi pb tb cap A r t u w hP hl h1 h2
 .exact aqj pb tb cap A l' t u d w hP hl h1 h2 h3 h4 h5 h6 h7
def CC:List Pl.Tk->List Pl.Tk->List Ge.Qt->Prop
 |_,_,[]=>False
 |l,l',[p]=>∃l1 t r,sH l l1 p.1/\sH l1 (t::r) p.2/\t.k=41/\l'=t::r
 |l,l',p::q::ps=>∃l1 t r,sH l l1 p.1/\sH l1 (t::r) p.2/\t.k=44/\CC r l' (q::ps)
theorem PX.box(h:PX pb tb cap A l w):
  ∃c:List Pl.Tk,c++l=A/\w.heap[pb]?=some (.cells #[aG (some ⟨tb,0,none⟩) A.length cap,az aJ c.length,aD false,az aJ (-1)] 55 (0,0)):=by
 obtain⟨_,_,c,hc,hb⟩:=h;exact⟨c,hc,hb⟩
theorem N0{e:TypeId}{size:Nat}{n:Nat}{xs:List aN}(h:w.ownsRow base e size v n xs)(hf:Fp pb w w')(hP:PX pb tb cap A l w)(he:55≠e:=by decide):w'.ownsRow base e size v n xs:=by
 obtain⟨c,_,hb⟩:=hP.box;exact bB h λk hk=>hf.block k (bn h k hk).2 (λe'=>tF h hb he (by rw[hk,e']))
theorem PX.next{t:Pl.Tk}(h:PX pb tb cap A (t::r) w)(c:List Pl.Tk)(hc:c++t::r=A)(hb:w.heap[pb]?=some (.cells #[aG (some ⟨tb,0,none⟩) A.length cap,az aJ c.length,aD false,az aJ (-1)] 55 (0,0))):
  PX pb tb cap A r (w.setCell ⟨pb,1,none⟩ (az aJ ((c.length:Int)+1))):=by
 refine h.put (c++[t]) (by rw[<-hc];simp) (λk hk hne=>dQ hne _) ?_
 have q:=heap_set (w:=w) (o:=1) hb (az aJ ((c.length:Int)+1));simpa using q
theorem PX.QS{o1 o2:Obj}{row:Option Nat}{e:TypeId}(h:PX pb tb cap A l w4)(hg:((w4.alloc o1).alloc o2).grownBy w5 row)
  (hrow:∀k,row=some k->∃cur,w4.heap[k]?=some (.cells cur e (0,0)))(he:e≠61/\e≠55):PX pb tb cap A l w5:=by
 obtain⟨hne,⟨cur,fL,hr⟩,c,hc,hb⟩:=h;have key:∀(k:Nat)(cur':Array aN)(e':TypeId),w4.heap[k]?=some (Obj.cells cur' e' (0,0))->e≠e'->w5.heap[k]?=some (Obj.cells cur' e' (0,0)):=λk cur' e' hk Hz=>by
  have hk':=lt_of_heap hk;rw[hg.block k (by simp;omega) (λer=>by
   obtain⟨c2,h2⟩:=hrow k er.symm;rw[hk] at h2;injection h2 with h2;injection h2 with _ h2 _;exact Hz h2.symm),Below.heap_alloc _ _ _ (by simp;omega),Below.heap_alloc _ _ _ hk']
  exact hk
 exact⟨hne,⟨cur,key _ _ _ fL he.1,hr⟩,c,hc,key _ _ _ hb he.2⟩
theorem aqo(l:List Ge.Qt):(ju l).length=l.length*4:=by
 induction l with
 |nil=>rfl
 |cons p l ih=>simp[ju,qA] at ih⊢;omega
theorem aqp{cp m:Nat}{acc:List Ge.Qt}(h:w.ownsRow base 100 4 (aG (some ⟨b,0,none⟩) acc.length cp) acc.length (ju acc))(hm:acc.length=m+1):w.ownsRow base 100 4 (aG (some ⟨b,0,none⟩) m cp) m (ju acc.dropLast):=by
 have e:ju acc=ju acc.dropLast++ju (acc.drop m):=by
  have:acc=acc.dropLast++acc.drop m:=by
   have h1:=Fw m acc;have h2:acc.dropLast=acc.take m:=by rw[List.dropLast_eq_take,hm];rfl
   rw[h2,h1]
  conv=>lhs;rw[this]
  simp[ju]
 have hl:(ju acc.dropLast).length=m*4:=by rw[aqo,List.length_dropLast,hm];rfl
 refine⟨hl,?_⟩;rcases h.2 with⟨hv,_⟩|⟨g,cap,cur,hv,h1,h2,h3,h4,h5,h6⟩
 .cases hv
 .injection hv with e1 e2 e3;injection e1 with e1;injection e1 with e1;subst e1 e3;refine aT ⟨b,cp,cur,rfl,h1,h2,aa,h4,h5,?_⟩
  have h7:=aZ (List.take (m*4)) h6;rw[Av,CW aa,e,agH aa,<-hl,fO] at h7
  rw[<-hl];exact h7
def N4(pb tb cap:Nat)(A l':List Pl.Tk)(ps:List Ge.Qt)(w:aM)(g:Nat)(lv:aN)(more:Bool)(wr:aM):Prop:=
 ∃l acc rest,PX pb tb cap A l wr/\Fp pb w wr/\wr.ownsRow w.heap.size 100 4 lv acc.length (ju acc)/\acc++rest=ps/\rest.length=g/\(more=true->CC l l' rest)/\(more=false->rest=[]/\l=l')
theorem aqq(pb tb cap:Nat)(A r r2:List Pl.Tk)(t t2:Pl.Tk)(ps:List Ge.Qt)(w:aM)(hP:PX pb tb cap A (t::r) w)(hl:A.length<=20000000402)(hk:t.k=40)(hT:CC r (t2::r2) ps)(hk2:t2.k=41)(hps:ps.length<=20000000402)(h4:4<=ps.length)(hfl:ps[0]?=ps[ps.length-1]?):
  ak 43 #[aH (some ⟨pb,0,none⟩)] w λe w'=>∃v,e=aL v/\PX pb tb cap A r2 w'/\Fp pb w w'/\w'.ownsRow w.heap.size 100 4 v (ps.length-1) (ju ps.dropLast):=by
 obtain⟨i0,hi,hz0,hz1,hz2⟩:=info_parts aja
 go_enter func43,ntmps43
 go_wp2_with fail
 refine(E5 pb tb cap A r t w 40 hP hl hk).mono ?_;rintro e w1 ⟨rfl,iE,wY⟩;obtain⟨c1,hc1,hb1⟩:=iE.box;have b2:=dU hb1;have cK:Hid (N4 pb tb cap A (t2::r2) ps w ps.length (aG none 0 0) true w1):=⟨r,[],ps,iE,wY,World.ownsRow_nil _ _ _ _,rfl,rfl,λ_=>hT,λh=>(by cases h)⟩
 clear hc1 hb1 iE wY hP hT
 go_wp2_with fail
 clear b2
 go_loopg [3,4] ps.length (λg lv mv wr=>∃more:Bool,mv=aD more/\Hid (N4 pb tb cap A (t2::r2) ps w g lv more wr))
 case atStart=>exact⟨_,rfl,cK⟩
 case round=>
  obtain⟨more,rfl,HR⟩:=hrel;obtain⟨l,acc,rest,jJ,hf2,hown,gQ,l8,q8,hfin⟩:=HR.out;have hs2:=hf2.size;clear HR cK;cases more
  .obtain⟨rfl,rfl⟩:=hfin rfl;clear hfin q8
   go_wp2_with fail
   refine(E5 pb tb cap A r2 t2 _ 41 jJ hl hk2).mono ?_;rintro e w4 ⟨rfl,rQ,ux⟩;have zX:=hf2.trans ux;have yh:=N0 hown ux jJ;rw[qu] at gQ;subst gQ;obtain⟨b,cp,rfl⟩:∃b cp,u3=aG (some ⟨b,0,none⟩) acc.length cp:=by
    rcases hown.2 with⟨_,h0⟩|⟨b,cp,cur,hv,_⟩
    .omega
    .exact⟨b,cp,hv⟩
   have U0:rL w4 (aG (some ⟨b,0,none⟩) acc.length cp) acc:=⟨yh.1,by
    rcases yh.2 with h|⟨g,cap,cur,h1,_,h3⟩
    .exact aU h
    .exact aT ⟨g,cap,cur,h1,iA _,h3⟩⟩
   obtain⟨p0,hp0⟩:∃p0,acc[0]?=some p0:=⟨_,bo aa⟩
   obtain⟨b',e1,hb',a0,a1,a2,a3⟩:=DY U0 hp0;obtain⟨b'',e2,_,d0,d1,d2,d3⟩:=DY U0 (hfl.symm.trans hp0);obtain rfl:b=b':=by injection e1 with e1;injection e1
   obtain rfl:b=b'':=by injection e2 with e2;injection e2
   have HO:Hid (PX pb tb cap A r2 w4/\Fp pb w w4/\w4.ownsRow w.heap.size 100 4 (aG (some ⟨b,0,none⟩) acc.length cp) acc.length (ju acc)):=⟨rQ,zX,yh⟩;obtain⟨m,hm⟩:∃m,acc.length=m+1:=⟨acc.length-1,aa⟩
   have hm3:3<=m:=aa
   rw[hm,agA] at d0 d1 d2 d3;rw[hm] at hps;rw[hm];have hcp:m+1<=cp:=by
    rcases yh.2 with⟨h,_⟩|⟨g,cap,cur,h1,_,_,h4,_⟩
    .cases h
    .injection h1 with _ h1 h2;omega
   rw[wq] at a0;rw[wq,jD] at a1 a2 a3;clear U0 yh zX rQ ux hown hf2 jJ hp0 e1 e2 h4 hfl l8
   go_wp2_with fail
   have aue:decide ((m:Int)<3)=false:=by simp;omega
   have hmi:(m:Int)<(m:Int)+1:=aa
   go_region_held3 (λw'=>w'.cell? ⟨b,0,none⟩=some (az aJ p0.1.1)/\w'.cell? ⟨b,1,none⟩=some (az aJ p0.1.2)/\w'.cell? ⟨b,2,none⟩=some (az aJ p0.2.1)/\w'.cell? ⟨b,3,none⟩=some (az aJ p0.2.2)/\w'.cell? ⟨b,m*4,none⟩=some (az aJ p0.1.1)/\w'.cell? ⟨b,m*4+1,none⟩=some (az aJ p0.1.2)/\w'.cell? ⟨b,m*4+2,none⟩=some (az aJ p0.2.1)/\w'.cell? ⟨b,m*4+3,none⟩=some (az aJ p0.2.2)) (go_keep) (fail)
   go_wp2_with fail
   go_ret
   obtain⟨o1,o2,o3⟩:=HO.out;refine⟨_,rfl,o1,o2.drew,?_⟩;rw[hm,agA];exact aqp o3 hm
  .have hT:=q8 rfl;clear hfin q8;obtain⟨p,rest',rfl⟩:∃p rest',rest=p::rest':=by
    cases rest with
    |nil=>exact hT.elim
    |cons p rest'=>exact⟨p,rest',rfl⟩
   obtain⟨l1,t1,r1,hx,hy,hc⟩:∃l1 t1 r1,sH l l1 p.1/\sH l1 (t1::r1) p.2/\((t1.k=41/\rest'=[]/\t2::r2=t1::r1)\/(t1.k=44/\CC r1 (t2::r2) rest')):=by
    cases rest' with
    |nil=>
     obtain⟨l1,t1,r1,h1,h2,h3,h4⟩:=hT;exact⟨l1,t1,r1,h1,h2,aU ⟨h3,rfl,h4⟩⟩
    |cons q rest'=>
     obtain⟨l1,t1,r1,h1,h2,h3,h4⟩:=hT;exact⟨l1,t1,r1,h1,h2,aT ⟨h3,h4⟩⟩
   have HC:Hid ((t1.k=41/\rest'=[]/\t2::r2=t1::r1)\/(t1.k=44/\CC r1 (t2::r2) rest')):=hc;have HRX:Hid (sH l l1 p.1):=hx;have HRY:Hid (sH l1 (t1::r1) p.2):=hy;have pV:Hid (acc++p::rest'=ps/\(p::rest').length=gk):=⟨gQ,l8⟩;clear hc hT hx hy gQ l8
   go_wp2_with fail
   refine(aeS pb tb cap A l l1 p.1 _ jJ hl HRX.out).mono ?_;rintro e w4 ⟨rfl,rQ,ux⟩;have hs4:=ux.size;have yh:=N0 hown ux jJ;have zX:=hf2.trans ux;have U1:PX pb tb cap A l1 (w4.alloc (.cells #[az aJ p.1.1,az aJ p.1.2] 97)):=rQ.mono λk hk=>Below.heap_alloc _ _ _ hk
   have aeV:=bB yh (λk hk=>Below.heap_alloc w4 (.cells #[az aJ p.1.1,az aJ p.1.2] 97) _ (bn yh k hk).2)
   have aeW:=zX.alloc (.cells #[az aJ p.1.1,az aJ p.1.2] 97);have nf4:=heap_alloc_new w4 (.cells #[az aJ p.1.1,az aJ p.1.2] 97);have hnb:w4.heap.size≠pb:=by obtain⟨_,_,hb⟩:=rQ.box;have:=lt_of_heap hb;omega
   clear jJ hf2 hown rQ ux yh zX HRX
   go_wp2_with fail
   generalize w4.alloc (.cells #[az aJ p.1.1,az aJ p.1.2] 97)=W4 at*;generalize w4.heap.size=X4 at*;refine(aeS pb tb cap A l1 (t1::r1) p.2 _ U1 hl HRY.out).mono ?_;rintro e w5 ⟨rfl,yi,Jm⟩;have hs5:=Jm.size;have rF:=N0 aeV Jm U1;have zY:=aeW.trans Jm;have nf5:=Jm.ob nf4 hnb;have al:∀(k:Nat)(o:Obj),w5.heap[k]?=some o->(w5.alloc (.cells #[az aJ p.2.1,az aJ p.2.2] 97)).heap[k]?=some o:=λk o h=>(Below.heap_alloc _ _ _ (lt_of_heap h)).trans h
   have m4:=al _ _ nf5;have m5:=heap_alloc_new w5 (.cells #[az aJ p.2.1,az aJ p.2.2] 97);have x0:(w5.alloc (.cells #[az aJ p.2.1,az aJ p.2.2] 97)).cell? ⟨X4,0,none⟩=some (az aJ p.1.1):=cell_of m4 0;have x1:(w5.alloc (.cells #[az aJ p.2.1,az aJ p.2.2] 97)).cell? ⟨X4,1,none⟩=some (az aJ p.1.2):=cell_of m4 1;have y0:(w5.alloc (.cells #[az aJ p.2.1,az aJ p.2.2] 97)).cell? ⟨w5.heap.size,0,none⟩=some (az aJ p.2.1):=cell_of m5 0;have y1:(w5.alloc (.cells #[az aJ p.2.1,az aJ p.2.2] 97)).cell? ⟨w5.heap.size,1,none⟩=some (az aJ p.2.2):=cell_of m5 1;have adh:=zY.size;have Jn:acc.length<=20000000402:=by
    have h1:=aZ List.length pV.out.1;simp at h1;omega
   clear U1 aeV aeW nf4 nf5 Jm al m4 m5 HRY
   go_wp2_with (at_builtin;refine wpList_append_lies _ rfl (.tmp 20) (.tmp 24) 92 rfl w.heap.size 100 i0 _ 4 32 underlying92 hi hz0 hz1 hz2 rfl ah u3 acc.length (ju acc) rfl (bB rF (λk hk=>(Below.heap_alloc _ _ _ (by have:=(bn rF k hk).2;simp;omega)).trans (Below.heap_alloc _ _ _ (bn rF k hk).2))) ⟨w5.heap.size+1,0,none⟩ 1 1 [az aJ p.1.1,az aJ p.1.2,az aJ p.2.1,az aJ p.2.2] rfl rfl (World.news_of_block (cs:= #[az aJ p.1.1,az aJ p.1.2,az aJ p.2.1,az aJ p.2.2]) (t:=100) (fr:=(0,0)) (by have:=heap_alloc_new (w5.alloc (.cells #[az aJ p.2.1,az aJ p.2.2] 97)) (.cells #[az aJ p.1.1,az aJ p.1.2,az aJ p.2.1,az aJ p.2.2] 100);simpa using this)) (by simp[Value.oneCell']) ah (by unfold maxLen;omega) aa (by simp;omega) (w5.heap.size+2) af ?_;intro g cap' w6 ho hgrow hat D3)
   have nG:=yi.QS hgrow (λk hk=>uN rF hk) ah
   have vV:=zY.QS hgrow (λk hk=>(bn rF k hk).1)
   have ho':w6.ownsRow w.heap.size 100 4 (aG (some ⟨g,0,none⟩) (acc.length+1) cap') (acc++[p]).length (ju (acc++[p])):=by
    rw[ai9];simpa[qA] using ho
   clear hgrow ho hat rF zY yi x0 x1 y0 y1 Jn;refine(Jl pb tb cap A r1 t1 _ 44 nG hl).mono ?_;rintro e w7 ⟨rfl,n7,rfl⟩;obtain⟨qo,lJ⟩:=pV.out;rcases HC.out with⟨k1,rfl,k3⟩|⟨k1,k2⟩
   .have hd:decide (t1.k=44)=false:=fY aa
    rw[hd];have HN:Hid (N4 pb tb cap A (t2::r2) ps w 0 (aG (some ⟨g,0,none⟩) (acc.length+1) cap') false (w6.drewN n7)):=⟨t1::r1,acc++[p],[],nG,vV.drewN n7,ho',by rw[<-qo];simp,rfl,λh=>(by cases h),λ_=>⟨rfl,k3.symm⟩⟩
    have hg0:0<gk:=by rw[<-lJ];simp
    clear HC pV nG vV ho' k3 qo lJ hd
    go_wp2_with fail
    go_roundg 0
    case measure=>omega
    case rel=>exact⟨_,rfl,HN⟩
   .have hd:decide (t1.k=44)=true:=dO k1;rw[hd];obtain⟨c3,hc3,pE⟩:=nG.box;have zZ:PX pb tb cap A r1 ((w6.drewN n7).setCell ⟨pb,1,none⟩ (az aJ ((c3.length:Int)+1))):=PX.next (w:=w6.drewN n7) nG c3 hc3 pE
    have HN:Hid (N4 pb tb cap A (t2::r2) ps w (gk-1) (aG (some ⟨g,0,none⟩) (acc.length+1) cap') true ((w6.drewN n7).setCell ⟨pb,1,none⟩ (az aJ ((c3.length:Int)+1)))):=⟨r1,acc++[p],rest',zZ,(vV.drewN n7).set 1 _,bB ho' (λk hk=>dQ (λe=>tF (w:=w6) ho' pE ah (by rw[hk,e])) _),by rw[<-qo];simp,by rw[<-lJ];simp,λ_=>k2,λh=>(by cases h)⟩
    have b1:(w6.drewN n7).cell? ⟨pb,1,none⟩=some (az aJ c3.length):=cell_of (w:=w6.drewN n7) pE 1;have g1':(w6.drewN n7).frozen? ⟨pb,1,none⟩=false:=bK (w:=w6.drewN n7) pE 1;have hcl:c3.length<=20000000402:=by have h:=aZ List.length hc3;simp at h;omega
    have hg0:0<gk:=by rw[<-lJ];simp
    clear HC pV nG vV ho' qo lJ hd zZ hc3 pE k2;generalize w6.drewN n7=w8 at*
    go_wp2_with fail
    go_roundg (gk-1)
    case measure=>omega
    case rel=>exact⟨_,rfl,HN⟩
def z8(w:aM)(v:aN)(gs:List (List Ge.Qt)):Prop:=Be 92 rL w v gs
def nH(w:aM)(v:aN)(ps:List (List (List Ge.Qt))):Prop:=Be 91 z8 w v ps
theorem CD:ze [92,100] z8:=YA DZ
theorem aeZ:ze [91,92,100] nH:=YA CD
def wX(g:List Ge.Qt):Prop:=4<=g.length/\g.length<=20000000402/\g[0]?=g[g.length-1]?
def Jo(l:List Pl.Tk)(t3:Pl.Tk)(r3:List Pl.Tk)(g:List Ge.Qt):Prop:=∃t r t2,l=t::r/\t.k=40/\CC r (t2::t3::r3) g/\t2.k=41/\wX g
def E6:List Pl.Tk->List Pl.Tk->List (List Ge.Qt)->Prop
 |_,_,[]=>False
 |l,l',[g]=>∃t3 r3,Jo l t3 r3 g/\t3.k=41/\l'=t3::r3
 |l,l',g::h::gs=>∃t3 r3,Jo l t3 r3 g/\t3.k=44/\E6 r3 l' (h::gs)
def Jp(l:List Pl.Tk)(t3:Pl.Tk)(r3:List Pl.Tk)(gs:List (List Ge.Qt)):Prop:=∃t r t2,l=t::r/\t.k=40/\E6 r (t2::t3::r3) gs/\t2.k=41/\gs.length<=20000000402
def CE:List Pl.Tk->List Pl.Tk->List (List (List Ge.Qt))->Prop
 |_,_,[]=>False
 |l,l',[p]=>∃t3 r3,Jp l t3 r3 p/\t3.k=41/\l'=t3::r3
 |l,l',p::q::ps=>∃t3 r3,Jp l t3 r3 p/\t3.k=44/\CE r3 l' (q::ps)
def opn(g:List Ge.Qt):List Ge.Qt:=g.dropLast
theorem aqs:(Tryz.prog.info? 92).map (λi=>(i.zero,i.size,i.bytes))=some (some (aG none 0 0),1,24):=ag
theorem aqt:(Tryz.prog.info? 91).map (λi=>(i.zero,i.size,i.bytes))=some (some (aG none 0 0),1,24):=ag
theorem aqu{α:Type}{ts:List Nat}{R:aM->aN->α->Prop}(hR:ze ts R)(hts:55∉ts){x:α}(h:R w v x)(hf:Fp pb w w')(hP:PX pb tb cap A l w):R w' v x:=by
 obtain⟨c,_,hb⟩:=hP.box;refine hR w w' v x h λk cur e hc he=>hf.block k (lt_of_heap hc) λek=>?_
 rw[ek,hb] at hc;injection hc with hc;injection hc with _ hc _;exact hts (by rw[hc];exact he)
theorem PX.GF{o1:Obj}{row:Option Nat}{e:TypeId}(h:PX pb tb cap A l w4)(hg:(w4.alloc o1).grownBy w5 row)
  (hrow:∀k,row=some k->∃cur,w4.heap[k]?=some (.cells cur e (0,0)))(he:e≠61/\e≠55):PX pb tb cap A l w5:=by
 obtain⟨hne,⟨cur,fL,hr⟩,c,hc,hb⟩:=h;have key:∀(k:Nat)(cur':Array aN)(e':TypeId),w4.heap[k]?=some (Obj.cells cur' e' (0,0))->e≠e'->w5.heap[k]?=some (Obj.cells cur' e' (0,0)):=λk cur' e' hk Hz=>by
  rw[QT hg k (lt_of_heap hk) (λer=>by
   obtain⟨c2,h2⟩:=hrow k er;rw[hk] at h2;injection h2 with h2;injection h2 with _ h2 _;exact Hz h2.symm)]
  exact hk
 exact⟨hne,⟨cur,key _ _ _ fL he.1,hr⟩,c,hc,key _ _ _ hb he.2⟩
def Mk{α:Type}(T:Nat)(R:aM->aN->α->Prop)(B:Nat)(v:aN)(acc:List α)(w:aM):Prop:=∃vs:List aN,vs.length=acc.length/\w.ownsRow B T 1 v acc.length vs/\∀(i:Nat) u x,vs[i]?=some u->acc[i]?=some x->R w u x
theorem Mk.nil{α:Type}(T:Nat)(R:aM->aN->α->Prop)(B:Nat)(w:aM):Mk T R B (aG none 0 0) [] w:=⟨[],rfl,World.ownsRow_nil _ _ _ _,λi u x h=>by simp at h⟩
theorem Mk.fx{α:Type}{R:aM->aN->α->Prop}{ts:List Nat}{acc:List α}(hR:ze ts R)(hts:55∉T::ts)(h:Mk T R B v acc w)(hf:Fp pb w w')(hP:PX pb tb cap A l w):Mk T R B v acc w':=by
 obtain⟨vs,h1,h2,h3⟩:=h;exact⟨vs,h1,N0 h2 hf hP (λe=>hts (by rw[e];simp)),λi u x hu hx=>aqu hR (λe=>hts (bX _ e)) (h3 i u x hu hx) hf hP⟩
theorem Mk.rd{α:Type}{R:aM->aN->α->Prop}{acc:List α}(h:Mk T R B v acc w):Be T R w v acc:=by
 obtain⟨vs,h1,h2,h3⟩:=h;exact⟨vs,h1,zg h2,h3⟩
def N5(pb tb cap:Nat)(A l':List Pl.Tk)(gs:List (List Ge.Qt))(w6:aM)(g:Nat)(lv:aN)(more:Bool)(wr:aM):Prop:=
 ∃l acc rest,PX pb tb cap A l wr/\Fp pb w6 wr/\Mk 92 rL w6.heap.size lv acc wr/\acc++rest.map opn=gs.map opn/\rest.length=g/\g<=gs.length/\(more=true->E6 l l' rest)/\(more=false->rest=[]/\l=l')
def N6(pb tb cap:Nat)(A l':List Pl.Tk)(ps:List (List (List Ge.Qt)))(W1:aM)(g:Nat)(lv:aN)(more:Bool)(wr:aM):Prop:=
 ∃l acc rest,PX pb tb cap A l wr/\Fp pb W1 wr/\Mk 91 z8 W1.heap.size lv acc wr/\acc++rest.map (·.map opn)=ps.map (·.map opn)/\rest.length=g/\g<=ps.length/\(more=true->CE l l' rest)/\(more=false->rest=[]/\l=l')
theorem aqv(s:ByteArray)(w:aM)(hs:s.size<=20000000400)(t0 te:Pl.Tk)(r0 re:List Pl.Tk)(ps:List (List (List Ge.Qt)))(hA:Pl.all s.data.toList=t0::r0)(ny:(Pl.all s.data.toList).length<=20000000402)(wL:t0.k=119)(yj:t0.raw=Pl.fA)(hps:ps.length<=20000000402)
  (hT:∃t1 r1 t2,r0=t1::r1/\t1.k=40/\CE r1 (t2::te::re) ps/\t2.k=41)(hte:te.k=101)
  (zP:∀w1 v,Below w.heap.size w w1->nH w1 v (ps.map (·.map opn))->ak 45 #[v] w1 λe w'=>e=aL (aF s)/\Below w1.heap.size w1 w'):
  ak 24 #[aF s] w λe w'=>∃v,e=aL (aI #[v,aD true])/\nH w' v (ps.map (·.map opn))/\Below w.heap.size w w':=by
 obtain⟨i1,hi1,aqw,aqx,aqy⟩:=info_parts aqs;obtain⟨i2,hi2,aqz,aqA,aqB⟩:=info_parts aqt;have oz:=aeC s w hs;have HA:Hid (Pl.all s.data.toList=t0::r0):=hA;have hne:(Pl.all s.data.toList).length≠0:=by rw[hA];simp
 have aqC:Hid (∀w1 v,Below w.heap.size w w1->nH w1 v (ps.map (·.map opn))->ak 45 #[v] w1 λe w'=>e=aL (aF s)/\Below w1.heap.size w1 w'):=zP
 clear hA zP;generalize Pl.all s.data.toList=A at*
 go_enter func24,ntmps24
 go_wp2_with fail
 refine oz.mono ?_;rintro e w1 ⟨v,rfl,hown1,hb1⟩;obtain⟨tb,cap,cur,rfl,pD,fL,hcap⟩:∃tb cap cur,v=aG (some ⟨tb,0,none⟩) A.length cap/\w.heap.size<=tb/\w1.heap[tb]?=some (.cells cur 61 (0,0))/\∀(j:Nat) u,(qJ A)[j]?=some u->cur[j]?=some u:=by
  rcases hown1.2 with⟨_,h0⟩|⟨g,cap,cur,hv,hg,hc,_,_,_,h6⟩
  .exact absurd h0 hne
  .refine⟨g,cap,cur,hv,hg,hc,λj u hj=>?_⟩
   rw[<-h6,kQ] at hj;split at hj
   .rw[<-hj];simp
   .cases hj
 clear oz hown1 hne
 go_wp2_with fail
 obtain⟨t1,r1,t2,rfl,hk1,N7,hk2⟩:=hT;have iE:PX w1.heap.size tb cap A (t0::t1::r1) (w1.alloc (.cells #[aG (some ⟨tb,0,none⟩) A.length cap,az aJ 0,aD false,az aJ (-1)] 55)):=
  ⟨wE (lt_of_heap fL),⟨cur,(Below.heap_alloc _ _ _ (lt_of_heap fL)).trans fL,hcap⟩,[],HA.out.symm,heap_alloc_new _ _⟩
 have jw:Below w.heap.size w (w1.alloc (.cells #[aG (some ⟨tb,0,none⟩) A.length cap,az aJ 0,aD false,az aJ (-1)] 55)):=hb1.alloc hb1.size _;have U2:w.heap.size<=w1.heap.size:=hb1.size;clear fL hcap pD hb1 cur HA;generalize w1.alloc (.cells #[aG (some ⟨tb,0,none⟩) A.length cap,az aJ 0,aD false,az aJ (-1)] 55)=W1 at*;generalize w1.heap.size=pb at*;refine(UZ pb tb cap A (t1::r1) t0 W1 ⟨#[77,85,76,84,73,80,79,76,89,71,79,78]⟩ iE ny wL (by rw[yj];rfl)).mono ?_
 rintro e w2 ⟨rfl,jJ,hf2⟩
 go_wp2_with fail
 refine(aqh pb tb cap A r1 t1 w2 ⟨#[69,77,80,84,89]⟩ jJ ny aa).mono ?_
 rintro e w3 ⟨rfl,n3,rfl⟩
 go_wp2_with fail
 refine(E5 pb tb cap A r1 t1 (w2.drewN n3) 40 jJ ny hk1).mono ?_;rintro e w4 ⟨rfl,rQ,ux⟩;have zX:Fp pb W1 w4:=(hf2.drewN n3).trans ux;obtain⟨c4,_,hb4⟩:=rQ.box;have b2:=dU hb4;clear iE jJ hf2 ux hb4 wL yj hk1
 go_wp2_with fail
 have cK:Hid (N6 pb tb cap A (t2::te::re) ps W1 ps.length (aG none 0 0) true w4):=⟨r1,[],ps,rQ,zX,Mk.nil _ _ _ _,rfl,rfl,aY _,λ_=>N7,λh=>(by cases h)⟩
 clear b2 rQ zX N7
 go_loopg [5,8] ps.length (λg lv mv wr=>∃more:Bool,mv=aD more/\Hid (N6 pb tb cap A (t2::te::re) ps W1 g lv more wr))
 case atStart=>exact⟨_,rfl,cK⟩
 case round=>
  obtain⟨more,rfl,HR⟩:=hrel;obtain⟨l,out,rest,yi,zY,N8,gQ,l8,hgl,q8,hfin⟩:=HR.out;clear HR cK;cases more
  .obtain⟨rfl,rfl⟩:=hfin rfl;clear hfin q8;rw[JK,qu] at gQ;subst gQ
   go_wp2_with fail
   refine(E5 pb tb cap A (te::re) t2 _ 41 yi ny hk2).mono ?_;rintro e w6 ⟨rfl,nG,vW⟩;have Jq:=N8.fx CD ah vW yi
   have vV:=zY.trans vW;obtain⟨c6,U3,bp,e0,e1,e2,e3,hcl,pD⟩:=nG.cells;have p0:=cH bp;have p1:=cD bp;have p2:=dU bp;have hib:(c6.length:Int)<(A.length:Int):=aa
   rw[hte] at e0;have qf:Hid (Below w.heap.size w w6):=jw.trans (vV.below w.heap.size U2 jw.size);have Ei:Hid (nH w6 u5 (ps.map (·.map opn))):=Jq.rd
   clear yi zY N8 vW nG bp U3 Jq vV l8 hgl
   go_wp2_with fail
   go_region_held3 (λw'=>w'.cell? ⟨pb,0,none⟩=some (aG (some ⟨tb,0,none⟩) A.length cap)/\w'.cell? ⟨pb,1,none⟩=some (az aJ c6.length)/\w'.cell? ⟨pb,2,none⟩=some (aD false)/\w'.cell? ⟨tb,c6.length*4,none⟩=some (az .u8 101)) (go_keep) (fail)
   go_wp2_with fail
   have U4:nH w6.drew u5 (ps.map (·.map opn)):=aeZ _ _ _ _ Ei.out λk cur e h _=>rfl
   refine(aqC.out _ _ qf.out.drew U4).mono ?_;rintro e w7 ⟨rfl,bw⟩;have HR8:Hid (nH w7 u5 (ps.map (·.map opn))):=aeZ _ _ _ _ U4 λk cur e h _=>bw.block k (lt_of_heap h)
   have U5:Hid (Below w.heap.size w w7):=qf.out.drew.trans (bw.mono qf.out.drew.size);clear U4 bw Ei qf
   go_wp2_with fail
   exact bodyPost_ret (v:=aI #[u5,aD true]) (by simp[results,results24,go_sem]) rfl ⟨_,rfl,HR8.out,U5.out⟩
  .have hT:=q8 rfl;clear hfin q8;obtain⟨gs,rest',rfl⟩:∃p rest',rest=p::rest':=by
    cases rest with
    |nil=>exact hT.elim
    |cons p rest'=>exact⟨p,rest',rfl⟩
   obtain⟨t3,r3,hPg,hc⟩:∃t3 r3,Jp l t3 r3 gs/\((t3.k=41/\rest'=[]/\t2::te::re=t3::r3)\/(t3.k=44/\CE r3 (t2::te::re) rest')):=by
    cases rest' with
    |nil=>
     obtain⟨t3,r3,h1,h2,h3⟩:=hT;exact⟨t3,r3,h1,aU ⟨h2,rfl,h3⟩⟩
    |cons q rest'=>
     obtain⟨t3,r3,h1,h2,h3⟩:=hT;exact⟨t3,r3,h1,aT ⟨h2,h3⟩⟩
   obtain⟨t,r,t4,rfl,MM,ae0,hk4,aqF⟩:=hPg;have HC:Hid ((t3.k=41/\rest'=[]/\t2::te::re=t3::r3)\/(t3.k=44/\CE r3 (t2::te::re) rest')):=hc;have pV:Hid (out++(gs::rest').map (·.map opn)=ps.map (·.map opn)/\(gs::rest').length=gk/\gk<=ps.length):=⟨gQ,l8,hgl⟩
   obtain⟨m1,lM⟩:∃m1,m1=gk:=⟨_,rfl⟩;clear hc hT gQ l8 hgl
   go_wp2_with fail
   refine(E5 pb tb cap A r t _ 40 yi ny MM).mono ?_;rintro e w6 ⟨rfl,nG,vW⟩;obtain⟨c6,_,bp⟩:=nG.box;have b2:=dU bp;have Jq:=N8.fx CD ah vW yi
   have cK:Hid (N5 pb tb cap A (t4::t3::r3) gs w6 gs.length (aG none 0 0) true w6):=⟨r,[],gs,nG,Fp.refl _ _,Mk.nil _ _ _ _,rfl,rfl,aY _,λ_=>ae0,λh=>(by cases h)⟩
   have HO6:Hid (PX pb tb cap A r w6/\Fp pb W1 w6/\Mk 91 z8 W1.heap.size u5 out w6):=⟨nG,zY.trans vW,Jq⟩;clear yi zY N8 vW bp nG Jq ae0
   go_wp2_with fail
   clear b2;have E7:Hid (m1=gk):=lM;clear lM
   go_loopg [9,10] gs.length (λg lv mv wr=>∃more:Bool,mv=aD more/\Hid (N5 pb tb cap A (t4::t3::r3) gs w6 g lv more wr))
   case atStart=>exact⟨_,rfl,cK⟩
   case round=>
    obtain⟨again,rfl,HR⟩:=hrel;obtain⟨l,acc,rest,E8,N9,Oa,gQ,l8,hgl,q8,hfin⟩:=HR.out;clear HR cK;cases again
    .obtain⟨rfl,rfl⟩:=hfin rfl;clear hfin q8;rw[JK,qu] at gQ;subst gQ;have aug:gs.length<=20000000402:=aqF
     go_wp2_with fail
     refine(E5 pb tb cap A (t3::r3) t4 _ 41 E8 ny hk4).mono ?_;rintro e w8 ⟨rfl,Jr,CF⟩;have xK:=Oa.fx DZ ah CF E8
     have U6:=N9.trans CF;obtain⟨z1,z2,z3⟩:=HO6.out;have CG:=z2.trans U6;have hO8:=z3.fx CD ah U6 z1
     have hs8:=CG.size;have Js:z8 w8 u9 (gs.map opn):=xK.rd;obtain⟨so,vn,vc,rfl⟩:∃so n c,u9=aG so n c:=by
      obtain⟨us,_,h2,_⟩:=xK;rcases h2.2 with⟨hv,_⟩|⟨g,cap,cur,hv,_⟩
      .exact⟨_,_,_,hv⟩
      .exact⟨_,_,_,hv⟩
     obtain⟨us,Ob,uy,Jt⟩:=hO8;have Jn:out.length<=20000000402:=by
      have h1:=aZ List.length pV.out.1;simp at h1;omega
     clear E8 N9 Oa CF xK U6 z1 z2 z3 HO6
     go_wp2_with (at_builtin;refine wpList_append_lies _ rfl (.tmp 63) (.tmp 65) 45 rfl W1.heap.size 91 i2 _ 1 24 underlying45 hi2 aqz aqA aqB rfl ah u5 out.length us rfl (bB uy (λk hk=>Below.heap_alloc _ _ _ (bn uy k hk).2)) ⟨w8.heap.size,0,none⟩ 1 1 [aG so vn vc] rfl rfl (World.news_of_block (cs:= #[aG so vn vc]) (t:=91) (fr:=(0,0)) (heap_alloc_new w8 _)) (by simp[Value.oneCell']) ah (by unfold maxLen;omega) aa (by simp;omega) (w8.heap.size+1) af ?_;intro gg cap' w9 ho hgrow hat rP)
     have yl:∀k,u5.ownBlock=some k->∃cur,w8.heap[k]?=some (.cells cur 91 (0,0)):=λk hk=>uN uy hk
     have pF:=Jr.GF hgrow yl ah
     have ym:=CG.GF hgrow (λk hk=>(bn uy k hk).1)
     have yo:Mk 91 z8 W1.heap.size (aG (some ⟨gg,0,none⟩) (out.length+1) cap') (out++[gs.map opn]) w9:=by
      refine⟨us++[aG so vn vc],by simp[Ob],by simpa using ho,?_⟩
      exact YB Ob (λi u x hu hx=>Lg CD hgrow yl ah (Jt i u x hu hx)) (Lg CD hgrow yl ah Js)
     clear hgrow ho hat uy CG Jr Jn Js Jt yl;refine(Jl pb tb cap A r3 t3 _ 44 pF ny).mono ?_;rintro e Zx ⟨rfl,n10,rfl⟩;obtain⟨qo,lJ,GN⟩:=pV.out;have lM:=E7.out;rcases HC.out with⟨k1,rfl,k3⟩|⟨k1,k2⟩
     .have hd:decide (t3.k=44)=false:=fY aa
      rw[hd];have HN:Hid (N6 pb tb cap A (t2::te::re) ps W1 0 (aG (some ⟨gg,0,none⟩) (out.length+1) cap') false (w9.drewN n10)):=⟨t3::r3,out++[gs.map opn],[],pF,ym.drewN n10,yo,by rw[<-qo];simp,rfl,iA _,λh=>(by cases h),λ_=>⟨rfl,k3.symm⟩⟩
      have hg0:0<m1:=by rw[lM,<-lJ];simp
      clear HC pV pF ym yo k3 qo lJ hd lM
      go_wp2_with fail
      go_roundg 0
      case measure=>have:=E7.out;omega
      case rel=>exact⟨_,rfl,HN⟩
     .have hd:decide (t3.k=44)=true:=dO k1;rw[hd];obtain⟨c3,hc3,pE⟩:=pF.box;have zZ:PX pb tb cap A r3 ((w9.drewN n10).setCell ⟨pb,1,none⟩ (az aJ ((c3.length:Int)+1))):=PX.next (w:=w9.drewN n10) pF c3 hc3 pE
      have Ju:Fp pb (w9.drewN n10) ((w9.drewN n10).setCell ⟨pb,1,none⟩ (az aJ ((c3.length:Int)+1))):=(Fp.refl pb _).set 1 _;have HN:Hid (N6 pb tb cap A (t2::te::re) ps W1 (m1-1) (aG (some ⟨gg,0,none⟩) (out.length+1) cap') true ((w9.drewN n10).setCell ⟨pb,1,none⟩ (az aJ ((c3.length:Int)+1)))):=
       ⟨r3,out++[gs.map opn],rest',zZ,(ym.drewN n10).set 1 _,Mk.fx (w:=w9.drewN n10) CD ah yo Ju pF,by rw[<-qo];simp,by rw[lM,<-lJ];simp,aa,λ_=>k2,λh=>(by cases h)⟩
      have b1:(w9.drewN n10).cell? ⟨pb,1,none⟩=some (az aJ c3.length):=cell_of (w:=w9.drewN n10) pE 1;have g1':(w9.drewN n10).frozen? ⟨pb,1,none⟩=false:=bK (w:=w9.drewN n10) pE 1;have hcl:c3.length<=20000000402:=by have h:=aZ List.length hc3;simp at h;omega
      have hg0:0<m1:=by rw[lM,<-lJ];simp
      clear HC pV pF ym yo qo lJ hd zZ hc3 pE k2 Ju lM;generalize w9.drewN n10=w11 at*
      go_wp2_with fail
      go_roundg (m1-1)
      case measure=>have:=E7.out;omega
      case rel=>exact⟨_,rfl,HN⟩
    .have hT:=q8 rfl;clear hfin q8;obtain⟨g,Aa,rfl⟩:∃p rest',rest=p::rest':=by
      cases rest with
      |nil=>exact hT.elim
      |cons p rest'=>exact⟨p,rest',rfl⟩
     obtain⟨t5,r5,hRg,hc⟩:∃t5 r5,Jo l t5 r5 g/\((t5.k=41/\Aa=[]/\t4::t3::r3=t5::r5)\/(t5.k=44/\E6 r5 (t4::t3::r3) Aa)):=by
      cases Aa with
      |nil=>
       obtain⟨t3,r3,h1,h2,h3⟩:=hT;exact⟨t3,r3,h1,aU ⟨h2,rfl,h3⟩⟩
      |cons q rest'=>
       obtain⟨t3,r3,h1,h2,h3⟩:=hT;exact⟨t3,r3,h1,aT ⟨h2,h3⟩⟩
     obtain⟨ta,ra,tz,rfl,hka,ae2,hkz,hok⟩:=hRg;have qQ:Hid ((t5.k=41/\Aa=[]/\t4::t3::r3=t5::r5)\/(t5.k=44/\E6 r5 (t4::t3::r3) Aa)):=hc;have Oc:Hid (acc++(g::Aa).map opn=gs.map opn/\(g::Aa).length=gk/\gk<=gs.length):=⟨gQ,l8,hgl⟩;have zz:=aqq pb tb cap A ra (t5::r5) ta tz g _ E8 ny hka ae2 hkz hok.2.1 hok.1 hok.2.2;clear hc hT gQ l8 hgl ae2 hok
     go_wp2_with fail
     refine zz.mono ?_;rintro e w8 ⟨v,rfl,Jr,CF,U7⟩;have xK:=Oa.fx DZ ah CF E8
     have CG:=N9.trans CF;have hs8:=CG.size;have Js:rL w8 v (opn g):=by
      have:=zg U7;unfold rL opn;rw[List.length_dropLast];exact this
     obtain⟨so,vn,vc,rfl⟩:∃so n c,v=aG so n c:=by
      rcases U7.2 with⟨hv,_⟩|⟨g,cap,cur,hv,_⟩
      .exact⟨_,_,_,hv⟩
      .exact⟨_,_,_,hv⟩
     obtain⟨vs,hvs,uy,Jt⟩:=xK;have Jn:acc.length<=20000000402:=by
      have h1:=aZ List.length Oc.out.1;simp at h1;omega
     clear E8 N9 Oa CF U7 zz
     go_wp2_with (at_builtin;refine wpList_append_lies _ rfl (.tmp 47) (.tmp 49) 91 rfl w6.heap.size 92 i1 _ 1 24 underlying91 hi1 aqw aqx aqy rfl ah u9 acc.length vs rfl (bB uy (λk hk=>Below.heap_alloc _ _ _ (bn uy k hk).2)) ⟨w8.heap.size,0,none⟩ 1 1 [aG so vn vc] rfl rfl (World.news_of_block (cs:= #[aG so vn vc]) (t:=92) (fr:=(0,0)) (heap_alloc_new w8 _)) (by simp[Value.oneCell']) ah (by unfold maxLen;omega) aa (by simp;omega) (w8.heap.size+1) af ?_;intro gg cap' w9 ho hgrow hat rP)
     have yl:∀k,u9.ownBlock=some k->∃cur,w8.heap[k]?=some (.cells cur 92 (0,0)):=λk hk=>uN uy hk
     have pF:=Jr.GF hgrow yl ah
     have ym:=CG.GF hgrow (λk hk=>(bn uy k hk).1)
     have yo:Mk 92 rL w6.heap.size (aG (some ⟨gg,0,none⟩) (acc.length+1) cap') (acc++[opn g]) w9:=by
      refine⟨vs++[aG so vn vc],by simp[hvs],by simpa using ho,?_⟩
      exact YB hvs (λi u x hu hx=>Lg DZ hgrow yl ah (Jt i u x hu hx)) (Lg DZ hgrow yl ah Js)
     clear hgrow ho hat uy CG Jr Jn Js Jt yl;refine(Jl pb tb cap A r5 t5 _ 44 pF ny).mono ?_;rintro e Zx ⟨rfl,n10,rfl⟩;obtain⟨qo,lJ,GN⟩:=Oc.out;rcases qQ.out with⟨k1,rfl,k3⟩|⟨k1,k2⟩
     .have hd:decide (t5.k=44)=false:=fY aa
      rw[hd];have HN:Hid (N5 pb tb cap A (t4::t3::r3) gs w6 0 (aG (some ⟨gg,0,none⟩) (acc.length+1) cap') false (w9.drewN n10)):=⟨t5::r5,acc++[opn g],[],pF,ym.drewN n10,yo,by rw[<-qo];simp,rfl,iA _,λh=>(by cases h),λ_=>⟨rfl,k3.symm⟩⟩
      have hg0:0<gk:=by rw[<-lJ];simp
      clear qQ Oc pF ym yo k3 qo lJ hd
      go_wp2_with fail
      go_roundg 0
      case measure=>omega
      case rel=>exact⟨_,rfl,HN⟩
     .have hd:decide (t5.k=44)=true:=dO k1;rw[hd];obtain⟨c3,hc3,pE⟩:=pF.box;have zZ:PX pb tb cap A r5 ((w9.drewN n10).setCell ⟨pb,1,none⟩ (az aJ ((c3.length:Int)+1))):=PX.next (w:=w9.drewN n10) pF c3 hc3 pE
      have Ju:Fp pb (w9.drewN n10) ((w9.drewN n10).setCell ⟨pb,1,none⟩ (az aJ ((c3.length:Int)+1))):=(Fp.refl pb _).set 1 _;have HN:Hid (N5 pb tb cap A (t4::t3::r3) gs w6 (gk-1) (aG (some ⟨gg,0,none⟩) (acc.length+1) cap') true ((w9.drewN n10).setCell ⟨pb,1,none⟩ (az aJ ((c3.length:Int)+1)))):=
       ⟨r5,acc++[opn g],Aa,zZ,(ym.drewN n10).set 1 _,Mk.fx (w:=w9.drewN n10) DZ ah yo Ju pF,by rw[<-qo];simp,by rw[<-lJ];simp,aa,λ_=>k2,λh=>(by cases h)⟩
      have b1:(w9.drewN n10).cell? ⟨pb,1,none⟩=some (az aJ c3.length):=cell_of (w:=w9.drewN n10) pE 1;have g1':(w9.drewN n10).frozen? ⟨pb,1,none⟩=false:=bK (w:=w9.drewN n10) pE 1;have hcl:c3.length<=20000000402:=by have h:=aZ List.length hc3;simp at h;omega
      have hg0:0<gk:=by rw[<-lJ];simp
      clear qQ Oc pF ym yo qo lJ hd zZ hc3 pE k2 Ju;generalize w9.drewN n10=w11 at*
      go_wp2_with fail
      go_roundg (gk-1)
      case measure=>omega
      case rel=>exact⟨_,rfl,HN⟩
end
section
namespace Pl
theorem Od(u:Nat):∀c∈Lib.decDigits u,cu c=true:=by
 induction u using Nat.strongRecOn with
 |_ u ih=>
  intro c hc;rw[Lib.decDigits] at hc;have one:∀d,d<10->cu (UInt8.ofNat (48+d))=true:=λd hd=>by
   unfold cu;have:(UInt8.ofNat (48+d)).toNat=48+d:=by rw[UInt8.toNat_ofNat'];exact OP aa
   rw[this];simp;omega
  by_cases h:u<10
  .rw[yG h] at hc;rw[dh.1 hc];exact one u h
  .rw[Fy h] at hc;rcases dv.1 hc with q|q
   .exact ih (u/10) aa c q
   .rw[dh.1 q];exact one _ aa
theorem ae3(u:Nat):fw (Lib.decDigits u)=u:=by
 induction u using Nat.strongRecOn with
 |_ u ih=>
  rw[Lib.decDigits];have one:∀d,d<10->(UInt8.ofNat (48+d)).toNat-48=d:=λd hd=>by
   rw[UInt8.toNat_ofNat',OP aa];omega
  by_cases h:u<10
  .rw[yG h];show 10*0+((UInt8.ofNat (48+u)).toNat-48)=u;rw[one u h];omega
  .rw[Fy h,KW,ih (u/10) aa,one _ aa]
   omega
theorem U8(u:Nat):Lib.decDigits u≠[]:=by
 rw[Lib.decDigits];by_cases h:u<10
 .rw[yG h];simp
 .rw[Fy h];simp
theorem U9:∀(k u:Nat),u<10 ^ (k+1)->(Lib.decDigits u).length<=k+1
 |0,u,h=>by
  rw[Lib.decDigits,yG (by simpa using h)];simp
 |k+1,u,h=>by
  rw[Lib.decDigits];by_cases h1:u<10
  .rw[yG h1];simp
  .rw[Fy h1,bY];have:=U9 k (u/10) (by rw[yD] at h;omega)
   simp;omega
theorem Oe{p:UInt8->Bool}:∀{A rest:List UInt8},(∀c∈A,p c=true)->(∀c r,rest=c::r->p c=false)->(A++rest).takeWhile p=A
 |[],rest,_,h=>by
  cases rest with
  |nil=>rfl
  |cons c r=>rw[sI,Aj,h c r rfl];rfl
 |a::A,rest,hA,h=>by
  rw[lU,Aj,hA a af]
  simp only[kP];rw[Oe (λc hc=>hA c (bX _ hc)) h]
def Sep(rest:List UInt8):Prop:=∀c r,rest=c::r->c=32\/c=40\/c=41\/c=44\/c=47
theorem Sep.dig{rest:List UInt8}(h:Sep rest):∀c r,rest=c::r->cu c=false:=λc r e=>by
 rcases h c r e with q|q|q|q|q<;>rw[q]<;>decide
theorem Sep.let{rest:List UInt8}(h:Sep rest):∀c r,rest=c::r->isLet c=false:=λc r e=>by
 rcases h c r e with q|q|q|q|q<;>rw[q]<;>decide
theorem Sep.of(c:UInt8)(r:List UInt8)(h:c=32\/c=40\/c=41\/c=44\/c=47):Sep (c::r):=λd r' e=>by
 injection e with e1 _;rw[<-e1];exact h
theorem aqL{n:Int}(h1: -1000000000<n)(h2:n<1000000000){rest:List UInt8}(hs:Sep rest)(i:Nat):dA (Lib.itoa n++rest) i=⟨110,Lib.itoa n,n,i⟩:=by
 unfold Lib.itoa;by_cases hn:n<0
 .rw[aV hn];have e:=Oe (rest:=rest) (Od n.natAbs) hs.dig;have hl:=U9 8 n.natAbs aa
  have hv:=ae3 n.natAbs;have hne:=U8 n.natAbs;show dA ((45:UInt8)::(Lib.decDigits n.natAbs++rest)) i=_;unfold dA;simp only;rw[e];rw[aQ ah,aQ ah,aV ah,aQ (by intro k;rcases k with k|k;exact hne k;omega),hv]
  congr 1;omega
 .rw[aQ hn];have e:=Oe (rest:=rest) (Od n.toNat) hs.dig;have hl:=U9 8 n.toNat aa
  have hv:=ae3 n.toNat;have hd:=Od n.toNat;have hne:=U8 n.toNat;cases hD:Lib.decDigits n.toNat with
  |nil=>exact absurd hD hne
  |cons c r=>
   rw[hD] at e hl hv hd;have hc:=fV (hd c af)
   rw[lU] at e⊢;unfold dA;simp only;rw[e];have hnl:¬isLet c=true:=λk=>by have:=fV k;omega
   rw[aQ aa,aQ hnl,aQ aa,aQ (by intro k;rcases k with k|k;exact absurd k af;omega),hv]
   congr 1;omega
theorem aqM{q:List UInt8}(hq:q≠[])(hl:∀c∈q,isLet c=true){rest:List UInt8}(hs:Sep rest)(i:Nat):dA (q++rest) i=⟨119,q,0,i⟩:=by
 have e:=Oe (rest:=rest) hl hs.let;cases q with
 |nil=>exact absurd rfl hq
 |cons c r=>
  have hc:=hl c af
  have hc':=fV hc;rw[lU] at e⊢;unfold dA;simp only;rw[e,aQ aa,aV hc]
theorem aqN{c:UInt8}(h:c=40\/c=41\/c=44\/c=47)(rest:List UInt8)(i:Nat):dA (c::rest) i=⟨c.toNat,[c],0,i⟩:=by
 unfold dA;simp only;rw[aV];rcases h with q|q|q|q<;>rw[q]<;>decide
def Lex(s:List UInt8):Nat->List Tk->Nat->Prop
 |i,[],j=>i=j
 |i,t::c,j=>tk s i=t/\¬(t.k=101\/t.k=120)/\Lex s (t.pl+t.raw.length) c j
theorem Lex.append{s:List UInt8}:∀{c:List Tk}{i j k:Nat}{d:List Tk},Lex s i c j->Lex s j d k->Lex s i (c++d) k
 |[],_,_,_,_,h,h2=>by
  have:_=_:=h;subst this;exact h2
 |_::_,_,_,_,_,h,h2=>⟨h.1,h.2.1,Lex.append h.2.2 h2⟩
theorem Lex.iq{s:List UInt8}:∀{c:List Tk}{i j:Nat}(f:Nat),Lex s i c j->iq s (f+c.length) i=c++iq s f j
 |[],_,_,_,h=>by
  have:_=_:=h;subst this;rfl
 |t::c,i,j,f,h=>by
  have ih:=Lex.iq f h.2.2;show Pl.iq s ((f+c.length)+1) i=_;have hk:¬((tk s i).k=101\/(tk s i).k=120):=by rw[h.1];exact h.2.1
  rw[Pl.iq,aQ hk,h.1,ih];rfl
theorem Lex.len{s:List UInt8}:∀{c:List Tk}{i j:Nat},i<=s.length->Lex s i c j->i+c.length<=j/\j<=s.length
 |[],_,_,hi,h=>by
  have:_=_:=h;subst this;exact⟨aY _,hi⟩
 |t::c,i,j,hi,h=>by
  have hn:=F7 s i hi;rw[h.1] at hn;have ih:=Lex.len hn.1 h.2.2;have:=h.2.1;rw[dw];omega
theorem E9{s A rest:List UInt8}{i:Nat}(h:s.drop i=A++rest):s.drop (i+A.length)=rest:=by
 rw[<-Ay,h,agK]
theorem Og{s l:List UInt8}{i:Nat}(h:s.drop i=l)(hb:∀c r,l=c::r->iX c=false):tk s i=dA l i:=by
 have e:bl s i=i:=by
  unfold bl;rw[h];cases l with
  |nil=>rfl
  |cons c r=>rw[Aj,hb c r rfl];rfl
 unfold tk;rw[e,h]
theorem aqO{s l:List UInt8}{i:Nat}(h:s.drop i=32::l)(hb:∀c r,l=c::r->iX c=false):tk s i=tk s (i+1):=by
 have h1:s.drop (i+1)=l:=by rw[<-Ay,h];rfl
 have e:bl s i=i+1:=by
  unfold bl;rw[h,Aj];have:iX 32=true:=ah
  rw[this];simp only[kP,dw];cases l with
  |nil=>rfl
  |cons c r=>rw[Aj,hb c r rfl];rfl
 have e2:bl s (i+1)=i+1:=by
  unfold bl;rw[h1];cases l with
  |nil=>rfl
  |cons c r=>rw[Aj,hb c r rfl];rfl
 unfold tk;rw[e,e2]
theorem Lex.blank{s l:List UInt8}{i j:Nat}{c:List Tk}(h:s.drop i=32::l)(hb:∀c r,l=c::r->iX c=false)(hc:c≠[])(hl:Lex s (i+1) c j):Lex s i c j:=by
 cases c with
 |nil=>exact absurd rfl hc
 |cons t c=>exact⟨(aqO h hb).trans hl.1,hl.2⟩
theorem ae5(n:Int):∃a r,Lib.itoa n=a::r/\iX a=false:=by
 unfold Lib.itoa;by_cases h:n<0
 .rw[aV h];exact⟨45,_,rfl,ah⟩
 .rw[aQ h];cases hD:Lib.decDigits n.toNat with
  |nil=>exact absurd hD (U8 _)
  |cons c r=>
   have:=fV (Od n.toNat c (by rw[hD];simp))
   exact⟨c,r,rfl,fY aa⟩
theorem Oh{A rest:List UInt8}(h:∃a r,A=a::r/\iX a=false):∀c r,A++rest=c::r->iX c=false:=λc r e=>by
 obtain⟨a,r',rfl,hb⟩:=h;rw[lU] at e;injection e with e1 _;rw[<-e1];exact hb
theorem Va{s rest:List UInt8}{i:Nat}{n:Int}(h1: -1000000000<n)(h2:n<1000000000)(h:s.drop i=Lib.itoa n++rest)(hs:Sep rest):Lex s i [⟨110,Lib.itoa n,n,i⟩] (i+(Lib.itoa n).length):=by
 refine⟨?_,by show ¬((110:Nat)=101\/(110:Nat)=120);decide,rfl⟩
 rw[Og h (Oh (ae5 n)),aqL h1 h2 hs]
theorem Fa{s rest:List UInt8}{i:Nat}{c:UInt8}(hc:c=40\/c=41\/c=44\/c=47)(h:s.drop i=c::rest):Lex s i [⟨c.toNat,[c],0,i⟩] (i+1):=by
 refine⟨?_,?_,rfl⟩
 .rw[Og h (λd r e=>by
   injection e with e1 _;rw[<-e1];rcases hc with q|q|q|q<;>rw[q]<;>decide),aqN hc]
 .show ¬(c.toNat=101\/c.toNat=120);rcases hc with q|q|q|q<;>rw[q]<;>decide
theorem aqP{s rest q:List UInt8}{i:Nat}(hq:q≠[])(hl:∀c∈q,isLet c=true)(h:s.drop i=q++rest)(hs:Sep rest):Lex s i [⟨119,q,0,i⟩] (i+q.length):=by
 refine⟨?_,by show ¬((119:Nat)=101\/(119:Nat)=120);decide,rfl⟩
 rw[Og h (Oh ?_),aqM hq hl hs];cases q with
 |nil=>exact absurd rfl hq
 |cons a r=>
  have:=fV (hl a af)
  exact⟨a,r,rfl,fY aa⟩
theorem aqQ:(∀c∈EMPTY,isLet c=true)/\(∀c∈jS,isLet c=true)/\(∀c∈fA,isLet c=true):=ah
end Pl
end
section
open Go.RowKit
theorem Vb(n:Int)(w:aM)(h1: -9223372036854775808<=n)(h2:n<=9223372036854775807):
  ak 19 #[az aJ n] w λe w'=>e=aL (az aJ n)/\w'=w:=by
 have hw:IntKind.i64.wrap n=n:=by rw[IntKind.wrap_i64];omega
 go_enter func19,ntmps19
 go_wp2_with fail
 go_ret
 exact⟨rfl,rfl⟩
theorem Vc(s:List UInt8):(Pl.err s).1<=3:=by
 unfold Pl.err;split
 .decide
 .split
  .split
   .exact aY 3
   .exact iA 3
  .show 2<=3;decide
theorem aqR(s:ByteArray)(w:aM)(hm:s.size<=maxLen)(hG:Gl w):
  ak 20 #[aF s] w λe w'=>e=aL (aC #[aF ⟨(Pl.uX s.data.toList).toArray⟩,az aJ (Pl.err s.data.toList).1,az aJ (Pl.err s.data.toList).2])/\aj w w':=by
 have HP:Hid (∀w1,Gl w1->ak 40 #[aF s] w1 λe w'=>e=aL (aI #[aF ⟨(Pl.uX s.data.toList).toArray⟩,az aJ (Pl.err s.data.toList).1,az aJ (Pl.err s.data.toList).2])/\aj w1 w'):=λw1 g1=>aje s w1 hm g1
 have he:=Vc s.data.toList;generalize(Pl.err s.data.toList).1=E at*;generalize(Pl.err s.data.toList).2=Pp at*;generalize Pl.uX s.data.toList=PT at*;have HN:Hid (∀w1,ak 19 #[az aJ (E:Int)] w1 λe w'=>e=aL (az aJ (E:Int))/\w'=w1):=λw1=>Vb E w1 aa aa
 clear he
 go_enter func20,ntmps20
 go_wp2_with fail
 have hb0:aj w (w.alloc (.cells #[aF ⟨#[]⟩,az aJ 0,az aJ 0] 38)):=aw _ _;refine(HP.out _ (hG.alloc _)).mono ?_;rintro e w1 ⟨rfl,hb1⟩;have jH:w1.heap[w.heap.size]?=some (.cells #[aF ⟨#[]⟩,az aJ 0,az aJ 0] 38):=(hb1.block _ af).trans (heap_alloc_new _ _)
 have c0:=cH jH;have c1:=cD jH;have c2:=dU jH;have z0:=bK jH 0;have z1:=bK jH 1;have z2:=bK jH 2;have aW:=hb0.trans (hb1.mono hb0.size);clear jH
 go_wp2_with fail
 refine(HN.out _).mono ?_;rintro e w2 ⟨rfl,rfl⟩
 go_wp2_with fail
 refine bodyPost_ret (v:=aC #[aF ⟨PT.toArray⟩,az aJ E,az aJ Pp]) (by simp[results,results20,go_sem,c0,c1,c2]) rfl ⟨rfl,?_⟩
 exact((aW.setCell (aY _) _).setCell (aY _) _).setCell (aY _) _
def Ab(s:List UInt8)(r:Int)(T:List UInt8)(E P:Nat):Prop:=
 ((Pl.err s).1≠0/\T=[]/\E=(Pl.err s).1/\P=(Pl.err s).2)\/((Pl.err s).1=0/\Ge.rule r=false/\T=[]/\E=4/\P=0)\/((Pl.err s).1=0/\Ge.rule r=true/\Cv (Pl.rings s) r T/\E=0/\P=0)
theorem aqS(s:ByteArray)(r:Int)(w:aM)(hm:s.size<=maxLen)(hG:Gl w):
  ak 39 #[aF s,az .u8 r] w λe w'=>(∃T E P,e=aL (aI #[aF (ba T),az aJ (E:Nat),az aJ (P:Nat)])/\Ab s.data.toList r T E P)/\aj w w':=by
 by_cases h0:(Pl.err s.data.toList).1=0
 .cases hr:Ge.rule r
  .refine(apM s r w hm hG h0 hr).mono ?_;rintro e w' ⟨rfl,hb⟩;exact⟨⟨[],4,0,rfl,aT (aU ⟨h0,hr,rfl,rfl,rfl⟩)⟩,hb⟩
  .refine(apN s r w hm hG h0 hr).mono ?_;rintro e w' ⟨⟨T,rfl,hT⟩,hb⟩;exact⟨⟨T,0,0,rfl,aT (aT ⟨h0,hr,hT,rfl,rfl⟩)⟩,hb⟩
 .refine(apL s r w hm hG h0).mono ?_;rintro e w' ⟨rfl,hb⟩;exact⟨⟨[],_,_,rfl,aU ⟨h0,rfl,rfl,rfl⟩⟩,hb⟩
theorem Ab.small{s:List UInt8}{r:Int}{T:List UInt8}{E P:Nat}(h:Ab s r T E P):E<=4:=by
 have:=Vc s;rcases h with⟨_,_,h,_⟩|⟨_,_,_,h,_⟩|⟨_,_,_,h,_⟩<;>omega
theorem ae6(s:ByteArray)(r:Int)(w:aM)(hm:s.size<=maxLen)(hG:Gl w):
  ak 18 #[aF s,az .u8 r] w λe w'=>(∃T E P,e=aL (aC #[aF (ba T),az aJ (E:Nat),az aJ (P:Nat)])/\Ab s.data.toList r T E P)/\aj w w':=by
 have HP:Hid (∀w1,Gl w1->ak 39 #[aF s,az .u8 r] w1 λe w'=>(∃T E P,e=aL (aI #[aF (ba T),az aJ (E:Nat),az aJ (P:Nat)])/\Hid (Ab s.data.toList r T E P))/\aj w1 w'):=λw1 g1=>aqS s r w1 hm g1
 have HE:Hid (∀T E P,Ab s.data.toList r T E P->E<=4):=λT E P h=>h.small
 go_enter func18,ntmps18
 go_wp2_with fail
 have hb0:aj w (w.alloc (.cells #[aF ⟨#[]⟩,az aJ 0,az aJ 0] 38)):=aw _ _;refine(HP.out _ (hG.alloc _)).mono ?_;rintro e w1 ⟨⟨T,E,Pp,rfl,HF⟩,hb1⟩;have he:=HE.out T E Pp HF.out;have HN:Hid (∀w1,ak 19 #[az aJ (E:Int)] w1 λe w'=>e=aL (az aJ (E:Int))/\w'=w1):=λw1=>Vb E w1 aa aa
 have jH:w1.heap[w.heap.size]?=some (.cells #[aF ⟨#[]⟩,az aJ 0,az aJ 0] 38):=(hb1.block _ af).trans (heap_alloc_new _ _)
 have c0:=cH jH;have c1:=cD jH;have c2:=dU jH;have z0:=bK jH 0;have z1:=bK jH 1;have z2:=bK jH 2;have aW:=hb0.trans (hb1.mono hb0.size);clear jH he HE HP;generalize rJ:ba T=TT
 go_wp2_with fail
 refine(HN.out _).mono ?_;rintro e w2 ⟨rfl,rfl⟩
 go_wp2_with fail
 refine bodyPost_ret (v:=aC #[aF TT,az aJ E,az aJ Pp]) (by simp[results,results18,go_sem,c0,c1,c2]) rfl ⟨⟨T,E,Pp,by rw[rJ],HF.out⟩,?_⟩
 exact((aW.setCell (aY _) _).setCell (aY _) _).setCell (aY _) _
end
end Go.Proofs.YtkjhhooecopolaaGreatDoor

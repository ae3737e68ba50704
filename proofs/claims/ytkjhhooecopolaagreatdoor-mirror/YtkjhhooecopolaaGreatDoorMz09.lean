import Derived.Test.YtkjhhooecopolaaGreatDoorMz08
import Derived.Deep.LoopGhost
set_option maxRecDepth 100000
set_option maxHeartbeats 4000000
namespace Go.Proofs.YtkjhhooecopolaaGreatDoor
open Go.RowKit
theorem Md{c:UInt8}(h:Pl.isLet c=true\/Pl.aM c=true\/c.toNat=45\/¬(c.toNat=40\/c.toNat=41\/c.toNat=44\/c.toNat=47)):
  ((c.toNat:Int) == 40)=false/\((c.toNat:Int) == 41)=false/\((c.toNat:Int) == 44)=false/\((c.toNat:Int) == 47)=false:=by
 have h':¬(c.toNat=40\/c.toNat=41\/c.toNat=44\/c.toNat=47):=by
  rcases h with h|h|h|h
  ·have:=of_decide_eq_true h;omega
  ·have:=of_decide_eq_true h;omega
  ·omega
  ·exact h
 simp only[beq_eq_false_iff_ne];omega
theorem aei(s:ByteArray)(i k:Nat)(w:World)(hi:i<s.size)(hs:s.size<=400)(hl:Pl.isLet s[i]=true)(hk:k=i+((s.data.toList.drop i).takeWhile Pl.isLet).length):
  Calls Tryz.prog 57 #[.string s,.int .i64 i] w fun e w'=>e=.returned (.tuple #[.agg #[.int .u8 119,.string (s.extract i k),.int .i64 0,.int .i64 i],.int .i64 k])/\Below w.heap.size w w':=by
 obtain⟨q1,q2,q3,q4⟩:=Md (Or.inl hl);have hk1:i<=k/\k<=s.size:=by
  have:=(pO Pl.isLet (l:=s.data.toList.drop i)).length_le;simp at this;omega
 have HK:Hid (k=i+((s.data.toList.drop i).takeWhile Pl.isLet).length):=hk;clear hk
 go_enter Tryz.func57,Tryz.ntmps57
 go_wp2_with (go_at_call 85;refine(z8 _ _).mono ?_;rintro e w' ⟨rfl,rfl⟩)
 go_loop [1] (fun t=>∃j:Nat,i<=j/\j<=s.size/\t=.int .i64 j/\Hid (j+((s.data.toList.drop j).takeWhile Pl.isLet).length=k)) (fun t=>s.size-(intOf t).toNat)
 case atStart=>exact⟨i,ae _,by omega,rfl,HK.out.symm⟩
 case round=>
  obtain⟨j,hij,hj,rfl,HE⟩:=hrel;by_cases hlt:j<s.size
  ·by_cases hp:Pl.isLet s[j]=true
   ·have HS:Hid (j+1+((s.data.toList.drop (j+1)).takeWhile Pl.isLet).length=k):=by
     have h1:=CC Pl.isLet s.data.toList j (by simpa using hlt) hp
     have h2:=HE.out;show _=_;omega
    clear HE
    go_wp2_with (go_at_call 85;refine(z8 _ _).mono ?_;rintro e w' ⟨rfl,rfl⟩)
    go_round
    case rel=>exact⟨j+1,by omega,by omega,by go_num,HS⟩
    case measure=>simp[intOf];omega
   ·have hp':Pl.isLet s[j]=false:=by simpa using hp
    have hjk:j=k:=by
     have h1:=CD Pl.isLet s.data.toList j (by simpa using hlt) hp'
     have h2:=HE.out;omega
    subst hjk;clear HE hp HK
    go_wp2_with (go_at_call 85;refine(z8 _ _).mono ?_;rintro e w' ⟨rfl,rfl⟩)
    exact bodyPost_ret (v:=.tuple #[.agg #[.int .u8 119,.string (s.extract i j),.int .i64 0,.int .i64 i],.int .i64 j]) (by simp[results,Tryz.results57,go_sem]) rfl ⟨rfl,(Below.refl _ _).alloc (ae _) _⟩
  ·have hjk:j=k:=by
    have h2:=HE.out;rw[zh (by simp;omega:s.data.toList.length<=j)] at h2
    simpa using h2
   subst hjk;clear HE HK
   go_wp2_with (go_at_call 85;refine(z8 _ _).mono ?_;rintro e w' ⟨rfl,rfl⟩)
   exact bodyPost_ret (v:=.tuple #[.agg #[.int .u8 119,.string (s.extract i j),.int .i64 0,.int .i64 i],.int .i64 j]) (by simp[results,Tryz.results57,go_sem]) rfl ⟨rfl,(Below.refl _ _).alloc (ae _) _⟩
theorem G9(l:List UInt8)(c:UInt8):Pl.dD (l++[c])=10*Pl.dD l+(c.toNat-48):=by simp[Pl.dD]
theorem Me:∀(j:Nat)(l:List UInt8),(∀c∈l,Pl.aM c=true)->Pl.dD (l.take j)<10 ^ j
 |0,l,_=>by simp[Pl.dD]
 |j+1,l,h=>by
  have ih:=Me j l h;by_cases hj:j<l.length
  ·rw[oK hj,G9];have:=of_decide_eq_true (h l[j] (ie hj));rw[ab2];omega
  ·have e:l.take (j+1)=l.take j:=by rw[rI (by omega),rI (by omega)]
   rw[e,ab2];omega
def cP(s:ByteArray)(d:Nat):List UInt8:=(s.data.toList.drop d).takeWhile Pl.aM
theorem TG(s:ByteArray)(d j:Nat)(hj:j<(cP s d).length):∃h:d+j<s.size,(cP s d)[j]=s[d+j]/\Pl.aM s[d+j]=true:=by
 have hp:=(pO Pl.aM (l:=s.data.toList.drop d));have hl:=hp.length_le;simp at hl;have hd:d+j<s.size:=by unfold cP at hj;omega
 have e:(cP s d)[j]=s[d+j]:=by
  have h1:=hp.getElem (i:=j) hj;unfold cP;rw[h1];simp;rfl
 refine⟨hd,e,?_⟩;rw[<-e];exact CF _ _ (ie hj)
theorem TH(s:ByteArray)(d:Nat)(h:d+(cP s d).length<s.size):Pl.aM s[d+(cP s d).length]=false:=by
 have key:∀(l:List UInt8)(h:(l.takeWhile Pl.aM).length<l.length),Pl.aM l[(l.takeWhile Pl.aM).length]=false:=by
  intro l;induction l with
  |nil=>intro h;simp at h
  |cons a r ih=>
   intro h;by_cases ha:Pl.aM a=true
   ·have e:((a::r).takeWhile Pl.aM)=a::r.takeWhile Pl.aM:=by simp[ha]
    simp only[e,bO] at h⊢;exact ih (by simpa using h)
   ·have e:((a::r).takeWhile Pl.aM)=[]:=by simp[ha]
    simp only[e,fE];simpa using ha
 have h2:=key (s.data.toList.drop d) (by simp;unfold cP at h;omega)
 unfold cP at h⊢;rw[List.getElem_drop] at h2;exact h2
def TJ(neg:Bool)(s:ByteArray)(i d:Nat)(w:World)(e:Ending)(w':World):Prop:=
  Below w.heap.size w w'/\
  (((cP s d=[]\/9<(cP s d).length)/\∃j:Nat,j<=1000/\e=.returned (.tuple #[.agg #[.int .u8 120,.string ⟨#[]⟩,.int .i64 0,.int .i64 i],.int .i64 j]))\/
   (¬(cP s d=[]\/9<(cP s d).length)/\e=.returned (.tuple #[.agg #[.int .u8 110,.string ⟨#[]⟩,.int .i64 (if neg then -(Pl.dD (cP s d):Int) else(Pl.dD (cP s d):Int)),.int .i64 i],.int .i64 ((d+(cP s d).length:Nat):Int)])))
theorem aej(s:ByteArray)(i:Nat)(w:World)(hi:i<s.size)(hs:s.size<=400)(hl:Pl.isLet s[i]=false)
    (hq:¬(s[i].toNat=40\/s[i].toNat=41\/s[i].toNat=44\/s[i].toNat=47))(hm:((s[i].toNat:Int) == 45)=false):
    Calls Tryz.prog 57 #[.string s,.int .i64 i] w (TJ false s i i w):=by
  obtain⟨q1,q2,q3,q4⟩:=Md (Or.inr (Or.inr (Or.inr hq)));clear hq;have hD:(cP s i).length<=s.size-i:=by
    have:=(pO Pl.aM (l:=s.data.toList.drop i)).length_le;simp at this;unfold cP;omega
  have HG:Hid (∀j(hj:j<(cP s i).length),∃h:i+j<s.size,(cP s i)[j]=s[i+j]/\Pl.aM s[i+j]=true):=fun j hj=>TG s i j hj
  have HS:Hid (∀h:i+(cP s i).length<s.size,Pl.aM s[i+(cP s i).length]=false):=TH s i;have HL:Hid (∀j,Pl.dD ((cP s i).take j)<10 ^ j):=fun j=>Me j _ (CF _)
  generalize zF:cP s i=D at*;have jA:Hid (cP s i=D):=zF;clear zF
  go_enter Tryz.func57,Tryz.ntmps57
  go_wp2_with (go_at_call 85;refine(z8 _ _).mono ?_;rintro e w' ⟨rfl,rfl⟩)
  go_loop [1,8] (fun t n=>∃j:Nat,j<=D.length/\j<=10/\t=.int .i64 ((i+j:Nat):Int)/\n=.int .i64 ((Pl.dD (D.take j):Nat):Int)) (fun t _=>1000-(intOf t).toNat)
  case atStart=>exact⟨0,by omega,by omega,by go_num,rfl⟩
  case round=>
    obtain⟨j,hj,aek,rfl,rfl⟩:=hrel;by_cases hgo:j<D.length/\j<10
    · obtain⟨h1,h2⟩:=hgo;obtain⟨hlt,hg,hp⟩:=HG.out j h1;have hv:Pl.dD (D.take j)<10000000000:=aL (HL.out j) (Q8 (by omega) (by omega:j<=10))
      have HE:Hid (Pl.dD (D.take (j+1))=10*Pl.dD (D.take j)+(s[i+j].toNat-48)):=by
        show _=_;rw[oK h1,G9,hg]
      have hd:=of_decide_eq_true hp;generalize Pl.dD (D.take j)=V at*;clear hg HG HS HL jA
      go_wp2_with (go_at_call 86;refine(lZ _ _).mono ?_;rintro e w' ⟨rfl,rfl⟩)
      exact⟨⟨j+1,by omega,by omega,congrArg (Value.int .i64) (by omega),congrArg (Value.int .i64) (by rw[HE.out];omega)⟩,by simp[intOf];omega⟩
    · by_cases xU:j=D.length
      · have hst:∀h:i+j<s.size,Pl.aM s[i+j]=false:=by
          intro h;subst xU;exact HS.out h
        have HV:Hid (D.take j=D):=by
          show _=_;rw[rI (by omega)]
        have hv:Pl.dD (D.take j)<10000000000:=aL (HL.out j) (Q8 (by omega) (by omega:j<=10))
        have uw:Hid (Pl.dD (D.take j)=Pl.dD D):=congrArg Pl.dD HV.out;have kZ:Hid (j=D.length):=xU;generalize Pl.dD (D.take j)=V at*;clear HG HS HL xU HV hj;by_cases hlt:i+j<s.size
        · have hp:=hst hlt;clear hst;by_cases oY:j=0
          · have h0:j<=0:=by omega
            have ha:((i:Int)+(j:Int) == (i:Int))=true:=by simp;omega
            clear oY
            go_wp2_with (go_at_call 86;refine(lZ _ _).mono ?_;rintro e w' ⟨rfl,rfl⟩)
            refine bodyPost_ret (v:=.tuple #[.agg #[.int .u8 120,.string ⟨#[]⟩,.int .i64 0,.int .i64 i],.int .i64 ((i+j:Nat):Int)]) (by simp[results,Tryz.results57,go_sem]) rfl ?_
            refine⟨(Below.refl _ _).alloc (ae _) _,Or.inl ⟨?_,i+j,by omega,rfl⟩⟩
            rw[jA.out];exact Or.inl (Q9 (by have:=kZ.out;omega))
          · by_cases C3:j<=9
            · have ha:((i:Int)+(j:Int) == (i:Int))=false:=by simp;omega
              go_wp2_with (go_at_call 86;refine(lZ _ _).mono ?_;rintro e w' ⟨rfl,rfl⟩)
              refine bodyPost_ret (v:=.tuple #[.agg #[.int .u8 110,.string ⟨#[]⟩,.int .i64 ((V:Int)),.int .i64 i],.int .i64 ((i+j:Nat):Int)]) (by simp[results,Tryz.results57,go_sem]) rfl ?_
              refine⟨(Below.refl _ _).alloc (ae _) _,Or.inr ⟨?_,?_⟩⟩
              · rw[jA.out];have qF:=kZ.out;rintro(h|h)
                · rw[h] at qF;simp at qF;omega
                · omega
              · rw[jA.out,<-kZ.out,<-uw.out];simp
            · have ha:((i:Int)+(j:Int) == (i:Int))=false:=by simp;omega
              go_wp2_with (go_at_call 86;refine(lZ _ _).mono ?_;rintro e w' ⟨rfl,rfl⟩)
              refine bodyPost_ret (v:=.tuple #[.agg #[.int .u8 120,.string ⟨#[]⟩,.int .i64 0,.int .i64 i],.int .i64 ((i+j:Nat):Int)]) (by simp[results,Tryz.results57,go_sem]) rfl ?_
              refine⟨(Below.refl _ _).alloc (ae _) _,Or.inl ⟨?_,i+j,by omega,rfl⟩⟩
              rw[jA.out];exact Or.inr (by have:=kZ.out;omega)
        · clear hst;by_cases oY:j=0
          · have h0:j<=0:=by omega
            have ha:((i:Int)+(j:Int) == (i:Int))=true:=by simp;omega
            first
              | (exfalso;omega)
              | (clear oY
                 go_wp2_with (go_at_call 86;refine(lZ _ _).mono ?_;rintro e w' ⟨rfl,rfl⟩)
                 refine bodyPost_ret (v:=.tuple #[.agg #[.int .u8 120,.string ⟨#[]⟩,.int .i64 0,.int .i64 i],.int .i64 ((i+j:Nat):Int)]) (by simp[results,Tryz.results57,go_sem]) rfl ?_
                 refine⟨(Below.refl _ _).alloc (ae _) _,Or.inl ⟨?_,i+j,by omega,rfl⟩⟩
                 rw[jA.out];exact Or.inl (Q9 (by have:=kZ.out;omega)))
          · by_cases C3:j<=9
            · have ha:((i:Int)+(j:Int) == (i:Int))=false:=by simp;omega
              go_wp2_with (go_at_call 86;refine(lZ _ _).mono ?_;rintro e w' ⟨rfl,rfl⟩)
              refine bodyPost_ret (v:=.tuple #[.agg #[.int .u8 110,.string ⟨#[]⟩,.int .i64 ((V:Int)),.int .i64 i],.int .i64 ((i+j:Nat):Int)]) (by simp[results,Tryz.results57,go_sem]) rfl ?_
              refine⟨(Below.refl _ _).alloc (ae _) _,Or.inr ⟨?_,?_⟩⟩
              · rw[jA.out];have qF:=kZ.out;rintro(h|h)
                · rw[h] at qF;simp at qF;omega
                · omega
              · rw[jA.out,<-kZ.out,<-uw.out];simp
            · have ha:((i:Int)+(j:Int) == (i:Int))=false:=by simp;omega
              go_wp2_with (go_at_call 86;refine(lZ _ _).mono ?_;rintro e w' ⟨rfl,rfl⟩)
              refine bodyPost_ret (v:=.tuple #[.agg #[.int .u8 120,.string ⟨#[]⟩,.int .i64 0,.int .i64 i],.int .i64 ((i+j:Nat):Int)]) (by simp[results,Tryz.results57,go_sem]) rfl ?_
              refine⟨(Below.refl _ _).alloc (ae _) _,Or.inl ⟨?_,i+j,by omega,rfl⟩⟩
              rw[jA.out];exact Or.inr (by have:=kZ.out;omega)
      · obtain⟨hlt,hg,hp⟩:=HG.out j (by omega)
        have C3:¬j<=9:=by omega
        have ha:((i:Int)+(j:Int) == (i:Int))=false:=by simp;omega
        generalize Pl.dD (D.take j)=V at*;clear HG HS HL hg
        go_wp2_with (go_at_call 86;refine(lZ _ _).mono ?_;rintro e w' ⟨rfl,rfl⟩)
        refine bodyPost_ret (v:=.tuple #[.agg #[.int .u8 120,.string ⟨#[]⟩,.int .i64 0,.int .i64 i],.int .i64 ((i+j:Nat):Int)]) (by simp[results,Tryz.results57,go_sem]) rfl ?_
        refine⟨(Below.refl _ _).alloc (ae _) _,Or.inl ⟨?_,i+j,by omega,rfl⟩⟩
        rw[jA.out];exact Or.inr (by omega)
theorem ael(s:ByteArray)(i:Nat)(w:World)(hi:i<s.size)(hs:s.size<=400)(hl:Pl.isLet s[i]=false)
    (hq:¬(s[i].toNat=40\/s[i].toNat=41\/s[i].toNat=44\/s[i].toNat=47))(hm:((s[i].toNat:Int) == 45)=true):
    Calls Tryz.prog 57 #[.string s,.int .i64 i] w (TJ true s i (i+1) w):=by
  obtain⟨q1,q2,q3,q4⟩:=Md (Or.inr (Or.inr (Or.inr hq)));clear hq;have hD:(cP s (i+1)).length<=s.size-(i+1):=by
    have:=(pO Pl.aM (l:=s.data.toList.drop (i+1))).length_le;simp at this;unfold cP;omega
  have HG:Hid (∀j(hj:j<(cP s (i+1)).length),∃h:(i+1)+j<s.size,(cP s (i+1))[j]=s[(i+1)+j]/\Pl.aM s[(i+1)+j]=true):=fun j hj=>TG s (i+1) j hj
  have HS:Hid (∀h:(i+1)+(cP s (i+1)).length<s.size,Pl.aM s[(i+1)+(cP s (i+1)).length]=false):=TH s (i+1);have HL:Hid (∀j,Pl.dD ((cP s (i+1)).take j)<10 ^ j):=fun j=>Me j _ (CF _)
  generalize zF:cP s (i+1)=D at*;have jA:Hid (cP s (i+1)=D):=zF;clear zF
  go_enter Tryz.func57,Tryz.ntmps57
  go_wp2_with (go_at_call 85;refine(z8 _ _).mono ?_;rintro e w' ⟨rfl,rfl⟩)
  go_loop [1,8] (fun t n=>∃j:Nat,j<=D.length/\j<=10/\t=.int .i64 (((i+1)+j:Nat):Int)/\n=.int .i64 ((Pl.dD (D.take j):Nat):Int)) (fun t _=>1000-(intOf t).toNat)
  case atStart=>exact⟨0,by omega,by omega,by go_num,rfl⟩
  case round=>
    obtain⟨j,hj,aek,rfl,rfl⟩:=hrel;by_cases hgo:j<D.length/\j<10
    · obtain⟨h1,h2⟩:=hgo;obtain⟨hlt,hg,hp⟩:=HG.out j h1;have hv:Pl.dD (D.take j)<10000000000:=aL (HL.out j) (Q8 (by omega) (by omega:j<=10))
      have HE:Hid (Pl.dD (D.take (j+1))=10*Pl.dD (D.take j)+(s[(i+1)+j].toNat-48)):=by
        show _=_;rw[oK h1,G9,hg]
      have hd:=of_decide_eq_true hp;generalize Pl.dD (D.take j)=V at*;clear hg HG HS HL jA
      go_wp2_with (go_at_call 86;refine(lZ _ _).mono ?_;rintro e w' ⟨rfl,rfl⟩)
      exact⟨⟨j+1,by omega,by omega,congrArg (Value.int .i64) (by omega),congrArg (Value.int .i64) (by rw[HE.out];omega)⟩,by simp[intOf];omega⟩
    · by_cases xU:j=D.length
      · have hst:∀h:(i+1)+j<s.size,Pl.aM s[(i+1)+j]=false:=by
          intro h;subst xU;exact HS.out h
        have HV:Hid (D.take j=D):=by
          show _=_;rw[rI (by omega)]
        have hv:Pl.dD (D.take j)<10000000000:=aL (HL.out j) (Q8 (by omega) (by omega:j<=10))
        have uw:Hid (Pl.dD (D.take j)=Pl.dD D):=congrArg Pl.dD HV.out;have kZ:Hid (j=D.length):=xU;generalize Pl.dD (D.take j)=V at*;clear HG HS HL xU HV hj;by_cases hlt:(i+1)+j<s.size
        · have hp:=hst hlt;clear hst;by_cases oY:j=0
          · have h0:j<=0:=by omega
            have ha:(((i:Int)+1)+(j:Int) == ((i:Int)+1))=true:=by simp;omega
            clear oY
            go_wp2_with (go_at_call 86;refine(lZ _ _).mono ?_;rintro e w' ⟨rfl,rfl⟩)
            refine bodyPost_ret (v:=.tuple #[.agg #[.int .u8 120,.string ⟨#[]⟩,.int .i64 0,.int .i64 i],.int .i64 (((i+1)+j:Nat):Int)]) (by simp[results,Tryz.results57,go_sem]) rfl ?_
            refine⟨(Below.refl _ _).alloc (ae _) _,Or.inl ⟨?_,(i+1)+j,by omega,rfl⟩⟩
            rw[jA.out];exact Or.inl (Q9 (by have:=kZ.out;omega))
          · by_cases C3:j<=9
            · have ha:(((i:Int)+1)+(j:Int) == ((i:Int)+1))=false:=by simp;omega
              go_wp2_with (go_at_call 86;refine(lZ _ _).mono ?_;rintro e w' ⟨rfl,rfl⟩)
              refine bodyPost_ret (v:=.tuple #[.agg #[.int .u8 110,.string ⟨#[]⟩,.int .i64 (-(V:Int)),.int .i64 i],.int .i64 (((i+1)+j:Nat):Int)]) (by simp[results,Tryz.results57,go_sem]) rfl ?_
              refine⟨(Below.refl _ _).alloc (ae _) _,Or.inr ⟨?_,?_⟩⟩
              · rw[jA.out];have qF:=kZ.out;rintro(h|h)
                · rw[h] at qF;simp at qF;omega
                · omega
              · rw[jA.out,<-kZ.out,<-uw.out];simp
            · have ha:(((i:Int)+1)+(j:Int) == ((i:Int)+1))=false:=by simp;omega
              go_wp2_with (go_at_call 86;refine(lZ _ _).mono ?_;rintro e w' ⟨rfl,rfl⟩)
              refine bodyPost_ret (v:=.tuple #[.agg #[.int .u8 120,.string ⟨#[]⟩,.int .i64 0,.int .i64 i],.int .i64 (((i+1)+j:Nat):Int)]) (by simp[results,Tryz.results57,go_sem]) rfl ?_
              refine⟨(Below.refl _ _).alloc (ae _) _,Or.inl ⟨?_,(i+1)+j,by omega,rfl⟩⟩
              rw[jA.out];exact Or.inr (by have:=kZ.out;omega)
        · clear hst;by_cases oY:j=0
          · have h0:j<=0:=by omega
            have ha:(((i:Int)+1)+(j:Int) == ((i:Int)+1))=true:=by simp;omega
            first
              | (exfalso;omega)
              | (clear oY
                 go_wp2_with (go_at_call 86;refine(lZ _ _).mono ?_;rintro e w' ⟨rfl,rfl⟩)
                 refine bodyPost_ret (v:=.tuple #[.agg #[.int .u8 120,.string ⟨#[]⟩,.int .i64 0,.int .i64 i],.int .i64 (((i+1)+j:Nat):Int)]) (by simp[results,Tryz.results57,go_sem]) rfl ?_
                 refine⟨(Below.refl _ _).alloc (ae _) _,Or.inl ⟨?_,(i+1)+j,by omega,rfl⟩⟩
                 rw[jA.out];exact Or.inl (Q9 (by have:=kZ.out;omega)))
          · by_cases C3:j<=9
            · have ha:(((i:Int)+1)+(j:Int) == ((i:Int)+1))=false:=by simp;omega
              go_wp2_with (go_at_call 86;refine(lZ _ _).mono ?_;rintro e w' ⟨rfl,rfl⟩)
              refine bodyPost_ret (v:=.tuple #[.agg #[.int .u8 110,.string ⟨#[]⟩,.int .i64 (-(V:Int)),.int .i64 i],.int .i64 (((i+1)+j:Nat):Int)]) (by simp[results,Tryz.results57,go_sem]) rfl ?_
              refine⟨(Below.refl _ _).alloc (ae _) _,Or.inr ⟨?_,?_⟩⟩
              · rw[jA.out];have qF:=kZ.out;rintro(h|h)
                · rw[h] at qF;simp at qF;omega
                · omega
              · rw[jA.out,<-kZ.out,<-uw.out];simp
            · have ha:(((i:Int)+1)+(j:Int) == ((i:Int)+1))=false:=by simp;omega
              go_wp2_with (go_at_call 86;refine(lZ _ _).mono ?_;rintro e w' ⟨rfl,rfl⟩)
              refine bodyPost_ret (v:=.tuple #[.agg #[.int .u8 120,.string ⟨#[]⟩,.int .i64 0,.int .i64 i],.int .i64 (((i+1)+j:Nat):Int)]) (by simp[results,Tryz.results57,go_sem]) rfl ?_
              refine⟨(Below.refl _ _).alloc (ae _) _,Or.inl ⟨?_,(i+1)+j,by omega,rfl⟩⟩
              rw[jA.out];exact Or.inr (by have:=kZ.out;omega)
      · obtain⟨hlt,hg,hp⟩:=HG.out j (by omega)
        have C3:¬j<=9:=by omega
        have ha:(((i:Int)+1)+(j:Int) == ((i:Int)+1))=false:=by simp;omega
        generalize Pl.dD (D.take j)=V at*;clear HG HS HL hg
        go_wp2_with (go_at_call 86;refine(lZ _ _).mono ?_;rintro e w' ⟨rfl,rfl⟩)
        refine bodyPost_ret (v:=.tuple #[.agg #[.int .u8 120,.string ⟨#[]⟩,.int .i64 0,.int .i64 i],.int .i64 (((i+1)+j:Nat):Int)]) (by simp[results,Tryz.results57,go_sem]) rfl ?_
        refine⟨(Below.refl _ _).alloc (ae _) _,Or.inl ⟨?_,(i+1)+j,by omega,rfl⟩⟩
        rw[jA.out];exact Or.inr (by omega)
def aem(t:Pl.Tk)(w:World)(e:Ending)(w':World):Prop:=
 Below w.heap.size w w'/\∃j:Nat,e=.returned (.tuple #[.agg (r8 t),.int .i64 j])/\j<=1000/\(¬(t.k=101\/t.k=120)->j=t.pl+t.raw.length)
theorem aen(s:ByteArray)(i:Nat)(w:World)(hi:i<=s.size)(hs:s.size<=400):
  Calls Tryz.prog 57 #[.string s,.int .i64 i] w (aem (Pl.bX (s.data.toList.drop i) i) w):=by
 by_cases hlt:i<s.size
 ·rw[Pl.drop_cons s i hlt];by_cases pU:s[i].toNat=40\/s[i].toNat=41\/s[i].toNat=44\/s[i].toNat=47
  ·refine(aeg s i w hlt hs pU).mono ?_;rintro e w' ⟨rfl,hb⟩;have e1:Pl.bX (s[i]::s.data.toList.drop (i+1)) i=⟨s[i].toNat,[s[i]],0,i⟩:=by simp only[Pl.bX];rw[if_pos pU]
   rw[e1];refine⟨hb,i+1,?_,by omega,fun _=>rfl⟩
   have e2:s.extract i (i+1)=⟨#[s[i]]⟩:=by
    rw[Pl.extract_eq,FX,Pl.drop_cons s i hlt];rfl
   rw[e2];have e3:Pl.rS ⟨s[i].toNat,[s[i]],0,i⟩=[s[i]]:=by unfold Pl.rS;rw[if_neg (by show ¬s[i].toNat=110;omega)]
   unfold r8;rw[e3]
  ·by_cases hl:Pl.isLet s[i]=true
   ·refine(aei s i _ w hlt hs hl rfl).mono ?_;rintro e w' ⟨rfl,hb⟩;have e1:Pl.bX (s[i]::s.data.toList.drop (i+1)) i=⟨119,(s[i]::s.data.toList.drop (i+1)).takeWhile Pl.isLet,0,i⟩:=by simp only[Pl.bX];rw[if_neg pU,if_pos hl]
    rw[e1,<-Pl.drop_cons s i hlt];have hle:=(pO Pl.isLet (l:=s.data.toList.drop i)).length_le;simp at hle;refine⟨hb,i+((s.data.toList.drop i).takeWhile Pl.isLet).length,?_,by omega,fun _=>rfl⟩
    rw[Pl.extract_eq,FX,Pl.take_takeWhile];rfl
   ·have hl':Pl.isLet s[i]=false:=by simpa using hl
    have r9:∀d,(cP s d).length<=s.size-d:=fun d=>by
     have:=(pO Pl.aM (l:=s.data.toList.drop d)).length_le;simp at this;unfold cP;omega
    by_cases hm:s[i].toNat=45
    ·refine(ael s i w hlt hs hl' pU (by simp;omega)).mono ?_
     rintro e w' ⟨hb,h⟩;have e1:Pl.bX (s[i]::s.data.toList.drop (i+1)) i=(if cP s (i+1)=[]\/9<(cP s (i+1)).length then⟨120,[],0,i⟩ else⟨110,s[i]::cP s (i+1), -(Pl.dD (cP s (i+1)):Int),i⟩):=by
      simp only[Pl.bX];rw[if_neg pU,if_neg hl,if_pos hm];rfl
     rw[e1];rcases h with⟨h1,j,hj,rfl⟩|⟨h1,rfl⟩
     ·rw[if_pos h1];exact⟨hb,j,rfl,hj,fun h=>absurd (Or.inr rfl) h⟩
     ·rw[if_neg h1];have:=r9 (i+1);exact⟨hb,_,rfl,by omega,fun _=>by simp only[bO];omega⟩
    ·refine(aej s i w hlt hs hl' pU (by simp;omega)).mono ?_
     rintro e w' ⟨hb,h⟩;have e1:Pl.bX (s[i]::s.data.toList.drop (i+1)) i=(if cP s i=[]\/9<(cP s i).length then⟨120,[],0,i⟩ else⟨110,cP s i,(Pl.dD (cP s i):Int),i⟩):=by
      simp only[Pl.bX];rw[if_neg pU,if_neg hl,if_neg hm];unfold cP;rw[Pl.drop_cons s i hlt]
     rw[e1];rcases h with⟨h1,j,hj,rfl⟩|⟨h1,rfl⟩
     ·rw[if_pos h1];exact⟨hb,j,rfl,hj,fun h=>absurd (Or.inr rfl) h⟩
     ·rw[if_neg h1];have:=r9 i;exact⟨hb,_,rfl,by omega,fun _=>rfl⟩
 ·have he:i=s.size:=by omega
  refine(aee s i w (by omega) (by omega) hs).mono ?_
  rintro e w' ⟨rfl,hb⟩;have e1:Pl.bX (s.data.toList.drop i) i=⟨101,[],0,i⟩:=by
   rw[zh (by simp;omega)];rfl
  rw[e1];exact⟨hb,i,rfl,by omega,fun h=>absurd (Or.inl rfl) h⟩
def pV(c:List Pl.Tk):List Value:=c.flatMap fun t=>(r8 t).toList
theorem TM(c:List Pl.Tk)(t:Pl.Tk):pV (c++[t])=pV c++(r8 t).toList:=by simp[pV]
theorem aeo:(Tryz.prog.info? 61).map (fun i=>(i.zero,i.size,i.bytes))=some (some (.agg #[.int .u8 0,.string ⟨#[]⟩,.int .i64 0,.int .i64 0]),4,40):=by kernel_rfl
theorem Hc{w1 w2:World}{o1 o2:Obj}{row:Option Nat}(hg:((w1.alloc o1).alloc o2).grownBy w2 row)(hne:row≠some w1.heap.size):
  w2.heap[w1.heap.size]?=some o1/\∀k,k<w1.heap.size->row≠some k->w2.heap[k]?=w1.heap[k]?:=by
 refine⟨?_,fun k hk hr=>?_⟩
 ·rw[hg.block w1.heap.size (by simp;omega) (fun e=>hne e.symm),Below.heap_alloc _ _ _ (by simp)]
  exact heap_alloc_new w1 o1
 ·rw[hg.block k (by simp;omega) (fun e=>hr e.symm),Below.heap_alloc _ _ _ (by simp;omega),Below.heap_alloc _ _ _ hk]
def Mf(_s:ByteArray)(w:World)(c:List Pl.Tk)(lv:Value)(wr:World):Prop:=
 wr.ownsRow w.heap.size 61 4 lv c.length (pV c)/\Below w.heap.size w wr/\w.heap.size<=wr.heap.size
theorem Mg(s:ByteArray)(w:World)(hs:s.size<=400):
  Calls Tryz.prog 28 #[.string s] w fun e w'=>∃v,e=.returned v/\w'.ownsRow w.heap.size 61 4 v (Pl.all s.data.toList).length (pV (Pl.all s.data.toList))/\Below w.heap.size w w':=by
 obtain⟨i0,hi,hz0,hz1,hz2⟩:=info_parts aeo
 go_enter Tryz.func28,Tryz.ntmps28
 go_wp2_with fail
 go_loopg [3,4,5] (s.size+2) (fun g lv iv kv wr=>∃(c:List Pl.Tk)(i:Nat)(k:Nat),iv=.int .i64 i/\kv=.int .u8 k/\c.length<=402/\i<=1000/\Hid (Mf s w c lv wr)/\
   Hid ((k≠101/\k≠120/\i<=s.size/\s.size<g+i/\1<=g/\c.length<=i/\∃f,s.size<f+i/\c++Pl.gP s.data.toList f i=Pl.all s.data.toList)\/((k=101\/k=120)/\c=Pl.all s.data.toList)))
 case atStart=>
  refine⟨[],0,32,rfl,rfl,by simp,by omega,⟨World.ownsRow_nil _ _ _ _,Below.refl _ _,ae _⟩,Or.inl ⟨by omega,by omega,by omega,by omega,by omega,by simp,s.size+1,by omega,?_⟩⟩
  unfold Pl.all;simp
 case round=>
  obtain⟨c,i,k,rfl,rfl,hc,hi1,HT,HR⟩:=hrel;rcases HR.out with⟨hk1,hk2,hi2,hg,hg1,hci,f,hf,oZ⟩|⟨hk,rfl⟩
  ·obtain⟨hown,ag,hsz⟩:=HT.out;have q1:((k:Int) != 101)=true:=by rw[bne_iff_ne];omega
   have q2:((k:Int) != 120)=true:=by rw[bne_iff_ne];omega
   obtain⟨f1,rfl⟩:∃f1,f=f1+1:=⟨f-1,by omega⟩
   have hbl:=Pl.Lx s.data.toList i (by simpa using hi2)
   have hnx:=Pl.Cz s.data.toList i (by simpa using hi2)
   have CE:Pl.bl s.data.toList i<=s.size:=by simpa using hbl.2
   have lU:(Pl.tk s.data.toList i).pl+(Pl.tk s.data.toList i).raw.length<=s.size:=by simpa using hnx.1
   have HC:Hid (∀w1,Calls Tryz.prog 57 #[.string s,.int .i64 (Pl.bl s.data.toList i)] w1 fun e w'=>Below w1.heap.size w1 w'/\∃j:Nat,e=.returned (.tuple #[.agg #[.int .u8 (Pl.tk s.data.toList i).k,.string ⟨(Pl.rS (Pl.tk s.data.toList i)).toArray⟩,.int .i64 (Pl.tk s.data.toList i).n,.int .i64 (Pl.tk s.data.toList i).pl],.int .i64 j])/\j<=1000/\(¬((Pl.tk s.data.toList i).k=101\/(Pl.tk s.data.toList i).k=120)->j=(Pl.tk s.data.toList i).pl+(Pl.tk s.data.toList i).raw.length)):=fun w1=>aen s _ w1 CE hs
   have HA:Hid (c++Pl.gP s.data.toList (f1+1) i=Pl.all s.data.toList):=oZ;have HJ:Hid (Pl.bl s.data.toList i=i+((s.data.toList.drop i).takeWhile Pl.dC).length):=rfl;have HN:Hid ((Pl.tk s.data.toList i).pl+(Pl.tk s.data.toList i).raw.length<=s.size/\((Pl.tk s.data.toList i).k=101\/(Pl.tk s.data.toList i).k=120\/i+1<=(Pl.tk s.data.toList i).pl+(Pl.tk s.data.toList i).raw.length)):=⟨lU,hnx.2⟩;have ux:Hid (Pl.gP s.data.toList (f1+1) i=if(Pl.tk s.data.toList i).k=101\/(Pl.tk s.data.toList i).k=120 then[Pl.tk s.data.toList i] else Pl.tk s.data.toList i::Pl.gP s.data.toList f1 ((Pl.tk s.data.toList i).pl+(Pl.tk s.data.toList i).raw.length)):=by
    show _=_;rw[Pl.gP]
   clear oZ hnx hbl lU;generalize Pl.bl s.data.toList i=b at*;generalize Pl.tk s.data.toList i=t at*;generalize hrs:(Pl.rS t)=rs at*;have TN:Hid (Pl.rS t=rs):=hrs;clear hrs;clear HR HT
   go_wp2_with fail
   obtain⟨wo,rfl⟩:∃wo:World,wo=wr:=⟨_,rfl⟩
   go_loop [4] (fun t=>∃j:Nat,j<=s.size/\t=.int .i64 j/\Hid (j+((s.data.toList.drop j).takeWhile Pl.dC).length=b)) (fun t=>s.size-(intOf t).toNat)
   case atStart=>exact⟨i,hi2,rfl,HJ.out.symm⟩
   case round=>
    obtain⟨j,hj,rfl,HE⟩:=hrel;have TP:(¬∃h:j<s.size,Pl.dC s[j]=true)->j=b:=by
     intro h;have h2:=HE.out;by_cases hlt:j<s.size
     ·have hp':Pl.dC s[j]=false:=by
       cases hp:Pl.dC s[j]
       ·rfl
       ·exact absurd ⟨hlt,hp⟩ h
      have h1:=CD Pl.dC s.data.toList j (by simpa using hlt) hp'
      omega
     ·rw[zh (by simp;omega:s.data.toList.length<=j)] at h2
      simpa using h2
    have HST:Hid ((¬∃h:j<s.size,Pl.dC s[j]=true)->j=b):=TP;clear TP;by_cases hgo:∃h:j<s.size,Pl.dC s[j]=true
    ·obtain⟨hlt,hp⟩:=hgo;have HS:Hid (j+1+((s.data.toList.drop (j+1)).takeWhile Pl.dC).length=b):=by
      have h1:=CC Pl.dC s.data.toList j (by simpa using hlt) hp
      have h2:=HE.out;show _=_;omega
     have aep:((s[j].toNat:Int) == 32)=true:=by have:=of_decide_eq_true hp;simp;omega
     clear HE HST hp
     go_wp2_with fail
     go_round
     case rel=>exact⟨j+1,by omega,by go_num,HS⟩
     case measure=>simp[intOf];omega
    ·have hjb:=HST.out hgo;subst hjb;clear HE HST;by_cases hlt:j<s.size
     ·have aep:((s[j].toNat:Int) == 32)=false:=by
       have:¬Pl.dC s[j]=true:=fun h=>hgo ⟨hlt,h⟩
       unfold Pl.dC at this;simp at this⊢;omega
      clear hgo
      go_wp2_with fail
      refine(HC.out _).mono ?_;rintro e w1 ⟨hb1,j1,rfl,Mh,vX⟩;have cC:Hid (¬(t.k=101\/t.k=120)->j1=t.pl+t.raw.length):=vX;clear vX;have hown1:=aJ hown (fun k hk=>hb1.block k (au hown k hk).2)
      have hs1:=hb1.size
      go_wp2_with (at_builtin;refine wpList_append_lies _ rfl (.tmp 32) (.tmp 34) 52 rfl w.heap.size 61 i0 _ 4 40 Tryz.underlying52 hi hz0 hz1 hz2 rfl (by decide) u3 c.length (pV c) rfl (aJ hown1 (fun k hk=>(Below.heap_alloc _ _ _ (by have:=(au hown1 k hk).2;simp;omega)).trans (Below.heap_alloc _ _ _ (au hown1 k hk).2))) ⟨w1.heap.size+1,0,none⟩ 1 1 [.int .u8 t.k,.string ⟨rs.toArray⟩,.int .i64 t.n,.int .i64 t.pl] rfl rfl (World.news_of_block (cs:= #[.int .u8 t.k,.string ⟨rs.toArray⟩,.int .i64 t.n,.int .i64 t.pl]) (t:=61) (fr:=(0,0)) (by have:=heap_alloc_new (w1.alloc (.cells #[.int .u8 t.k,.string ⟨rs.toArray⟩,.int .i64 t.n,.int .i64 t.pl] 61)) (.cells #[.int .u8 t.k,.string ⟨rs.toArray⟩,.int .i64 t.n,.int .i64 t.pl] 61);simpa using this)) (by simp[Value.oneCell']) (by decide) (by unfold maxLen;omega) (by omega) (by simp;omega) (w1.heap.size+2) (by simp) ?_;intro g cap w2 ho hgrow hat nR;have dK:=(Hc hgrow (fun e=>by have:=(au hown1 _ e).2;omega)).1;have x0:w2.cell? ⟨w1.heap.size,0,none⟩=some (.int .u8 t.k):=cell_of dK 0)
      have hk2:=(Hc hgrow (fun e=>by have:=(au hown1 _ e).2;omega)).2
      have iB:Mf s w (c++[t]) (.slice (some ⟨g,0,none⟩) (c.length+1) cap) w2:=by
       refine⟨?_,?_,?_⟩
       ·rw[TM];simp only[aS,bO,fE,jd];rw[<-TN.out] at ho;exact ho
       ·exact(((ag.trans (hb1.mono hsz)).alloc (by omega) _).alloc (by simp;omega) _).grown hgrow (by simp;omega) (fun k hk=>(au hown1 k hk).1)
       ·have:=hgrow.size;simp at this;omega
      obtain⟨n1,n2⟩:=HN.out;have htk:=ux.out;have hap:=HA.out
      go_roundg (gk-1)
      case measure=>omega
      case rel=>
       refine⟨c++[t],j1,t.k,rfl,rfl,?_,Mh,iB,?_⟩
       ·simp;omega
       ·by_cases hst:t.k=101\/t.k=120
        ·refine Or.inr ⟨hst,?_⟩;rw[htk,if_pos hst] at hap;exact hap
        ·have hj:=cC.out hst;have hge:i+1<=t.pl+t.raw.length:=by
          rcases n2 with h|h|h
          ·exact absurd (Or.inl h) hst
          ·exact absurd (Or.inr h) hst
          ·exact h
         rw[htk,if_neg hst] at hap;refine Or.inl ⟨fun h=>hst (Or.inl h),fun h=>hst (Or.inr h),by omega,by omega,by omega,by simp;omega,f1,by omega,?_⟩
         rw[hj,fD];exact hap
     ·clear hgo
      go_wp2_with fail
      refine(HC.out _).mono ?_;rintro e w1 ⟨hb1,j1,rfl,Mh,vX⟩;have cC:Hid (¬(t.k=101\/t.k=120)->j1=t.pl+t.raw.length):=vX;clear vX;have hown1:=aJ hown (fun k hk=>hb1.block k (au hown k hk).2)
      have hs1:=hb1.size
      go_wp2_with (at_builtin;refine wpList_append_lies _ rfl (.tmp 32) (.tmp 34) 52 rfl w.heap.size 61 i0 _ 4 40 Tryz.underlying52 hi hz0 hz1 hz2 rfl (by decide) u3 c.length (pV c) rfl (aJ hown1 (fun k hk=>(Below.heap_alloc _ _ _ (by have:=(au hown1 k hk).2;simp;omega)).trans (Below.heap_alloc _ _ _ (au hown1 k hk).2))) ⟨w1.heap.size+1,0,none⟩ 1 1 [.int .u8 t.k,.string ⟨rs.toArray⟩,.int .i64 t.n,.int .i64 t.pl] rfl rfl (World.news_of_block (cs:= #[.int .u8 t.k,.string ⟨rs.toArray⟩,.int .i64 t.n,.int .i64 t.pl]) (t:=61) (fr:=(0,0)) (by have:=heap_alloc_new (w1.alloc (.cells #[.int .u8 t.k,.string ⟨rs.toArray⟩,.int .i64 t.n,.int .i64 t.pl] 61)) (.cells #[.int .u8 t.k,.string ⟨rs.toArray⟩,.int .i64 t.n,.int .i64 t.pl] 61);simpa using this)) (by simp[Value.oneCell']) (by decide) (by unfold maxLen;omega) (by omega) (by simp;omega) (w1.heap.size+2) (by simp) ?_;intro g cap w2 ho hgrow hat nR;have dK:=(Hc hgrow (fun e=>by have:=(au hown1 _ e).2;omega)).1;have x0:w2.cell? ⟨w1.heap.size,0,none⟩=some (.int .u8 t.k):=cell_of dK 0)
      have hk2:=(Hc hgrow (fun e=>by have:=(au hown1 _ e).2;omega)).2
      have iB:Mf s w (c++[t]) (.slice (some ⟨g,0,none⟩) (c.length+1) cap) w2:=by
       refine⟨?_,?_,?_⟩
       ·rw[TM];simp only[aS,bO,fE,jd];rw[<-TN.out] at ho;exact ho
       ·exact(((ag.trans (hb1.mono hsz)).alloc (by omega) _).alloc (by simp;omega) _).grown hgrow (by simp;omega) (fun k hk=>(au hown1 k hk).1)
       ·have:=hgrow.size;simp at this;omega
      obtain⟨n1,n2⟩:=HN.out;have htk:=ux.out;have hap:=HA.out
      go_roundg (gk-1)
      case measure=>omega
      case rel=>
       refine⟨c++[t],j1,t.k,rfl,rfl,?_,Mh,iB,?_⟩
       ·simp;omega
       ·by_cases hst:t.k=101\/t.k=120
        ·refine Or.inr ⟨hst,?_⟩;rw[htk,if_pos hst] at hap;exact hap
        ·have hj:=cC.out hst;have hge:i+1<=t.pl+t.raw.length:=by
          rcases n2 with h|h|h
          ·exact absurd (Or.inl h) hst
          ·exact absurd (Or.inr h) hst
          ·exact h
         rw[htk,if_neg hst] at hap;refine Or.inl ⟨fun h=>hst (Or.inl h),fun h=>hst (Or.inr h),by omega,by omega,by omega,by simp;omega,f1,by omega,?_⟩
         rw[hj,fD];exact hap
  ·obtain⟨hown,ag,_⟩:=HT.out;rcases hk with rfl|rfl
   ·clear HR HT
    go_wp2_with fail
    go_ret
    exact⟨_,rfl,hown,ag⟩
   ·clear HR HT
    go_wp2_with fail
    go_ret
    exact⟨_,rfl,hown,ag⟩
theorem TQ(rb:Nat)(s:ByteArray)(A r:List Pl.Tk)(x:Pl.Tk)(rg:List (List (Int×Int)))(w:World)(hR:RD rb s A (x::r) rg w)(hx:x.k≠110):
  Calls Tryz.prog 196 #[.pointer (some ⟨rb,0,none⟩)] w fun e w'=>e=.returned (.bool false)/\RD rb s A (x::r) rg w'/\Below rb w w':=by
 have hlt:=hR.lt;obtain⟨t',r',hl,c0,c1,c2,c3,c4⟩:=hR.cells;injection hl with h1 h2;subst h1 h2
 go_enter Tryz.func196,Tryz.ntmps196
 go_wp2_with fail
 refine(SP rb s A r x _ _ (hR.alloc _) hx).mono ?_;rintro e w1 ⟨rfl,rfl⟩
 go_wp2_with fail
 go_ret
 exact⟨rfl,hR.alloc _,(Below.refl rb w).alloc (by omega) _⟩
theorem aeq(hO:mW)(rb:Nat)(s:ByteArray)(A r:List Pl.Tk)(x y:Pl.Tk)(rg:List (List (Int×Int)))(w:World)(cx:Cx rb s A)(hR:RD rb s A (x::y::r) rg w)(hG:Gl w)(hx:x.k=110)(hy:y.k≠110):
  Calls Tryz.prog 196 #[.pointer (some ⟨rb,0,none⟩)] w fun e w'=>e=.returned (.bool false)/\RD rb s A (y::r) rg w'/\Below rb w w':=by
 have hlt:=hR.lt;obtain⟨t',r',hl,c0,c1,c2,c3,c4⟩:=hR.cells;injection hl with h1 h2;subst h1 h2
 go_enter Tryz.func196,Tryz.ntmps196
 go_wp2_with fail
 refine(LH hO rb s A (y::r) x _ _ cx (hR.alloc _) (hG.alloc _) hx).mono ?_;rintro e w1 ⟨rfl,dJ,hb1,hk1⟩;clear c0 c1 c2 c3 c4;obtain⟨t',r',hl,c0,c1,c2,c3,c4⟩:=dJ.cells;injection hl with h1 h2;subst h1 h2;have vO:=dJ.lt
 go_wp2_with fail
 refine(SP rb s A r y _ _ (dJ.alloc _) hy).mono ?_;rintro e w2 ⟨rfl,rfl⟩
 go_wp2_with fail
 go_ret
 exact⟨rfl,dJ.alloc _,(((Below.refl rb w).alloc (by omega) _).trans hb1).alloc (by omega) _⟩
theorem RD.chain{rb:Nat}{s:ByteArray}{A l:List Pl.Tk}{rg:List (List (Int×Int))}{w:World}(cx:Cx rb s A)(h:RD rb s A l rg w):Pl.eB s.data.toList l:=by
 obtain⟨c,t,r,hc,hl⟩:=h.suffix;exact Pl.LA _ c l (by rw[hc];exact cx.ch) (by rw[hl];simp)
theorem RD.le{rb:Nat}{s:ByteArray}{A l:List Pl.Tk}{rg:List (List (Int×Int))}{w:World}(h:RD rb s A l rg w):l.length<=A.length:=by
 obtain⟨c,t,r,hc,hl⟩:=h.suffix;rw[<-hc];simp
def nV(rb:Nat)(s:ByteArray)(A:List Pl.Tk)(b:Bool)(l':List Pl.Tk)(nW:List (List (Int×Int)))(w:World)(e:Ending)(w':World):Prop:=
 e=.returned (.bool b)/\(∃rg,RD rb s A l' rg w'/\(b=true->rg=nW))/\Below rb w w'
theorem aer(hO:mW)(rb:Nat)(s:ByteArray)(A l:List Pl.Tk)(rg:List (List (Int×Int)))(q:List (Int×Int))(w:World)(cx:Cx rb s A)(hR:RD rb s A l (rg++[q]) w)(hG:Gl w)(hq:q.length<=1000)(hrg:rg.length<=1000):
  Calls Tryz.prog 196 #[.pointer (some ⟨rb,0,none⟩)] w (nV rb s A (Pl.cE l).1 (Pl.cE l).2.1 (rg++[q++[(Pl.cE l).2.2]]) w):=by
 have hch:=hR.chain cx
 match l,hR,hch with
 |[],hR,hch=>exact hch.elim
 |[x],hR,hch=>
  have hx:x.k≠110:=by
   have:x.k=101\/x.k=120:=hch;omega
  refine(TQ rb s A [] x _ w hR hx).mono ?_;rintro e w' ⟨rfl,h1,h2⟩;exact⟨rfl,⟨_,h1,fun h=>(by cases h)⟩,h2⟩
 |x::y::r,hR,hch=>
  by_cases hx:x.k=110
  ·by_cases hy:y.k=110
   ·have e:Pl.cE (x::y::r)=(true,r,(x.n,y.n)):=by simp[Pl.cE,hx,hy]
    rw[e];refine(adB hO rb s A r x y rg q w cx hR hG hx hy hq hrg).mono ?_;rintro e w' ⟨rfl,h1,h2⟩;exact⟨rfl,⟨_,h1,fun _=>rfl⟩,h2⟩
   ·have e:Pl.cE (x::y::r)=(false,y::r,(0,0)):=by simp[Pl.cE,hx,hy]
    rw[e];refine(aeq hO rb s A r x y _ w cx hR hG hx hy).mono ?_;rintro e w' ⟨rfl,h1,h2⟩;exact⟨rfl,⟨_,h1,fun h=>(by cases h)⟩,h2⟩
  ·have e:Pl.cE (x::y::r)=(false,x::y::r,(0,0)):=by simp[Pl.cE,hx]
   rw[e];refine(TQ rb s A _ x _ w hR hx).mono ?_;rintro e w' ⟨rfl,h1,h2⟩;exact⟨rfl,⟨_,h1,fun h=>(by cases h)⟩,h2⟩
end Go.Proofs.YtkjhhooecopolaaGreatDoor

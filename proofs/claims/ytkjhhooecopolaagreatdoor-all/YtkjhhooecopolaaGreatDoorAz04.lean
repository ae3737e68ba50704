import Derived.Test.YtkjhhooecopolaaGreatDoorAza
import Derived.Test.YtkjhhooecopolaaGreatDoorRows
set_option maxRecDepth 100000
set_option maxHeartbeats 4000000
namespace Go.Proofs.YtkjhhooecopolaaGreatDoor
open Go.Proofs.Tryz
open Option renaming none->Z
open Bool renaming true->aP,false->aQ
section
namespace Pl
structure Tk where
 k:Nat
 raw:V UInt8
 n:Int
 pl:Nat
def apP(c:UInt8):Bool:=decide (65<=c.toNat/\c.toNat<=90)
def cE(c:UInt8):Bool:=decide (48<=c.toNat/\c.toNat<=57)
def kh(c:UInt8):Bool:=decide (c.toNat=32)
def fH(l:V UInt8):Nat:=l.foldl (λa c=>10*a+(c.toNat-48)) 0
def dY(l:V UInt8)(i:Nat):Tk:=
 match l with
 |[]=>⟨101,[],0,i⟩
 |c::r=>
  if c.toNat=40\/c.toNat=41\/c.toNat=44\/c.toNat=47 then⟨c.toNat,[c],0,i⟩
  else if apP c=aP then⟨119,(c::r).takeWhile apP,0,i⟩
  else if c.toNat=45 then
   (if r.takeWhile cE=[]\/9<(r.takeWhile cE).length then⟨120,[],0,i⟩ else⟨110,c::r.takeWhile cE, -(fH (r.takeWhile cE):Int),i⟩)
  else
   (if(c::r).takeWhile cE=[]\/9<((c::r).takeWhile cE).length then⟨120,[],0,i⟩ else⟨110,(c::r).takeWhile cE,(fH ((c::r).takeWhile cE):Int),i⟩)
def bl(s:V UInt8)(i:Nat):Nat:=i+((s.drop i).takeWhile kh).length
def tk(s:V UInt8)(i:Nat):Tk:=dY (s.drop<|bl s i)<|bl s i
def kA(s:V UInt8):Nat->Nat->V Tk
 |0,i=>[tk s i]
 |f+1,i=>if(tk s i).k=101\/(tk s i).k=120 then[tk s i] else tk s i::kA s f ((tk s i).pl+(tk s i).raw.length)
def aaV(s:V UInt8):V Tk->Prop
 |[]=>False
 |[t]=>t.k=101\/t.k=120
 |t::a::r=>¬(t.k=101\/t.k=120)/\a=tk s (t.pl+t.raw.length)/\aaV s (a::r)
theorem Fd(s:V UInt8)(i:Nat)(h:i<=s.length):i<=bl s i/\bl s i<=s.length:=by have:=(mH kh (l:=s.drop i)).length_le;simp only[jQ] at this;unfold bl;omega
theorem V0(l:V UInt8)(i:Nat):(dY l i).pl=i:=by
 unfold dY;repeat' split
 all_goals rfl
theorem V1(l:V UInt8)(i:Nat):(dY l i).raw.length<=l.length/\((dY l i).k=101\/(dY l i).k=120\/1<=(dY l i).raw.length):=by unfold dY;split;exact⟨aX _,j rfl⟩;rename_i c r;have a:=(mH apP (l:=c::r)).length_le;have b:=(mH cE (l:=c::r)).length_le;have d:=(mH cE (l:=r)).length_le;simp only[dc] at a b d⊢;split;exact⟨E,E⟩;split;rename_i f;refine⟨a,F<|F ?_⟩;simp[f];split;split;exact⟨E,F<|j rfl⟩;exact⟨aq,E⟩;split;exact⟨E,F<|j rfl⟩;rename_i h;refine⟨b,F<|F ?_⟩;have:¬(c::r).takeWhile cE=[]:=λe=>h<|j e;exact fT.2 this
theorem V2(s:V UInt8)(i:Nat):(tk s i).pl=bl s i:=V0 _ _
theorem Az(s:V UInt8)(i:Nat)(h:i<=s.length):(tk s i).pl+(tk s i).raw.length<=s.length/\((tk s i).k=101\/(tk s i).k=120\/i+1<=(tk s i).pl+(tk s i).raw.length):=by have a:=V1 (s.drop<|bl s i)<|bl s i;have:=Fd s i h;rw[V2];simp only[jQ] at a;unfold tk;refine⟨U,?_⟩;rcases a.2 with h|h|h;exact j h;exact F (j h);exact F (F U)
theorem Fe(s:V UInt8)(f i:Nat):∃r,kA s f i=tk s i::r:=by cases f with|zero=>exact⟨[],rfl⟩|succ f=>by_cases h:(tk s i).k=101\/(tk s i).k=120;exact⟨[],by rw[kA,y h]⟩;exact⟨_,by rw[kA,X h]⟩
theorem KJ(s:V UInt8):∀(f i:Nat),i<=s.length->s.length<f+i->aaV s (kA s f i)
 |0,i,h,d=>U
 |f+1,i,h,d=>by by_cases a:(tk s i).k=101\/(tk s i).k=120;rw[kA,y a];exact a;rw[kA,X a];have b:=Az s i h;have:i+1<=(tk s i).pl+(tk s i).raw.length:=(by rcases b.2 with h|h|h;exact absurd (j h) a;exact absurd (F h) a;exact h);obtain⟨r,e⟩:=Fe s f<|(tk s i).pl+(tk s i).raw.length;have c:=KJ s f ((tk s i).pl+(tk s i).raw.length) b.1 U;rw[e] at c⊢;exact⟨a,rfl,c⟩
def all(s:V UInt8):V Tk:=kA s (s.length+1) 0
theorem sP(s:V UInt8):aaV s (all s):=KJ s _ 0 (iq _) U
def mk(c:Nat):V Tk->Bool×V Tk
 |[]=>(aQ,[])
 |t::r=>if t.k=c then(aP,r) else(aQ,t::r)
def wd(w:V UInt8):V Tk->Bool×V Tk
 |[]=>(aQ,[])
 |t::r=>if t.k=119/\t.raw=w then(aP,r) else(aQ,t::r)
def dW:V Tk->Bool×V Tk×(Int×Int)
 |[]=>(aQ,[],(0,0))
 |[x]=>(aQ,[x],(0,0))
 |x::y::r=>if x.k=110 then(if y.k=110 then(aP,r,(x.n,y.n)) else(aQ,y::r,(0,0))) else(aQ,x::y::r,(0,0))
def eW{α:Type}(a:V Tk->Bool×V Tk×α):Nat->V Tk->V α->Bool×V Tk×V α
  | 0,l,b=>(aQ,l,b)
  | f+1,l,b=>
    if(a l).1=aP then
      (if(mk 44 (a l).2.1).1=aP then eW a f (mk 44 (a l).2.1).2 (b++[(a l).2.2])
       else((mk 41 (a l).2.1).1,(mk 41 (a l).2.1).2,b++[(a l).2.2]))
    else(aQ,(a l).2.1,b)
def EMPTY:V UInt8:=[69,77,80,84,89]
def ew:V UInt8:=[80,79,76,89,71,79,78]
def fA:V UInt8:=[77,85,76,84,73,80,79,76,89,71,79,78]
def eY(l:V Tk):Bool×V Tk×V (Int×Int):=
 if(mk 40 l).1=aP then
  (if(mk 41 (mk 40 l).2).1=aP then(aP,(mk 41 (mk 40 l).2).2,[]) else eW dW l.length (mk 40 l).2 [])
 else(aQ,l,[])
def cZ(l:V Tk):Bool×V Tk×V (V (Int×Int)):=
 if(wd EMPTY l).1=aP then(aP,(wd EMPTY l).2,[])
 else if(mk 40 l).1=aP then eW eY l.length (mk 40 l).2 []
 else(aQ,l,[])
def gu(l:V Tk):Bool×V Tk×V (V<|V (Int×Int)):=
 if(wd EMPTY l).1=aP then(aP,(wd EMPTY l).2,[])
 else if(mk 40 l).1=aP then eW cZ l.length (mk 40 l).2 []
 else(aQ,l,[])
def pk(t:Tk):Int:=if t.k=101 then 1 else if t.k=119 then 2 else if t.k=110 then 3 else if t.k=40\/t.k=41\/t.k=44 then 4 else 0
def fI(t:Tk):V UInt8:=if t.k=47 then[] else t.raw
theorem extract_eq(s:ByteArray)(a b:Nat):s.extract a b=⟨((s.data.toList.drop a).take<|b-a).toArray⟩:=by apply ByteArray.ext;apply Array.toList_inj.1;simp[ByteArray.data_extract]
theorem drop_cons(s:ByteArray)(j:Nat)(h:j<s.size):s.data.toList.drop j=s[j]::s.data.toList.drop (j+1):=
 lU (by simpa using h)
theorem take_takeWhile(p:UInt8->Bool)(l:V UInt8):l.take (l.takeWhile p).length=l.takeWhile p:=
 List.prefix_iff_eq_take.1 (mH p) |>.symm
theorem KK(s:V UInt8)(t:Tk)(r:V Tk)(h:aaV s (t::r))(c:¬(t.k=101\/t.k=120)):
  ∃a b,r=a::b/\a=tk s (t.pl+t.raw.length)/\aaV s r:=by cases r with|nil=>exact absurd h c|cons a b=>exact⟨a,b,rfl,h.2.1,h.2.2⟩
theorem Ff(s:V UInt8):∀(c l:V Tk),aaV s (c++l)->l≠[]->aaV s l
 |[],l,h,_=>h
 |t::c,l,h,b=>by
  cases c with
  |nil=>
   cases l with
   |nil=>exact absurd rfl b
   |cons a r=>exact h.2.2
  |cons a d=>exact Ff s (a::d) l h.2.2 b
def Place(s:V UInt8)(t:Tk):Prop:=t.pl+t.raw.length<=s.length/\(∃i,i<=s.length/\t=tk s i)
theorem KM(s:V UInt8):∀(l:V Tk),aaV s l->(∀t r,l=t::r->Place s t)->∀t∈l,Place s t
 |[],h,_,t,c=>by simp at c
 |[a],h,d,t,c=>by rw[cI] at c;subst c;exact d t [] rfl
 |a::b::r,h,d,t,c=>by have f:=d a (b::r) rfl;rcases bK.1 c with rfl|c;exact f;refine KM s (b::r) h.2.2 ?_ t c;intro n m e;injection e with g k;subst g;exact⟨by rw[h.2.1];exact(Az s _ f.1).1,_,f.1,h.2.1⟩
theorem AA(s:V UInt8):∀t∈all s,Place s t:=by refine KM s _ (sP s) ?_;intro t r e;obtain⟨d,b⟩:=Fe s (s.length+1) 0;unfold all at e;rw[b] at e;injection e with a c;subst a;exact⟨(Az s 0<|iq _).1,0,iq _,rfl⟩
theorem KN(s:V UInt8):∀(f i:Nat),(kA s f i).length<=f+1
 |0,i=>by simp[kA]
 |f+1,i=>by rw[kA];split;simp;have:=KN s f<|(tk s i).pl+(tk s i).raw.length;simp;omega
theorem sU(s:V UInt8):(all s).length<=s.length+2:=KN s _ 0
end Pl
namespace Pl
def Form(t:Tk):Prop:=((t.k=101\/t.k=120)/\t.raw=[])\/(∃c:UInt8,t.raw=[c]/\t.k=c.toNat/\(c.toNat=40\/c.toNat=41\/c.toNat=44\/c.toNat=47))\/
 (t.k=119/\∃c r,t.raw=c::r/\apP c=aP)\/(t.k=110/\∃c r,t.raw=c::r/\(cE c=aP\/c.toNat=45))
theorem Wo(l:V UInt8)(i:Nat):Form (dY l i):=by unfold dY;split;exact j ⟨j rfl,rfl⟩;rename_i c r;split;rename_i h;exact F<|j ⟨c,rfl,rfl,h⟩;split;rename_i h;exact F<|F<|j ⟨rfl,c,r.takeWhile apP,by simp[h],h⟩;split;rename_i h;split;exact j ⟨F rfl,rfl⟩;exact F (F<|F ⟨rfl,c,_,rfl,F h⟩);split;exact j ⟨F rfl,rfl⟩;rename_i h;by_cases a:cE c=aP;exact F (F<|F ⟨rfl,c,r.takeWhile cE,by simp[a],j a⟩);exact absurd (j<|by simp[a]) h
theorem Fs{s:V UInt8}{t:Tk}(h:Place s t):Form t:=by obtain⟨_,i,_,rfl⟩:=h;exact Wo _ _
theorem AH{t:Tk}(h:Form t)(c:UInt8)(g:c.toNat=40\/c.toNat=41\/c.toNat=44):fI t=[c]↔t.k=c.toNat:=by unfold fI;rcases h with⟨f,b⟩|⟨d,b,f,a⟩|⟨f,d,r,b,a⟩|⟨f,d,r,b,a⟩;rw[X U,b];constructor;intro h;cases h;intro h;omega;by_cases e:t.k=47;rw[y e];constructor;intro h;cases h;intro h;omega;rw[X e,b,f];constructor;intro h;injection h with h;rw[h];intro h;rw[Vm.1 h];rw[X U,b];constructor;intro h;injection h with h;have:=ft a;rw[h] at this;omega;intro h;omega;rw[X U,b];constructor;intro h;injection h with h;rcases a with a|a;have:=ft a;rw[h] at this;omega;rw[h] at a;omega;intro h;omega
theorem K5{t:Tk}(h:Form t)(q:V UInt8)(a:UInt8)(b:V UInt8)(k:q=a::b)(l:apP a=aP):fI t=q↔(t.k=119/\t.raw=q):=by have m:=ft l;unfold fI;rcases h with⟨g,e⟩|⟨d,e,g,c⟩|⟨g,d,r,e,c⟩|⟨g,d,r,e,c⟩;rw[X U,e,k];constructor;intro h;cases h;intro h;cases h.2;by_cases f:t.k=47;rw[y f,k];constructor;intro h;cases h;intro h;omega;rw[X f,e,k];constructor;intro h;injection h with h;rw[h] at c;omega;intro h;omega;rw[X U];exact⟨λh=>⟨g,h⟩,λh=>h.2⟩;rw[X U,e,k];constructor;intro h;injection h with h;rcases c with c|c;have:=ft c;rw[h] at this;omega;rw[h] at c;omega;intro h;omega
theorem AI{t:Tk}:pk t=3↔t.k=110:=by unfold pk;constructor;(.intro h;(repeat' split at h);all_goals first |assumption|omega);intro h;rw[X U,X U,y h]
theorem K6{t:Tk}:pk t=1↔t.k=101:=by unfold pk;constructor;(.intro h;(repeat' split at h);all_goals first |assumption|omega);intro h;rw[y h]
end Pl
end
section
open Go.ChangeShapes Go.WideShapes Go.ChangeAt Go.RowKit
theorem own:ownKnob Tryz.prog.godebug=Z:=z
theorem laidOut:laidOutB prog=aP:=z
theorem aiU:mapsRowed prog=aP:=z
theorem aiV:Tryz.prog.stopsHeard=aP:=z
theorem aiW:Tryz.prog.mayEnter=aP:=z
theorem aiX:aP=Tryz.prog.looks []:=z
theorem ai7:(Rows.fixesRow.inPlace == Tryz.prog.inPlace 8)=aP:=z
theorem ai8:(Rows.fixesRow.unfollowed == Tryz.prog.unfollowed 8)=aP:=z
theorem ai9:(Rows.fixesRow.recurses == Tryz.prog.recurses 8)=aP:=z
theorem aja:(Rows.fixesRow.named == Tryz.prog.varsNamed 8)=aP:=z
theorem ajb:(Rows.fixesRow.lifted == Tryz.prog.liftsFinal)=aP:=z
theorem ajc:(Rows.fixesRow.plainKeys == Tryz.prog.plainKeys)=aP:=z
theorem ajd:aQ=Rows.fixesRow.goesBy prog:=z
theorem aje:joinedFacts prog 8 Tryz.f8 Rows.fixesSpec Rows.fixesRow=aP:=by unfold joinedFacts;simp only[laidOut,aiU,aiV,aiW,ai7,ai8,ai9,aja,ajb,ajc,anu];kernel_rfl
theorem aqR:(Rows.allRow.inPlace == Tryz.prog.inPlace 12)=aP:=z
theorem aqS:(Rows.allRow.unfollowed == Tryz.prog.unfollowed 12)=aP:=z
theorem aqT:(Rows.allRow.recurses == Tryz.prog.recurses 12)=aP:=z
theorem aqU:(Rows.allRow.named == Tryz.prog.varsNamed 12)=aP:=z
theorem aqV:(Rows.allRow.lifted == Tryz.prog.liftsFinal)=aP:=z
theorem aqW:(Rows.allRow.plainKeys == Tryz.prog.plainKeys)=aP:=z
theorem aqX:aQ=Rows.allRow.goesBy prog:=z
theorem aqY:joinedFacts prog 12 Tryz.f12 Rows.allSpec Rows.allRow=aP:=by unfold joinedFacts;simp only[laidOut,aiU,aiV,aiW,aqR,aqS,aqT,aqU,aqV,aqW,anu];kernel_rfl
end
end Go.Proofs.YtkjhhooecopolaaGreatDoor

import Derived.Test.YtkjhhooecopolaaGreatDoorProg
import Derived.Test.YtkjhhooecopolaaGreatDoorFz04
import Derived.Test.YtkjhhooecopolaaGreatDoorFz03
import Derived.Test.YtkjhhooecopolaaGreatDoorFz02
set_option maxRecDepth 100000
set_option maxHeartbeats 4000000
namespace Go.Proofs.YtkjhhooecopolaaGreatDoor
open Go.Proofs.Tryz
open Value renaming int->I,complex->A,agg->u,bool->aC,string->aD,slice->D,pointer->aF,tuple->aG
open IntKind renaming i64->J
open FloatKind renaming f64->C
open Ending renaming returned->aJ
open Go renaming World->G,Value->Y,floatOfInt->aM
open Option renaming some->K,none->Z
open Bool renaming true->aP,false->aQ
section
open Go.RowKit
variable{s:ByteArray}{w w' w1:G}{rg:V (V (Int×Int))}{l:V Pl.Tk}{xs:V Y}{b k base size n rb g:Nat}{o:Obj}{e t T:TypeId}{v rv:Y}
theorem nD{a b:Bool}(h:a=b):aJ (aC a)=aJ (aC b):=by rw[h]
theorem AB{k:IntKind}{a b:Int}(h:a=b):aJ (I k a)=aJ (I k b):=by rw[h]
theorem V3(c:UInt8)(w:G):
  M 90 #[I .u8 c.toNat] w λe w'=>e=aJ (aC<|Pl.kh c)/\w'=w:=by
 go_enter func90,ntmps90
 go_wp2
 go_ret;refine⟨nD ?_,rfl⟩;unfold Pl.kh;rw[ke];simp;omega
theorem qT(c:UInt8)(w:G):
  M 91 #[I .u8 c.toNat] w λe w'=>e=aJ (aC<|Pl.apP c)/\w'=w:=by
 go_enter func91,ntmps91
 go_wp2
 all_goals
  go_ret;refine⟨nD ?_,rfl⟩;unfold Pl.apP;rw[ke];simp;omega
theorem sV(c:UInt8)(w:G):
  M 92 #[I .u8 c.toNat] w λe w'=>e=aJ (aC<|Pl.cE c)/\w'=w:=by
 go_enter func92,ntmps92
 go_wp2
 all_goals
  go_ret;refine⟨nD ?_,rfl⟩;unfold Pl.cE;rw[ke];simp;omega
theorem Fg(p:UInt8->Bool)(s:V UInt8)(i:Nat)(h:i<s.length)(a:p s[i]=aP):
  ((s.drop i).takeWhile p).length=((s.drop<|i+1).takeWhile p).length+1:=by
 rw[lU h,Vl,y a];rfl
theorem Fh(p:UInt8->Bool)(s:V UInt8)(i:Nat)(h:i<s.length)(a:p s[i]=aQ):
  ((s.drop i).takeWhile p).length=0:=by
 rw[lU h,Vl,X<|by simp[a]];rfl
theorem V4(F:Nat)(x:∀(a:Array Y)(w:G),(callFunc F a).run prog w=.ok (.enter F a) w)(P:UInt8->Bool)(l:∀(c:UInt8)(w:G),M F #[I .u8 c.toNat] w λe w'=>e=aJ (aC<|P c)/\w'=w)(s:ByteArray)(i:Int)(w:G)(q:0<=i)(k:i<=s.size)(Q:s.size<=400):
  M 89 #[aD s,I J i,.func (.func F) #[] #[]] w λe w'=>e=aJ (I J<|i+((s.data.toList.drop i.toNat).takeWhile P).length)/\w'=w:=by
 obtain⟨n,rfl⟩:=ajh q;rw[qJ];have v:n<=s.size:=U;clear q k;go_enter func89,ntmps89;go_wp2_with fail
 go_loop [1] (λt=>∃j:Nat,j<=s.size/\t=I J j/\j+((s.data.toList.drop j).takeWhile P).length=n+((s.data.toList.drop n).takeWhile P).length) (λt=>s.size-(intOf t).toNat)
 case atStart=>exact⟨n,v,rfl,rfl⟩
 case round=>
  obtain⟨j,B,rfl,r⟩:=hrel;have b:H (j+((s.data.toList.drop j).takeWhile P).length=n+((s.data.toList.drop n).takeWhile P).length):=r;clear r;by_cases g:j<s.size
  .by_cases m:P s[j]=aP
   .have d:H (j+1+((s.data.toList.drop<|j+1).takeWhile P).length=n+((s.data.toList.drop n).takeWhile P).length):=by
     have k:=Fg P s.data.toList j (by simpa using g) m;have f:=b.o;show _=_;omega
    clear b;go_wp2_with (refine(l _ _).mono ?_;rintro e w' ⟨rfl,rfl⟩)
    go_round
    case rel=>exact⟨j+1,U,af,d.o⟩
    case measure=>simp[intOf];omega
   .have p:P s[j]=aQ:=by simpa using m
    have d:H (j=n+((s.data.toList.drop n).takeWhile P).length):=by
     have k:=Fh P s.data.toList j (by simpa using g) p;have f:=b.o;show _=_;omega
    clear b m;go_wp2_with (refine(l _ _).mono ?_;rintro e w' ⟨rfl,rfl⟩);go_ret;exact⟨AB (by have:=d.o;omega),rfl⟩
  .have d:H (j=n+((s.data.toList.drop n).takeWhile P).length):=by
    have f:=b.o;rw[qK (by simp;omega:s.data.toList.length<=j)] at f;simp at f;exact f
   clear b;go_wp2_with (refine(l _ _).mono ?_;rintro e w' ⟨rfl,rfl⟩);go_ret;exact⟨AB (by have:=d.o;omega),rfl⟩
theorem Fi(F:Nat)(d:∀(a:Array Y)(w:G),(callFunc F a).run prog w=.ok (.enter F a) w)(P:UInt8->Bool)(b:∀(c:UInt8)(w:G),M F #[I .u8 c.toNat] w λe w'=>e=aJ (aC<|P c)/\w'=w)(s:ByteArray)(i j:Nat)(w:G)(h:i<=s.size)(g:s.size<=400)(f:j=i+((s.data.toList.drop i).takeWhile P).length):
  M 89 #[aD s,I J i,.func (.func F) #[] #[]] w λe w'=>e=aJ (I J j)/\w'=w:=by
 refine(V4 F d P b s i w U U g).mono ?_;rintro e w' ⟨rfl,rfl⟩;exact⟨AB (by rw[f];simp),rfl⟩
abbrev qU:=Fi _ Tryz.call90 _ V3
abbrev V5:=Fi _ Tryz.call91 _ qT
abbrev KO:=Fi _ Tryz.call92 _ sV
structure Gl(w:G):Prop where
 sz:6<=w.heap.size
 es:∃tp p,w.var? Tryz.prog "strconv.ErrSyntax" =some #[.iface tp p]
 er:∃tp p,w.var? Tryz.prog "strconv.ErrRange" =some #[.iface tp p]
 tab:Lib.TabIs Tryz.prog w "internal/strconv.uint64pow10" .u64 Lib.pow10Tab
def fB(t:Pl.Tk):Array Y:= #[I J (Pl.pk t),aD ⟨(Pl.fI t).toArray⟩,I J t.n,I J t.pl]
def KP:Prop:=∀(s:ByteArray)(j:Nat)(w:G),j<s.size->s.size<=400->Gl w->(∀h:j<s.size,Pl.cE s[j]=aP\/s[j].toNat=45)->
  M 93 #[aD s,I J j] w (ai (u<|fB<|Pl.dY (s.data.toList.drop j) j) w)
theorem V6(s:ByteArray)(j:Nat)(h:s.size<=j):fB (Pl.dY (s.data.toList.drop j) j)= #[I J 1,aD ⟨#[]⟩,I J 0,I J j]:=by
 rw[qK aq];rfl
theorem V7(s:ByteArray)(j k:Nat)(h:j<s.size)(a:Pl.apP s[j]=aP)(c:k=j+((s.data.toList.drop j).takeWhile Pl.apP).length):
  fB (Pl.dY (s.data.toList.drop j) j)= #[I J 2,aD<|s.extract j k,I J 0,I J j]:=by
 rw[Pl.extract_eq,c,Ae,Pl.take_takeWhile,Pl.drop_cons s j h];have b:¬(s[j].toNat=40\/s[j].toNat=41\/s[j].toNat=44\/s[j].toNat=47):=by
  have:=ft a;omega
 simp only[Pl.dY];rw[X b,y a];rfl
theorem Fj(s:ByteArray)(j:Nat)(h:j<s.size)(c:s[j].toNat=40\/s[j].toNat=41\/s[j].toNat=44):
  fB (Pl.dY (s.data.toList.drop j) j)= #[I J 4,aD<|s.extract j<|j+1,I J 0,I J j]:=by
 rw[Pl.extract_eq,Ae,Pl.drop_cons s j h];have a:s[j].toNat=40\/s[j].toNat=41\/s[j].toNat=44\/s[j].toNat=47:=U;simp only[Pl.dY];rw[y a];have b:s[j].toNat≠101/\s[j].toNat≠119/\s[j].toNat≠110/\s[j].toNat≠47:=U;simp[fB,Pl.pk,Pl.fI,b,c]
theorem V8(s:ByteArray)(j:Nat)(h:j<s.size)(e:¬(s[j].toNat=40\/s[j].toNat=41\/s[j].toNat=44))(a:Pl.apP s[j]=aQ)(b:Pl.cE s[j]=aQ)(c:s[j].toNat≠45):
  fB (Pl.dY (s.data.toList.drop j) j)= #[I J 0,aD ⟨#[]⟩,I J 0,I J j]:=by
 rw[Pl.drop_cons s j h];simp only[Pl.dY];by_cases d:s[j].toNat=47
 .rw[y U];simp[fB,Pl.pk,Pl.fI,d]
 .rw[X U,X (by simp[a]),X c];simp[b,fB,Pl.pk,Pl.fI]
theorem globals:Tryz.prog.globalNamed "strconv.ErrSyntax" =some 0/\Tryz.prog.globalNamed "strconv.ErrRange" =some 1/\Tryz.prog.globalNamed "internal/strconv.uint64pow10" =some 3:=⟨by kernel_rfl,by kernel_rfl,by kernel_rfl⟩
theorem Gl.below{B:Nat}(h:Gl w)(a:Below B w w')(l:6<=B):Gl w':=by
 obtain⟨b,c,d⟩:=globals;obtain⟨g,p,e⟩:=h.es;obtain⟨k,q,f⟩:=h.er;refine⟨el h.sz a.size,⟨g,p,var?_below a b U e⟩,⟨k,q,var?_below a c U f⟩,var?_below a d U h.tab⟩
theorem Gl.alloc(h:Gl w)(o:Obj):Gl (w.alloc o):=
 h.below ((Below.refl w.heap.size w).alloc (aX _) o) h.sz
theorem AC{W:G}(a:ag W w1):(∀b o,b<W.heap.size->w1.cell? ⟨b,o,Z⟩=W.cell? ⟨b,o,Z⟩)/\(∀b o,b<W.heap.size->w1.frozen? ⟨b,o,Z⟩=W.frozen? ⟨b,o,Z⟩):=
 ⟨λb o h=>a.cell (p:=⟨b,o,Z⟩) h,λb o h=>a.frozen (p:=⟨b,o,Z⟩) h⟩
theorem KQ(W:KP)(s:ByteArray)(i:Nat)(w:G)(q:i<=s.size)(p:s.size<=400)(O:Gl w):
  M 60 #[aD s,I J i] w (ai (u<|fB<|Pl.tk s.data.toList i) w):=by
 have Q:=Pl.Fd s.data.toList i (by simpa using q);unfold Pl.tk;generalize Z:Pl.bl s.data.toList i=f at*;have A:f<=s.size:=by simpa using Q.2
 have r:H (f=i+((s.data.toList.drop i).takeWhile Pl.kh).length):=by rw[<-Z];rfl
 clear Z Q;by_cases g:f<s.size
 .have hne:((f:Int) == (s.size:Int))=aQ:=aq;cases hl:Pl.apP s[f]
  .cases X:Pl.cE s[f]
   .by_cases P:s[f].toNat=45
    .have C:((s[f].toNat:Int) == 45)=aP:=aq;generalize x:fB (Pl.dY (s.data.toList.drop f) f)=T;have o:H (∀w1,Gl w1->M 93 #[aD s,I J f] w1 (ai (u T) w1)):=λw1 y=>by
      rw[<-x];exact W s f w1 g p y<|λ_=>F P
     obtain⟨K,L,N,t3,rfl⟩:∃a b c d,T= #[I J a,aD b,I J c,I J d]:=⟨_,_,_,_,x.symm⟩;clear x P;go_enter func60,ntmps60;go_wp2_with fail;refine(qU s i f _ q p r.o).mono ?_;rintro e w' ⟨rfl,rfl⟩;go_wp2_with fail;refine(qT _ _).mono ?_;rintro e w' ⟨rfl,rfl⟩;go_wp2_with fail;refine(sV _ _).mono ?_;rintro e w' ⟨rfl,rfl⟩;go_wp2_with fail;refine(o.o _<|O.alloc _).mono ?_;rintro e w1 ⟨rfl,B⟩;obtain⟨z,hf⟩:=AC B;have hz:w.heap.size<w1.heap.size:=by have:=B.size;simp at this;omega
     go_wp2_with fail;refine ab (v:=u #[I J K,aD L,I J N,I J t3]) (by simp[results,results60,go_sem,z]) rfl ⟨rfl,?_⟩;exact((((((Below.refl w.heap.size w).alloc (aX _) _).trans<|B.mono E).setCell (aX _) _).setCell (aX _) _).setCell (aX _) _).setCell (aX _) _
    .have C:((s[f].toNat:Int) == 45)=aQ:=aq;by_cases S:s[f].toNat=40
     .rw[Fj s f g U];have n:((s[f].toNat:Int) == 40)=aP:=aq;clear S P;go_enter func60,ntmps60;go_wp2_with fail;refine(qU s i f _ q p r.o).mono ?_;rintro e w' ⟨rfl,rfl⟩;go_wp2_with fail;refine(qT _ _).mono ?_;rintro e w' ⟨rfl,rfl⟩;go_wp2_with fail;refine(sV _ _).mono ?_;rintro e w' ⟨rfl,rfl⟩;go_wp2_with fail;exact ab (v:=u #[I J 4,aD<|s.extract f<|f+1,I J 0,I J f]) (by simp[results,results60,go_sem]) rfl ⟨rfl,aj _ _⟩
     .by_cases D:s[f].toNat=41
      .rw[Fj s f g U];have n:((s[f].toNat:Int) == 40)=aQ:=aq;have t:((s[f].toNat:Int) == 41)=aP:=aq;clear S D P;go_enter func60,ntmps60;go_wp2_with fail;refine(qU s i f _ q p r.o).mono ?_;rintro e w' ⟨rfl,rfl⟩;go_wp2_with fail;refine(qT _ _).mono ?_;rintro e w' ⟨rfl,rfl⟩;go_wp2_with fail;refine(sV _ _).mono ?_;rintro e w' ⟨rfl,rfl⟩;go_wp2_with fail;exact ab (v:=u #[I J 4,aD<|s.extract f<|f+1,I J 0,I J f]) (by simp[results,results60,go_sem]) rfl ⟨rfl,aj _ _⟩
      .by_cases q2:s[f].toNat=44
       .rw[Fj s f g U];have n:((s[f].toNat:Int) == 40)=aQ:=aq;have t:((s[f].toNat:Int) == 41)=aQ:=aq;have R:((s[f].toNat:Int) == 44)=aP:=aq;clear S D q2 P;go_enter func60,ntmps60;go_wp2_with fail;refine(qU s i f _ q p r.o).mono ?_;rintro e w' ⟨rfl,rfl⟩;go_wp2_with fail;refine(qT _ _).mono ?_;rintro e w' ⟨rfl,rfl⟩;go_wp2_with fail;refine(sV _ _).mono ?_;rintro e w' ⟨rfl,rfl⟩;go_wp2_with fail;exact ab (v:=u #[I J 4,aD<|s.extract f<|f+1,I J 0,I J f]) (by simp[results,results60,go_sem]) rfl ⟨rfl,aj _ _⟩
       .rw[V8 s f g U hl X P];have n:((s[f].toNat:Int) == 40)=aQ:=aq;have t:((s[f].toNat:Int) == 41)=aQ:=aq;have R:((s[f].toNat:Int) == 44)=aQ:=aq;clear S D q2 P;go_enter func60,ntmps60;go_wp2_with fail;refine(qU s i f _ q p r.o).mono ?_;rintro e w' ⟨rfl,rfl⟩;go_wp2_with fail;refine(qT _ _).mono ?_;rintro e w' ⟨rfl,rfl⟩;go_wp2_with fail;refine(sV _ _).mono ?_;rintro e w' ⟨rfl,rfl⟩;go_wp2_with fail;exact ab (v:=u #[I J 0,aD ⟨#[]⟩,I J 0,I J f]) (by simp[results,results60,go_sem]) rfl ⟨rfl,aj _ _⟩
   .generalize x:fB (Pl.dY (s.data.toList.drop f) f)=T;have o:H (∀w1,Gl w1->M 93 #[aD s,I J f] w1 (ai (u T) w1)):=λw1 y=>by
     rw[<-x];exact W s f w1 g p y<|λ_=>j X
    obtain⟨K,L,N,t3,rfl⟩:∃a b c d,T= #[I J a,aD b,I J c,I J d]:=⟨_,_,_,_,x.symm⟩;clear x;go_enter func60,ntmps60;go_wp2_with fail;refine(qU s i f _ q p r.o).mono ?_;rintro e w' ⟨rfl,rfl⟩;go_wp2_with fail;refine(qT _ _).mono ?_;rintro e w' ⟨rfl,rfl⟩;go_wp2_with fail;refine(sV _ _).mono ?_;rintro e w' ⟨rfl,rfl⟩;go_wp2_with fail;refine(o.o _<|O.alloc _).mono ?_;rintro e w1 ⟨rfl,B⟩;obtain⟨z,hf⟩:=AC B;have hz:w.heap.size<w1.heap.size:=by have:=B.size;simp at this;omega
    go_wp2_with fail;refine ab (v:=u #[I J K,aD L,I J N,I J t3]) (by simp[results,results60,go_sem,z]) rfl ⟨rfl,?_⟩;exact((((((Below.refl w.heap.size w).alloc (aX _) _).trans<|B.mono E).setCell (aX _) _).setCell (aX _) _).setCell (aX _) _).setCell (aX _) _
  .have m:=V7 s f _ g hl rfl;generalize hk:f+((s.data.toList.drop f).takeWhile Pl.apP).length=k at m;have hk1:f<=k/\k<=s.size:=by
    have:=(mH Pl.apP (l:=s.data.toList.drop f)).length_le;simp at this;omega
   have HK:H (k=f+((s.data.toList.drop f).takeWhile Pl.apP).length):=hk.symm;rw[m];clear hk m;go_enter func60,ntmps60;go_wp2_with fail;refine(qU s i f _ q p r.o).mono ?_;rintro e w' ⟨rfl,rfl⟩;go_wp2_with fail;refine(qT _ _).mono ?_;rintro e w' ⟨rfl,rfl⟩;go_wp2_with fail;refine(V5 s f k _ A p HK.o).mono ?_;rintro e w' ⟨rfl,rfl⟩;go_wp2_with fail;exact ab (v:=u #[I J 2,aD<|s.extract f k,I J 0,I J f]) (by simp[results,results60,go_sem]) rfl ⟨rfl,aj _ _⟩
 .have he:f=s.size:=U;subst he;rw[V6 s s.size<|aX _];go_enter func60,ntmps60;go_wp2_with fail;refine(qU s i s.size _ q p r.o).mono ?_;rintro e w' ⟨rfl,rfl⟩;go_wp2_with fail;exact ab (v:=u #[I J 1,aD ⟨#[]⟩,I J 0,I J s.size]) (by simp[results,results60,go_sem]) rfl ⟨rfl,aj _ _⟩
theorem KR(s:ByteArray)(g:s.size<=400)(w:G)(d:Gl w):
  M 147 #[aD s] w λe w'=>∃v o,e=aJ (aG #[I J v,o])/\ag w w'/\
   ((Lib.atoiAll s.data.toList=.ok v/\o=.nilIface)\/((∀v,Lib.atoiAll s.data.toList≠.ok v)/\∃t p,o=.iface t p)):=by
 cases h:Lib.atoiAll s.data.toList
 .rename_i v;refine(Tryz.strconv_Atoi_ok s U v h w).mono ?_;rintro e w' ⟨rfl,f⟩;refine⟨v,_,rfl,?_,j ⟨rfl,rfl⟩⟩;rcases f with rfl|⟨t,rfl⟩
  .exact Below.refl _ _
  .exact Lib.bytesWorld_below _ _ _
 .obtain⟨c,p,a⟩:=d.es;refine(Tryz.strconv_Atoi_syntax_var s U h c p w a).mono ?_;rintro e w' ⟨N,rfl,_,_,b⟩;exact⟨_,_,rfl,b,F ⟨λv a=>(by cases a),_,_,rfl⟩⟩
 .obtain⟨c,p,a⟩:=d.er;refine(Tryz.strconv_Atoi_range_var s U h c p w a).mono ?_;rintro e w' ⟨N,rfl,_,_,b⟩;exact⟨_,_,rfl,b,F ⟨λv a=>(by cases a),_,_,rfl⟩⟩
theorem V9{c:UInt8}(h:Pl.cE c=aP):Lib.digitVal c=K (c.toNat-48):=by
 have a:=ft h;unfold Lib.digitVal;simp[a]
theorem KS:∀(l:V UInt8)(b:Nat),(∀c∈l,Pl.cE c=aP)->Lib.decFrom b l=K (l.foldl (λa c=>10*a+(c.toNat-48)) b)
 |[],b,_=>rfl
 |c::r,b,h=>by
  have d:=V9<|h c E;have f:=KS r (10*b+(c.toNat-48)) (λx e=>h x<|by simp[e]);simp only[Lib.decFrom,d,ls];rw[<-f];simp[Nat.mul_comm]
theorem KT(l:V UInt8)(a:l≠[])(h:∀c∈l,Pl.cE c=aP):Lib.decNat l=K (Pl.fH l):=by
 unfold Lib.decNat Pl.fH;rw[X<|by simpa using a];exact KS l 0 h
theorem xg(l:V UInt8):∀c∈l.takeWhile Pl.cE,Pl.cE c=aP:=by
 induction l with
 |nil=>intro c b;simp at b
 |cons a r d=>
  intro c b;rw[Vl] at b;split at b
  .rcases bK.1 b with rfl|h
   .assumption
   .exact d c h
  .simp at b
def sW(j:Nat):Array Y:= #[I J 0,aD ⟨#[]⟩,I J 0,I J j]
def l8(neg:Bool)(c:UInt8)(r:V UInt8):V UInt8:=if neg then c::r.takeWhile Pl.cE else(c::r).takeWhile Pl.cE
def jn(neg:Bool)(c:UInt8)(r:V UInt8):V UInt8:=if neg then r.takeWhile Pl.cE else(c::r).takeWhile Pl.cE
def xh(neg:Bool)(c:UInt8)(r:V UInt8):Int:=if neg then -(Pl.fH (jn neg c r):Int) else(Pl.fH (jn neg c r):Int)
theorem KU(neg:Bool)(c:UInt8)(r:V UInt8)(m:if neg then c.toNat=45 else Pl.cE c=aP)(n:jn neg c r≠[]):
  Lib.atoi (l8 neg c r)=K (xh neg c r):=by
 cases neg
 .have b:Pl.cE c=aP:=by simpa using m
  have d:=ft b;have e:l8 aQ c r=c::r.takeWhile Pl.cE:=by simp[l8,b]
  have f:jn aQ c r=c::r.takeWhile Pl.cE:=by simp[jn,b]
  have a:(c == 45)=aQ:=by
   rw[ou];intro h;rw[h] at d;simp at d
  have g:(c == 43)=aQ:=by
   rw[ou];intro h;rw[h] at d;simp at d
  have l:=KT (c::r.takeWhile Pl.cE) E (by
   have:=xg (c::r);simpa[b] using this)
  rw[e];unfold xh;rw[f];simp only[Lib.atoi,a,g,l];simp
 .have b:c.toNat=45:=by simpa using m
  have a:(c == 45)=aP:=by
   rw[J6];exact Vm.1 b
  have k:r.takeWhile Pl.cE≠[]:=by simpa[jn] using n
  have l:=KT (r.takeWhile Pl.cE) k<|xg r;have e:l8 aP c r=c::r.takeWhile Pl.cE:=rfl;have f:jn aP c r=r.takeWhile Pl.cE:=rfl;rw[e];unfold xh;rw[f];simp only[Lib.atoi,a,l];simp
theorem KV(neg:Bool)(c:UInt8)(r:V UInt8):(l8 neg c r).length<=(jn neg c r).length+1:=by
 cases neg<;>simp[l8,jn]
theorem KW(neg:Bool)(c:UInt8)(r:V UInt8)(j:Nat)(d:if neg then c.toNat=45 else Pl.cE c=aP):
  Pl.dY (c::r) j=if jn neg c r=[]\/9<(jn neg c r).length then⟨120,[],0,j⟩ else⟨110,l8 neg c r,xh neg c r,j⟩:=by
 cases neg
 .have a:Pl.cE c=aP:=by simpa using d
  have:=ft a;have b:¬(Pl.apP c=aP):=by
   intro h;have:=ft h;omega
  simp only[Pl.dY];rw[X U,X b,X U];rfl
 .have a:c.toNat=45:=by simpa using d
  have b:¬(Pl.apP c=aP):=by
   intro h;have:=ft h;omega
  simp only[Pl.dY];rw[X U,X b,y a];rfl
theorem KX(neg:Bool)(c:UInt8)(r:V UInt8)(j:Nat)(v:Int)(a:if neg then c.toNat=45 else Pl.cE c=aP)
  (h:Lib.atoiAll (l8 neg c r)=.ok v)(k:(jn neg c r).length<=9):
  fB (Pl.dY (c::r) j)= #[I J 3,aD ⟨(l8 neg c r).toArray⟩,I J v,I J j]:=by
 have l:=KV neg c r;rw[Lib.atoiAll_short _ U] at h;rw[KW neg c r j a];by_cases b:jn neg c r=[]
 .exfalso;cases neg
  .have d:Pl.cE c=aP:=by simpa using a
   simp[jn,d] at b
  .have e:l8 aP c r=[c]:=by
    have:r.takeWhile Pl.cE=[]:=b;simp[l8,this]
   have d:c.toNat=45:=by simpa using a
   have f:(c == 45)=aP:=by
    rw[J6];exact Vm.1 d
   rw[e] at h;simp[Lib.atoi,f,Lib.decNat,Lib.NumEnd.ofOption] at h
 .rw[KU neg c r a b] at h;rw[X (by rintro(g|g);exact b g;omega)];simp only[Lib.NumEnd.ofOption] at h;injection h with h;simp[fB,Pl.pk,Pl.fI,h]
theorem AD(neg:Bool)(c:UInt8)(r:V UInt8)(a:Nat)(b:if neg then c.toNat=45 else Pl.cE c=aP)
  (h:(∀v,Lib.atoiAll (l8 neg c r)≠.ok v)\/9<(jn neg c r).length):
  fB (Pl.dY (c::r) a)=sW a:=by
 have:=KV neg c r;rw[KW neg c r a b];by_cases d:jn neg c r=[]\/9<(jn neg c r).length
 .rw[y d];rfl
 .exfalso;rcases h with h|h
  .apply h (xh neg c r);rw[Lib.atoiAll_short _ U,KU neg c r b<|λe=>d<|j e];rfl
  .omega
theorem KY(s:ByteArray)(j k:Nat)(neg:Bool)(h:j<s.size)(b:if neg then s[j].toNat=45 else Pl.cE s[j]=aP)
  (a:k=(if neg then j+1 else j)+((s.data.toList.drop (if neg then j+1 else j)).takeWhile Pl.cE).length):
  s.extract j k=⟨(l8 neg s[j] (s.data.toList.drop<|j+1)).toArray⟩/\(jn neg s[j] (s.data.toList.drop<|j+1)).length=k-(if neg then j+1 else j):=by
 rw[Pl.extract_eq,a,Pl.drop_cons s j h];cases neg
 .simp only[jD,kf,Ae];rw[Pl.drop_cons s j h,Pl.take_takeWhile];exact⟨rfl,rfl⟩
 .simp only[jk,Ae];rw[show j+1+((s.data.toList.drop<|j+1).takeWhile Pl.cE).length-j=((s.data.toList.drop<|j+1).takeWhile Pl.cE).length+1 from by omega,EL,Pl.take_takeWhile];exact⟨rfl,rfl⟩
theorem Wa(s:ByteArray)(a:Nat)(w:G)(m:a<s.size)(O:s.size<=400)(L:Gl w)(X:((s[a].toNat:Int) == 45)=aQ)(g:if aQ then s[a].toNat=45 else Pl.cE s[a]=aP):
  M 93 #[aD s,I J a] w (ai (u<|fB<|Pl.dY (s.data.toList.drop a) a) w):=by
 obtain⟨k,x⟩:=am<|a+((s.data.toList.drop a).takeWhile Pl.cE).length;have N:a<=k/\k<=s.size:=by
  have:=(mH Pl.cE (l:=s.data.toList.drop a)).length_le;simp at this;omega
 obtain⟨R,z⟩:=KY s a k aQ m g (by simpa using x);have A:=hid x;have B:(jn aQ s[a] (s.data.toList.drop<|a+1)).length=k-a:=by simpa using z
 have C:=hid R;rw[Pl.drop_cons s a m];have n:(s.extract a k).size<=400:=by simp[ByteArray.size_extract];omega
 have r:H (∀w1,Gl w1->M 147 #[aD (s.extract a k)] w1 λe w'=>∃v o,e=aJ (aG #[I J v,o])/\ag w1 w'/\
   ((k-a<=9->o=.nilIface->fB (Pl.dY (s[a]::s.data.toList.drop (a+1)) a)= #[I J 3,aD<|s.extract a k,I J v,I J a])/\
   ((o=.nilIface\/∃t p,o=.iface t p)/\((9<k-a\/∃t p,o=.iface t p)->fB (Pl.dY (s[a]::s.data.toList.drop (a+1)) a)=sW a)))):=λw1 D=>by
  refine(KR _ n w1 D).mono ?_;rintro e w' ⟨v,o,rfl,c,P⟩;refine⟨v,o,rfl,c,?_⟩;rw[R] at P⊢;simp only[] at P;rcases P with⟨Q,rfl⟩|⟨Q,t,p,rfl⟩
  .refine⟨λy _=>KX aQ s[a] _ a v g Q U,j rfl,?_⟩;rintro(h|⟨t,p,h⟩)
   .exact AD aQ s[a] _ a g (F U)
   .cases h
  .refine⟨λ_ h=>(by cases h),F ⟨t,p,rfl⟩,λ_=>AD aQ s[a] _ a g (j Q)⟩
 clear R z B x n C;generalize fB (Pl.dY (s[a]::s.data.toList.drop (a+1)) a)=T at*;clear g;go_enter func93,ntmps93;go_wp2_with fail;refine(KO s a k _ U O A.o).mono ?_;rintro e w' ⟨rfl,rfl⟩;go_wp2_with fail;refine(r.o _<|L.alloc _).mono ?_;rintro e w1 ⟨v,o,rfl,c,S,K,i⟩;have q:=hid S;have f:=hid i;clear S i;obtain⟨d,W⟩:=AC c;have Y:w.heap.size<w1.heap.size:=by have:=c.size;simp at this;omega
 rcases K with rfl|⟨t,p,rfl⟩
 .by_cases y:k-a<=9
  .have b:=q.o y rfl;subst b;clear q f r;go_wp2_with fail;refine ab (v:=u #[I J 3,aD<|s.extract a k,I J v,I J a]) (by simp[results,results93,go_sem,d]) rfl ⟨rfl,?_⟩;exact((((((Below.refl w.heap.size w).alloc (aX _) _).trans<|c.mono E).setCell (aX _) _).setCell (aX _) _).setCell (aX _) _).setCell (aX _) _
  .have b:=f.o<|j U;unfold sW at b;subst b;clear q f r;go_wp2_with fail;refine ab (v:=u #[I J 0,aD ⟨#[]⟩,I J 0,I J a]) (by simp[results,results93,go_sem,d]) rfl ⟨rfl,?_⟩;exact((((((Below.refl w.heap.size w).alloc (aX _) _).trans<|c.mono E).setCell (aX _) _).setCell (aX _) _).setCell (aX _) _).setCell (aX _) _
 .have b:=f.o<|F ⟨t,p,rfl⟩;unfold sW at b;subst b;clear q f r;go_wp2_with fail;refine ab (v:=u #[I J 0,aD ⟨#[]⟩,I J 0,I J a]) (by simp[results,results93,go_sem,d]) rfl ⟨rfl,?_⟩;exact((((((Below.refl w.heap.size w).alloc (aX _) _).trans<|c.mono E).setCell (aX _) _).setCell (aX _) _).setCell (aX _) _).setCell (aX _) _
theorem Wb(s:ByteArray)(a:Nat)(w:G)(m:a<s.size)(O:s.size<=400)(L:Gl w)(X:((s[a].toNat:Int) == 45)=aP)(g:if aP then s[a].toNat=45 else Pl.cE s[a]=aP):
  M 93 #[aD s,I J a] w (ai (u<|fB<|Pl.dY (s.data.toList.drop a) a) w):=by
 obtain⟨k,x⟩:=am<|(a+1)+((s.data.toList.drop<|a+1).takeWhile Pl.cE).length;have N:(a+1)<=k/\k<=s.size:=by
  have:=(mH Pl.cE (l:=s.data.toList.drop<|a+1)).length_le;simp at this;omega
 obtain⟨R,z⟩:=KY s a k aP m g (by simpa using x);have A:=hid x;have B:(jn aP s[a] (s.data.toList.drop<|a+1)).length=k-(a+1):=by simpa using z
 have C:=hid R;rw[Pl.drop_cons s a m];have n:(s.extract a k).size<=400:=by simp[ByteArray.size_extract];omega
 have r:H (∀w1,Gl w1->M 147 #[aD (s.extract a k)] w1 λe w'=>∃v o,e=aJ (aG #[I J v,o])/\ag w1 w'/\
   ((k-(a+1)<=9->o=.nilIface->fB (Pl.dY (s[a]::s.data.toList.drop (a+1)) a)= #[I J 3,aD<|s.extract a k,I J v,I J a])/\
   ((o=.nilIface\/∃t p,o=.iface t p)/\((9<k-(a+1)\/∃t p,o=.iface t p)->fB (Pl.dY (s[a]::s.data.toList.drop (a+1)) a)=sW a)))):=λw1 D=>by
  refine(KR _ n w1 D).mono ?_;rintro e w' ⟨v,o,rfl,c,P⟩;refine⟨v,o,rfl,c,?_⟩;rw[R] at P⊢;simp only[] at P;rcases P with⟨Q,rfl⟩|⟨Q,t,p,rfl⟩
  .refine⟨λy _=>KX aP s[a] _ a v g Q U,j rfl,?_⟩;rintro(h|⟨t,p,h⟩)
   .exact AD aP s[a] _ a g (F U)
   .cases h
  .refine⟨λ_ h=>(by cases h),F ⟨t,p,rfl⟩,λ_=>AD aP s[a] _ a g (j Q)⟩
 clear R z B x n C;generalize fB (Pl.dY (s[a]::s.data.toList.drop (a+1)) a)=T at*;clear g;go_enter func93,ntmps93;go_wp2_with fail;refine(KO s (a+1) k _ U O A.o).mono ?_;rintro e w' ⟨rfl,rfl⟩;go_wp2_with fail;refine(r.o _<|L.alloc _).mono ?_;rintro e w1 ⟨v,o,rfl,c,S,K,i⟩;have q:=hid S;have f:=hid i;clear S i;obtain⟨d,W⟩:=AC c;have Y:w.heap.size<w1.heap.size:=by have:=c.size;simp at this;omega
 rcases K with rfl|⟨t,p,rfl⟩
 .by_cases y:k-(a+1)<=9
  .have b:=q.o y rfl;subst b;clear q f r;go_wp2_with fail;refine ab (v:=u #[I J 3,aD<|s.extract a k,I J v,I J a]) (by simp[results,results93,go_sem,d]) rfl ⟨rfl,?_⟩;exact((((((Below.refl w.heap.size w).alloc (aX _) _).trans<|c.mono E).setCell (aX _) _).setCell (aX _) _).setCell (aX _) _).setCell (aX _) _
  .have b:=f.o<|j U;unfold sW at b;subst b;clear q f r;go_wp2_with fail;refine ab (v:=u #[I J 0,aD ⟨#[]⟩,I J 0,I J a]) (by simp[results,results93,go_sem,d]) rfl ⟨rfl,?_⟩;exact((((((Below.refl w.heap.size w).alloc (aX _) _).trans<|c.mono E).setCell (aX _) _).setCell (aX _) _).setCell (aX _) _).setCell (aX _) _
 .have b:=f.o<|F ⟨t,p,rfl⟩;unfold sW at b;subst b;clear q f r;go_wp2_with fail;refine ab (v:=u #[I J 0,aD ⟨#[]⟩,I J 0,I J a]) (by simp[results,results93,go_sem,d]) rfl ⟨rfl,?_⟩;exact((((((Below.refl w.heap.size w).alloc (aX _) _).trans<|c.mono E).setCell (aX _) _).setCell (aX _) _).setCell (aX _) _).setCell (aX _) _
theorem KZ:KP:=by
 intro s j w a c b d;by_cases h:s[j].toNat=45
 .exact Wb s j w a c b aq (by simpa using h)
 .exact Wa s j w a c b aq (by simpa using(d a).resolve_right h)
theorem bH(h:w.ownsRow base e size v n xs)
  (m:∀k,v.ownBlock=K k->w'.heap[k]?=w.heap[k]?):w'.ownsRow base e size v n xs:=by
 obtain⟨d,b⟩:=h;refine⟨d,?_⟩;rcases b with b|⟨g,cap,a,c,f,l,r⟩
 .exact j b
 .exact F ⟨g,cap,a,c,f,by rw[m g (by rw[c];rfl)];exact l,r⟩
theorem own_ne{b1 b2:Nat}{e1 e2:TypeId}{z1 z2:Nat}{v1 v2:Y}{n1 n2:Nat}{x1 x2:V Y}
  (q:w.ownsRow b1 e1 z1 v1 n1 x1)(s:w.ownsRow b2 e2 z2 v2 n2 x2)(t:e1≠e2):∀k,v2.ownBlock=K k->K k≠v1.ownBlock:=by
 intro k c b;rcases q.2 with⟨f,_⟩|⟨g,cap,n,B,P,x,r⟩
 .rw[f] at b;cases b
 .rcases s.2 with⟨f,_⟩|⟨p,l,m,h,v,a,Q⟩
  .rw[f] at c;cases c
  .rw[B] at b;rw[h] at c;have d:k=g:=by simpa[Value.ownBlock] using b
   have e:p=k:=by simpa[Value.ownBlock] using c
   rw[e,d,x] at a;injection a with a;injection a with _ a _;exact t a
theorem bn(h:w.ownsRow base e size v n xs):
  ∀k,v.ownBlock=K k->base<=k/\k<w.heap.size:=h.lt
theorem ed(h:w.ownsRow base e size v n xs):(w.alloc o).ownsRow base e size v n xs:=
 bH h λk a=>ad _ _ _ (bn h k a).2
theorem AE{p:Obj}:((w.alloc o).alloc p).heap[w.heap.size+1]?=K p:=by
 have:=aa (w.alloc o) p;simpa using this
theorem nE{P:Program}{ops:Array Oper}{rest:V Oper}{o:Oper}{a:Act}{Q:Exit->Act->G->Prop}{s x:Operand}(A:o.op=.call {callee:=.builtin .append,args:= #[s,x],argTypes:= #[t,t]})
  {base:Nat}{e:TypeId}{z:Y}{size bytes:Nat}(S:(P.info? e).map (λi=>(i.zero,i.size,i.bytes))=K (K z,size,bytes))(F:P.underlying t=K (.slice e))
  {v:Y}{n:Nat}{xs:V Y}(c:w.ownsRow base e size v n xs){b:Nat}{news:V Y}(k:w.heap[b]?=K (.cells news.toArray e (0,0)))(H:Nat)
  (h:∀g cap w',w'.ownsRow base e size (D (K ⟨g,0,Z⟩) (n+1) cap) (n+1) (xs++news)->w.grownBy w' v.ownBlock->(v.ownBlock=K g\/g=H)->g<w'.heap.size->wpList P ops Q rest (a.put o.dst<|D (K ⟨g,0,Z⟩) (n+1) cap) w')
  (f:o.guard=Z:=by exact rfl)(C:a.eval s=v:=by exact rfl)(I:a.eval x=D (K ⟨b,0,Z⟩) 1 1:=by exact rfl)(r:z.cells.size=size:=by exact rfl)(l:0<size:=by decide)(y:news.length=1*size:=by exact rfl)
  (B:∀u∈news,u.oneCell'=aP:=by simp[Value.oneCell'])(d:n+1<=maxLen:=by unfold maxLen;omega)(hbytes:(n+1)*bytes<=140737488355328:=by omega)(hbase:base<=w.heap.size:=by simp;omega)(R:w.heap.size=H:=by simp):wpList P ops Q (o::rest) a w:=by
 obtain⟨J,j,m,p,q⟩:=aH S;exact ahm _ f s x t A base e J z size bytes F j m p q r l v n xs C c ⟨b,0,Z⟩ 1 1 news I y (aai (cs:=news.toArray) (t:=e) (fr:=(0,0)) k) B ae d hbytes hbase H R h
theorem ii{P:Program}{ops:Array Oper}{rest:V Oper}{o:Oper}{a:Act}{Q:Exit->Act->G->Prop}{s x:Operand}(S:o.op=.call {callee:=.builtin .append,args:= #[s,x],argTypes:= #[t,t]})
  {base:Nat}{e:TypeId}{z:Y}{size bytes:Nat}(B:(P.info? e).map (λi=>(i.zero,i.size,i.bytes))=K (K z,size,bytes))(y:P.underlying t=K (.slice e))
  {v:Y}{n:Nat}{xs:V Y}(c:w.ownsRow base e size v n xs){b:Nat}{news:V Y}(l:w.heap[b]?=K (.cells news.toArray e (0,0)))
  (h:∀g cap w',w'.ownsRow base e size (D (K ⟨g,0,Z⟩) (n+1) cap) (n+1) (xs++news)->w.grownBy w' v.ownBlock->g<w'.heap.size->wpList P ops Q rest (a.put o.dst<|D (K ⟨g,0,Z⟩) (n+1) cap) w')
  (k:o.guard=Z:=by exact rfl)(j:a.eval s=v:=by exact rfl)(A:a.eval x=D (K ⟨b,0,Z⟩) 1 1:=by exact rfl)(p:z.cells.size=size:=by exact rfl)(m:0<size:=by decide)(R:news.length=1*size:=by exact rfl)
  (d:∀u∈news,u.oneCell'=aP:=by simp[Value.oneCell'])(f:n+1<=maxLen:=by unfold maxLen;omega)(hbytes:(n+1)*bytes<=140737488355328:=by omega)(hbase:base<=w.heap.size:=by simp;omega):wpList P ops Q (o::rest) a w:=
 nE S B y c l _ (λg cap w' d q _ r=>h g cap w' d q r) k j A p m R d f hbytes hbase rfl
theorem apL{c:Array Y}(h:w.heap[b]?=K (.cells c T (0,0)))(o:Nat):w.cell? ⟨b,o,Z⟩=c[o]?:=by
 simp[World.cell?,h]
theorem bE{c:Array Y}(h:w.heap[b]?=K (.cells c T (0,0)))(o:Nat):w.frozen? ⟨b,o,Z⟩=aQ:=by
 simp[World.frozen?,h]
theorem apJ(h:w.heap[b]?=K o):b<w.heap.size:=by
 rcases Af b w.heap.size with a|a
 .exact a
 .rw[Ag a] at h;cases h
theorem apM{o:Nat}{c:Array Y}(h:w.heap[b]?=K (.cells c T (0,0)))(v:Y):
  (w.setCell ⟨b,o,Z⟩ v).heap[b]?=K (.cells (c.setIfInBounds o v) T (0,0)):=by
 simp[World.setCell,Array.getElem?_modify,h]
theorem bY{o:Nat}(h:k≠b)(v:Y):(w.setCell ⟨b,o,Z⟩ v).heap[k]?=w.heap[k]?:=aaj _ _ _ _ h
def sX(p:Int×Int):Y:=A C (aM C p.1)<|aM C p.2
def mL(g:V (Int×Int)):V Y:=g.map sX
def pM(c:V Pl.Tk):V Y:=c.flatMap λt=>(fB t).toList
theorem Wj(c:V Pl.Tk)(t:Pl.Tk):pM (c++[t])=pM c++(fB t).toList:=by simp[pM]
def nF(a:Nat)(rv:Y)(rg:V (V (Int×Int)))(w:G):Prop:=
 ∃vs:V Y,vs.length=rg.length/\w.ownsRow (a+1) 127 1 rv rg.length vs/\
  (∀(i:Nat) v g,vs[i]?=K v->rg[i]?=K g->w.ownsRow (a+1) 81 1 v g.length (mL g))/\
  (∀(i j:Nat) v u k,vs[i]?=K v->vs[j]?=K u->v.ownBlock=K k->u.ownBlock=K k->i=j)
theorem nF.kept(h:nF rb rv rg w)
  (S:∀k c e,w.heap[k]?=K (.cells c e (0,0))->(e=127\/e=81)->rb<k->w'.heap[k]?=w.heap[k]?):nF rb rv rg w':=by
 obtain⟨vs,q,s,t,x⟩:=h;have d:∀e v n m,(e=127\/e=81)->w.ownsRow (rb+1) e 1 v n m->w'.ownsRow (rb+1) e 1 v n m:=λe v n m P p=>by
  refine bH p λk f=>?_;rcases p.2 with⟨B,_⟩|⟨g,cap,c,l,Q,R,r⟩
  .rw[B] at f;cases f
  .rw[l] at f;have:g=k:=by simpa[Value.ownBlock] using f
   subst this;exact S g c e R P Q
 exact⟨vs,q,d _ _ _ _ (j rfl) s,λi v g a b=>d _ _ _ _ (F rfl)<|t i v g a b,x⟩
def AF(s:ByteArray)(t:Pl.Tk)(a rv:Y):Array Y:= #[aD s,I J<|Pl.pk t,aD ⟨(Pl.fI t).toArray⟩,I J t.n,I J t.pl,a,rv]
def RD(a:Nat)(s:ByteArray)(A l:V Pl.Tk)(rg:V (V (Int×Int)))(w:G):Prop:=
 ∃c t r b rv,c++l=A/\l=t::r/\w.heap[a]?=K (.cells (AF s t b rv) 80 (0,0))/\
  w.ownsRow (a+1) 76 4 b c.length (pM c)/\nF a rv rg w
theorem kC{row:Option Nat}(b:(w.alloc o).grownBy w1 row)(k:Nat)(c:k<w.heap.size)(a:row≠K k):w1.heap[k]?=w.heap[k]?:=
 (b.block k aq<|λe=>a e.symm).trans (ad _ _ _ c)
theorem lD{row:Option Nat}(b:(w.alloc o).drew.grownBy w1 row)(k:Nat)(c:k<w.heap.size)(a:row≠K k):w1.heap[k]?=w.heap[k]?:=
 (b.block k (by show k<(w.alloc o).heap.size;simp;omega)<|λe=>a e.symm).trans (ad _ _ _ c)
theorem jo(h:w.ownsRow base e size v n xs)(k:Nat)(a:k<base):v.ownBlock≠K k:=
 λe=>by have:=(bn h k e).1;omega
structure Cx(rb:Nat)(s:ByteArray)(A:V Pl.Tk):Prop where
 hs:s.size<=400
 ch:Pl.eU s.data.toList A
 len:A.length<=402
 pl:∀t∈A,Pl.Place s.data.toList t
 rb:6<=rb
theorem lE{e':TypeId}{cur:Array Y}(h:w.ownsRow base e size v n xs)
  (a:w.heap[k]?=K (.cells cur e' (0,0)))(c:e'≠e):v.ownBlock≠K k:=by
 intro b;rcases h.2 with⟨l,_⟩|⟨g,cap,f,d,p,m,r⟩
 .rw[l] at b;cases b
 .rw[d] at b;have:g=k:=by simpa[Value.ownBlock] using b
  subst this;rw[m] at a;injection a with a;injection a with _ a _;exact c a.symm
def NT(b k:Nat)(w:G):Prop:=∃a,w.cell? ⟨b,5,Z⟩=K a/\a.ownBlock≠K k
def Kp(a:Nat)(w w':G):Prop:=∀k o,k≠a->NT a k w->w.heap[k]?=K o->w'.heap[k]?=K o/\NT a k w'
def l9:Prop:=∀(a:Nat)(s:ByteArray)(A r:V Pl.Tk)(t:Pl.Tk)(rg:V (V (Int×Int)))(w:G),Cx a s A->RD a s A (t::r) rg w->Gl w->
  (t.k=119\/t.k=110\/t.k=40\/t.k=41\/t.k=44)->
  M 148 #[aF (K ⟨a,0,Z⟩)] w λe w'=>e=aJ (aG #[])/\RD a s A r rg w'/\Below a w w'/\Kp a w w'
theorem RD.cells{A:V Pl.Tk}(h:RD rb s A l rg w):
  ∃t r,l=t::r/\w.cell? ⟨rb,0,Z⟩=K (aD s)/\w.cell? ⟨rb,1,Z⟩=K (I J<|Pl.pk t)/\w.cell? ⟨rb,2,Z⟩=K (aD ⟨(Pl.fI t).toArray⟩)/\w.cell? ⟨rb,3,Z⟩=K (I J t.n)/\w.cell? ⟨rb,4,Z⟩=K (I J t.pl):=by
 obtain⟨c,t,r,g,rv,f,d,a,b,e⟩:=h;exact⟨t,r,d,apL a 0,apL a 1,apL a 2,apL a 3,apL a 4⟩
theorem RD.below{A:V Pl.Tk}(h:RD rb s A l rg w)(d:ag w w'):RD rb s A l rg w':=by
 obtain⟨c,t,r,q,rv,n,p,b,a,g⟩:=h;refine⟨c,t,r,q,rv,n,p,(d.block rb<|apJ b).trans b,bH a λk f=>d.block k (bn a k f).2,g.kept λk m e f _ _=>d.block k<|apJ f⟩
theorem RD.alloc{A:V Pl.Tk}(h:RD rb s A l rg w)(o:Obj):RD rb s A l rg (w.alloc o):=
 h.below ((Below.refl _ _).alloc (aX _) o)
theorem RD.lt{A:V Pl.Tk}(h:RD rb s A l rg w):rb<w.heap.size:=by
 obtain⟨c,t,r,g,rv,e,f,a,b,d⟩:=h;exact apJ a
theorem RD.nt{A:V Pl.Tk}(h:RD rb s A l rg w)(k:Nat)(m:w.heap.size<=k):NT rb k w:=by
 obtain⟨c,t,r,f,rv,g,n,b,a,d⟩:=h;exact⟨f,apL b 5,λe=>by have:=(bn a k e).2;omega⟩
theorem NT.below(h:NT rb k w)(a:rb<w.heap.size)(d:ag w w'):NT rb k w':=by
 obtain⟨e,b,c⟩:=h;exact⟨e,(aR d b a),c⟩
theorem K7(m:l9)(a:Nat)(s q:ByteArray)(A r:V Pl.Tk)(t:Pl.Tk)(rg:V (V (Int×Int)))(w:G)(k:Cx a s A)(d:RD a s A (t::r) rg w)(l:Gl w)
  (n:t.k=119\/t.k=110\/t.k=40\/t.k=41\/t.k=44)(v:(⟨(Pl.fI t).toArray⟩:ByteArray)=q):
  M 94 #[aF (K ⟨a,0,Z⟩),aD q] w λe w'=>e=aJ (aC aP)/\RD a s A r rg w'/\Below a w w':=by
 obtain⟨i,S,p,x,B,g,P,Q⟩:=d.cells;injection p with b c;subst b c;rw[v] at g;have f:=hid<|m a s A r t rg w k d l n;go_enter func94,ntmps94;go_wp2_with fail;refine f.out.mono ?_;rintro e w1 ⟨rfl,b,c,R⟩;go_wp2_with fail;go_ret;exact⟨rfl,b,c⟩
theorem K8(b:Nat)(s q:ByteArray)(A r:V Pl.Tk)(t:Pl.Tk)(rg:V (V (Int×Int)))(w:G)(f:RD b s A (t::r) rg w)
  (v:((⟨(Pl.fI t).toArray⟩:ByteArray).toList == q.toList)=aQ):
  M 94 #[aF (K ⟨b,0,Z⟩),aD q] w λe w'=>e=aJ (aC aQ)/\w'=w:=by
 obtain⟨B,x,g,k,l,m,n,p⟩:=f.cells;injection g with c d;subst c d;generalize(⟨(Pl.fI t).toArray⟩:ByteArray)=a at*
 go_enter func94,ntmps94;go_wp2_with fail;go_ret;exact⟨rfl,rfl⟩
theorem RD.suffix{A:V Pl.Tk}(h:RD rb s A l rg w):∃c t r,c++l=A/\l=t::r:=by
 obtain⟨c,t,r,d,rv,a,b,_⟩:=h;exact⟨c,t,r,a,b⟩
theorem RD.form{A r:V Pl.Tk}{t:Pl.Tk}(a:Cx rb s A)(h:RD rb s A (t::r) rg w):Pl.Form t:=by
 obtain⟨c,_,_,b,_⟩:=h.suffix;exact Pl.Fs<|a.pl t (by rw[<-b];simp)
theorem uB(n:l9)(c:UInt8)(g:c.toNat=40\/c.toNat=41\/c.toNat=44)(a:Nat)(s:ByteArray)(A l:V Pl.Tk)(rg:V (V (Int×Int)))(w:G)(f:Cx a s A)(b:RD a s A l rg w)(m:Gl w):
  M 94 #[aF (K ⟨a,0,Z⟩),aD ⟨#[c]⟩] w λe w'=>e=aJ (aC (Pl.mk c.toNat l).1)/\RD a s A (Pl.mk c.toNat l).2 rg w'/\Below a w w':=by
 obtain⟨_,t,r,_,rfl⟩:=b.suffix;have k:=b.form f;by_cases d:t.k=c.toNat
 .have e:Pl.mk c.toNat (t::r)=(aP,r):=by simp[Pl.mk,d]
  rw[e];exact K7 n a s ⟨#[c]⟩ A r t rg w f b m U<|by rw[(Pl.AH k c g).2 d]
 .have e:Pl.mk c.toNat (t::r)=(aQ,t::r):=by simp[Pl.mk,d]
  rw[e];refine(K8 a s ⟨#[c]⟩ A r t rg w b ?_).mono ?_
  .rw[aee,aee,ou];intro h;exact d<|(Pl.AH k c g).1<|by simpa using h
  .rintro e w' ⟨rfl,rfl⟩;exact⟨rfl,b,Below.refl _ _⟩
theorem AJ(v:l9)(q:V UInt8)(a:UInt8)(b:V UInt8)(n:q=a::b)(k:Pl.apP a=aP)(c:Nat)(s:ByteArray)(A l:V Pl.Tk)(rg:V (V (Int×Int)))(w:G)(g:Cx c s A)(d:RD c s A l rg w)(p:Gl w):
  M 94 #[aF (K ⟨c,0,Z⟩),aD ⟨q.toArray⟩] w λe w'=>e=aJ (aC (Pl.wd q l).1)/\RD c s A (Pl.wd q l).2 rg w'/\Below c w w':=by
 obtain⟨_,t,r,_,rfl⟩:=d.suffix;have m:=d.form g;by_cases f:t.k=119/\t.raw=q
 .have e:Pl.wd q (t::r)=(aP,r):=by simp[Pl.wd,f]
  rw[e];exact K7 v c s ⟨q.toArray⟩ A r t rg w g d p U<|by rw[(Pl.K5 m q a b n k).2 f]
 .have e:Pl.wd q (t::r)=(aQ,t::r):=by simp only[Pl.wd];rw[X f]
  rw[e];refine(K8 c s ⟨q.toArray⟩ A r t rg w d ?_).mono ?_
  .rw[aee,aee,ou];intro h;exact f<|(Pl.K5 m q a b n k).1<|by simpa using h
  .rintro e w' ⟨rfl,rfl⟩;exact⟨rfl,d,Below.refl _ _⟩
theorem Ft(n:l9)(a:Nat)(s:ByteArray)(A r:V Pl.Tk)(t:Pl.Tk)(rg:V (V (Int×Int)))(w:G)(k:Cx a s A)(d:RD a s A (t::r) rg w)(m:Gl w)(p:t.k=110):
  M 238 #[aF (K ⟨a,0,Z⟩)] w λe w'=>e=aJ (aC aP)/\RD a s A r rg w'/\Below a w w'/\Kp a w w':=by
 obtain⟨R,Q,q,v,g,x,B,P⟩:=d.cells;injection q with b c;subst b c;rw[Pl.AI.2 p] at g;have f:=hid<|n a s A r t rg w k d m U;go_enter func238,ntmps238;go_wp2_with fail;refine f.out.mono ?_;rintro e w1 ⟨rfl,b,c,l⟩;go_wp2_with fail;go_ret;exact⟨rfl,b,c,l⟩
theorem K9(b:Nat)(s:ByteArray)(A r:V Pl.Tk)(t:Pl.Tk)(rg:V (V (Int×Int)))(w:G)(f:RD b s A (t::r) rg w)(g:t.k≠110):
  M 238 #[aF (K ⟨b,0,Z⟩)] w λe w'=>e=aJ (aC aQ)/\w'=w:=by
 obtain⟨x,v,k,l,m,n,p,q⟩:=f.cells;injection k with c d;subst c d;have:(Pl.pk t != 3)=aP:=by
  rw[qL];intro h;exact g<|Pl.AI.1 h
 generalize Pl.pk t=a at*
 go_enter func238,ntmps238;go_wp2_with fail;go_ret;exact⟨rfl,rfl⟩
theorem fJ(h:w.ownsRow base e size v n xs)(b:v.ownBlock=K k):
  ∃a,w.heap[k]?=K (.cells a e (0,0)):=by
 rcases h.2 with⟨c,_⟩|⟨g,cap,a,f,l,d,r⟩
 .rw[c] at b;cases b
 .rw[f] at b;have:g=k:=by simpa[Value.ownBlock] using b
  subst this;exact⟨a,d⟩
theorem nF.push{iu:V (V (Int×Int))}{q:V (Int×Int)}(h:nF rb rv (iu++[q]) w):
  ∃r cap l,rv=D (K ⟨r,0,Z⟩) (iu.length+1) cap/\rb<r/\(∃f,w.heap[r]?=K (.cells f 127 (0,0))/\f[iu.length]?=K l)/\
   w.ownsRow (rb+1) 81 1 l q.length (mL q)/\
   ∀(w5:G)(g d:Nat)(o:Obj)(p:Int×Int),(w.alloc o).drew.grownBy w5 l.ownBlock->
    w5.ownsRow (rb+1) 81 1 (D (K ⟨g,0,Z⟩) (q.length+1) d) (q.length+1) (mL q++[sX p])->
    (l.ownBlock=K g\/g=w.heap.size+1)->
    nF rb rv (iu++[q++[p]]) (w5.setCell ⟨r,iu.length,Z⟩<|D (K ⟨g,0,Z⟩) (q.length+1) d):=by
 obtain⟨vs,h1,h2,N,O⟩:=h;simp only[bG,dc,fw,ir] at h1 h2;obtain⟨hl,h2'⟩:=id h2;rcases h2' with⟨_,h0⟩|⟨r,cap,f,hv,hg,H,hnc,hcm,hcs,htake⟩
 .omega
 have T:iu.length<vs.length:=U;obtain⟨l,a⟩:∃l,vs[iu.length]?=K l:=⟨_,be T⟩;have hq:w.ownsRow (rb+1) 81 1 l q.length (mL q):=N iu.length l q a E;have C:f[iu.length]?=K l:=by
  rw[<-htake] at a;rw[jb] at a;simp only[Nat.mul_one] at a;rw[y U] at a;simpa using a
 refine⟨r,cap,l,hv,hg,⟨f,H,C⟩,hq,?_⟩;intro w5 g d o p hgrow s A;have M:=apJ H;have hne:l.ownBlock≠K r:=lE hq H ae;have I:w5.heap[r]?=K (.cells f 127 (0,0)):=(lD hgrow r M hne).trans H;have:g≠r:=λe=>by
  obtain⟨c5,m⟩:=fJ s (k:=g) rfl;rw[e,I] at m;injection m with m;injection m with _ m _;cases m
 refine⟨vs.set iu.length<|D (K ⟨g,0,Z⟩) (q.length+1) d,by simp[h1],?_,?_,?_⟩
 .simp only[bG,dc,fw,ir];refine⟨by simpa using hl,F ⟨r,cap,f.setIfInBounds iu.length<|D (K ⟨g,0,Z⟩) (q.length+1) d,hv,hg,apM I _,hnc,hcm,by simpa using hcs,?_⟩⟩;rw[<-htake];simp[List.take_set]
 .intro i v W b R;by_cases n:i=iu.length
  .subst n;rw[ox T] at b;injection b with b;subst b;have e:W=q++[p]:=by simpa using R.symm
   subst e;have e2:mL (q++[p])=mL q++[sX p]:=by simp[mL]
   rw[e2];simp only[bG,dc,fw,ir];refine bH s λk J=>bY ?_ _;have:g=k:=by simpa[Value.ownBlock] using J
   omega
  .rw[ss<|λe=>n e.symm] at b;have Q:i<iu.length:=by
    have:=(bX.1 b).1;omega
   have hg2:(iu++[q])[i]?=K W:=by
    rw[dQ Q] at R⊢;exact R
   have ho:=N i v W b hg2;refine bH ho λk J=>?_;obtain⟨c,z⟩:=fJ ho J;have L:k≠r:=λe=>by
    rw[e,H] at z;injection z with z;injection z with _ z _;cases z
   rw[bY L];refine lD hgrow k (bn ho k J).2 λe=>?_;exact n<|O i iu.length v l k b a J e
 .intro i j v u k b t P B;by_cases n:i=iu.length
  .by_cases x:j=iu.length
   .omega
   .subst n;rw[ox T] at b;injection b with b;subst b;rw[ss<|λe=>x e.symm] at t;have S:g=k:=by simpa[Value.ownBlock] using P
    rcases A with h|h
    .exact(O j iu.length u l k t a B<|by rw[h,S]).symm
    .have:j<iu.length:=by
      have:=(bX.1 t).1;omega
     obtain⟨gj,hgj⟩:∃gj,(iu++[q])[j]?=K gj:=⟨_,be aq⟩;have:=(bn (N j u gj t hgj) k B).2;omega
  .rw[ss<|λe=>n e.symm] at b;by_cases x:j=iu.length
   .subst x;rw[ox T] at t;injection t with t;subst t;have S:g=k:=by simpa[Value.ownBlock] using B
    rcases A with h|h
    .exact O i iu.length v l k b a P (by rw[h,S])
    .have Q:i<iu.length:=by
      have:=(bX.1 b).1;omega
     obtain⟨X,hgi⟩:∃X,(iu++[q])[i]?=K X:=⟨_,be aq⟩;have:=(bn (N i v X b hgi) k P).2;omega
   .rw[ss<|λe=>x e.symm] at t;exact O i j v u k b t P B
theorem AK(x y:Int)(w:G):
  M 38 #[I J x,I J y] w λe w'=>e=aJ (A C (aM C x)<|aM C y)/\w'=w:=by
 go_enter func38,ntmps38
 go_wp2
 go_ret;exact⟨rfl,rfl⟩
theorem Wp:(Tryz.prog.info? 81).map (λi=>(i.zero,i.size,i.bytes))=K (K<|A C 0 0,1,16):=z
theorem Wq(hO:l9)(d:Nat)(s:ByteArray)(A r:V Pl.Tk)(x y:Pl.Tk)(rg:V (V (Int×Int)))(q:V (Int×Int))(w:G)(cx:Cx d s A)(hR:RD d s A (x::y::r) (rg++[q]) w)(hG:Gl w)
  (hx:x.k=110)(hy:y.k=110)(hq:q.length<=1000)(hrg:rg.length<=1000):
  M 196 #[aF (K ⟨d,0,Z⟩)] w λe w'=>e=aJ (aC aP)/\RD d s A r (rg++[q++[(x.n,y.n)]]) w'/\Below d w w':=by
 obtain⟨i0,hi,hz0,hz1,hz2⟩:=aH Wp;have hlt:=hR.lt;obtain⟨t',r',hl,c0,c1,c2,c3,c4⟩:=hR.cells;injection hl with h1 h2;subst h1 h2;go_enter func196,ntmps196;go_wp2_with fail;refine(Ft hO d s A (y::r) x _ _ cx (hR.alloc _) (hG.alloc _) hx).mono ?_;rintro e w1 ⟨rfl,N,hb1,hk1⟩;have C:=hk1 w.heap.size _ U ((hR.nt w.heap.size<|aX _).below hlt<|aj _ _)<|aa w _;obtain⟨t',r',hl,c0,c1,c2,c3,c4⟩:=N.cells;injection hl with h1 h2;subst h1 h2;have Wr:Gl w1:=(hG.alloc _).below hb1 cx.rb;go_wp2_with fail;refine(Ft hO d s A r y _ _ cx (N.alloc _) (Wr.alloc _) hy).mono ?_;rintro e o ⟨rfl,u,hb2,hk2⟩;have W:=N.lt;have T:=hk2 w1.heap.size _ U ((N.nt w1.heap.size<|aX _).below W<|aj _ _)<|aa w1 _;have O:=hk2 w.heap.size _ U (C.2.below W<|aj _ _)<|(ad _ _ _<|apJ C.1).trans C.1;have X:=bQ O.1;have cy2:=bQ T.1;obtain⟨c,t,r0,tv,rv,hc,hl,hbk,F,ahz⟩:=id u;obtain⟨H,cap,qv,rfl,hgr,⟨cur,l,hcq⟩,p,hfin⟩:=ahz.push;have c6:=qR hbk;have ce:o.cell? ⟨H,rg.length,Z⟩=K qv:=(apL l rg.length).trans hcq;have:=u.lt;have:(rg.length:Int)<(rg.length:Int)+1:=U;go_wp2_with fail;refine Till.start (S:=λw'=>w'.cell? ⟨d,6,Z⟩=K (D (K ⟨H,0,Z⟩) (rg.length+1) cap)/\w'.cell? ⟨H,rg.length,Z⟩=K qv/\w'.cell? ⟨w.heap.size,2,Z⟩=K (I J x.n)/\w'.cell? ⟨w1.heap.size,2,Z⟩=K (I J y.n)) (n:=20) z ?_;have f:o.drew.cell? ⟨d,6,Z⟩=K (D (K ⟨H,0,Z⟩) (rg.length+1) cap)/\o.drew.cell? ⟨H,rg.length,Z⟩=K qv/\o.drew.cell? ⟨w.heap.size,2,Z⟩=K (I J x.n)/\o.drew.cell? ⟨w1.heap.size,2,Z⟩=K (I J y.n):=⟨c6,ce,X,cy2⟩;refine Till.take (i:=0) (v:=?_) rfl z z z z (λ_ _ _ h=>h) (j ⟨by rfl,?_⟩) f ?_;rotate_left
 .intro w' b;obtain⟨B,P,Q,R⟩:=b;go_simp
  try with_reducible rfl
 simp only[Act.put,dh];refine Till.take (i:=1) (v:=?_) rfl z z z z (λ_ _ _ h=>h) (j ⟨by rfl,?_⟩) f ?_;rotate_left
 .intro w' b;obtain⟨B,P,Q,R⟩:=b;go_simp
  try with_reducible rfl
 simp only[Act.put];refine Till.take (i:=2) (v:=?_) rfl z z z z (λ_ _ _ h=>h) (j ⟨by rfl,?_⟩) f ?_;rotate_left
 .intro w' b;obtain⟨B,P,Q,R⟩:=b;go_simp
  try with_reducible rfl
 simp only[Act.put];refine Till.take (i:=3) (v:=?_) rfl z z z z (λ_ _ _ h=>h) (j ⟨by rfl,?_⟩) f ?_;rotate_left
 .intro w' b;obtain⟨B,P,Q,R⟩:=b;go_simp
  try with_reducible rfl
 simp only[Act.put];refine Till.take (i:=4) (v:=?_) rfl z z z z (λ_ _ _ h=>h) (j ⟨by rfl,?_⟩) f ?_;rotate_left
 .intro w' b;obtain⟨B,P,Q,R⟩:=b;go_simp
  try with_reducible rfl
 simp only[Act.put];refine Till.take (i:=5) (v:=?_) rfl z z z z (λ_ _ _ h=>h) (j ⟨by rfl,?_⟩) f ?_;rotate_left
 .intro w' b;obtain⟨B,P,Q,R⟩:=b;go_simp
  try with_reducible rfl
 simp only[Act.put];refine Till.take (i:=6) (v:=?_) rfl z z z z (λ_ _ _ h=>h) (j ⟨by rfl,?_⟩) f ?_;rotate_left
 .intro w' b;obtain⟨B,P,Q,R⟩:=b;go_simp
  try with_reducible rfl
 simp only[Act.put];refine Till.take (i:=7) (v:=?_) rfl z z z z (λ_ _ _ h=>h) (j ⟨by rfl,?_⟩) f ?_;rotate_left
 .intro w' b;obtain⟨B,P,Q,R⟩:=b;go_simp
  try with_reducible rfl
 simp only[Act.put];refine Till.take (i:=8) (v:=?_) rfl z z z z (λ_ _ _ h=>h) (j ⟨by rfl,?_⟩) f ?_;rotate_left
 .intro w' b;obtain⟨B,P,Q,R⟩:=b;go_simp
  try with_reducible rfl
 simp only[Act.put];refine Till.take (i:=9) (v:=?_) rfl z z z z (λ_ _ _ h=>h) (j ⟨by rfl,?_⟩) f ?_;rotate_left
 .intro w' b;obtain⟨B,P,Q,R⟩:=b;go_simp
  try with_reducible rfl
 simp only[Act.put];refine Till.take (i:=10) (v:=?_) rfl z z z z (λ_ _ _ h=>h) (j ⟨by rfl,?_⟩) f ?_;rotate_left
 .intro w' b;obtain⟨B,P,Q,R⟩:=b;go_simp
  try with_reducible rfl
 simp only[Act.put];refine Till.take (i:=11) (v:=?_) rfl z z z z (λ_ _ _ h=>h) (j ⟨by rfl,?_⟩) f ?_;rotate_left
 .intro w' b;obtain⟨B,P,Q,R⟩:=b;go_simp
  try with_reducible rfl
 simp only[Act.put];refine Till.take (i:=12) (v:=?_) rfl z z z z (λ_ _ _ h=>h) (j ⟨by rfl,?_⟩) f ?_;rotate_left
 .intro w' b;obtain⟨B,P,Q,R⟩:=b;go_simp
  try with_reducible rfl
 simp only[Act.put];refine Till.take (i:=13) (v:=?_) rfl z z z z (λ_ _ _ h=>h) (j ⟨by rfl,?_⟩) f ?_;rotate_left
 .intro w' b;obtain⟨B,P,Q,R⟩:=b;go_simp
  try with_reducible rfl
 simp only[Act.put];refine Till.take (i:=14) (v:=?_) rfl z z z z (λ_ _ _ h=>h) (j ⟨by rfl,?_⟩) f ?_;rotate_left
 .intro w' b;obtain⟨B,P,Q,R⟩:=b;go_simp
  try with_reducible rfl
 simp only[Act.put];refine Till.take (i:=15) (v:=?_) rfl z z z z (λ_ _ _ h=>h) (j ⟨by rfl,?_⟩) f ?_;rotate_left
 .intro w' b;obtain⟨B,P,Q,R⟩:=b;go_simp
  try with_reducible rfl
 simp only[Act.put];refine Till.one (i:=16) rfl z (λa L=>?_);go_simp;refine(AK _ _ _).mono ?_;rintro e w' ⟨rfl,rfl⟩;go_wp2_with fail;refine L _ _ (λ_=>f) ?_
 try simp only[Act.put,dh,di,cQ]
 refine Till.one (i:=17) rfl z (λa L=>?_);go_simp;refine L _ _ (λ_=>⟨(ahv _ _ _<|aek _ _ c6).trans c6,(ahv _ _ _<|aek _ _ ce).trans ce,(ahv _ _ _<|aek _ _ X).trans X,(ahv _ _ _<|aek _ _ cy2).trans cy2⟩) ?_
 try simp only[Act.put,dh,di,cQ]
 refine Till.one (i:=18) rfl z (λa L=>?_);refine aba _ rfl (.tmp 37) (.tmp 43) 127 rfl (d+1) 81 i0 _ 1 16 underlying127 hi hz0 hz1 hz2 rfl ae qv q.length (mL q) rfl (ed p) ⟨o.heap.size,0,Z⟩ 1 1 [sX (x.n,y.n)] rfl rfl (aai (cs:= #[sX (x.n,y.n)]) (t:=81) (fr:=(0,0))<|aa o _) (by simp[Value.oneCell',sX]) ae ar U (by show d+1<=(o.alloc _).heap.size;simp;omega) (o.heap.size+1) (by show(o.alloc _).heap.size=_;simp) ?_;intro g cap' w5 ho hgrow hat xj;have k6:=(lD hgrow d u.lt<|jo p d U).trans hbk;have kg:=(lD hgrow H (apJ l)<|lE p l ae).trans l;have kx:=(lD hgrow w.heap.size (apJ O.1)<|lE p O.1 ae).trans O.1;have ky:=(lD hgrow w1.heap.size (apJ T.1)<|lE p T.1 ae).trans T.1;have d6:=qR k6;have de:w5.cell? ⟨H,rg.length,Z⟩=K qv:=(apL kg rg.length).trans hcq;have dx:=bQ kx;have dy:=bQ ky;have:w5.frozen? ⟨H,rg.length,Z⟩=aQ:=bE kg _;refine L _ _ (λ_=>⟨d6,de,dx,dy⟩) ?_
 try simp only[Act.put,dh]
 refine Till.one (i:=19) rfl z (λa L=>?_);go_simp;refine L _ _ (λ_=>⟨d6,de,dx,dy⟩) ?_
 try simp only[Act.put,dh,di,cQ]
 refine Till.one (i:=20) rfl z (λa L=>?_);go_simp;refine L _ _ (λh=>absurd rfl h) ?_;refine Till.done z ?_ _;go_wp2_with fail;go_ret;refine⟨rfl,⟨c,t,r0,tv,_,hc,hl,(bY U _).trans k6,bH F λk hk=>?_,hfin w5 g cap' _ _ hgrow ho hat⟩,?_⟩
 .obtain⟨c9,m⟩:=fJ F hk;have hkg:k≠H:=λe=>by
   rw[e,l] at m;injection m with m;injection m with _ m _;cases m
  rw[bY hkg];exact lD hgrow k (bn F k hk).2<|lE p m ae
 .have e1:Below d w o:=(((((Below.refl d w).alloc U _).trans hb1).alloc U _).trans hb2);have e2:Below d w w5:=((e1.alloc (du u.lt) _).drew).grown hgrow (by have:=u.lt;show d<=(o.alloc _).heap.size;simp;omega) (λk hk=>by have:=(bn p k hk).1;omega);exact e2.setCell (by show d<=H;omega) _
theorem La(a:Nat)(s:ByteArray)(A r:V Pl.Tk)(x:Pl.Tk)(rg:V (V (Int×Int)))(w:G)(b:RD a s A (x::r) rg w)(g:x.k≠110):
  M 196 #[aF (K ⟨a,0,Z⟩)] w λe w'=>e=aJ (aC aQ)/\RD a s A (x::r) rg w'/\Below a w w':=by
 have:=b.lt;obtain⟨t,q,f,k,l,m,n,p⟩:=b.cells;injection f with c d;subst c d;go_enter func196,ntmps196;go_wp2_with fail;refine(K9 a s A r x _ _ (b.alloc _) g).mono ?_;rintro e w1 ⟨rfl,rfl⟩;go_wp2_with fail;go_ret;exact⟨rfl,b.alloc _,(Below.refl a w).alloc U _⟩
theorem Ws(B:l9)(b:Nat)(s:ByteArray)(A r:V Pl.Tk)(x y:Pl.Tk)(rg:V (V (Int×Int)))(w:G)(t:Cx b s A)(f:RD b s A (x::y::r) rg w)(v:Gl w)(Q:x.k=110)(R:y.k≠110):
  M 196 #[aF (K ⟨b,0,Z⟩)] w λe w'=>e=aJ (aC aQ)/\RD b s A (y::r) rg w'/\Below b w w':=by
 have:=f.lt;obtain⟨i,S,k,l,m,n,p,q⟩:=f.cells;injection k with c d;subst c d;go_enter func196,ntmps196;go_wp2_with fail;refine(Ft B b s A (y::r) x _ _ t (f.alloc _) (v.alloc _) Q).mono ?_;rintro e w1 ⟨rfl,a,g,P⟩;clear l m n p q;obtain⟨i,S,k,l,m,n,p,q⟩:=a.cells;injection k with c d;subst c d;have:=a.lt;go_wp2_with fail;refine(K9 b s A r y _ _ (a.alloc _) R).mono ?_;rintro e j ⟨rfl,rfl⟩;go_wp2_with fail;go_ret;exact⟨rfl,a.alloc _,(((Below.refl b w).alloc U _).trans g).alloc U _⟩
theorem RD.chain{A:V Pl.Tk}(a:Cx rb s A)(h:RD rb s A l rg w):Pl.eU s.data.toList l:=by
 obtain⟨c,t,r,b,d⟩:=h.suffix;exact Pl.Ff _ c l (by rw[b];exact a.ch) (by rw[d];simp)
theorem RD.le{A:V Pl.Tk}(h:RD rb s A l rg w):l.length<=A.length:=by
 obtain⟨c,t,r,a,b⟩:=h.suffix;rw[<-a];simp
def sY(c:Nat)(s:ByteArray)(A:V Pl.Tk)(b:Bool)(l':V Pl.Tk)(a:V (V (Int×Int)))(w:G)(e:Ending)(w':G):Prop:=
 e=aJ (aC b)/\(∃rg,RD c s A l' rg w'/\(b=aP->rg=a))/\Below c w w'
theorem Wt(v:l9)(f:Nat)(s:ByteArray)(a l:V Pl.Tk)(rg:V (V (Int×Int)))(q:V (Int×Int))(w:G)(n:Cx f s a)(c:RD f s a l (rg++[q]) w)(t:Gl w)(B:q.length<=1000)(p:rg.length<=1000):
  M 196 #[aF (K ⟨f,0,Z⟩)] w (sY f s a (Pl.dW l).1 (Pl.dW l).2.1 (rg++[q++[(Pl.dW l).2.2]]) w):=by
 have b:=c.chain n
 match l,c,b with
 |[],c,b=>exact b.elim
 |[x],c,b=>
  have d:x.k≠110:=by
   have:x.k=101\/x.k=120:=b;omega
  refine(La f s a [] x _ w c d).mono ?_;rintro e w' ⟨rfl,g,k⟩;exact⟨rfl,⟨_,g,λh=>(by cases h)⟩,k⟩
 |x::y::r,c,b=>
  by_cases d:x.k=110
  .by_cases m:y.k=110
   .have e:Pl.dW (x::y::r)=(aP,r,(x.n,y.n)):=by simp[Pl.dW,d,m]
    rw[e];refine(Wq v f s a r x y rg q w n c t d m B p).mono ?_;rintro e w' ⟨rfl,g,k⟩;exact⟨rfl,⟨_,g,λ_=>rfl⟩,k⟩
   .have e:Pl.dW (x::y::r)=(aQ,y::r,(0,0)):=by simp[Pl.dW,d,m]
    rw[e];refine(Ws v f s a r x y _ w n c t d m).mono ?_;rintro e w' ⟨rfl,g,k⟩;exact⟨rfl,⟨_,g,λh=>(by cases h)⟩,k⟩
  .have e:Pl.dW (x::y::r)=(aQ,x::y::r,(0,0)):=by simp[Pl.dW,d]
   rw[e];refine(La f s a _ x _ w c d).mono ?_;rintro e w' ⟨rfl,g,k⟩;exact⟨rfl,⟨_,g,λh=>(by cases h)⟩,k⟩
theorem pN{c:Nat}(h:(Pl.mk c l).1=aP):(Pl.mk c l).2.length+1=l.length:=by
 cases l with
 |nil=>simp[Pl.mk] at h
 |cons t r=>
  by_cases a:t.k=c
  .simp[Pl.mk,a]
  .simp[Pl.mk,a] at h
theorem xk{c:Nat}(h:(Pl.mk c l).1=aQ):(Pl.mk c l).2=l:=by
 cases l with
 |nil=>rfl
 |cons t r=>
  by_cases a:t.k=c
  .simp[Pl.mk,a] at h
  .simp[Pl.mk,a]
theorem uC{α:Type}{item:V Pl.Tk->Bool×V Pl.Tk×α}{acc:V α}(h:(item l).1=aQ):Pl.eW item (g+1) l acc=(aQ,(item l).2.1,acc):=by
 rw[Pl.eW,X (by rw[h];simp)]
theorem uD{α:Type}{item:V Pl.Tk->Bool×V Pl.Tk×α}{acc:V α}(h:(item l).1=aP)(a:(Pl.mk 44 (item l).2.1).1=aP):
  Pl.eW item (g+1) l acc=Pl.eW item g (Pl.mk 44 (item l).2.1).2 (acc++[(item l).2.2]):=by
 rw[Pl.eW,y h,y a]
theorem uE{α:Type}{item:V Pl.Tk->Bool×V Pl.Tk×α}{acc:V α}(h:(item l).1=aP)(a:(Pl.mk 44 (item l).2.1).1=aQ):
  Pl.eW item (g+1) l acc=((Pl.mk 41 (item l).2.1).1,(Pl.mk 41 (item l).2.1).2,acc++[(item l).2.2]):=by
 rw[Pl.eW,y h,X (by rw[a];simp)]
theorem Fu(F:Nat)(hc:∀(r:Array Y)(w:G),(callFunc F r).run prog w=.ok (.enter F r) w){α:Type}(c:V Pl.Tk->Bool×V Pl.Tk×α)(a:V α->V (V (Int×Int)))(B:V Pl.Tk->V α->Prop)(O:l9)(d:Nat)(s:ByteArray)(A:V Pl.Tk)(u:Cx d s A)
  (hI:∀l b w,RD d s A l (a b) w->Gl w->B l b->M F #[aF (K ⟨d,0,Z⟩)] w (sY d s A (c l).1 (c l).2.1 (a<|b++[(c l).2.2]) w))
  (hd:∀l,(c l).1=aP->(c l).2.1.length<l.length)
  (hB:∀l b,B l b->(c l).1=aP->B (Pl.mk 44 (c l).2.1).2 (b++[(c l).2.2]))
  (f:Nat)(l:V Pl.Tk)(b:V α)(w:G)(z:RD d s A l (a b) w)(y:Gl w)(n:B l b)(hf:l.length<=f):
  M 149 #[aF (K ⟨d,0,Z⟩),.func (.func F) #[aF (K ⟨d,0,Z⟩)] #[]] w (sY d s A (Pl.eW c f l b).1 (Pl.eW c f l b).2.1 (a (Pl.eW c f l b).2.2) w):=by
 generalize k:Pl.eW c f l b=T;have HI:=hid hI;have X:=hid hd;have W:=hid hB;have HS:H (∃l b,l.length<=f/\RD d s A l (a b) w/\Gl w/\B l b/\Below d w w/\Pl.eW c f l b=T):=⟨l,b,hf,z,y,n,Below.refl _ _,k⟩;go_enter func149,ntmps149;go_wp2_with fail
 go_loopg [6] f (λg s6 wr=>H (∃l b,l.length<=g/\RD d s A l (a b) wr/\Gl wr/\B l b/\Below d w wr/\Pl.eW c g l b=T))
 case atStart=>exact HS
 case round=>
  obtain⟨l,b,i,z,y,n,m,k⟩:=hrel.o;have J:l≠[]:=by
   obtain⟨_,_,_,_,h⟩:=z.suffix;rw[h];simp
  obtain⟨x,rfl⟩:∃x,gk=x+1:=⟨gk-1,by have:=fT.2 J;omega⟩;have D:=hid k;have HL:=hid i;go_wp2_with fail;refine(HI.o l b wr z y n).mono ?_;rintro e w1 ⟨rfl,⟨N,R,j⟩,q⟩;have P:Gl w1:=y.below q u.rb;have HE:=hid j;cases v:(c l).1
  .have k:=D.o;rw[uC v] at k;subst k;go_wp2_with fail;go_ret;exact⟨rfl,⟨N,R,λh=>(by cases h)⟩,m.trans q⟩
  .have L:=HE.o v;subst L;go_wp2_with fail;refine(uB O 44 ae d s A _ _ w1 u R P).mono ?_;rintro e o ⟨rfl,p,t⟩;have Q:Gl o:=P.below t u.rb;simp only[show(44:UInt8).toNat=44 from rfl] at p⊢;cases C:(Pl.mk 44 (c l).2.1).1
   .have k:=D.o;rw[uE v C] at k;subst k;rw[xk C] at p;go_wp2_with fail;refine(uB O 41 ae d s A _ _ o u p Q).mono ?_;rintro e w3 ⟨rfl,S,I⟩;simp only[show(41:UInt8).toNat=41 from rfl] at S⊢;go_wp2_with fail;go_ret;exact⟨rfl,⟨_,S,λ_=>rfl⟩,((m.trans q).trans t).trans I⟩
   .have k:=D.o;rw[uD v C] at k;have HN:H (∃l b,l.length<=x/\RD d s A l (a b) o/\Gl o/\B l b/\Below d w o/\Pl.eW c x l b=T):=by
     refine⟨_,_,?_,p,Q,W.o l b n v,(m.trans q).trans t,k⟩;have:=X.o l v;have:=pN C;have:=HL.o;omega
    go_wp2_with fail;go_roundg x
    case measure=>omega
    case rel=>exact HN
end
end Go.Proofs.YtkjhhooecopolaaGreatDoor

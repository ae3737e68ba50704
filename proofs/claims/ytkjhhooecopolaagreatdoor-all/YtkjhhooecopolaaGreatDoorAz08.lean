import Derived.Test.YtkjhhooecopolaaGreatDoorAz06
import Derived.Test.YtkjhhooecopolaaGreatDoorAz07
set_option maxRecDepth 100000
set_option maxHeartbeats 4000000
namespace Go.Proofs.YtkjhhooecopolaaGreatDoor
open Go.Proofs.Tryz
open Value renaming int->I,complex->A,agg->u,bool->aC,string->aD,slice->D,pointer->aF,tuple->aG
open IntKind renaming i64->J
open FloatKind renaming f64->C
open Ending renaming returned->aJ
open Go renaming World->G,Value->Y
open Option renaming some->K,none->Z
open Bool renaming true->aP,false->aQ
section
open Go.RowKit
variable{bad:Bool}{a w w' w1 w2 w4 w5:G}{A r l:V Pl.Tk}{pb b tb cap T size n k:Nat}{o1 o2:Obj}{row:Option Nat}{α:Type}{e:TypeId}{v:Y}
structure Fp(pb:Nat)(w w':G):Prop where
 os:w'.os=w.os
 tape:w'.tape=w.tape
 output:w'.output=w.output
 size:w.heap.size<=w'.heap.size
 block:∀k,k<w.heap.size->k≠pb->w'.heap[k]?=w.heap[k]?
theorem Fp.refl(a:Nat)(w:G):Fp a w w:=⟨rfl,rfl,rfl,aX _,λ_ _ _=>rfl⟩
theorem Fp.trans{b c:G}(h:Fp pb a b)(k:Fp pb b c):Fp pb a c:=
 ⟨k.os.trans h.os,k.tape.trans h.tape,k.output.trans h.output,el h.size k.size,λi e d=>(k.block i (bg e h.size) d).trans<|h.block i e d⟩
theorem Fp.drewN(h:Fp pb a w)(n:Nat):Fp pb a (w.drewN n):=⟨h.os,h.tape,h.output,h.size,h.block⟩
theorem Fp.set(h:Fp pb a w)(o:Nat)(v:Y):Fp pb a (w.setCell ⟨pb,o,Z⟩ v):=
 ⟨h.os,h.tape,h.output,by simp;exact h.size,λk c b=>(bY b _).trans<|h.block k c b⟩
theorem Fp.below(h:Fp pb w w')(B:Nat)(a:B<=pb)(c:B<=w.heap.size):Below B w w':=⟨h.os,h.tape,h.output,h.size,λk b=>h.block k U U⟩
def fK(c:V Pl.Tk):Int:=match c.find? outT with |some a=>a.pl|none=> -1
def PS(e d cap:Nat)(A l:V Pl.Tk)(b:Bool)(w:G):Prop:=
 d≠e/\(∃a,w.heap[d]?=K (.cells a 61 (0,0))/\∀(j:Nat) u,(oF A)[j]?=K u->a[j]?=K u)/\
 ∃c,c++l=A/\w.heap[e]?=K (.cells #[D (K ⟨d,0,Z⟩) A.length cap,I J c.length,aC b,I J<|fK c] 55 (0,0))
theorem WF(c:V Pl.Tk)(k:Nat)(t:Pl.Tk)(h:c[k]?=K t)(j:Nat)(e:j<4):(oF c)[k*4+j]?=(oE t)[j]?:=by induction c generalizing k with|nil=>grind|cons a r d=>cases k with|zero=>have:a=t:=(by grind);subst this;simp only[oF,nn,ab4,ir];rw[dQ (by simp[oE];omega)];simp|succ k=>have b:r[k]?=K t:=(by grind);have:=d k b;simp only[oF,nn] at this⊢;rw[jc (by simp[oE];omega)];rw[<-this];congr 1;simp[oE];omega
theorem PS.cells{t:Pl.Tk}(h:PS pb tb cap A (t::r) bad w):
  ∃c:V Pl.Tk,c++t::r=A/\w.heap[pb]?=K (.cells #[D (K ⟨tb,0,Z⟩) A.length cap,I J c.length,aC bad,I J<|fK c] 55 (0,0))/\
   w.cell? ⟨tb,c.length*4,Z⟩=K (I .u8 t.k)/\w.cell? ⟨tb,c.length*4+1,Z⟩=K (aD ⟨(Pl.rS t).toArray⟩)/\w.cell? ⟨tb,c.length*4+2,Z⟩=K (I J t.n)/\w.cell? ⟨tb,c.length*4+3,Z⟩=K (I J t.pl)/\
   c.length<A.length/\tb<w.heap.size:=by obtain⟨l,⟨e,a,b⟩,c,d,f⟩:=h;have g:A[c.length]?=K t:=(by grind);have hcell:∀j u,j<4->(oE t)[j]?=K u->w.cell? ⟨tb,c.length*4+j,Z⟩=K u:=λj u k m=>(by rw[apL a];exact b _ _ (by rw[WF A c.length t g j k];exact m));exact⟨c,d,f,by simpa using hcell 0 (I .u8 t.k) U rfl,hcell 1 _ U rfl,hcell 2 _ U rfl,hcell 3 _ U rfl,by grind,apJ a⟩
theorem PS.mono(h:PS pb tb cap A l bad w)(g:∀k,k<w.heap.size->w'.heap[k]?=w.heap[k]?):PS pb tb cap A l bad w':=by obtain⟨e,⟨d,a,b⟩,c,m,f⟩:=h;exact⟨e,⟨d,(g _<|apJ a).trans a,b⟩,c,m,(g _<|apJ f).trans f⟩
theorem PS.put{l':V Pl.Tk}{bad':Bool}(h:PS pb tb cap A l bad w)(c:V Pl.Tk)(g:c++l'=A)
  (m:∀k,k<w.heap.size->k≠pb->w'.heap[k]?=w.heap[k]?)(f:w'.heap[pb]?=K (.cells #[D (K ⟨tb,0,Z⟩) A.length cap,I J c.length,aC bad',I J<|fK c] 55 (0,0))):PS pb tb cap A l' bad' w':=by obtain⟨b,⟨e,a,d⟩,_⟩:=h;exact⟨b,⟨e,(m _ (apJ a) b).trans a,d⟩,c,g,f⟩
theorem Fv(c:V Pl.Tk)(t:Pl.Tk)(h:t.k≠110):fK (c++[t])=fK c:=by
 unfold fK;have:outT t=aQ:=by unfold outT;simp[h]
 grind
theorem AQ(b m cap:Nat)(A r:V Pl.Tk)(t:Pl.Tk)(w:G)(k:Nat)(g:PS b m cap A (t::r) aQ w)(R:A.length<=402)(l:t.k=k)(f:k≠110):
  M 42 #[aF (K ⟨b,0,Z⟩),I .u8 k] w λe w'=>e=aJ (aG #[])/\PS b m cap A r aQ w'/\Fp b w w':=by obtain⟨c,s,a,e0,B,P,Q,v,x⟩:=g.cells;have n:=hid s;have p:=hid<|Fv c t U;have:=bz a;have:=bw a;have:=bQ a;have:=bE a 1;rw[l] at e0;have:(c.length:Int)<(A.length:Int):=U;go_enter func42,ntmps42;go_wp2_with fail;go_quiet (fail);go_wp2_with fail;go_end0;refine⟨rfl,g.put (c++[t]) (by rw[<-n.out];simp) (λk l d=>bY d _) ?_,((Fp.refl b w).drewN nq).set 1 _⟩;have q:=apM (w:=w.drewN nq) (o:=1) a<|I J<|(c.length:Int)+1;rw[p.out];simpa using q
theorem AR(b g cap:Nat)(A r:V Pl.Tk)(t:Pl.Tk)(w:G)(k:Nat)(f:PS b g cap A (t::r) aQ w)(_:A.length<=402)(p:t.k≠k):
  M 42 #[aF (K ⟨b,0,Z⟩),I .u8 k] w λe w'=>e=aJ (aG #[])/\PS b g cap A (t::r) aP w'/\Fp b w w':=by obtain⟨c,m,a,e0,s,v,x,n,q⟩:=f.cells;have l:=hid m;have:=bz a;have:=bw a;have:=bQ a;have:=bE a 2;have:(c.length:Int)<(A.length:Int):=U;have:((t.k:Int) == (k:Int))=aQ:=(by rw[ou];omega);go_enter func42,ntmps42;go_wp2_with fail;go_quiet (fail);go_wp2_with fail;go_end0;refine⟨rfl,f.put c l.out (λk p d=>bY d _) ?_,((Fp.refl b w).drewN nq).set 2 _⟩;exact apM (w:=w.drewN nq) (o:=2) a<|aC aP
theorem WG(a g cap:Nat)(A r:V Pl.Tk)(t:Pl.Tk)(w:G)(k:Nat)(f:PS a g cap A (t::r) aP w)(_:A.length<=402):
  M 42 #[aF (K ⟨a,0,Z⟩),I .u8 k] w λe w'=>e=aJ (aG #[])/\PS a g cap A (t::r) aP w'/\Fp a w w':=by obtain⟨c,m,b,e0,q,s,v,n,p⟩:=f.cells;have l:=hid m;have:=bQ b;have:=bE b 2;go_enter func42,ntmps42;go_wp2_with fail;go_quiet (fail);go_wp2_with fail;go_end0;refine⟨rfl,f.put c l.out (λk x d=>bY d _) ?_,((Fp.refl a w).drewN nq).set 2 _⟩;exact apM (w:=w.drewN nq) (o:=2) b<|aC aP
theorem WH(b l cap:Nat)(A r:V Pl.Tk)(t:Pl.Tk)(w:G)(k:Nat)(d:PS b l cap A (t::r) aQ w)(_:A.length<=402):
  M 44 #[aF (K ⟨b,0,Z⟩),I .u8 k] w λe w'=>e=aJ (aC<|decide (t.k=k))/\∃n,w'=w.drewN n:=by obtain⟨c,s,a,e0,m,p,q,f,g⟩:=d.cells;have:=bz a;have:=bw a;have:=bQ a;have:(c.length:Int)<(A.length:Int):=U;go_enter func44,ntmps44;go_wp2_with fail;go_quiet (fail);go_wp2_with fail;go_ret;refine⟨nD ?_,_,rfl⟩;rw[ke];simp;omega
theorem WJ(a l cap:Nat)(A r:V Pl.Tk)(t:Pl.Tk)(w:G)(k:Nat)(b:PS a l cap A (t::r) aP w)(_:A.length<=402):
  M 44 #[aF (K ⟨a,0,Z⟩),I .u8 k] w λe w'=>e=aJ (aC aQ)/\∃n,w'=w.drewN n:=by obtain⟨c,s,d,e0,m,p,q,f,g⟩:=b.cells;have:=bQ d;go_enter func44,ntmps44;go_wp2_with fail;go_quiet (fail);go_wp2_with fail;go_ret;exact⟨rfl,_,rfl⟩
theorem Fp.alloc(h:Fp pb a w)(o:Obj):Fp pb a (w.alloc o):=
 ⟨h.os,h.tape,h.output,by simp;exact Nat.le_succ_of_le h.size,λk c b=>(ad _ _ _<|bg c h.size).trans<|h.block k c b⟩
theorem Fp.drew(h:Fp pb a w):Fp pb a w.drew:=⟨h.os,h.tape,h.output,h.size,h.block⟩
theorem WK(d p cap:Nat)(A r:V Pl.Tk)(t:Pl.Tk)(w:G)(q:ByteArray)(l:PS d p cap A (t::r) aQ w)(S:A.length<=402)(f:t.k=119)(n:(⟨t.raw.toArray⟩:ByteArray)=q):
  M 29 #[aF (K ⟨d,0,Z⟩),aD q] w λe w'=>e=aJ (aC aP)/\PS d p cap A r aQ w'/\Fp d w w':=by obtain⟨c,m,a,e0,x,Q,R,B,P⟩:=l.cells;have s:=hid m;have:=bz a;have:=bw a;have:=bQ a;have:=bE a 1;have:(c.length:Int)<(A.length:Int):=U;clear m;have v:=hid<|Fv c t U;have b:Pl.rS t=t.raw:=(by unfold Pl.rS;rw[X U]);rw[b,n] at x;rw[f] at e0;clear f n b;go_enter func29,ntmps29;go_wp2_with fail;go_quiet (fail);go_wp2_with fail;go_ret;refine⟨rfl,l.put (c++[t]) (by rw[<-s.o];simp) (λk f g=>bY g _) ?_,((Fp.refl d w).drewN nq).set 1 _⟩;have q:=apM (w:=w.drewN nq) (o:=1) a<|I J<|(c.length:Int)+1;rw[v.o];simpa using q
theorem WM(b m cap:Nat)(A r:V Pl.Tk)(t:Pl.Tk)(w:G)(q:ByteArray)(d:PS b m cap A (t::r) aQ w)(_:A.length<=402)(k:t.k≠119):
  M 29 #[aF (K ⟨b,0,Z⟩),aD q] w λe w'=>e=aJ (aC aQ)/\∃n,w'=w.drewN n:=by obtain⟨c,f,a,e0,p,s,v,g,l⟩:=d.cells;have:=bz a;have:=bw a;have:=bQ a;have:(c.length:Int)<(A.length:Int):=U;clear f;have:((t.k:Int) == 119)=aQ:=(by rw[ou];omega);clear k;go_enter func29,ntmps29;go_wp2_with fail;go_quiet (fail);go_wp2_with fail;go_ret;exact⟨rfl,_,rfl⟩
theorem WN(f v cap:Nat)(A r:V Pl.Tk)(t:Pl.Tk)(w:G)(q:ByteArray)(k:PS f v cap A (t::r) aQ w)(_:A.length<=402)(d:t.k=119)(P:((⟨t.raw.toArray⟩:ByteArray).toList == q.toList)=aQ):
  M 29 #[aF (K ⟨f,0,Z⟩),aD q] w λe w'=>e=aJ (aC aQ)/\∃n,w'=w.drewN n:=by obtain⟨c,l,b,e0,g,x,B,m,p⟩:=k.cells;have:=bz b;have:=bw b;have:=bQ b;have:(c.length:Int)<(A.length:Int):=U;clear l;have a:Pl.rS t=t.raw:=(by unfold Pl.rS;rw[X U]);rw[a] at g;rw[d] at e0;clear d a;generalize(⟨t.raw.toArray⟩:ByteArray)=s at*;go_enter func29,ntmps29;go_wp2_with fail;go_quiet (fail);go_wp2_with fail;go_ret;exact⟨rfl,_,rfl⟩
theorem WP(a b cap:Nat)(A r:V Pl.Tk)(t:Pl.Tk)(w:G)(l:PS a b cap A (t::r) aP w)(_:A.length<=402):
  M 145 #[aF (K ⟨a,0,Z⟩)] w λe w'=>e=aJ (I J 0)/\PS a b cap A (t::r) aP w'/\Fp a w w':=by obtain⟨c,m,d,e0,v,x,B,p,s⟩:=l.cells;have n:=hid m;have:=bz d;have:=bw d;have:=bQ d;have:=bE d 2;have:(c.length:Int)<(A.length:Int):=U;have g:=apJ d;clear m;go_enter func145,ntmps145;go_wp2_with fail;go_region_held3 (λw'=>atb w' a (D (K ⟨b,0,Z⟩) A.length cap) (I J c.length)/\ata w' b (c.length*4) (I .u8 t.k) (aD ⟨(Pl.rS t).toArray⟩) (I J t.n) (I J t.pl)) (go_keep) (fail);go_wp2_with fail;go_ret;refine⟨rfl,l.put c n.o (λk q f=>(ad _ _ _ (by simp;exact q)).trans<|bY f _) ?_,(((Fp.refl a w).set 2 _).alloc _).drew⟩;exact(ad _ _ _ (by simp;exact g)).trans<|apM (o:=2) d<|aC aP
theorem Li(a b cap:Nat)(A r:V Pl.Tk)(t:Pl.Tk)(w:G)(m:PS a b cap A (t::r) aQ w)(_:A.length<=402)(f:t.k≠110):
  M 145 #[aF (K ⟨a,0,Z⟩)] w λe w'=>e=aJ (I J 0)/\PS a b cap A (t::r) aP w'/\Fp a w w':=by
 obtain⟨c,n,d,e0,v,x,B,q,s⟩:=m.cells;have p:=hid n;have:=bz d;have:=bw d;have:=bQ d;have:=bE d 2;have:(c.length:Int)<(A.length:Int):=U;have l:=apJ d;clear n;have:((t.k:Int) != 110)=aP:=by rw[qL];omega
 clear f;go_enter func145,ntmps145;go_wp2_with fail;go_region_held3 (λw'=>atb w' a (D (K ⟨b,0,Z⟩) A.length cap) (I J c.length)/\ata w' b (c.length*4) (I .u8 t.k) (aD ⟨(Pl.rS t).toArray⟩) (I J t.n) (I J t.pl)) (go_keep) (fail);go_wp2_with fail;go_ret;refine⟨rfl,m.put c p.o (λk f g=>(ad _ _ _ (by simp;exact f)).trans<|bY g _) ?_,(((Fp.refl a w).set 2 _).alloc _).drew⟩;exact(ad _ _ _ (by simp;exact l)).trans<|apM (o:=2) d<|aC aP
theorem Fw(g n cap:Nat)(a r:V Pl.Tk)(t:Pl.Tk)(w:G)(x:PS g n cap a (t::r) aQ w)(hl:a.length<=402)(l:t.k=110):
  M 145 #[aF (K ⟨g,0,Z⟩)] w λe w'=>e=aJ (I J t.n)/\PS g n cap a r aQ w'/\Fp g w w':=by
 obtain⟨c,R,d,e0,L,N,O,T,Bf⟩:=x.cells;have Q:=hid R;obtain⟨y,z,c2,c3⟩:=ajG d;have f1:=bE d 1;have f2:=bE d 2;have f3:=bE d 3;have X:(c.length:Int)<(a.length:Int):=U;have p:=apJ d;clear R;rw[l] at e0;have i:(H (fK (c++[t])=fK c)/\(0<=fK c\/fK c<0/\ -50<=t.n/\t.n<=50))\/H (fK (c++[t])=t.pl)/\fK c<0/\(50<t.n\/t.n< -50):=(by by_cases m:0<=fK c\/ -50<=t.n/\t.n<=50;refine j ⟨?_,U⟩;show _=_;unfold fK at m⊢;rw[Ai];(cases v:c.find? outT with|some b=>rfl|none=>have:outT t=aQ:=(by unfold outT qW;rw[v] at m;simp at m;simp[m]);simp[this]);refine F ⟨?_,U⟩;show _=_;unfold fK at m⊢;rw[Ai];cases v:c.find? outT with|some b=>rw[v] at m;simp at m|none=>have:outT t=aP:=(by unfold outT qW;simp[l];omega);simp[this]);generalize fK c=oc at*;clear l;have n0:=ael w _ y;have n1:=ael w _ z;have n2:=ael w _ e0;have n3:=ael w _ L;have n4:=ael w _ N;have n5:=ael w _ O;rcases i with⟨s,W|⟨P,Y,hr2⟩⟩|⟨s,P,B|B⟩;(all_goals try have W:decide (oc<0)=aQ:=aq);all_goals try have S:decide (50<t.n)=aQ:=aq
 all_goals
  go_enter func145,ntmps145;go_wp2_with fail;go_region_held3 (λw'=>atb w' g (D (K ⟨n,0,Z⟩) a.length cap) (I J c.length)/\ata w' n (c.length*4) (I .u8 110) (aD ⟨(Pl.rS t).toArray⟩) (I J t.n) (I J t.pl)) (go_keep) (fail);go_wp2_with fail;go_ret;have q:=apM (w:=w) (o:=1) d<|I J<|(c.length:Int)+1
  first
   |(refine⟨rfl,x.put (c++[t]) (by rw[<-Q.o];simp) (λk l f=>(ad _ _ _ (by simp;exact l)).trans<|bY f _) ?_,(((Fp.refl g w).set 1 _).alloc _).drew⟩;rw[s.o];simp only[bG,dc,fw];exact(ad _ _ _ (by simp;exact p)).trans q)
   |(refine⟨rfl,x.put (c++[t]) (by rw[<-Q.o];simp) (λk l f=>(ad _ _ _ (by simp;exact l)).trans<|(bY f _).trans<|bY f _) ?_,((((Fp.refl g w).set 1 _).set 3 _).alloc _).drew⟩;rw[s.o];simp only[bG,dc,fw];exact(ad _ _ _ (by simp;exact p)).trans<|apM (o:=3) q<|I J t.pl)
theorem PS.lt(h:PS pb tb cap A l bad w):pb<w.heap.size:=by obtain⟨_,_,c,_,a⟩:=h;grind
theorem PS.alloc(h:PS pb tb cap A l bad w)(o:Obj):PS pb tb cap A l bad (w.alloc o):=
 h.mono λ_ a=>ad _ _ _ a
theorem PS.drewN(h:PS pb tb cap A l bad w)(n:Nat):PS pb tb cap A l bad (w.drewN n):=h
theorem PS.box(h:PS pb tb cap A l bad w):
  ∃c:V Pl.Tk,c++l=A/\w.heap[pb]?=K (.cells #[D (K ⟨tb,0,Z⟩) A.length cap,I J c.length,aC bad,I J<|fK c] 55 (0,0)):=by obtain⟨_,_,c,b,a⟩:=h;grind
theorem PS.Fz{T:TypeId}{cs:Array Y}{X a:Y}(h:PS pb tb cap A l bad w)(b:Nat)(q:b≠pb)(r:T=61->False)(n:w.heap[b]?=K (.cells cs T (0,0))):
  PS pb tb cap A l bad ((w.setCell ⟨b,0,Z⟩ X).setCell ⟨b,1,Z⟩ a):=by obtain⟨p,⟨k,d,f⟩,c,s,m⟩:=h;have g:tb≠b:=λe=>(by grind);exact⟨p,⟨k,((bY g _).trans<|bY g _).trans d,f⟩,c,s,((bY (lu q) _).trans<|bY (lu q) _).trans m⟩
def WV(a c cap:Nat)(A:V Pl.Tk)(b:Bool)(l':V Pl.Tk)(p:Int×Int)(w:G)(e:Ending)(w':G):Prop:=
 ∃X Y:Int,e=aJ (u #[I J X,I J Y])/\PS a c cap A l' (!b) w'/\Fp a w w'/\(b=aP->(X,Y)=p)
theorem FB{X a:Y}{o:Obj}(c:Fp pb (w.alloc o) w1)(d:Fp pb w1 w2)(_:pb<w.heap.size):
  Fp pb w ((w2.setCell ⟨w.heap.size,0,Z⟩ X).setCell ⟨w.heap.size,1,Z⟩ a):=by have h:=c.trans d;refine⟨h.os,h.tape,h.output,?_,λk e b=>?_⟩;have:=h.size;simp at this⊢;omega;rw[bY U,bY U,h.block k aq b];exact ad _ _ _ e
theorem WW(b f cap:Nat)(A r:V Pl.Tk)(x y:Pl.Tk)(w:G)(m:PS b f cap A (x::y::r) aQ w)(n:A.length<=402)(s:x.k=110)(t:y.k=110):
  M 87 #[aF (K ⟨b,0,Z⟩)] w λe w'=>e=aJ (u #[I J (x.n),I J (y.n)])/\PS b f cap A r (!aP) w'/\Fp b w w':=by have l:=m.lt;go_enter func87,ntmps87;go_wp2_with fail;refine(Fw b f cap A _ x _ (m.alloc _) n s).mono ?_;rintro e w1 ⟨rfl,g,c⟩;go_wp2_with fail;refine(Fw b f cap A _ y _ g n t).mono ?_;rintro e B ⟨rfl,k,d⟩;have a:=((c.trans d).block w.heap.size E U).trans<|aa w _;have p:=bz a;have q:=bw a;have:=bE a 0;have:=bE a 1;go_wp2_with fail;refine ab (v:=u #[I J (x.n),I J (y.n)]) (by simp[results,results87,go_sem,p,q]) rfl ⟨rfl,?_,FB c d l⟩;exact k.Fz w.heap.size U (λh=>by cases h) a
theorem WX(b f cap:Nat)(A r:V Pl.Tk)(x y:Pl.Tk)(w:G)(m:PS b f cap A (x::y::r) aQ w)(n:A.length<=402)(s:x.k=110)(t:y.k≠110):
  M 87 #[aF (K ⟨b,0,Z⟩)] w λe w'=>e=aJ (u #[I J (x.n),I J 0])/\PS b f cap A (y::r) (!aQ) w'/\Fp b w w':=by have l:=m.lt;go_enter func87,ntmps87;go_wp2_with fail;refine(Fw b f cap A _ x _ (m.alloc _) n s).mono ?_;rintro e w1 ⟨rfl,g,c⟩;go_wp2_with fail;refine(Li b f cap A _ y _ g n t).mono ?_;rintro e B ⟨rfl,k,d⟩;have a:=((c.trans d).block w.heap.size E U).trans<|aa w _;have p:=bz a;have q:=bw a;have:=bE a 0;have:=bE a 1;go_wp2_with fail;refine ab (v:=u #[I J (x.n),I J 0]) (by simp[results,results87,go_sem,p,q]) rfl ⟨rfl,?_,FB c d l⟩;exact k.Fz w.heap.size U (λh=>by cases h) a
theorem Lp(b f cap:Nat)(A r:V Pl.Tk)(x:Pl.Tk)(w:G)(m:PS b f cap A (x::r) aQ w)(n:A.length<=402)(s:x.k≠110):
  M 87 #[aF (K ⟨b,0,Z⟩)] w λe w'=>e=aJ (u #[I J 0,I J 0])/\PS b f cap A (x::r) (!aQ) w'/\Fp b w w':=by have l:=m.lt;go_enter func87,ntmps87;go_wp2_with fail;refine(Li b f cap A _ x _ (m.alloc _) n s).mono ?_;rintro e w1 ⟨rfl,g,c⟩;go_wp2_with fail;refine(WP b f cap A _ x _ g n).mono ?_;rintro e t ⟨rfl,k,d⟩;have a:=((c.trans d).block w.heap.size E U).trans<|aa w _;have p:=bz a;have q:=bw a;have:=bE a 0;have:=bE a 1;go_wp2_with fail;refine ab (v:=u #[I J 0,I J 0]) (by simp[results,results87,go_sem,p,q]) rfl ⟨rfl,?_,FB c d l⟩;exact k.Fz w.heap.size U (λh=>by cases h) a
theorem WY(k m cap:Nat)(s:V UInt8)(a l:V Pl.Tk)(w:G)(b:Pl.aaV s l)(c:PS k m cap a l aQ w)(n:a.length<=402):
  M 87 #[aF (K ⟨k,0,Z⟩)] w (WV k m cap a (Pl.dW l).1 (Pl.dW l).2.1 (Pl.dW l).2.2 w):=by match l,c,b with|[],c,b=>exact b.elim|[x],c,b=>have d:x.k≠110:=(by have:x.k=101\/x.k=120:=b;omega);refine(Lp k m cap a [] x w c n d).mono ?_;rintro e w' ⟨rfl,f,g⟩;exact⟨_,_,rfl,f,g,λh=>by cases h⟩|x::y::r,c,b=>by_cases d:x.k=110;by_cases p:y.k=110;have e:Pl.dW (x::y::r)=(aP,r,(x.n,y.n)):=(by simp[Pl.dW,d,p]);rw[e];refine(WW k m cap a r x y w c n d p).mono ?_;rintro e w' ⟨rfl,f,g⟩;exact⟨_,_,rfl,f,g,λ_=>rfl⟩;have e:Pl.dW (x::y::r)=(aQ,y::r,(0,0)):=(by simp[Pl.dW,d,p]);rw[e];refine(WX k m cap a r x y w c n d p).mono ?_;rintro e w' ⟨rfl,f,g⟩;exact⟨_,_,rfl,f,g,λh=>by cases h⟩;have e:Pl.dW (x::y::r)=(aQ,x::y::r,(0,0)):=(by simp[Pl.dW,d]);rw[e];refine(Lp k m cap a _ x w c n d).mono ?_;rintro e w' ⟨rfl,f,g⟩;exact⟨_,_,rfl,f,g,λh=>by cases h⟩
def nG(g:V (Int×Int)):V Y:=g.flatMap λp=>[I J p.1,I J p.2]
theorem WZ(g:V (Int×Int))(p:Int×Int):nG (g++[p])=nG g++[I J p.1,I J p.2]:=by simp[nG]
def sZ{α:Type}(T:Bool×V Pl.Tk×V α)(l:V Pl.Tk)(a:Bool)(b:V α):Prop:=
 (a=aQ/\T=((Pl.mk 41 l).1,(Pl.mk 41 l).2,b))\/(a=aP/\T.1=aQ/\T.2.1=l)
theorem PS.next{t:Pl.Tk}(h:PS pb tb cap A (t::r) aQ w)(b:t.k≠110)(c:V Pl.Tk)(e:c++t::r=A)(d:w.heap[pb]?=K (.cells #[D (K ⟨tb,0,Z⟩) A.length cap,I J c.length,aC aQ,I J<|fK c] 55 (0,0))):
  PS pb tb cap A r aQ (w.setCell ⟨pb,1,Z⟩<|I J<|(c.length:Int)+1):=by refine h.put (c++[t]) (by grind) (λk b a=>bY a _) ?_;have q:=apM (w:=w) (o:=1) d<|I J<|(c.length:Int)+1;rw[Fv c t b];grind
theorem FC{T:Bool×V Pl.Tk×V α}{s:V UInt8}{acc:V α}(n:sZ T l bad acc)(f:Pl.aaV s l)(d:PS pb tb cap A l bad w)(g:A.length<=402):
  M 42 #[aF (K ⟨pb,0,Z⟩),I .u8 41] w λe w'=>e=aJ (aG #[])/\PS pb tb cap A T.2.1 (!T.1) w'/\Fp pb w w'/\(T.1=aP->T.2.2=acc):=by cases l with|nil=>exact f.elim|cons t r=>rcases n with⟨rfl,rfl⟩|⟨rfl,a,b⟩;by_cases c:t.k=41;have e:Pl.mk 41 (t::r)=(aP,r):=(by simp[Pl.mk,c]);simp only[e];refine(AQ pb tb cap A r t w 41 d g c U).mono ?_;grind;have e:Pl.mk 41 (t::r)=(aQ,t::r):=(by simp[Pl.mk,c]);simp only[e];refine(AR pb tb cap A r t w 41 d g c).mono ?_;grind;rw[a,b];refine(WG pb tb cap A r t w 41 d g).mono ?_;grind
theorem AX{s:V UInt8}(k:Nat)(a:Pl.aaV s l)(b:PS pb tb cap A l bad w)(c:A.length<=402):
  M 44 #[aF (K ⟨pb,0,Z⟩),I .u8 k] w λe w'=>e=aJ (aC<|!bad&&(Pl.mk k l).1)/\∃n,w'=w.drewN n:=by cases l with|nil=>exact a.elim|cons t r=>cases bad;refine(WH pb tb cap A r t w k b c).mono ?_;rintro e w' ⟨rfl,n,rfl⟩;refine⟨nD ?_,n,rfl⟩;by_cases d:t.k=k<;>simp[Pl.mk,d];refine(WJ pb tb cap A r t w k b c).mono ?_;grind
theorem uJ{base:Nat}{xs:V Y}(h:w.ownsRow base e size v n xs)(m:Fp pb w w')(d:PS pb tb cap A l bad w)(g:55≠e:=by decide):w'.ownsRow base e size v n xs:=by obtain⟨c,_,f⟩:=d.box;exact bH h λk a=>m.block k (bn h k a).2<|λb=>lE h f g<|by rw[a,b]
theorem PS.FD(h:PS pb tb cap A l bad w4)(P:((w4.alloc o1).alloc o2).grownBy w5 row)
  (g:∀k,row=K k->∃b,w4.heap[k]?=K (.cells b e (0,0)))(t:e≠61/\e≠55):PS pb tb cap A l bad w5:=by
 obtain⟨s,⟨b,f,Q⟩,c,B,x⟩:=h;have m:∀(k:Nat)(a:Array Y)(n:TypeId),w4.heap[k]?=K (Obj.cells a n (0,0))->e≠n->w5.heap[k]?=K (Obj.cells a n (0,0)):=λk a n q p=>by
  have r:=apJ q;rw[P.block k aq (λv=>by
   grind),ad _ _ _ aq,ad _ _ _ r]
  exact q
 exact⟨s,⟨b,m _ _ _ f t.1,Q⟩,c,B,m _ _ _ x t.2⟩
theorem Fp.FD(h:Fp pb w w4)(a:((w4.alloc o1).alloc o2).grownBy w5 row)(b:∀k,row=K k->w.heap.size<=k):Fp pb w w5:=by refine⟨a.os.trans h.os,a.tape.trans h.tape,a.output.trans h.output,?_,λk g c=>?_⟩;have e:=a.size;have f:=h.size;simp at e;omega;have f:=h.size;rw[a.block k aq (λd=>by grind),ad _ _ _ aq,ad _ _ _ U];exact h.block k g c
theorem FE{c:Nat}(h:(Pl.mk c l).1=aP):∃t r,l=t::r/\t.k=c:=by cases l with|nil=>cases h|cons t r=>by_cases a:t.k=c;grind;simp[Pl.mk,a] at h
def W6(a b cap:Nat)(A:V Pl.Tk)(T:Bool×V Pl.Tk×V (Int×Int))(w:G)(e:Ending)(w':G):Prop:=
 ∃v,e=aJ v/\PS a b cap A T.2.1 (!T.1) w'/\Fp a w w'/\(∃ps,w'.ownsRow w.heap.size 65 2 v ps.length (nG ps)/\(T.1=aP->ps=T.2.2))
theorem W7:(Tryz.prog.info? 65).map (λi=>(i.zero,i.size,i.bytes))=K (K<|u #[I J 0,I J 0],2,16):=z
def xp(c e cap:Nat)(s:V UInt8)(A:V Pl.Tk)(T:Bool×V Pl.Tk×V (Int×Int))(w:G)(g:Nat)(d:Y)(more:Bool)(wr:G):Prop:=
 ∃l a b,PS c e cap A l b wr/\Fp c w wr/\Pl.aaV s l/\wr.ownsRow w.heap.size 65 2 d a.length (nG a)/\a.length<=1000-g/\g<=402/\
  (more=aP->b=aQ/\Pl.eW Pl.dW g l a=T/\l.length<=g)/\(more=aQ->sZ T l b a)
theorem W8(Q tb cap:Nat)(s:V UInt8)(a l:V Pl.Tk)(w:G)(hch:Pl.aaV s l)(hP:PS Q tb cap a l aQ w)(hl:a.length<=402)(hll:l.length<=402):
  M 58 #[aF (K ⟨Q,0,Z⟩)] w (W6 Q tb cap a (Pl.eY l) w):=by
 generalize O:Pl.eY l=T;have:=hP.lt;have HM:H (M 42 #[aF (K ⟨Q,0,Z⟩),I .u8 40] w λe w'=>e=aJ (aG #[])/\Fp Q w w'/\∃W p,PS Q tb cap a W p w'/\Pl.aaV s W/\W.length<=l.length/\
   ((p=aP/\sZ T W aP ([]:V (Int×Int)))\/(p=aQ/\(Pl.mk 41 W).1=aP/\sZ T W aQ ([]:V (Int×Int)))\/(p=aQ/\(Pl.mk 41 W).1=aQ/\Pl.eW Pl.dW l.length W []=T))):=by
  have hg:=Pl.pQ (c:=40) hch U;cases l with
  |nil=>exact hch.elim
  |cons t r=>
   by_cases hk:t.k=40
   .have e:Pl.mk 40 (t::r)=(aP,r):=by simp[Pl.mk,hk]
    refine(AQ Q tb cap a r t w 40 hP hl hk U).mono ?_;rintro e' w' ⟨rfl,h1,h2⟩;rw[e] at hg;refine⟨rfl,h2,r,aQ,h1,hg.2,E,?_⟩;unfold Pl.eY at O;rw[e] at O;simp only[jk] at O;by_cases P:(Pl.mk 41 r).1=aP
    .rw[y P] at O;exact F<|j ⟨rfl,P,j ⟨rfl,by rw[<-O,P]⟩⟩
    .rw[X P] at O;exact F<|F ⟨rfl,by simpa using P,O⟩
   .have e:Pl.mk 40 (t::r)=(aQ,t::r):=by simp[Pl.mk,hk]
    refine(AR Q tb cap a r t w 40 hP hl hk).mono ?_;rintro e' w' ⟨rfl,h1,h2⟩;refine⟨rfl,h2,t::r,aP,h1,hch,aX _,j ⟨rfl,F ⟨rfl,?_⟩⟩⟩;unfold Pl.eY at O;rw[e] at O;simp only[jD,kf] at O;rw[<-O];exact⟨rfl,rfl⟩
 clear O;go_enter func58,ntmps58;go_wp2_with fail;refine HM.o.mono ?_;rintro e w1 ⟨rfl,Lq,W,p,FN,xy,nH,R⟩;go_wp2_with fail;refine(AX 41 xy FN hl).mono ?_;rintro e w2 ⟨rfl,n,rfl⟩;have gh:H (xp Q tb cap s a T w l.length (D Z 0 0) (!p&& !(!p&&(Pl.mk 41 W).1))<|w1.drewN n):=(by refine⟨W,[],p,FN.drewN n,Lq.drewN n,xy,ak _ _ _ _,E,hll,λP=>?_,λP=>?_⟩;(.rcases R with⟨rfl,_⟩|⟨rfl,h,_⟩|⟨rfl,h,h2⟩;(.cases P);(.rw[h] at P;cases P);.exact⟨rfl,h2,nH⟩);.rcases R with⟨rfl,h⟩|⟨rfl,h,h2⟩|⟨rfl,h,h2⟩;(.exact h);(.exact h2);.rw[h] at P;cases P);have hb2:(w1.drewN n).cell? ⟨Q,2,Z⟩=K (aC p):=(by obtain⟨c,_,hb⟩:=FN.box;exact apL (w:=w1.drewN n) hb 2);clear R;generalize(Pl.mk 41 W).1=m at*;generalize w1.drewN n=w3 at*;clear HM nH xy FN Lq hch hP;cases p<;>cases m;all_goals (go_wp2_with fail;go_loopg [3,5] l.length (λg lv mv wr=>∃more:Bool,mv=aC more/\H (xp Q tb cap s a T w g lv more wr));(case atStart=>exact⟨_,rfl,gh⟩);case round=>obtain⟨more,rfl,HR⟩:=hrel;obtain⟨l2,q,p,xC,hf2,d,hown,hacc,FG,o,hfin⟩:=HR.o;have:=hf2.size;clear HR gh hb2;cases more;(.have hF:=hfin rfl;clear hfin o;go_wp2_with fail;refine(FC hF d xC hl).mono ?_;rintro e w4 ⟨rfl,ay,S,xq⟩;go_wp2_with fail;go_ret;refine⟨_,rfl,ay,hf2.trans S,q,uJ hown S xC,λh=>(xq h).symm⟩);.obtain⟨rfl,hrow,hlen⟩:=o rfl;clear hfin o;have hne:l2≠[]:=λe=>(by rw[e] at d;exact d);obtain⟨g1,rfl⟩:∃g1,gk=g1+1:=⟨gk-1,by have:=fT.2 hne;omega⟩;have v:=hid hrow;have HLEN:=hid hlen;clear hrow hne hlen;go_wp2_with fail;refine(WY Q tb cap s a l2 _ d xC hl).mono ?_;rintro e w4 ⟨b,Y,rfl,ay,S,Lr⟩;have:=S.size;have x:=uJ hown S xC;have:=ay.lt;have HXY:=hid Lr;clear Lr;go_wp2_with (at_builtin;refine ii rfl W7 underlying63 (aao<|aao x) AE ?_;intro g L w5 ho hgrow xj);have f:=ay.FD hgrow (λk hk=>fJ x hk) ae;have N:=(hf2.trans S).FD hgrow<|λk hk=>(bn x k hk).1;have i:=Pl.Lk l2 d;have z:w5.ownsRow w.heap.size 65 2 (D (K ⟨g,0,Z⟩) (q.length+1) L) (q++[(b,Y)]).length (nG<|q++[(b,Y)]):=(by rw[WZ];simpa using ho);have:=f.lt;clear hgrow ho x hown ay S xC hf2;refine(AX 44 i.2 f hl).mono ?_;rintro e w6 ⟨rfl,n6,rfl⟩;cases hb:(Pl.dW l2).1;(.rw[hb] at f;have HN:H (xp Q tb cap s a T w g1 (D (K ⟨g,0,Z⟩) (q.length+1) L) aQ<|w5.drewN n6):=(by refine⟨_,q++[(b,Y)],aP,f.drewN n6,N.drewN n6,i.2,z,aq,U,λh=>(by cases h),λ_=>F ⟨rfl,?_⟩⟩;rw[<-v.o,uC hb];exact⟨rfl,rfl⟩);clear v HXY f N i z d;go_wp2_with fail;go_roundg g1;(case measure=>omega);case rel=>exact⟨_,rfl,HN⟩);.rw[hb] at f;have hxy:=HXY.o hb;cases P:(Pl.mk 44 (Pl.dW l2).2.1).1;(.have HN:H (xp Q tb cap s a T w g1 (D (K ⟨g,0,Z⟩) (q.length+1) L) aQ<|w5.drewN n6):=(by refine⟨_,q++[(b,Y)],aQ,f.drewN n6,N.drewN n6,i.2,z,aq,U,λh=>(by cases h),λ_=>j ⟨rfl,?_⟩⟩;rw[<-v.o,uE hb P,hxy]);clear v HXY f N i z d hxy;go_wp2_with fail;go_roundg g1;(case measure=>omega);case rel=>exact⟨_,rfl,HN⟩);.obtain⟨t3,r3,pV,hk3⟩:∃t3 r3,(Pl.dW l2).2.1=t3::r3/\t3.k=44:=FE P;rw[pV] at f;obtain⟨c3,hc3,B⟩:=f.box;have qX:=(f.drewN n6).next U c3 hc3 B;have HN:H (xp Q tb cap s a T w g1 (D (K ⟨g,0,Z⟩) (q.length+1) L) aP<|(w5.drewN n6).setCell ⟨Q,1,Z⟩<|I J<|(c3.length:Int)+1):=(by have qY:=i.2;have hlt:=Pl.adg l2 hb;have:=HLEN.o;rw[pV] at qY hlt;simp only[dc] at hlt;refine⟨r3,q++[(b,Y)],aQ,qX,(N.drewN n6).set 1 _,(Pl.Goes.tail qY U).2,bH z<|λk hk=>bY (λe=>lE (w:=w5) z B ae<|by rw[hk,e]) _,aq,U,λ_=>⟨rfl,?_,U⟩,λh=>(by cases h)⟩;rw[<-v.o,uD hb P,hxy,pV];simp[Pl.mk,hk3]);have:=apL (w:=w5.drewN n6) B 1;have:=bE (w:=w5.drewN n6) B 1;have:c3.length<=402:=(by have h:=bd List.length hc3;simp at h;omega);clear v HXY f N i z d hxy qX hc3 B pV;generalize w5.drewN n6=w7 at*;go_wp2_with fail;go_roundg g1;(case measure=>omega);case rel=>exact⟨_,rfl,HN⟩)
def kR{α:Type}(b:V Nat)(R:G->Y->α->Prop):Prop:=
 ∀(w w':G) v x,R w v x->(∀(k:Nat)(a:Array Y)(e:TypeId),w.heap[k]?=K (Obj.cells a e (0,0))->e∈b->w'.heap[k]?=w.heap[k]?)->R w' v x
def me(w:G)(v:Y)(g:V (Int×Int)):Prop:=w.ownsRow 0 65 2 v g.length<|nG g
def nJ{α:Type}(T:Nat)(R:G->Y->α->Prop)(w:G)(v:Y)(a:V α):Prop:=
 ∃vs:V Y,vs.length=a.length/\w.ownsRow 0 T 1 v a.length vs/\∀(i:Nat) u x,vs[i]?=K u->a[i]?=K x->R w u x
def nK(w:G)(v:Y)(a:V (V (Int×Int))):Prop:=nJ 63 me w v a
def kD(w:G)(v:Y)(ps:V (V<|V (Int×Int))):Prop:=nJ 57 nK w v ps
theorem iF{xs:V Y}(h:w.ownsRow b e size v n xs):w.ownsRow 0 e size v n xs:=by obtain⟨d,c⟩:=h;rcases c with c|⟨g,cap,a,f,_,r⟩;exact⟨d,j c⟩;exact⟨d,F ⟨g,cap,a,f,iq _,r⟩⟩
theorem tc{xs:V Y}(h:w.ownsRow b e size v n xs)
  (g:∀(k:Nat)(a:Array Y),w.heap[k]?=K (Obj.cells a e (0,0))->w'.heap[k]?=w.heap[k]?):w'.ownsRow b e size v n xs:=
 bH h λk d=>by
  obtain⟨c,f⟩:=fJ h d;grind
theorem Ls:kR [65] me:=λw w' v x h c=>tc h λk a b=>c k a _ b E
theorem Lt{ts:V Nat}{R:G->Y->α->Prop}(l:kR ts R):kR (T::ts) (nJ T R):=by intro w w' v q h c;obtain⟨vs,d,f,g⟩:=h;exact⟨vs,d,tc f λk a b=>c k a _ b E,λi u x n p=>l w w' u x (g i u x n p) λk a e b m=>c k a e b<|by simp[m]⟩
theorem FH:kR [63,65] nK:=Lt Ls
theorem AY:kR [57,63,65] kD:=Lt FH
theorem uK{ts:V Nat}{R:G->Y->α->Prop}(g:kR ts R)(hts:55∉ts){x:α}(h:R w v x)(p:Fp pb w w')(f:PS pb tb cap A l bad w):R w' v x:=by obtain⟨c,_,m⟩:=f.box;refine g w w' v x h λk b e a n=>p.block k (apJ a) λd=>?_;grind
def FI{α:Type}(R:G->Y->α->Prop)(a d cap:Nat)(A:V Pl.Tk)(T:Bool×V Pl.Tk×α)(w:G)(e:Ending)(w':G):Prop:=
 ∃v,e=aJ v/\PS a d cap A T.2.1 (!T.1) w'/\Fp a w w'/\(∃b n c,v=D b n c)/\∃x,R w' v x/\(T.1=aP->x=T.2.2)
theorem W9(a f cap:Nat)(s:V UInt8)(A l:V Pl.Tk)(w:G)(b:Pl.aaV s l)(q:PS a f cap A l aQ w)(r:A.length<=402)(c:l.length<=402):
  M 58 #[aF (K ⟨a,0,Z⟩)] w (FI me a f cap A (Pl.eY l) w):=by refine(W8 a f cap s A l w b q r c).mono ?_;rintro e w' ⟨v,rfl,m,n,ps,h,p⟩;refine⟨v,rfl,m,n,?_,ps,iF h,p⟩;rcases h.2 with⟨d,_⟩|⟨g,cap,k,d,_⟩;grind;grind
theorem Xa:(Tryz.prog.info? 63).map (λi=>(i.zero,i.size,i.bytes))=K (K<|D Z 0 0,1,24):=z
theorem Xb:(Tryz.prog.info? 57).map (λi=>(i.zero,i.size,i.bytes))=K (K<|D Z 0 0,1,24):=z
def oG{α:Type}(e:Nat)(R:G->Y->α->Prop)(c:V Pl.Tk->Bool×V Pl.Tk×α)(d h cap:Nat)(s:V UInt8)(A:V Pl.Tk)(T:Bool×V Pl.Tk×V α)(w:G)(g:Nat)(f:Y)(more:Bool)(wr:G):Prop:=
 ∃l a b vs,PS d h cap A l b wr/\Fp d w wr/\Pl.aaV s l/\vs.length=a.length/\wr.ownsRow w.heap.size e 1 f a.length vs/\(∀(i:Nat) u x,vs[i]?=K u->a[i]?=K x->R wr u x)/\a.length<=1000-g/\g<=402/\
  (more=aP->b=aQ/\Pl.eW c g l a=T/\l.length<=g)/\(more=aQ->sZ T l b a)
theorem FJ(a:(w1.alloc o1).grownBy w2 row):∀k,k<w1.heap.size->row≠K k->w2.heap[k]?=w1.heap[k]?:=λk b c=>kC a k b c
theorem PS.pR(h:PS pb tb cap A l bad w4)(B:(w4.alloc o1).grownBy w5 row)
  (g:∀k,row=K k->∃b,w4.heap[k]?=K (.cells b e (0,0)))(s:e≠61/\e≠55):PS pb tb cap A l bad w5:=by
 obtain⟨r,⟨b,f,P⟩,c,x,v⟩:=h;have m:∀(k:Nat)(a:Array Y)(n:TypeId),w4.heap[k]?=K (Obj.cells a n (0,0))->e≠n->w5.heap[k]?=K (Obj.cells a n (0,0)):=λk a n q p=>by
  rw[FJ B k (apJ q) (λt=>by
   grind)]
  exact q
 exact⟨r,⟨b,m _ _ _ f s.1,P⟩,c,x,m _ _ _ v s.2⟩
theorem Fp.pR(h:Fp pb w w4)(a:(w4.alloc o1).grownBy w5 row)(b:∀k,row=K k->w.heap.size<=k):Fp pb w w5:=by refine⟨a.os.trans h.os,a.tape.trans h.tape,a.output.trans h.output,?_,λk g c=>?_⟩;have e:=a.size;have f:=h.size;simp at e;omega;have f:=h.size;rw[FJ a k U (λd=>by grind)];exact h.block k g c
theorem td{ts:V Nat}{R:G->Y->α->Prop}(l:kR ts R)(n:(w4.alloc o1).grownBy w5 row)
  (c:∀k,row=K k->∃b,w4.heap[k]?=K (.cells b e (0,0)))(m:e∉ts){v:Y}{x:α}(h:R w4 v x):R w5 v x:=
 l w4 w5 v x h λk b q f d=>FJ n k (apJ f) λg=>by
  grind
theorem FK{R:G->Y->α->Prop}{vs:V Y}{acc:V α}{x:α}(a:vs.length=acc.length)(h:∀(i:Nat) u x,vs[i]?=K u->acc[i]?=K x->R w u x)(k:R w v x):
  ∀(i:Nat) u y,(vs++[v])[i]?=K u->(acc++[x])[i]?=K y->R w u y:=by grind
namespace Pl
def df{α:Type}(f:α->V UInt8):V α->V UInt8
 |[]=>[]
 |[x]=>f x
 |x::y::r=>f x++([44,32]++df f (y::r))
theorem alt{α:Type}(f:α->V UInt8):∀(l:V α)(x:α),df f (l++[x])=df f l++((if l.length=0 then[] else[44,32])++f x)
 |[],x=>by simp[df]
 |[a],x=>by simp[df]
 |a::b::r,x=>by have c:=alt f (b::r) x;show f a++([44,32]++df f (b::r++[x]))=_;rw[c];simp[df,List.append_assoc]
def xr(p:Int×Int):V UInt8:=Lib.itoa p.1++([32]++Lib.itoa p.2)
def jp(g:V (Int×Int)):V UInt8:=[40]++(df xr g++[41])
def jR(a:V (V (Int×Int))):V UInt8:=if a.length=0 then EMPTY else[40]++(df jp a++[41])
def xt(ps:V (V<|V (Int×Int))):V UInt8:=if ps.length=0 then fA++([32]++EMPTY) else fA++([32,40]++(df jR ps++[41]))
theorem AZ{α:Type}(f:α->V UInt8)(B:Nat):∀(l:V α),(∀x∈l,(f x).length<=B)->(df f l).length<=l.length*(B+2)
 |[],_=>by simp[df]
 |[a],h=>by have:=h a E;simp[df];omega
 |a::b::r,h=>by have c:=AZ f B (b::r) (λx d=>h x<|by simp[d]);have:=h a E;simp only[df,bG,dc,fw] at c⊢;grind
end Pl
theorem Lu(n:Int)(w:G)(f:Gl w)(c: -9223372036854775808<=n)(d:n<=9223372036854775807):
  M 88 #[I J n] w (ai (aD ⟨(Lib.itoa n).toArray⟩) w):=by have a:H (∀w1,Gl w1->M 146 #[I J n] w1 (ai (aD ⟨(Lib.itoa n).toArray⟩) w1)):=λw1 b=>(by refine(Tryz.strconv_Itoa n c d w1 b.tab).mono ?_;rintro e w' ⟨rfl,k,os,rfl⟩;exact⟨rfl,ans _ _ (aX _) _ _⟩);go_enter func88,ntmps88;go_wp2_with fail;refine(a.o _ f).mono ?_;rintro e w1 ⟨rfl,g⟩;go_wp2_with fail;go_ret;exact⟨rfl,g⟩
def mf(n:Int):Prop:= -50<=n/\n<=50
def uL(g:V (Int×Int)):Prop:=∀p∈g,mf p.1/\mf p.2
theorem Lv:∀(g:V (Int×Int))(k:Nat)(p:Int×Int),g[k]?=K p->(nG g)[k*2]?=K (I J p.1)/\(nG g)[k*2+1]?=K (I J p.2)
 |[],_,_,h=>by grind
 |q::r,0,p,h=>by simp at h;subst h;exact⟨rfl,rfl⟩
 |q::r,k+1,p,h=>by have a:=Lv r k p (by grind);have e:nG (q::r)=I J q.1:: I J q.2::nG r:=rfl;grind
theorem xu{xs:V Y}(h:w.ownsRow 0 e size v n xs){o:Nat}{u:Y}(a:xs[o]?=K u):
  ∃b cap,v=D (K ⟨b,0,Z⟩) n cap/\b<w.heap.size/\w.cell? ⟨b,o,Z⟩=K u:=by obtain⟨c,k⟩:=h;rcases k with⟨_,g⟩|⟨b,cap,f,m,_,d,_,_,_,l⟩;grind;refine⟨b,cap,m,apJ d,?_⟩;rw[apL d o,<-iD];grind
theorem anK{p:Int×Int}(a:mf p.1)(b:mf p.2):(Pl.xr p).length<=43:=by have:=aaS p.1 (by have:=a.1;omega) (by have:=a.2;omega);have:=aaS p.2 (by have:=b.1;omega) (by have:=b.2;omega);simp[Pl.xr];omega
theorem amp(g:V (Int×Int))(a:uL g)(k:Nat):(Pl.df Pl.xr<|g.take k).length<=k*45:=by refine el (Pl.AZ Pl.xr 43 (g.take k) λp b=>anK (a p<|kP b).1 (a p<|kP b).2) ?_;grind
theorem anL(g:V (Int×Int))(v:Y)(w:G)(hG:Gl w)(hR:me w v g)(F:uL g)(hl:g.length<=402):
  M 59 #[v] w (ai (aD ⟨(Pl.jp g).toArray⟩) w):=by obtain⟨so,cap,rfl⟩:∃so cap,v=D so g.length cap:=(by rcases hR.2 with⟨x,h0⟩|⟨b,cap,cur,x,_⟩;exact⟨Z,0,by rw[x,h0]⟩;exact⟨_,cap,x⟩);have B:H (∀(k:Nat) p,g[k]?=K p->∃b,so=K ⟨b,0,Z⟩/\b<w.heap.size/\w.cell? ⟨b,k*2,Z⟩=K (I J p.1)/\w.cell? ⟨b,k*2+1,Z⟩=K (I J p.2)):=λk p L=>(by obtain⟨a0,a1⟩:=Lv g k p L;obtain⟨b,c,x,W,c0⟩:=xu hR a0;obtain⟨b',c',r,hb',c1⟩:=xu hR a1;injection x with x;injection r with r;rw[x] at r;injection r with r;injection r with r;subst r;exact⟨b,x,W,c0,c1⟩);have qF:H (uL g):=F;have HL:=hid<|amp g F;go_enter func59,ntmps59;go_wp2_with fail;go_loopg [3,4] g.length (λn sv iv wr=>∃k:Nat,k+n=g.length/\iv=I J k/\sv=aD ⟨([40]++Pl.df Pl.xr (g.take k)).toArray⟩/\H (ag w wr/\Gl wr));(case atStart=>exact⟨0,U,rfl,rfl,Below.refl _ _,hG⟩);case round=>obtain⟨k,hkn,rfl,rfl,HB⟩:=hrel;obtain⟨l,t⟩:=HB.o;by_cases z:k<g.length;(.obtain⟨p,L⟩:∃p,g[k]?=K p:=⟨_,be z⟩;obtain⟨b,rfl,W,e0,e1⟩:=B.o k p L;obtain⟨⟨o1',o2'⟩,o3',o4'⟩:=qF.o p<|bB L;have o1: -9223372036854775808<=p.1:=U;have o2:p.1<=9223372036854775807:=U;have o3: -9223372036854775808<=p.2:=U;have o4:p.2<=9223372036854775807:=U;have r0:=aR l e0 W;have r1:=aR l e1 W;have o:=HL.o k;have q:b<wr.heap.size:=(by have:=l.size;omega);have:(k:Int)<(g.length:Int):=U;have hT:Pl.df Pl.xr (g.take<|k+1)=Pl.df Pl.xr (g.take k)++((if(g.take k).length=0 then[] else[44,32])++Pl.xr p):=(by have e:g.take (k+1)=g.take k++[p]:=(by rw[lV z,(bX.1 L).2]);rw[e,Pl.alt]);have HT:H (Pl.df Pl.xr (g.take<|k+1)=Pl.df Pl.xr (g.take k)++((if k=0 then[] else[44,32])++Pl.xr p)):=(by rw[fU,Kl U] at hT;exact hT);have:=aaS p.1 o1 o2;have:=aaS p.2 o3 o4;have S:=hid<|λw1 g1=>Lu p.1 w1 g1 o1 o2;have i:=hid<|λw1 g1=>Lu p.2 w1 g1 o3 o4;have j:H (Pl.xr p=Lib.itoa p.1++([32]++Lib.itoa p.2)):=rfl;generalize Pl.df Pl.xr (g.take k)=a at*;generalize Pl.xr p=PT at*;generalize Lib.itoa p.1=R at*;generalize Lib.itoa p.2=X2 at*;generalize p.1=O at*;generalize p.2=T at*;have f:=hid l;clear l;by_cases Q:k=0;(.have hq0:decide (0<(k:Int))=aQ:=aq;have P:H (k=0):=Q;have hq1:decide (0<k)=aQ:=aq;clear Q;have N:¬9223372036854775807<a.length+1+R.length:=U;have hs2:¬9223372036854775807<a.length+1+R.length+1:=U;have hs3:¬9223372036854775807<a.length+1+R.length+1+X2.length:=U;go_wp2_with fail;go_region_held3 (λw'=>atc w' b (k*2) (I J O)<|I J T) (go_keep) (first|(go_at_call_of 88 (I J O);refine(S.o _ t.drew).mono ?_;rintro e w5 ⟨rfl,d⟩;have s:=t.drew.below d t.sz;have q0:=aR d r0 q;have q1:=(aR d r1 q))|(go_at_call_of 88 (I J T);refine(i.o _ s).mono ?_;rintro e w6 ⟨rfl,m⟩;have s0:=aR m q0 (bg q d.size);have s1:=(aR m q1 (bg q d.size))));go_wp2_with fail;go_roundg (gk-1);(case measure=>omega);case rel=>refine⟨k+1,U,af,?_,?_⟩;rw[HT.o,j.o,y P.o];simp[ByteArray.mk_append_mk];exact⟨(f.o.drew.trans<|d.mono f.o.size).trans<|m.mono<|el f.o.size d.size,s.below m s.sz⟩);.have hq0:decide (0<(k:Int))=aP:=aq;have P:H (¬k=0):=Q;have hq1:decide (0<k)=aP:=aq;have:¬9223372036854775807<a.length+1+2:=U;have N:¬9223372036854775807<a.length+1+2+R.length:=U;have hs2:¬9223372036854775807<a.length+1+2+R.length+1:=U;have hs3:¬9223372036854775807<a.length+1+2+R.length+1+X2.length:=U;go_wp2_with fail;go_region_held3 (λw'=>atc w' b (k*2) (I J O)<|I J T) (go_keep) (first|(go_at_call_of 88 (I J O);refine(S.o _ t.drew).mono ?_;rintro e w5 ⟨rfl,d⟩;have s:=t.drew.below d t.sz;have q0:=aR d r0 q;have q1:=(aR d r1 q))|(go_at_call_of 88 (I J T);refine(i.o _ s).mono ?_;rintro e w6 ⟨rfl,m⟩;have s0:=aR m q0 (bg q d.size);have s1:=(aR m q1 (bg q d.size))));go_wp2_with fail;go_roundg (gk-1);(case measure=>omega);case rel=>refine⟨k+1,U,af,?_,?_⟩;rw[HT.o,j.o,X P.o];simp[ByteArray.mk_append_mk];exact⟨(f.o.drew.trans<|d.mono f.o.size).trans<|m.mono<|el f.o.size d.size,s.below m s.sz⟩);have hk:k=g.length:=U;subst hk;have o:=HL.o g.length;rw[dV] at o;rw[dV];have HRT:H (Pl.jp g=[40]++(Pl.df Pl.xr g++[41])):=rfl;generalize Pl.df Pl.xr g=a at*;have N:¬9223372036854775807<a.length+1+1:=U;go_wp2_with fail;go_ret;exact⟨by rw[HRT.o];simp[ByteArray.mk_append_mk],l⟩
theorem fk{ts:V Nat}{R:G->Y->α->Prop}(a:kR ts R){x:α}(h:R w v x)(b:ag w w'):R w' v x:=
 a w w' v x h λk _ _ c _=>b.block k<|apJ c
def uM(a:V (V (Int×Int))):Prop:=a.length<=402/\∀g∈a,uL g/\g.length<=402
theorem amq{g:V (Int×Int)}(h:uL g)(a:g.length<=402):(Pl.jp g).length<=18100:=by have:=amp g h g.length;rw[dV] at this;simp[Pl.jp];omega
theorem amr(b:V (V (Int×Int)))(a:uM b)(k:Nat):(Pl.df Pl.jp<|b.take k).length<=k*18102:=by refine el (Pl.AZ Pl.jp 18100 (b.take k) λp c=>amq (a.2 p<|kP c).1 (a.2 p<|kP c).2) ?_;grind
theorem alu{gs:V (V (Int×Int))}(h:uM gs):(Pl.jR gs).length<=7300000:=by have:=amr gs h gs.length;rw[dV] at this;have:=h.1;unfold Pl.jR;split;decide;grind
theorem Xc{g:V (Int×Int)}(h:me w v g):∃e cap,v=D e g.length cap:=by rcases h.2 with⟨a,d⟩|⟨b,cap,c,a,_⟩;grind;grind
theorem oH{R:G->Y->α->Prop}{xs:V α}(h:nJ T R w v xs):∃e cap,v=D e xs.length cap:=by obtain⟨vs,_,h,_⟩:=h;rcases h.2 with⟨a,d⟩|⟨b,cap,c,a,_⟩;grind;grind
theorem lF{R:G->Y->α->Prop}{so:Option Addr}{xs:V α}(h:nJ T R w (D so n cap) xs){x:α}(e:xs[k]?=K x):
  ∃b u,so=K ⟨b,0,Z⟩/\b<w.heap.size/\w.cell? ⟨b,k,Z⟩=K u/\R w u x:=by
 obtain⟨vs,m,p,q⟩:=h;have l:k<vs.length:=by grind
 obtain⟨u,d⟩:∃u,vs[k]?=K u:=⟨_,be l⟩;obtain⟨b,c,a,f,g⟩:=xu p d;grind
theorem alv(f:α->V UInt8){g:V α}{p:α}(c:g[k]?=K p):
  Pl.df f (g.take<|k+1)=Pl.df f (g.take k)++((if k=0 then[] else[44,32])++f p):=by
 obtain⟨a,b⟩:=bX.1 c;have e:g.take (k+1)=g.take k++[p]:=by rw[lV a,b]
 rw[e,Pl.alt,fU,Kl U]
theorem ams(c:V (V (Int×Int)))(v:Y)(w:G)(hG:Gl w)(C:nK w v c)(s:uM c):
  M 32 #[v] w (ai (aD ⟨(Pl.jR c).toArray⟩) w):=by obtain⟨so,cap,rfl⟩:=oH C;have W:=hid C;have P:H (uM c):=s;have o:=hid<|amr c s;have:=s.1;go_enter func32,ntmps32;by_cases F:c.length=0;(.have Q:=hid F;have hq:(c.length:Int)=0:=U;go_wp2_with fail;go_ret;exact⟨by unfold Pl.jR;rw[y Q.o];rfl,Below.refl _ _⟩);.have Q:H (¬c.length=0):=F;have hq:((c.length:Int) == 0)=aQ:=ou.2 U;go_wp2_with fail;go_loopg [3,4] c.length (λn sv iv wr=>∃k:Nat,k+n=c.length/\iv=I J k/\sv=aD ⟨([40]++Pl.df Pl.jp (c.take k)).toArray⟩/\H (ag w wr/\Gl wr));(case atStart=>exact⟨0,U,rfl,rfl,Below.refl _ _,hG⟩);case round=>obtain⟨k,hkn,rfl,rfl,T⟩:=hrel;obtain⟨d,g⟩:=T.o;by_cases R:k<c.length;(.obtain⟨p,S⟩:∃p,c[k]?=K p:=⟨_,be R⟩;obtain⟨b,u,rfl,hb,e0,x⟩:=lF W.o S;obtain⟨us,O,rfl⟩:=Xc x;obtain⟨L,N⟩:=P.o.2 p<|bB S;have:wr.cell? ⟨b,k,Z⟩=K (D us p.length O):=aR d e0 hb;have m:H (M 59 #[D us p.length O] wr (ai (aD ⟨(Pl.jp p).toArray⟩) wr)):=anL p _ wr g (fk Ls x d) L N;have:=amq L N;have t:=o.o k;have:b<wr.heap.size:=(by have:=d.size;omega);have:(k:Int)<(c.length:Int):=U;have z:H (Pl.df Pl.jp (c.take<|k+1)=Pl.df Pl.jp (c.take k)++((if k=0 then[] else[44,32])++Pl.jp p)):=alv Pl.jp S;generalize Pl.df Pl.jp (c.take k)=a at*;generalize Pl.jp p=A at*;generalize p.length=PN at*;have f:H (ag w wr):=d;clear d;by_cases r:k=0;(.have i:decide (0<(k:Int))=aQ:=aq;have q:H (k=0):=r;have j:decide (0<k)=aQ:=aq;clear r;have B:¬9223372036854775807<a.length+1+A.length:=U;go_wp2_with fail;refine m.o.mono ?_;rintro e w5 ⟨rfl,l⟩;go_wp2_with fail;go_roundg (gk-1);(case measure=>omega);case rel=>refine⟨k+1,U,af,?_,?_⟩;(.rw[z.o,y q.o];simp[ByteArray.mk_append_mk]);.exact⟨f.o.trans<|l.mono f.o.size,g.below l g.sz⟩);.have i:decide (0<(k:Int))=aP:=aq;have q:H (¬k=0):=r;have j:decide (0<k)=aP:=aq;have:¬9223372036854775807<a.length+1+2:=U;have B:¬9223372036854775807<a.length+1+2+A.length:=U;go_wp2_with fail;refine m.o.mono ?_;rintro e w5 ⟨rfl,l⟩;go_wp2_with fail;go_roundg (gk-1);(case measure=>omega);case rel=>refine⟨k+1,U,af,?_,?_⟩;(.rw[z.o,X q.o];simp[ByteArray.mk_append_mk]);.exact⟨f.o.trans<|l.mono f.o.size,g.below l g.sz⟩);.have hk:k=c.length:=U;subst hk;have t:=o.o c.length;rw[dV] at t;rw[dV];have m:H (Pl.jR c=[40]++(Pl.df Pl.jp c++[41])):=X Q.o;generalize Pl.df Pl.jp c=a at*;have B:¬9223372036854775807<a.length+1+1:=U;go_wp2_with fail;go_ret;exact⟨by rw[m.o];simp[ByteArray.mk_append_mk],d⟩
def mg(ps:V (V<|V (Int×Int))):Prop:=ps.length<=402/\∀a∈ps,uM a
theorem anM(ps:V (V<|V (Int×Int)))(a:mg ps)(k:Nat):(Pl.df Pl.jR<|ps.take k).length<=k*7300002:=by refine el (Pl.AZ Pl.jR 7300000 (ps.take k) λp b=>alu<|a.2 p<|kP b) ?_;grind
theorem anN(f:V (V (Int×Int)))(n:Y)(w:G)(r:Gl w)(m:kD w n [f])(g:uM f):
  M 15 #[u #[aD ⟨Pl.ew.toArray⟩,n,I J 0]] w (ai (aD ⟨(Pl.ew++([32]++Pl.jR f)).toArray⟩) w):=by obtain⟨v,cap,rfl⟩:=oH m;obtain⟨b,a,rfl,t,e0,l⟩:=lF (k:=0) m rfl;obtain⟨us,x,rfl⟩:=oH l;have p:=hid<|λw1 d q=>ams f _ w1 q (fk FH l d) g;have:=alu g;generalize Pl.jR f=X at*;generalize f.length=s at*;simp only[dc,fw,ir,show Pl.ew=[80,79,76,89,71,79,78] from rfl];go_enter func15,ntmps15;have:¬9223372036854775807<8+X.length:=U;have c:ag w (w.alloc<|.cells #[aD ⟨#[80,79,76,89,71,79,78]⟩,D (K ⟨b,0,Z⟩) 1 cap,I J 0] 29):=aj _ _;go_wp2_with fail;refine(p.o _ c<|r.alloc _).mono ?_;rintro e w1 ⟨rfl,d⟩;go_wp2_with fail;go_ret;exact⟨by simp[ByteArray.mk_append_mk],c.trans<|d.mono c.size⟩
theorem anO(ps:V (V<|V (Int×Int)))(pv:Y)(w:G)(hG:Gl w)(T:kD w pv ps)(t:mg ps):
  M 15 #[u #[aD ⟨Pl.fA.toArray⟩,pv,I J 0]] w (ai (aD ⟨(Pl.xt ps).toArray⟩) w):=by
 obtain⟨so,cap,rfl⟩:=oH T;have HR:=hid T;have S:=hid t;have L:=hid<|anM ps t;have:=t.1;simp only[show Pl.fA=[77,85,76,84,73,80,79,76,89,71,79,78] from rfl];have x:ag w (w.alloc<|.cells #[aD ⟨#[77,85,76,84,73,80,79,76,89,71,79,78]⟩,D so ps.length cap,I J 0] 29):=aj _ _;have v:=hid x;clear x;go_enter func15,ntmps15;by_cases F:ps.length=0
 .have i:=hid F;have hq:=J6.2 U;clear F;go_wp2_with fail;go_ret;exact⟨by unfold Pl.xt;rw[y i.o];rfl,v.o⟩
 .have i:H (¬ps.length=0):=F;have hq:((ps.length:Int) == 0)=aQ:=ou.2 U;go_wp2_with fail
  go_loopg [4,5] ps.length (λn sv iv wr=>∃k:Nat,k+n=ps.length/\iv=I J k/\sv=aD ⟨([77,85,76,84,73,80,79,76,89,71,79,78,32,40]++Pl.df Pl.jR (ps.take k)).toArray⟩/\H (ag w wr/\Gl wr/\w.heap.size<wr.heap.size/\wr.heap[w.heap.size]?=K (.cells #[aD ⟨#[77,85,76,84,73,80,79,76,89,71,79,78]⟩,D so ps.length cap,I J 0] 29)))
  case atStart=>exact⟨0,U,rfl,rfl,v.o,hG.alloc _,E,aa _ _⟩
  case round=>
   obtain⟨k,hkn,rfl,rfl,R⟩:=hrel;obtain⟨d,l,q,j⟩:=R.o;have:=bw j;by_cases o:k<ps.length
   .obtain⟨p,z⟩:∃p,ps[k]?=K p:=⟨_,be o⟩;obtain⟨b,c,rfl,hb,e0,P⟩:=lF HR.o z;obtain⟨us,uc,rfl⟩:=oH P;have W:=S.o.2 p<|bB z;have:wr.cell? ⟨b,k,Z⟩=K (D us p.length uc):=aR d e0 hb;have m:H (M 32 #[D us p.length uc] wr (ai (aD ⟨(Pl.jR p).toArray⟩) wr)):=ams p _ wr l (fk FH P d) W;have:=alu W;have B:=L.o k;have:b<wr.heap.size:=by have:=d.size;omega
    have:(k:Int)<(ps.length:Int):=U;have N':H (Pl.df Pl.jR (ps.take<|k+1)=Pl.df Pl.jR (ps.take k)++((if k=0 then[] else[44,32])++Pl.jR p)):=alv Pl.jR z;generalize Pl.df Pl.jR (ps.take k)=a at*;generalize Pl.jR p=O at*;generalize p.length=PN at*;have g:H (ag w wr):=d;clear d;by_cases s:k=0
    .have A:decide (0<(k:Int))=aQ:=aq;have r:H (k=0):=s;have C:decide (0<k)=aQ:=aq;clear s;have Q:¬9223372036854775807<a.length+14+O.length:=U;go_wp2_with fail;refine m.o.mono ?_;rintro e w5 ⟨rfl,f⟩;go_wp2_with fail;go_roundg (gk-1)
     case measure=>omega
     case rel=>
      refine⟨k+1,U,af,?_,?_⟩
      .rw[N'.o,y r.o];simp[ByteArray.mk_append_mk]
      .exact⟨g.o.trans<|f.mono g.o.size,l.below f l.sz,bg q f.size,(f.block _ q).trans R.o.2.2.2⟩
    .have A:decide (0<(k:Int))=aP:=aq;have r:H (¬k=0):=s;have C:decide (0<k)=aP:=aq;have:¬9223372036854775807<a.length+14+2:=U;have Q:¬9223372036854775807<a.length+14+2+O.length:=U;go_wp2_with fail;refine m.o.mono ?_;rintro e w5 ⟨rfl,f⟩;go_wp2_with fail;go_roundg (gk-1)
     case measure=>omega
     case rel=>
      refine⟨k+1,U,af,?_,?_⟩
      .rw[N'.o,X r.o];simp[ByteArray.mk_append_mk]
      .exact⟨g.o.trans<|f.mono g.o.size,l.below f l.sz,bg q f.size,(f.block _ q).trans R.o.2.2.2⟩
   .have hk:k=ps.length:=U;subst hk;have B:=L.o ps.length;rw[dV] at B;rw[dV];have m:H (Pl.xt ps=Pl.fA++([32,40]++(Pl.df Pl.jR ps++[41]))):=X i.o;generalize Pl.df Pl.jR ps=a at*;have Q:¬9223372036854775807<a.length+14+1:=U;go_wp2_with fail;go_ret;exact⟨by rw[m.o];simp[ByteArray.mk_append_mk,Pl.fA],d⟩
namespace Pl
theorem Xd{t:Tk}(h:Form t)(a:t.k=110):fI t≠[44]:=λe=>by
 have:=(AH h 44 ae).1 e;grind
theorem A0{a b:Tk}(d:fI a≠[44])(c:a.k≠110\/b.k≠110):bb a b=aQ:=by unfold bb;grind
theorem te{t:Tk}(h:Form t)(c:UInt8)(b:c.toNat=40\/c.toNat=41\/c.toNat=44)(d:t.k=c.toNat):wr t=[c]/\fI t=[c]/\t.k≠110:=by have e:=(AH h c b).2 d;have a:t.k≠110:=U;exact⟨by unfold wr;grind,e,a⟩
theorem Ba{p t:Tk}{d:V Tk}(h:bb p t=aQ):fL p (t::d)=wr t++fL t d:=by show(if bb p t=aP then[32] else[])++(wr t++fL t d)=_;grind
theorem xw{p t:Tk}{d:V Tk}(h:Form p)(c:p.k=40):fL p (t::d)=wr t++fL t d:=by obtain⟨_,a,b⟩:=te h 40 ae c;exact Ba<|A0 (by grind)<|j b
theorem Lw{p t:Tk}{d:V Tk}(h:Form p)(c:p.k=41):fL p (t::d)=wr t++fL t d:=by obtain⟨_,a,b⟩:=te h 41 ae c;exact Ba<|A0 (by grind)<|j b
theorem Bb{p t:Tk}{d:V Tk}(h:Form p)(b:p.k=44):fL p (t::d)=[32]++(wr t++fL t d):=by obtain⟨_,a,_⟩:=te h 44 ae b;show(if bb p t=aP then[32] else[])++(wr t++fL t d)=_;rw[y (by unfold bb;simp[a])]
structure Tx{α:Type}(ok:α->Prop)(txt:α->V UInt8)(c:V Tk)(x:α):Prop where
 ne:c≠[]
 br:∀p,Form p->p.k=40->fL p c=txt x
 co:∀p,Form p->p.k=44->fL p c=[32]++txt x
 cl:∀p t d,Form t->t.k≠110->fL p (c++t::d)=fL p c++(wr t++fL t d)
 uN:(∀t∈c,t.k=110->mf t.n)->c.length<=402->ok x
def Says{α:Type}(ok:α->Prop)(txt:α->V UInt8)(a:V Tk->Bool×V Tk×α):Prop:=
 ∀l,(∀t∈l,Form t)->(a l).1=aP->∃c,c++(a l).2.1=l/\Tx ok txt c (a l).2.2
theorem Xe:Says (λp=>mf p.1/\mf p.2) xr dW:=by intro l g h;match l,g,h with|[],_,h=>cases h|[x],_,h=>cases h|x::a::r,g,h=>have e:dW (x::a::r)=if x.k=110 then(if a.k=110 then(aP,r,(x.n,a.n)) else(aQ,a::r,(0,0))) else(aQ,x::a::r,(0,0)):=rfl;rw[e] at h⊢;by_cases c:x.k=110;rw[y c] at h⊢;by_cases b:a.k=110;rw[y b];have:=g x E;have s:=g a E;have w1:wr x=Lib.itoa x.n:=y c;have q:wr a=Lib.itoa a.n:=y b;have f:∀d,fL x (a::d)=[32]++(wr a++fL a d):=λd=>(by show(if bb x a=aP then[32] else[])++(wr a++fL a d)=_;rw[y (by unfold bb;grind)]);refine⟨[x,a],rfl,E,λp k m=>?_,λp k m=>?_,λp t d B v=>?_,λn _=>⟨n x E c,n a E b⟩⟩;rw[xw k m,f,w1,q];simp[fL,xr];rw[Bb k m,f,w1,q];simp[fL,xr];show(if bb p x=aP then[32] else[])++(wr x++fL x (a::t::d))=((if bb p x=aP then[32] else[])++(wr x++fL x [a]))++_;rw[f,f,Ba (p:=a) (t:=t)<|A0 (Xd s b)<|F v];simp[fL,List.append_assoc];grind;grind
theorem pN{c:Nat}{l:V Tk}(h:(mk c l).1=aP):∃t,l=t::(mk c l).2/\t.k=c:=by cases l with|nil=>cases h|cons t r=>have e:mk c (t::r)=if t.k=c then(aP,r) else(aQ,t::r):=rfl;grind
theorem Bc{q:V UInt8}{l:V Tk}(h:(wd q l).1=aP):∃t,l=t::(wd q l).2/\t.k=119/\t.raw=q:=by cases l with|nil=>cases h|cons t r=>have e:wd q (t::r)=if t.k=119/\t.raw=q then(aP,r) else(aQ,t::r):=rfl;grind
theorem Bd{α:Type}{ok:α->Prop}{txt:α->V UInt8}{item:V Tk->Bool×V Tk×α}(hi:Says ok txt item):
  ∀(f:Nat)(l:V Tk)(n:V α),(∀t∈l,Form t)->(eW item f l n).1=aP->
   ∃c s,c++(eW item f l n).2.1=l/\(eW item f l n).2.2=n++s/\s≠[]/\
    Tx (λs=>s.length<=402/\∀x∈s,ok x) (λs=>df txt s++[41]) c s/\s.length<=c.length
 |0,l,n,_,h=>by cases h
 |f+1,l,n,hf,h=>by
  unfold eW at h⊢;by_cases H:(item l).1=aP
  .rw[y H] at h⊢;obtain⟨j,Q,m⟩:=hi l hf H;generalize(item l).2.1=v at*;generalize(item l).2.2=x at*;have R:∀t∈v,Form t:=λt r=>hf t (by grind);have:1<=j.length:=fT.2 m.ne;by_cases L:(mk 44 v).1=aP
   .rw[y L] at h⊢;obtain⟨t,r,i⟩:=pN L;have q:Form t:=R t (by grind);obtain⟨o,s,M,hv,T,z,hlen⟩:=Bd hi f (mk 44 v).2 (n++[x]) (λg G=>R g (by grind)) h;obtain⟨w,s2,B⟩:=te q 44 ae i;have hj:df txt (x::s)=txt x++([44,32]++df txt s):=(by cases s with|nil=>grind|cons a b=>rfl);refine⟨j++t::o,x::s,by grind,by grind,E,⟨E,λp P S=>?_,λp P S=>?_,λp g d fu G=>?_,λF N=>?_⟩,aq⟩;rw[m.cl p t o q B,m.br p P S,z.co t q i,w,hj];simp;rw[m.cl p t o q B,m.co p P S,z.co t q i,w,hj];simp;rw[aaU,lW,m.cl p t _ q B,m.cl p t o q B,z.cl t g d fu G];simp
    .have O:j.length+(o.length+1)<=402:=by grind
     have k0:=m.uN (λt r=>F t<|by simp[r]) U;have k1:=z.uN (λt r=>F t<|by simp[r]) U;grind
   rw[X L] at h⊢;obtain⟨t,r,i⟩:=pN (c:=41) h;have q:Form t:=R t (by grind);obtain⟨w,s2,B⟩:=te q 41 ae i;have W:fL t []=[]:=rfl;refine⟨j++[t],[x],by grind,rfl,E,⟨E,λp P S=>?_,λp P S=>?_,λp g d fu G=>?_,λF N=>?_⟩,E⟩;rw[m.cl p t [] q B,m.br p P S,w,W];simp[df];rw[m.cl p t [] q B,m.co p P S,w,W];simp[df];rw[aaU,Kb,m.cl p t _ q B,m.cl p t [] q B,Lw q i,W];simp;have O:j.length+1<=402:=(by grind);have k0:=m.uN (λt r=>F t<|by simp[r]) U;grind
  grind
end Pl
end
end Go.Proofs.YtkjhhooecopolaaGreatDoor

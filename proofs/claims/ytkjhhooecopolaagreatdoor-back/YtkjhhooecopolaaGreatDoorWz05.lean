import Derived.Test.YtkjhhooecopolaaGreatDoorWz04
set_option maxRecDepth 100000
set_option maxHeartbeats 4000000
namespace Go.Proofs.YtkjhhooecopolaaGreatDoor
namespace Pl
def Form(t:Tk):Prop:=((t.k=101\/t.k=120)/\t.raw=[])\/(∃c:UInt8,t.raw=[c]/\t.k=c.toNat/\(c.toNat=40\/c.toNat=41\/c.toNat=44\/c.toNat=47))\/
 (t.k=119/\∃c r,t.raw=c::r/\isLet c=true)\/(t.k=110/\∃c r,t.raw=c::r/\(bz c=true\/c.toNat=45))
theorem acu(l:List UInt8)(i:Nat):Form (cQ l i):=by
 unfold cQ;split
 ·exact ag ⟨ag rfl,rfl⟩
 ·rename_i c r
  split
  ·rename_i h;exact ah (ag ⟨c,rfl,rfl,h⟩)
  ·split
   ·rename_i h
    exact ah (ah (ag ⟨rfl,c,r.takeWhile isLet,by simp[h],h⟩))
   ·split
    ·rename_i h
     split
     ·exact ag ⟨ah rfl,rfl⟩
     ·exact ah (ah (ah ⟨rfl,c,_,rfl,ah h⟩))
    ·split
     ·exact ag ⟨ah rfl,rfl⟩
     ·rename_i h
      by_cases hd:bz c=true
      ·exact ah (ah (ah ⟨rfl,c,r.takeWhile bz,by simp[hd],ag hd⟩))
      ·exact absurd (ag (by simp[hd])) h
theorem Lm{s:List UInt8}{t:Tk}(h:Place s t):Form t:=by
 obtain⟨_,i,_,rfl⟩:=h;exact acu _ _
theorem GQ{t:Tk}(h:Form t)(c:UInt8)(hc:c.toNat=40\/c.toNat=41\/c.toNat=44):bB t=[c]↔t.k=c.toNat:=by
 unfold bB;rcases h with⟨hk,hr⟩|⟨d,hr,hk,hd⟩|⟨hk,d,r,hr,hd⟩|⟨hk,d,r,hr,hd⟩
 ·rw[af (by omega),hr]
  constructor
  ·intro h;cases h
  ·intro h;omega
 ·by_cases h47:t.k=47
  ·rw[aj h47];constructor
   ·intro h;cases h
   ·intro h;omega
  ·rw[af h47,hr,hk];constructor
   ·intro h;injection h with h;rw[h]
   ·intro h;rw[aaP.1 h]
 ·rw[af (by omega),hr]
  constructor
  ·intro h;injection h with h;have:=gh hd;rw[h] at this;omega
  ·intro h;omega
 ·rw[af (by omega),hr]
  constructor
  ·intro h;injection h with h;rcases hd with hd|hd
   ·have:=gh hd;rw[h] at this;omega
   ·rw[h] at hd;omega
  ·intro h;omega
theorem Rx{t:Tk}(h:Form t)(q:List UInt8)(a:UInt8)(b:List UInt8)(hq:q=a::b)(ha:isLet a=true):bB t=q↔(t.k=119/\t.raw=q):=by
 have ha':=gh ha;unfold bB;rcases h with⟨hk,hr⟩|⟨d,hr,hk,hd⟩|⟨hk,d,r,hr,hd⟩|⟨hk,d,r,hr,hd⟩
 ·rw[af (by omega),hr,hq]
  constructor
  ·intro h;cases h
  ·intro h;cases h.2
 ·by_cases h47:t.k=47
  ·rw[aj h47,hq];constructor
   ·intro h;cases h
   ·intro h;omega
  ·rw[af h47,hr,hq];constructor
   ·intro h;injection h with h;rw[h] at hd;omega
   ·intro h;omega
 ·rw[af (by omega)]
  exact⟨fun h=>⟨hk,h⟩,fun h=>h.2⟩
 ·rw[af (by omega),hr,hq]
  constructor
  ·intro h;injection h with h;rcases hd with hd|hd
   ·have:=gh hd;rw[h] at this;omega
   ·rw[h] at hd;omega
  ·intro h;omega
theorem vC{t:Tk}:pk t=3↔t.k=110:=by
 unfold pk;constructor
 ·intro h
  repeat' split at h
  all_goals first |assumption|omega
 ·intro h;rw[af (by omega),af (by omega),aj h]
theorem Ry{t:Tk}:pk t=1↔t.k=101:=by
 unfold pk;constructor
 ·intro h
  repeat' split at h
  all_goals first |assumption|omega
 ·intro h;rw[aj h]
end Pl
end Go.Proofs.YtkjhhooecopolaaGreatDoor
namespace Go.Proofs.YtkjhhooecopolaaGreatDoor
open Go.RowKit
theorem Rz(hO:mO)(rb:Nat)(s q:ByteArray)(A r:List Pl.Tk)(t:Pl.Tk)(rg:List (List (Int×Int)))(w:World)(cx:Cx rb s A)(hR:RD rb s A (t::r) rg w)(hG:Gl w)
  (hk:t.k=119\/t.k=110\/t.k=40\/t.k=41\/t.k=44)(hq:(⟨(Pl.bB t).toArray⟩:ByteArray)=q):
  Calls Tryz.prog 94 #[.pointer (some ⟨rb,0,none⟩),.string q] w fun e w'=>e=.returned (.bool true)/\RD rb s A r rg w'/\Below rb w w':=by
 obtain⟨t',r',hl,c0,c1,c2,c3,c4⟩:=hR.cells;injection hl with h1 h2;subst h1 h2;rw[hq] at c2;clear hq;have HO:Hid (Calls Tryz.prog 148 #[.pointer (some ⟨rb,0,none⟩)] w fun e w'=>e=.returned (.tuple #[])/\RD rb s A r rg w'/\Below rb w w'/\Kp rb w w'):=hO rb s A r t rg w cx hR hG hk
 clear hO hR hk
 go_enter Tryz.func94,Tryz.ntmps94
 go_wp2_with fail
 refine HO.out.mono ?_;rintro e w1 ⟨rfl,h1,h2,h3⟩
 go_wp2_with fail
 go_ret
 exact⟨rfl,h1,h2⟩
theorem RA(rb:Nat)(s q:ByteArray)(A r:List Pl.Tk)(t:Pl.Tk)(rg:List (List (Int×Int)))(w:World)(hR:RD rb s A (t::r) rg w)
  (hq:((⟨(Pl.bB t).toArray⟩:ByteArray).toList == q.toList)=false):
  Calls Tryz.prog 94 #[.pointer (some ⟨rb,0,none⟩),.string q] w fun e w'=>e=.returned (.bool false)/\w'=w:=by
 obtain⟨t',r',hl,c0,c1,c2,c3,c4⟩:=hR.cells;injection hl with h1 h2;subst h1 h2;generalize(⟨(Pl.bB t).toArray⟩:ByteArray)=a at*;clear hR
 go_enter Tryz.func94,Tryz.ntmps94
 go_wp2_with fail
 go_ret
 exact⟨rfl,rfl⟩
theorem RD.suffix{rb:Nat}{s:ByteArray}{A l:List Pl.Tk}{rg:List (List (Int×Int))}{w:World}(h:RD rb s A l rg w):∃c t r,c++l=A/\l=t::r:=by
 obtain⟨c,t,r,tv,rv,hc,hl,_⟩:=h;exact⟨c,t,r,hc,hl⟩
theorem RD.form{rb:Nat}{s:ByteArray}{A r:List Pl.Tk}{t:Pl.Tk}{rg:List (List (Int×Int))}{w:World}(cx:Cx rb s A)(h:RD rb s A (t::r) rg w):Pl.Form t:=by
 obtain⟨c,_,_,hc,_⟩:=h.suffix;exact Pl.Lm (cx.pl t (by rw[<-hc];simp))
theorem rO(hO:mO)(c:UInt8)(hc:c.toNat=40\/c.toNat=41\/c.toNat=44)(rb:Nat)(s:ByteArray)(A l:List Pl.Tk)(rg:List (List (Int×Int)))(w:World)(cx:Cx rb s A)(hR:RD rb s A l rg w)(hG:Gl w):
  Calls Tryz.prog 94 #[.pointer (some ⟨rb,0,none⟩),.string ⟨#[c]⟩] w fun e w'=>e=.returned (.bool (Pl.mk c.toNat l).1)/\RD rb s A (Pl.mk c.toNat l).2 rg w'/\Below rb w w':=by
 obtain⟨_,t,r,_,rfl⟩:=hR.suffix;have hf:=hR.form cx;by_cases hk:t.k=c.toNat
 ·have e:Pl.mk c.toNat (t::r)=(true,r):=by simp[Pl.mk,hk]
  rw[e];exact Rz hO rb s ⟨#[c]⟩ A r t rg w cx hR hG (by omega) (by rw[(Pl.GQ hf c hc).2 hk])
 ·have e:Pl.mk c.toNat (t::r)=(false,t::r):=by simp[Pl.mk,hk]
  rw[e];refine(RA rb s ⟨#[c]⟩ A r t rg w hR ?_).mono ?_
  ·rw[ByteArray.toList_eq,ByteArray.toList_eq,yU];intro h;exact hk ((Pl.GQ hf c hc).1 (by simpa using h))
  ·rintro e w' ⟨rfl,rfl⟩;exact⟨rfl,hR,Below.refl _ _⟩
theorem GR(hO:mO)(q:List UInt8)(a:UInt8)(b:List UInt8)(hq:q=a::b)(ha:Pl.isLet a=true)(rb:Nat)(s:ByteArray)(A l:List Pl.Tk)(rg:List (List (Int×Int)))(w:World)(cx:Cx rb s A)(hR:RD rb s A l rg w)(hG:Gl w):
  Calls Tryz.prog 94 #[.pointer (some ⟨rb,0,none⟩),.string ⟨q.toArray⟩] w fun e w'=>e=.returned (.bool (Pl.wd q l).1)/\RD rb s A (Pl.wd q l).2 rg w'/\Below rb w w':=by
 obtain⟨_,t,r,_,rfl⟩:=hR.suffix;have hf:=hR.form cx;by_cases hk:t.k=119/\t.raw=q
 ·have e:Pl.wd q (t::r)=(true,r):=by simp[Pl.wd,hk]
  rw[e];exact Rz hO rb s ⟨q.toArray⟩ A r t rg w cx hR hG (by omega) (by rw[(Pl.Rx hf q a b hq ha).2 hk])
 ·have e:Pl.wd q (t::r)=(false,t::r):=by simp only[Pl.wd];rw[af hk]
  rw[e];refine(RA rb s ⟨q.toArray⟩ A r t rg w hR ?_).mono ?_
  ·rw[ByteArray.toList_eq,ByteArray.toList_eq,yU];intro h;exact hk ((Pl.Rx hf q a b hq ha).1 (by simpa using h))
  ·rintro e w' ⟨rfl,rfl⟩;exact⟨rfl,hR,Below.refl _ _⟩
theorem Lp(hO:mO)(rb:Nat)(s:ByteArray)(A r:List Pl.Tk)(t:Pl.Tk)(rg:List (List (Int×Int)))(w:World)(cx:Cx rb s A)(hR:RD rb s A (t::r) rg w)(hG:Gl w)(hk:t.k=110):
  Calls Tryz.prog 238 #[.pointer (some ⟨rb,0,none⟩)] w fun e w'=>e=.returned (.bool true)/\RD rb s A r rg w'/\Below rb w w'/\Kp rb w w':=by
 obtain⟨t',r',hl,c0,c1,c2,c3,c4⟩:=hR.cells;injection hl with h1 h2;subst h1 h2;rw[Pl.vC.2 hk] at c1;have HO:Hid (Calls Tryz.prog 148 #[.pointer (some ⟨rb,0,none⟩)] w fun e w'=>e=.returned (.tuple #[])/\RD rb s A r rg w'/\Below rb w w'/\Kp rb w w'):=hO rb s A r t rg w cx hR hG (by omega)
 clear hO hR hk
 go_enter Tryz.func238,Tryz.ntmps238
 go_wp2_with fail
 refine HO.out.mono ?_;rintro e w1 ⟨rfl,h1,h2,h3⟩
 go_wp2_with fail
 go_ret
 exact⟨rfl,h1,h2,h3⟩
theorem RF(rb:Nat)(s:ByteArray)(A r:List Pl.Tk)(t:Pl.Tk)(rg:List (List (Int×Int)))(w:World)(hR:RD rb s A (t::r) rg w)(hk:t.k≠110):
  Calls Tryz.prog 238 #[.pointer (some ⟨rb,0,none⟩)] w fun e w'=>e=.returned (.bool false)/\w'=w:=by
 obtain⟨t',r',hl,c0,c1,c2,c3,c4⟩:=hR.cells;injection hl with h1 h2;subst h1 h2;have hp:(Pl.pk t != 3)=true:=by
  rw[Kr];intro h;exact hk (Pl.vC.1 h)
 generalize Pl.pk t=a at*;clear hR hk
 go_enter Tryz.func238,Tryz.ntmps238
 go_wp2_with fail
 go_ret
 exact⟨rfl,rfl⟩
theorem xw{w:World}{base:Nat}{e:TypeId}{size:Nat}{v:Value}{n:Nat}{xs:List Value}(h:w.ownsRow base e size v n xs){k:Nat}(hk:v.ownBlock=some k):
  ∃cur,w.heap[k]?=some (.cells cur e (0,0)):=by
 rcases h.2 with⟨ha,_⟩|⟨g,cap,cur,hv,hg,hh,r⟩
 ·rw[ha] at hk;cases hk
 ·rw[hv] at hk;have:g=k:=by simpa[Value.ownBlock] using hk
  subst this;exact⟨cur,hh⟩
theorem qu.push{rb:Nat}{rv:Value}{fE:List (List (Int×Int))}{q:List (Int×Int)}{w:World}(h:qu rb rv (fE++[q]) w):
  ∃gr cap qv,rv=.slice (some ⟨gr,0,none⟩) (fE.length+1) cap/\rb<gr/\(∃cur,w.heap[gr]?=some (.cells cur 127 (0,0))/\cur[fE.length]?=some qv)/\
   w.ownsRow (rb+1) 81 1 qv q.length (pH q)/\
   ∀(w5:World)(g cap':Nat)(o:Obj)(p:Int×Int),(w.alloc o).drew.grownBy w5 qv.ownBlock->
    w5.ownsRow (rb+1) 81 1 (.slice (some ⟨g,0,none⟩) (q.length+1) cap') (q.length+1) (pH q++[xt p])->
    (qv.ownBlock=some g\/g=w.heap.size+1)->
    qu rb rv (fE++[q++[p]]) (w5.setCell ⟨gr,fE.length,none⟩ (.slice (some ⟨g,0,none⟩) (q.length+1) cap')):=by
 obtain⟨vs,h1,h2,h3,h4⟩:=h;simp only[aX,cN,gP,ki] at h1 h2;obtain⟨hl,h2'⟩:=id h2;rcases h2' with⟨_,h0⟩|⟨gr,cap,cur,hv,hg,hh,hnc,hcm,hcs,htake⟩
 ·omega
 have hn:fE.length<vs.length:=by omega
 obtain⟨qv,ub⟩:∃qv,vs[fE.length]?=some qv:=⟨_,aC hn⟩;have hq:w.ownsRow (rb+1) 81 1 qv q.length (pH q):=h3 fE.length qv q ub (by simp)
 have xx:cur[fE.length]?=some qv:=by
  rw[<-htake] at ub;rw[kj] at ub;simp only[Nat.mul_one] at ub;rw[aj (by omega)] at ub
  simpa using ub
 refine⟨gr,cap,qv,hv,hg,⟨cur,hh,xx⟩,hq,?_⟩;intro w5 g cap' o p hgrow Cw hat;have acv:=lt_of_heap hh;have hne:qv.ownBlock≠some gr:=ua hq hh (by decide)
 have RH:w5.heap[gr]?=some (.cells cur 127 (0,0)):=(rM hgrow gr acv hne).trans hh;have amQ:g≠gr:=fun e=>by
  obtain⟨c5,zy⟩:=xw Cw (k:=g) rfl;rw[e,RH] at zy;injection zy with zy;injection zy with _ zy _;cases zy
 refine⟨vs.set fE.length (.slice (some ⟨g,0,none⟩) (q.length+1) cap'),by simp[h1],?_,?_,?_⟩
 ·simp only[aX,cN,gP,ki];refine⟨by simpa using hl,ah ⟨gr,cap,cur.setIfInBounds fE.length (.slice (some ⟨g,0,none⟩) (q.length+1) cap'),hv,hg,heap_set RH _,hnc,hcm,by simpa using hcs,?_⟩⟩
  rw[<-htake];simp[List.take_set]
 ·intro i v g' hi hg';by_cases hin:i=fE.length
  ·subst hin;rw[ru hn] at hi;injection hi with hi;subst hi;have e:g'=q++[p]:=by simpa using hg'.symm
   subst e;have e2:pH (q++[p])=pH q++[xt p]:=by simp[pH]
   rw[e2];simp only[aX,cN,gP,ki];refine aU Cw fun k hk=>ir ?_ _
   have:g=k:=by simpa[Value.ownBlock] using hk
   omega
  ·rw[wZ (fun e=>hin e.symm)] at hi
   have RJ:i<fE.length:=by
    have:=(bZ.1 hi).1;omega
   have hg2:(fE++[q])[i]?=some g':=by
    rw[fC RJ] at hg'⊢;exact hg'
   have ho:=h3 i v g' hi hg2;refine aU ho fun k hk=>?_
   obtain⟨c,hc⟩:=xw ho hk;have acw:k≠gr:=fun e=>by
    rw[e,hh] at hc;injection hc with hc;injection hc with _ hc _;cases hc
   rw[ir acw];refine rM hgrow k (aB ho k hk).2 fun e=>?_
   exact hin (h4 i fE.length v qv k hi ub hk e)
 ·intro i j v u k hi hj hv' hu';by_cases hin:i=fE.length
  ·by_cases hjn:j=fE.length
   ·omega
   ·subst hin;rw[ru hn] at hi;injection hi with hi;subst hi;rw[wZ (fun e=>hjn e.symm)] at hj
    have vD:g=k:=by simpa[Value.ownBlock] using hv'
    rcases hat with h|h
    ·exact(h4 j fE.length u qv k hj ub hu' (by rw[h,vD])).symm
    ·have amR:j<fE.length:=by
      have:=(bZ.1 hj).1;omega
     obtain⟨gj,hgj⟩:∃gj,(fE++[q])[j]?=some gj:=⟨_,aC (by simp;omega)⟩
     have:=(aB (h3 j u gj hj hgj) k hu').2;omega
  ·rw[wZ (fun e=>hin e.symm)] at hi
   by_cases hjn:j=fE.length
   ·subst hjn;rw[ru hn] at hj;injection hj with hj;subst hj;have vD:g=k:=by simpa[Value.ownBlock] using hu'
    rcases hat with h|h
    ·exact h4 i fE.length v qv k hi ub hv' (by rw[h,vD])
    ·have RJ:i<fE.length:=by
      have:=(bZ.1 hi).1;omega
     obtain⟨gi,hgi⟩:∃gi,(fE++[q])[i]?=some gi:=⟨_,aC (by simp;omega)⟩
     have:=(aB (h3 i v gi hi hgi) k hv').2;omega
   ·rw[wZ (fun e=>hjn e.symm)] at hj
    exact h4 i j v u k hi hj hv' hu'
end Go.Proofs.YtkjhhooecopolaaGreatDoor
namespace Go.Proofs.YtkjhhooecopolaaGreatDoor
section
variable{P:Program}{ops:Array Oper}{Q:Exit->Act->World->Prop}{md:Region.Mode}{S:World->Prop}{n:Nat}
def Till(P:Program)(md:Region.Mode)(ops:Array Oper)(Q:Exit->Act->World->Prop)(S:World->Prop)(n:Nat):Nat->Array Bool->Act->World->Prop
 |0,l,a,w=>Region.ready md ops l=[]/\Q .normal a w
 |f+1,l,a,w=>(Region.ready md ops l=[]->Q .normal a w)/\
   ∀i∈Region.ready md ops l,wpOp P ops Q i (fun a' w'=>(i≠n->S w')/\Till P md ops Q S n f (l.setIfInBounds i true) a' w') a w
theorem Till.any:∀(f:Nat)(l:Array Bool)(a:Act)(w:World),Till P md ops Q S n f l a w->wpAny P md ops Q f l a w
 |0,_,_,_,h=>h
 |f+1,_,_,_,h=>⟨h.1,fun i hi=>wpOp_mono (fun a' w' h'=>Till.any f _ a' w' h'.2) (h.2 i hi)⟩
theorem Till.start{id:Nat}{a:Act}{w:World}(hm:P.follows .mixedOrders=true)
  (h:Till P .any ops Q S n ops.size (Array.replicate ops.size false) a w.drew):(Code.region id ops true).wp P Q a w:=
 wp_region_any hm (Till.any _ _ _ _ h)
theorem Till.done{l:Array Bool}{a:Act}{w:World}(hr:Region.ready md ops l=[])(h:Q .normal a w)(f:Nat):Till P md ops Q S n f l a w:=by
 cases f with
 |zero=>exact⟨hr,h⟩
 |succ f=>exact⟨fun _=>h,by rw[hr];simp⟩
theorem Till.one{i f:Nat}{o:Oper}{l:Array Bool}{a:Act}{w:World}(ho:ops[i]?=some o)(hr:Region.ready md ops l=[i])
  (h:∀K:Act->World->Prop,(∀a' w',(i≠n->S w')->Till P md ops Q S n f (l.setIfInBounds i true) a' w'->K a' w')->if Region.wanted o (yielded ops a.tmps)=true then Oper.wp P o a w K Q else K (a.put o.dst undef) w):
  Till P md ops Q S n (f+1) l a w:=by
 refine⟨fun h0=>?_,fun j hj=>?_⟩
 ·rw[hr] at h0;cases h0
 ·rw[hr,bY] at hj;subst hj;exact wpOp_step ho (fun K hK=>h K (fun a' w' h1 h2=>hK a' w' ⟨h1,h2⟩))
theorem Till.first{i:Nat}{oi:Oper}{v:Value}(hi:ops[i]?=some oi)(Lq:∀(j:Nat)(o:Oper) cs b,ops[j]?=some o->o.op≠.select cs b)
  (hQ:∀c a w,Q (.panic c) (a.put oi.dst v) w->Q (.panic c) a w)
  (hin:i≠n)(hn:∀o,ops[n]?=some o->∃e∈o.after,Region.binds md e=true/\e.on=i):
  ∀(f:Nat)(l:Array Bool)(a:Act)(w:World),
   (∀j oj,ops[j]?=some oj->j≠i->l.getD j true=false->(∀e∈oj.after,Region.binds md e=true->e.on≠i)->oi.apart ops oj=true)->
   i∈Region.ready md ops l->YieldsIf P ops S oi v a->S w->
   Till P md ops Q S n f (l.setIfInBounds i true) (a.put oi.dst v) w->Till P md ops Q S n (f+1) l a w
 |0,l,a,w,_,hr,hy,hS,H=>by
  refine⟨fun h=>(by rw[h] at hr;cases hr),fun j hj=>?_⟩
  rcases Nat.decEq j i with hne|rfl
  ·have:=ready_mono hj hne;rw[H.1] at this;cases this
  ·exact hy.wpOp hi hS ⟨fun _=>hS,H⟩
 |f+1,l,a,w,hfree,hr,hy,hS,H=>by
  refine⟨fun h=>(by rw[h] at hr;cases hr),fun j hj=>?_⟩
  rcases Nat.decEq j i with hne|rfl
  ·obtain⟨RM,oj,GS,hall⟩:=mem_ready.1 hj;have hir:i∈Region.ready md ops (l.setIfInBounds j true):=ready_mono hr (Ne.symm hne);have RN:∀e∈oj.after,Region.binds md e=true->e.on≠i:=fun e he hb heq=>by
    have h1:=hall e he hb;rw[heq] at h1;have h0:=(mem_ready.1 hr).1;rcases Ko i l.size with q|q
    ·simp[q] at h0 h1;rw[h0] at h1;cases h1
    ·simp[Array.getElem?_eq_none q] at h1
   have hjn:j≠n:=fun e=>by
    subst e;obtain⟨e,he,hb,qm⟩:=hn oj GS;exact RN e he hb qm
   refine wpOp_mono (fun a' w' h3=>?_) (wpOp_putIf GS (hfree j oj GS hne RM RN) (fun cs b=>Lq i oi cs b hi) (fun cs b=>Lq j oj cs b GS) hQ hy (H.2 j (ready_mono hj hne)))
   obtain⟨hy',h4,h5⟩:=h3;have aA:S w':=h4 hjn;refine⟨fun _=>aA,Till.first hi Lq hQ hin hn f (l.setIfInBounds j true) a' w' ?_ hir hy' aA ?_⟩
   ·intro k ok hk fN hun hno;refine hfree k ok hk fN ?_ hno;rcases Nat.decEq j k with hjk|rfl
    ·rw[getD_set_ne true hjk] at hun;exact hun
    ·exact RM
   ·rw[Array.setIfInBounds_comm _ _ hne];exact h5
  ·exact hy.wpOp hi hS ⟨fun _=>hS,H⟩
def waits(md:Region.Mode)(ops:Array Oper)(n i:Nat):Bool:=
 match ops[n]? with
 |some o=>(n != i)&&o.after.any fun e=>Region.binds md e&&e.on == i
 |none=>false
theorem Till.take{i:Nat}{oi:Oper}{v:Value}{f:Nat}{l:Array Bool}{a:Act}{w:World}(hi:ops[i]?=some oi)
  (hs:Region.noSelect ops=true)(hf:Region.free md ops l i=true)(hr:(Region.ready md ops l).contains i=true)(hw:waits md ops n i=true)
  (hQ:∀c a w,Q (.panic c) (a.put oi.dst v) w->Q (.panic c) a w)(hy:YieldsIf P ops S oi v a)(hS:S w)
  (h:Till P md ops Q S n f (l.setIfInBounds i true) (a.put oi.dst v) w):Till P md ops Q S n (f+1) l a w:=by
 unfold waits at hw;split at hw
 ·rename_i o ho
  simp only[pj,Kr,ne_eq,Array.any_eq_true',Qn] at hw;obtain⟨h1,e,he,h2,h3⟩:=hw;refine Till.first hi (Region.noSelect_spec hs) hQ (fun q=>h1 q.symm) (fun o' ho'=>?_) f l a w (Region.free_spec hi hf) (by simpa using hr) hy hS h
  rw[ho] at ho';injection ho' with ho';subst ho';exact⟨e,he,h2,h3⟩
 ·cases hw
end
end Go.Proofs.YtkjhhooecopolaaGreatDoor
namespace Go.Proofs.YtkjhhooecopolaaGreatDoor
open Go.RowKit
theorem GU(x y:Int)(w:World):
  Calls Tryz.prog 38 #[.int .i64 x,.int .i64 y] w fun e w'=>e=.returned (.complex .f64 (floatOfInt .f64 x) (floatOfInt .f64 y))/\w'=w:=by
 go_enter Tryz.func38,Tryz.ntmps38
 go_wp2
 go_ret
 exact⟨rfl,rfl⟩
theorem acz:(Tryz.prog.info? 81).map (fun i=>(i.zero,i.size,i.bytes))=some (some (.complex .f64 0 0),1,16):=by kernel_rfl
theorem acA(hO:mO)(rb:Nat)(s:ByteArray)(A r:List Pl.Tk)(x y:Pl.Tk)(rg:List (List (Int×Int)))(q:List (Int×Int))(w:World)(cx:Cx rb s A)(hR:RD rb s A (x::y::r) (rg++[q]) w)(hG:Gl w)
  (hx:x.k=110)(hy:y.k=110)(hq:q.length<=1000)(hrg:rg.length<=1000):
  Calls Tryz.prog 196 #[.pointer (some ⟨rb,0,none⟩)] w fun e w'=>e=.returned (.bool true)/\RD rb s A r (rg++[q++[(x.n,y.n)]]) w'/\Below rb w w':=by
 obtain⟨i0,hi,hz0,hz1,hz2⟩:=info_parts acz;have hlt:=hR.lt;obtain⟨t',r',hl,c0,c1,c2,c3,c4⟩:=hR.cells;injection hl with h1 h2;subst h1 h2
 go_enter Tryz.func196,Tryz.ntmps196
 go_wp2_with fail
 refine(Lp hO rb s A (y::r) x _ _ cx (hR.alloc _) (hG.alloc _) hx).mono ?_;rintro e w1 ⟨rfl,dL,hb1,hk1⟩;clear c0 c1 c2 c3 c4;have vE:=hk1 w.heap.size _ (by omega) ((hR.nt w.heap.size (ay _)).below hlt ((Below.refl _ _).alloc (ay _) _)) (heap_alloc_new w _)
 obtain⟨t',r',hl,c0,c1,c2,c3,c4⟩:=dL.cells;injection hl with h1 h2;subst h1 h2;have bO:Gl w1:=(hG.alloc _).below hb1 cx.rb
 go_wp2_with fail
 refine(Lp hO rb s A r y _ _ cx (dL.alloc _) (bO.alloc _) hy).mono ?_;rintro e w2 ⟨rfl,cD,hb2,hk2⟩;clear c0 c1 c2 c3 c4;have vz:=dL.lt;have hby:=hk2 w1.heap.size _ (by omega) ((dL.nt w1.heap.size (ay _)).below vz ((Below.refl _ _).alloc (ay _) _)) (heap_alloc_new w1 _)
 have jW:=hk2 w.heap.size _ (by omega) (vE.2.below vz ((Below.refl _ _).alloc (ay _) _)) ((Below.heap_alloc _ _ _ (lt_of_heap vE.1)).trans vE.1)
 have Lr:w2.cell? ⟨w.heap.size,2,none⟩=some (.int .i64 x.n):=cell_of jW.1 2;have Lt:w2.cell? ⟨w1.heap.size,2,none⟩=some (.int .i64 y.n):=cell_of hby.1 2;obtain⟨c,t,r0,tv,rv,hc,hl,hbk,hown,Lu⟩:=id cD;obtain⟨gr,cap,qv,rfl,hgr,⟨cur,xx,RO⟩,vF,hfin⟩:=Lu.push;have c6:w2.cell? ⟨rb,6,none⟩=some (.slice (some ⟨gr,0,none⟩) (rg.length+1) cap):=cell_of hbk 6;have ce:w2.cell? ⟨gr,rg.length,none⟩=some qv:=(cell_of xx rg.length).trans RO;have qw:=cD.lt;have hnc:(rg.length:Int)<(rg.length:Int)+1:=by omega
 go_wp2_with fail
 refine Till.start (S:=fun w'=>w'.cell? ⟨rb,6,none⟩=some (.slice (some ⟨gr,0,none⟩) (rg.length+1) cap)/\w'.cell? ⟨gr,rg.length,none⟩=some qv/\w'.cell? ⟨w.heap.size,2,none⟩=some (.int .i64 x.n)/\w'.cell? ⟨w1.heap.size,2,none⟩=some (.int .i64 y.n)) (n:=20) (by kernel_rfl) ?_
 have hS:w2.drew.cell? ⟨rb,6,none⟩=some (.slice (some ⟨gr,0,none⟩) (rg.length+1) cap)/\w2.drew.cell? ⟨gr,rg.length,none⟩=some qv/\w2.drew.cell? ⟨w.heap.size,2,none⟩=some (.int .i64 x.n)/\w2.drew.cell? ⟨w1.heap.size,2,none⟩=some (.int .i64 y.n):=⟨c6,ce,Lr,Lt⟩;refine Till.take (i:=0) (v:=?_) rfl (by kernel_rfl) (by kernel_rfl) (by kernel_rfl) (by kernel_rfl) (fun _ _ _ h=>h) (ag ⟨by rfl,?_⟩) hS ?_
 rotate_left
 ·intro w' aA;obtain⟨s1,s2,s3,s4⟩:=aA
  go_simp
  try with_reducible rfl
 simp only[Act.put,aH];refine Till.take (i:=1) (v:=?_) rfl (by kernel_rfl) (by kernel_rfl) (by kernel_rfl) (by kernel_rfl) (fun _ _ _ h=>h) (ag ⟨by rfl,?_⟩) hS ?_
 rotate_left
 ·intro w' aA;obtain⟨s1,s2,s3,s4⟩:=aA
  go_simp
  try with_reducible rfl
 simp only[Act.put];refine Till.take (i:=2) (v:=?_) rfl (by kernel_rfl) (by kernel_rfl) (by kernel_rfl) (by kernel_rfl) (fun _ _ _ h=>h) (ag ⟨by rfl,?_⟩) hS ?_
 rotate_left
 ·intro w' aA;obtain⟨s1,s2,s3,s4⟩:=aA
  go_simp
  try with_reducible rfl
 simp only[Act.put];refine Till.take (i:=3) (v:=?_) rfl (by kernel_rfl) (by kernel_rfl) (by kernel_rfl) (by kernel_rfl) (fun _ _ _ h=>h) (ag ⟨by rfl,?_⟩) hS ?_
 rotate_left
 ·intro w' aA;obtain⟨s1,s2,s3,s4⟩:=aA
  go_simp
  try with_reducible rfl
 simp only[Act.put];refine Till.take (i:=4) (v:=?_) rfl (by kernel_rfl) (by kernel_rfl) (by kernel_rfl) (by kernel_rfl) (fun _ _ _ h=>h) (ag ⟨by rfl,?_⟩) hS ?_
 rotate_left
 ·intro w' aA;obtain⟨s1,s2,s3,s4⟩:=aA
  go_simp
  try with_reducible rfl
 simp only[Act.put];refine Till.take (i:=5) (v:=?_) rfl (by kernel_rfl) (by kernel_rfl) (by kernel_rfl) (by kernel_rfl) (fun _ _ _ h=>h) (ag ⟨by rfl,?_⟩) hS ?_
 rotate_left
 ·intro w' aA;obtain⟨s1,s2,s3,s4⟩:=aA
  go_simp
  try with_reducible rfl
 simp only[Act.put];refine Till.take (i:=6) (v:=?_) rfl (by kernel_rfl) (by kernel_rfl) (by kernel_rfl) (by kernel_rfl) (fun _ _ _ h=>h) (ag ⟨by rfl,?_⟩) hS ?_
 rotate_left
 ·intro w' aA;obtain⟨s1,s2,s3,s4⟩:=aA
  go_simp
  try with_reducible rfl
 simp only[Act.put];refine Till.take (i:=7) (v:=?_) rfl (by kernel_rfl) (by kernel_rfl) (by kernel_rfl) (by kernel_rfl) (fun _ _ _ h=>h) (ag ⟨by rfl,?_⟩) hS ?_
 rotate_left
 ·intro w' aA;obtain⟨s1,s2,s3,s4⟩:=aA
  go_simp
  try with_reducible rfl
 simp only[Act.put];refine Till.take (i:=8) (v:=?_) rfl (by kernel_rfl) (by kernel_rfl) (by kernel_rfl) (by kernel_rfl) (fun _ _ _ h=>h) (ag ⟨by rfl,?_⟩) hS ?_
 rotate_left
 ·intro w' aA;obtain⟨s1,s2,s3,s4⟩:=aA
  go_simp
  try with_reducible rfl
 simp only[Act.put];refine Till.take (i:=9) (v:=?_) rfl (by kernel_rfl) (by kernel_rfl) (by kernel_rfl) (by kernel_rfl) (fun _ _ _ h=>h) (ag ⟨by rfl,?_⟩) hS ?_
 rotate_left
 ·intro w' aA;obtain⟨s1,s2,s3,s4⟩:=aA
  go_simp
  try with_reducible rfl
 simp only[Act.put];refine Till.take (i:=10) (v:=?_) rfl (by kernel_rfl) (by kernel_rfl) (by kernel_rfl) (by kernel_rfl) (fun _ _ _ h=>h) (ag ⟨by rfl,?_⟩) hS ?_
 rotate_left
 ·intro w' aA;obtain⟨s1,s2,s3,s4⟩:=aA
  go_simp
  try with_reducible rfl
 simp only[Act.put];refine Till.take (i:=11) (v:=?_) rfl (by kernel_rfl) (by kernel_rfl) (by kernel_rfl) (by kernel_rfl) (fun _ _ _ h=>h) (ag ⟨by rfl,?_⟩) hS ?_
 rotate_left
 ·intro w' aA;obtain⟨s1,s2,s3,s4⟩:=aA
  go_simp
  try with_reducible rfl
 simp only[Act.put];refine Till.take (i:=12) (v:=?_) rfl (by kernel_rfl) (by kernel_rfl) (by kernel_rfl) (by kernel_rfl) (fun _ _ _ h=>h) (ag ⟨by rfl,?_⟩) hS ?_
 rotate_left
 ·intro w' aA;obtain⟨s1,s2,s3,s4⟩:=aA
  go_simp
  try with_reducible rfl
 simp only[Act.put];refine Till.take (i:=13) (v:=?_) rfl (by kernel_rfl) (by kernel_rfl) (by kernel_rfl) (by kernel_rfl) (fun _ _ _ h=>h) (ag ⟨by rfl,?_⟩) hS ?_
 rotate_left
 ·intro w' aA;obtain⟨s1,s2,s3,s4⟩:=aA
  go_simp
  try with_reducible rfl
 simp only[Act.put];refine Till.take (i:=14) (v:=?_) rfl (by kernel_rfl) (by kernel_rfl) (by kernel_rfl) (by kernel_rfl) (fun _ _ _ h=>h) (ag ⟨by rfl,?_⟩) hS ?_
 rotate_left
 ·intro w' aA;obtain⟨s1,s2,s3,s4⟩:=aA
  go_simp
  try with_reducible rfl
 simp only[Act.put];refine Till.take (i:=15) (v:=?_) rfl (by kernel_rfl) (by kernel_rfl) (by kernel_rfl) (by kernel_rfl) (fun _ _ _ h=>h) (ag ⟨by rfl,?_⟩) hS ?_
 rotate_left
 ·intro w' aA;obtain⟨s1,s2,s3,s4⟩:=aA
  go_simp
  try with_reducible rfl
 simp only[Act.put];refine Till.one (i:=16) rfl (by kernel_rfl) (fun K hK=>?_)
 go_simp
 refine(GU _ _ _).mono ?_;rintro e w' ⟨rfl,rfl⟩
 go_wp2_with fail
 refine hK _ _ (fun _=>hS) ?_
 clear hK K
 try simp only[Act.put,aH,aI,aG]
 refine Till.one (i:=17) rfl (by kernel_rfl) (fun K hK=>?_)
 go_simp
 refine hK _ _ (fun _=>⟨(World.cell?_alloc_lt _ _ _ (World.block_lt_of_cell? _ _ c6)).trans c6,(World.cell?_alloc_lt _ _ _ (World.block_lt_of_cell? _ _ ce)).trans ce,(World.cell?_alloc_lt _ _ _ (World.block_lt_of_cell? _ _ Lr)).trans Lr,(World.cell?_alloc_lt _ _ _ (World.block_lt_of_cell? _ _ Lt)).trans Lt⟩) ?_
 clear hK K
 try simp only[Act.put,aH,aI,aG]
 refine Till.one (i:=18) rfl (by kernel_rfl) (fun K hK=>?_)
 refine step_append_lies _ rfl (.tmp 37) (.tmp 43) 127 rfl (rb+1) 81 i0 _ 1 16 Tryz.underlying127 hi hz0 hz1 hz2 rfl (by decide) qv q.length (pH q) rfl (aU vF (fun k hk=>Below.heap_alloc _ _ _ (aB vF k hk).2)) ⟨w2.heap.size,0,none⟩ 1 1 [xt (x.n,y.n)] rfl rfl (World.news_of_block (cs:= #[xt (x.n,y.n)]) (t:=81) (fr:=(0,0)) (heap_alloc_new w2 _)) (by simp[Value.oneCell',xt]) (by decide) (by unfold maxLen;omega) (by omega) (by show rb+1<=(w2.alloc _).heap.size;simp;omega) (w2.heap.size+1) (by show(w2.alloc _).heap.size=_;simp) ?_
 intro g cap' w5 ho hgrow hat amS;have k6:=(rM hgrow rb cD.lt (rN vF rb (by omega))).trans hbk
 have kg:=(rM hgrow gr (lt_of_heap xx) (ua vF xx (by decide))).trans xx
 have kx:=(rM hgrow w.heap.size (lt_of_heap jW.1) (ua vF jW.1 (by decide))).trans jW.1
 have ky:=(rM hgrow w1.heap.size (lt_of_heap hby.1) (ua vF hby.1 (by decide))).trans hby.1
 have d6:w5.cell? ⟨rb,6,none⟩=some (.slice (some ⟨gr,0,none⟩) (rg.length+1) cap):=cell_of k6 6;have de:w5.cell? ⟨gr,rg.length,none⟩=some qv:=(cell_of kg rg.length).trans RO;have dx:w5.cell? ⟨w.heap.size,2,none⟩=some (.int .i64 x.n):=cell_of kx 2;have dy:w5.cell? ⟨w1.heap.size,2,none⟩=some (.int .i64 y.n):=cell_of ky 2;have fe:w5.frozen? ⟨gr,rg.length,none⟩=false:=bw kg _;refine hK _ _ (fun _=>⟨d6,de,dx,dy⟩) ?_
 clear hK K
 try simp only[Act.put,aH]
 refine Till.one (i:=19) rfl (by kernel_rfl) (fun K hK=>?_)
 go_simp
 refine hK _ _ (fun _=>⟨d6,de,dx,dy⟩) ?_
 clear hK K
 try simp only[Act.put,aH,aI,aG]
 refine Till.one (i:=20) rfl (by kernel_rfl) (fun K hK=>?_)
 go_simp
 refine hK _ _ (fun h=>absurd rfl h) ?_
 clear hK K;refine Till.done (by kernel_rfl) ?_ _
 go_wp2_with fail
 go_ret
 refine⟨rfl,⟨c,t,r0,tv,_,hc,hl,(ir (by omega) _).trans k6,aU hown fun k hk=>?_,hfin w5 g cap' _ _ hgrow ho hat⟩,?_⟩
 ·obtain⟨c9,ud⟩:=xw hown hk;have hkg:k≠gr:=fun e=>by
   rw[e,xx] at ud;injection ud with ud;injection ud with _ ud _;cases ud
  rw[ir hkg];exact rM hgrow k (aB hown k hk).2 (ua vF ud (by decide))
 ·have e1:Below rb w w2:=(((((Below.refl rb w).alloc (by omega) _).trans hb1).alloc (by omega) _).trans hb2)
  have e2:Below rb w w5:=((e1.alloc (eJ cD.lt) _).drew).grown hgrow (by have:=cD.lt;show rb<=(w2.alloc _).heap.size;simp;omega) (fun k hk=>by have:=(aB vF k hk).1;omega)
  exact e2.setCell (by show rb<=gr;omega) _
end Go.Proofs.YtkjhhooecopolaaGreatDoor

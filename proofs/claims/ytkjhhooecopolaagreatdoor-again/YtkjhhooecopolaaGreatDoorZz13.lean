import Derived.Test.YtkjhhooecopolaaGreatDoorZz12
set_option maxRecDepth 100000
set_option maxHeartbeats 4000000
namespace Go.Proofs.YtkjhhooecopolaaGreatDoor
open Go.RowKit
namespace Ge
def takes(r t:Int):Bool:=if r=101 then decide (t.tmod 2≠0) else if r=110 then decide (t≠0) else if r=43 then decide (0<t) else decide (t<0)
def rule(r:Int):Bool:=decide (r=101)||decide (r=110)||decide (r=43)||decide (r=45)
end Ge
theorem SH(r:Int)(w:World):Calls Tryz.prog 66 #[.int .u8 r] w fun e w'=>e=.returned (.bool (Ge.rule r))/\w'=w:=by
 by_cases h1:r=101
 ·subst h1
  go_enter Tryz.func66,Tryz.ntmps66
  go_wp2_with fail
  go_ret
  exact⟨rfl,rfl⟩
 ·by_cases h2:r=110
  ·subst h2
   go_enter Tryz.func66,Tryz.ntmps66
   go_wp2_with fail
   go_ret
   exact⟨rfl,rfl⟩
  ·by_cases h3:r=43
   ·subst h3
    go_enter Tryz.func66,Tryz.ntmps66
    go_wp2_with fail
    go_ret
    exact⟨rfl,rfl⟩
   ·have hv:Ge.rule r=(r == 45):=by
     unfold Ge.rule;simp only[h1,h2,h3,decide_false,O0];rfl
    rw[hv];have b1:(r == 101)=false:=xM.2 h1;have b2:(r == 110)=false:=xM.2 h2;have b3:(r == 43)=false:=xM.2 h3;clear h1 h2 h3 hv
    go_enter Tryz.func66,Tryz.ntmps66
    go_wp2_with fail
    go_ret
    exact⟨rfl,rfl⟩
theorem ac3(r t:Int)(w:World):Calls Tryz.prog 106 #[.int .u8 r,.int .i64 t] w fun e w'=>e=.returned (.bool (Ge.takes r t))/\w'=w:=by
 by_cases h1:r=101
 ·subst h1
  go_enter Tryz.func106,Tryz.ntmps106
  go_wp2_with fail
  refine bodyPost_ret (v:=.bool (t.tmod 2 != 0)) (by simp[results,Tryz.results106,go_sem]) rfl ⟨?_,rfl⟩
  unfold Ge.takes;rw[ah rfl];by_cases h:t.tmod 2=0<;>simp[h]
 ·have b1:(r == 101)=false:=xM.2 h1;by_cases h2:r=110
  ·subst h2
   go_enter Tryz.func106,Tryz.ntmps106
   go_wp2_with fail
   refine bodyPost_ret (v:=.bool (t != 0)) (by simp[results,Tryz.results106,go_sem]) rfl ⟨?_,rfl⟩
   unfold Ge.takes;rw[aa (by decide),ah rfl]
   by_cases h:t=0<;>simp[h]
  ·have b2:(r == 110)=false:=xM.2 h2;by_cases h3:r=43
   ·subst h3
    go_enter Tryz.func106,Tryz.ntmps106
    go_wp2_with fail
    refine bodyPost_ret (v:=.bool (decide (0<t))) (by simp[results,Tryz.results106,go_sem]) rfl ⟨?_,rfl⟩
    unfold Ge.takes;rw[aa (by decide),aa (by decide),ah rfl]
   ·have b3:(r == 43)=false:=xM.2 h3;have hv:Ge.takes r t=decide (t<0):=by
     unfold Ge.takes;rw[aa h1,aa h2,aa h3]
    rw[hv];clear hv h1 h2 h3
    go_enter Tryz.func106,Tryz.ntmps106
    go_wp2_with fail
    refine bodyPost_ret (v:=.bool (decide (t<0))) (by simp[results,Tryz.results106,go_sem]) rfl ⟨rfl,rfl⟩
theorem SJ(a b s:Nat)(w:World):Calls Tryz.prog 162 #[.agg #[.complex .f64 a b,.float .f64 s]] w fun e w'=>e=.returned (.agg #[.complex .f64 (Op.negFloat .f64 a) (Op.negFloat .f64 b),.float .f64 (Op.negFloat .f64 s)])/\Below w.heap.size w w':=by
 have Bc:∀w,(Op.unary .neg (.complex .f64 a b)).run Tryz.prog w=.ok (.complex .f64 (Op.negFloat .f64 a) (Op.negFloat .f64 b)) w:=fun _=>rfl
 have uA:∀w,(Op.unary .neg (.float .f64 s)).run Tryz.prog w=.ok (.float .f64 (Op.negFloat .f64 s)) w:=fun _=>rfl
 generalize Op.negFloat .f64 a=A at*;generalize Op.negFloat .f64 b=B at*;generalize Op.negFloat .f64 s=S at*
 go_enter Tryz.func162,Tryz.ntmps162
 go_wp2_with (simp only[eK,lO];go_simp)
 refine bodyPost_ret (v:=.agg #[.complex .f64 A B,.float .f64 S]) (by simp[results,Tryz.results162,go_sem]) rfl ⟨rfl,?_⟩
 exact((Below.refl _ _).alloc (ax _) _).alloc (by simp) _
namespace Ge
abbrev Ln:=Int×Int×Int
def yS(l:Ln):Ln:=(-l.1, -l.2.1, -l.2.2)
def down(l:Ln):Bool:=decide (l.1<0)||(decide (l.1=0)&&decide (l.2.1<0))
def gq(l:Ln):Ln:=if down l then yS l else l
end Ge
structure nO(a b s:Nat)(l:Ge.Ln):Prop where
 a:Fl a l.1
 b:Fl b l.2.1
 s:Fl s l.2.2
theorem nO.neg{a b s:Nat}{l:Ge.Ln}(h:nO a b s l):nO (Op.negFloat .f64 a) (Op.negFloat .f64 b) (Op.negFloat .f64 s) (Ge.yS l):=⟨h.a.neg,h.b.neg,h.s.neg⟩
theorem ac4{a b s:Nat}{l:Ge.Ln}(h:nO a b s l):
  ∃a' b' s',nO a' b' s' (Ge.gq l)/\∀w,Calls Tryz.prog 198 #[.agg #[.complex .f64 a b,.float .f64 s]] w fun e w'=>e=.returned (.agg #[.complex .f64 a' b',.float .f64 s'])/\Below w.heap.size w w':=by
 have q1:=yu h.a jU;have q2:=qG h.a jU;have q3:=yu h.b jU;have hn:=h.neg;have HR:Hid (∀w,Calls Tryz.prog 162 #[.agg #[.complex .f64 a b,.float .f64 s]] w fun e w'=>e=.returned (.agg #[.complex .f64 (Op.negFloat .f64 a) (Op.negFloat .f64 b),.float .f64 (Op.negFloat .f64 s)])/\Below w.heap.size w w'):=fun w=>SJ a b s w
 unfold Ge.gq;cases hd:Ge.down l
 ·refine⟨a,b,s,h,fun w=>?_⟩
  have hb0:Below w.heap.size w (w.alloc (.cells #[.complex .f64 a b,.float .f64 s] 122)):=(Below.refl _ _).alloc (ax _) _;unfold Ge.down at hd;rw[<-q1,<-q2,<-q3] at hd;clear h hn q1 q2 q3 HR;generalize hp1:(FloatKind.f64.format.order a 0 == some Ordering.lt)=p1 at hd;generalize hp2:(FloatKind.f64.format.order a 0 == some Ordering.eq)=p2 at hd;generalize pE:(FloatKind.f64.format.order b 0 == some Ordering.lt)=p3 at hd;cases p1<;>cases p2<;>cases p3<;>simp at hd
  all_goals
   go_enter Tryz.func198,Tryz.ntmps198
   go_wp2_with (simp only[eK,lO];go_simp)
   refine bodyPost_ret (v:=.agg #[.complex .f64 a b,.float .f64 s]) (by simp[results,Tryz.results198,go_sem]) rfl ⟨rfl,?_⟩
   exact((Below.refl _ _).alloc (ax _) _).alloc (by simp) _
 ·refine⟨_,_,_,hn,fun w=>?_⟩
  unfold Ge.down at hd;rw[<-q1,<-q2,<-q3] at hd;clear h hn q1 q2 q3;generalize Op.negFloat .f64 a=A at*;generalize Op.negFloat .f64 b=B at*;generalize Op.negFloat .f64 s=S at*;generalize hp1:(FloatKind.f64.format.order a 0 == some Ordering.lt)=p1 at hd;generalize hp2:(FloatKind.f64.format.order a 0 == some Ordering.eq)=p2 at hd;generalize pE:(FloatKind.f64.format.order b 0 == some Ordering.lt)=p3 at hd;have hb0:Below w.heap.size w ((w.alloc (.cells #[.complex .f64 a b,.float .f64 s] 122)).alloc (.cells #[.complex .f64 0 0,.float .f64 0] 122)):=((Below.refl _ _).alloc (ax _) _).alloc (by simp) _
  have hE:=heap_alloc_new (w.alloc (.cells #[.complex .f64 a b,.float .f64 s] 122)) (.cells #[.complex .f64 0 0,.float .f64 0] 122);have hz:(w.alloc (.cells #[.complex .f64 a b,.float .f64 s] 122)).heap.size=w.heap.size+1:=by simp
  have hz2:((w.alloc (.cells #[.complex .f64 a b,.float .f64 s] 122)).alloc (.cells #[.complex .f64 0 0,.float .f64 0] 122)).heap.size=w.heap.size+2:=by simp
  rw[hz] at hE;cases p1<;>cases p2<;>cases p3<;>simp at hd
  all_goals
   go_enter Tryz.func198,Tryz.ntmps198
   go_wp2_with fail
   generalize(w.alloc (.cells #[.complex .f64 a b,.float .f64 s] 122)).alloc (.cells #[.complex .f64 0 0,.float .f64 0] 122)=W at*;refine(HR.out _).mono ?_;rintro e w1 ⟨rfl,hb1⟩;have jl:=(hb1.block (w.heap.size+1) (by omega)).trans hE
   have e0:w1.cell? ⟨w.heap.size+1,0,none⟩=some (.complex .f64 0 0):=cell_of jl 0;have e1:w1.cell? ⟨w.heap.size+1,1,none⟩=some (.float .f64 0):=cell_of jl 1;have z0:w1.frozen? ⟨w.heap.size+1,0,none⟩=false:=aX jl 0;have z1:w1.frozen? ⟨w.heap.size+1,1,none⟩=false:=aX jl 1;have aj:=hb0.trans (hb1.mono hb0.size)
   go_wp2_with (simp only[eK,lO];go_simp)
   refine bodyPost_ret (v:=.agg #[.complex .f64 A B,.float .f64 S]) (by simp[results,Tryz.results198,go_sem,e0,e1]) rfl ⟨rfl,?_⟩
   exact(aj.setCell (p:=⟨w.heap.size+1,0,none⟩) (mb _) _).setCell (p:=⟨w.heap.size+1,1,none⟩) (mb _) _
end Go.Proofs.YtkjhhooecopolaaGreatDoor

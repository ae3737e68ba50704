import Derived.Test.YtkjhhooecopolaaGreatDoorYz13
set_option maxRecDepth 100000
set_option maxHeartbeats 4000000
namespace Go.Proofs.YtkjhhooecopolaaGreatDoor
open Go.RowKit
theorem afQ(s:ByteArray)(w:World)(hs:400<s.size)(hm:s.size<=maxLen):
  Calls Tryz.prog 14 #[.string s] w fun e w'=>e=.returned (.tuple #[.agg #[.string ⟨#[]⟩,.slice none 0 0,.int .i64 0],.int .i64 1,.int .i64 0])/\Below w.heap.size w w':=by
 unfold maxLen at hm
 go_enter Tryz.func14,Tryz.ntmps14
 go_wp2
 exact bodyPost_ret (v:=.tuple #[.agg #[.string ⟨#[]⟩,.slice none 0 0,.int .i64 0],.int .i64 1,.int .i64 0]) (by simp[results,Tryz.results14,go_sem]) rfl ⟨rfl,(Below.refl _ _).alloc (ai _) _⟩
theorem PS.fresh{w1:World}{base:Nat}{v:Value}{A:List Pl.Tk}(hA:0<A.length)(h:w1.ownsRow base 61 4 v A.length (ql A)):
  ∃tb cap,v=.slice (some ⟨tb,0,none⟩) A.length cap/\tb<w1.heap.size/\base<=tb/\(∀o,o=Obj.cells #[v,.int .i64 0,.bool false,.int .i64 (-1)] 55 (0,0)->PS w1.heap.size tb cap A A false (w1.alloc o)):=by
 rcases h.2 with⟨_,h0⟩|⟨g,cap,cur,hv,hg,hh,hnc,hcm,hcs,htake⟩
 ·omega
 ·have hlt:=lt_of_heap hh;refine⟨g,cap,hv,hlt,hg,fun o ho=>⟨by omega,⟨cur,(Below.heap_alloc _ _ _ hlt).trans hh,fun j u hu=>?_⟩,[],rfl,?_⟩⟩
  ·rw[<-htake,kC] at hu;split at hu
   ·simpa using hu
   ·cases hu
  ·rw[heap_alloc_new,ho,hv];rfl
theorem PS.Vd{pb tb cap:Nat}{A l:List Pl.Tk}{bad:Bool}{w w':World}(h:PS pb tb cap A l bad w)(jr:tb<pb)(hk:∀k,k<=pb->w'.heap[k]?=w.heap[k]?):PS pb tb cap A l bad w':=by
 obtain⟨hne,⟨cur,gf,hr⟩,c,hc,hb⟩:=h;exact⟨hne,⟨cur,(hk tb (by omega)).trans gf,hr⟩,c,hc,(hk pb (ai _)).trans hb⟩
theorem M7{s:List UInt8}(hs:s.length<=400)(h:¬((Pl.aM (Pl.all s)).1=true/\Pl.hk (Pl.aM (Pl.all s)).2.1=101)):Pl.err s=(2,Pl.hpl (Pl.aM (Pl.all s)).2.1):=by
 unfold Pl.err;rw[aa (by omega),aa h]
theorem Ve{s:List UInt8}(hs:s.length<=400)(h:(Pl.aM (Pl.all s)).1=true/\Pl.hk (Pl.aM (Pl.all s)).2.1=101):
  (0<=bO (Pl.took s)->((Pl.err s).1=3/\((Pl.err s).2:Int)=bO (Pl.took s)))/\(bO (Pl.took s)<0->Pl.err s=(0,0)):=by
 unfold Pl.err bO;rw[aa (by omega),ah h]
 cases(Pl.took s).find? outT with
 |some u=>exact⟨fun _=>⟨rfl,rfl⟩,fun h=>by simp at h;omega⟩
 |none=>exact⟨fun h=>by simp at h,fun _=>rfl⟩
theorem PS.took{pb tb cap:Nat}{s:List UInt8}{bad:Bool}{w:World}(h:PS pb tb cap (Pl.all s) (Pl.aM (Pl.all s)).2.1 bad w):
  w.heap[pb]?=some (.cells #[.slice (some ⟨tb,0,none⟩) (Pl.all s).length cap,.int .i64 (Pl.took s).length,.bool bad,.int .i64 (bO (Pl.took s))] 55 (0,0)):=by
 obtain⟨c,hc,hb⟩:=h.box;have:=CC (hc.trans (Pl.AK s).symm);rw[<-this];exact hb
theorem afR(s:ByteArray)(w:World)(hs:s.size<=400)(hw:(Pl.wd Pl.bB (Pl.all s.data.toList)).1=true):
  Calls Tryz.prog 14 #[.string s] w fun e w'=>Below w.heap.size w w'/\∃W so pn pc,e=.returned (.tuple #[.agg #[.string W,.slice so pn pc,.int .i64 0],.int .i64 (Pl.err s.data.toList).1,.int .i64 (Pl.err s.data.toList).2])/\
   ((Pl.err s.data.toList).1=0->W=⟨Pl.bB.toArray⟩/\kT w' (.slice so pn pc) (Pl.aM (Pl.all s.data.toList)).2.2):=by
 have hsz:s.data.toList.length=s.size:=by simp
 have oF:(Pl.all s.data.toList).length<=402:=by have:=Pl.yq s.data.toList;omega
 have qm:0<(Pl.all s.data.toList).length:=by
  obtain⟨r,hr⟩:=Dz s.data.toList;rw[hr];simp
 have qX:=Pl.yo s.data.toList;have hg1:=Pl.AJ (q:=Pl.bB) qX;have kQ:=Pl.wU hw;have hpw:Pl.aM (Pl.all s.data.toList)=((Pl.bA (Pl.wd Pl.bB (Pl.all s.data.toList)).2).1,(Pl.bA (Pl.wd Pl.bB (Pl.all s.data.toList)).2).2.1,[(Pl.bA (Pl.wd Pl.bB (Pl.all s.data.toList)).2).2.2]):=by
  unfold Pl.aM;rw[ah hw]
 have sW:Hid (Pl.aM (Pl.all s.data.toList)=((Pl.bA (Pl.wd Pl.bB (Pl.all s.data.toList)).2).1,(Pl.bA (Pl.wd Pl.bB (Pl.all s.data.toList)).2).2.1,[(Pl.bA (Pl.wd Pl.bB (Pl.all s.data.toList)).2).2.2])):=hpw;have AX:Hid ((Pl.wd Pl.bB (Pl.all s.data.toList)).1=true):=hw;clear hpw hw
 go_enter Tryz.func14,Tryz.ntmps14
 go_wp2_with fail
 refine(MJ s _ hs).mono ?_;rintro e w1 ⟨v,rfl,hown,hb1⟩;obtain⟨tb,cap,rfl,jr,DR,fg⟩:=PS.fresh qm hown;have hs1:=hb1.size;simp at hs1 DR
 go_wp2_with fail
 have eN:=(fg _ rfl).alloc (.cells #[.string ⟨#[]⟩,.slice none 0 0,.int .i64 0] 29);refine(yL w1.heap.size tb cap s.data.toList _ _ _ Pl.bB qX eN oF).mono ?_;rintro e w2 ⟨rfl,dW,hf2⟩;rw[AX.out]
 go_wp2_with fail
 refine(Vc w1.heap.size tb cap s.data.toList _ _ _ hg1.2 dW oF (by omega)).mono ?_
 rintro e w3 ⟨v3,rfl,iM,hf3,⟨so,n3,c3,rfl⟩,x3,hx3,lL⟩;have hf:=hf2.trans hf3;have hs3:=hf.size;simp at hs3;have kH:w3.heap[w1.heap.size+1]?=some (.cells #[.string ⟨#[]⟩,.slice none 0 0,.int .i64 0] 29 (0,0)):=by
  rw[hf.block (w1.heap.size+1) (by simp) (by omega)]
  have:=heap_alloc_new (w1.alloc (.cells #[.slice (some ⟨tb,0,none⟩) (Pl.all s.data.toList).length cap,.int .i64 0,.bool false,.int .i64 (-1)] 55)) (.cells #[.string ⟨#[]⟩,.slice none 0 0,.int .i64 0] 29);simpa using this
 have hb0:w3.heap[w.heap.size]?=some (.cells #[.string ⟨#[]⟩,.slice none 0 0,.int .i64 0] 29 (0,0)):=by
  rw[hf.block w.heap.size (by simp;omega) (by omega),Below.heap_alloc _ _ _ (by simp;omega),Below.heap_alloc _ _ _ (by omega),hb1.block w.heap.size (by simp)]
  exact heap_alloc_new w _
 have h0:w3.cell? ⟨w1.heap.size+1,0,none⟩=some (.string ⟨#[]⟩):=cell_of kH 0;have h1:w3.cell? ⟨w1.heap.size+1,1,none⟩=some (.slice none 0 0):=cell_of kH 1;have h2:w3.cell? ⟨w1.heap.size+1,2,none⟩=some (.int .i64 0):=cell_of kH 2;have k0:w3.frozen? ⟨w1.heap.size+1,0,none⟩=false:=aH kH 0;have k1:w3.frozen? ⟨w1.heap.size+1,1,none⟩=false:=aH kH 1;have k2:w3.frozen? ⟨w1.heap.size+1,2,none⟩=false:=aH kH 2;have hlb:w1.heap.size+1<w3.heap.size:=by omega
 have Hf:Hid ((Pl.bA (Pl.wd Pl.bB (Pl.all s.data.toList)).2).1=true->x3=(Pl.bA (Pl.wd Pl.bB (Pl.all s.data.toList)).2).2.2):=lL;clear lL
 go_wp2_with fail
 have DT:PS w1.heap.size tb cap (Pl.all s.data.toList) (Pl.bA (Pl.wd Pl.bB (Pl.all s.data.toList)).2).2.1 (!(Pl.bA (Pl.wd Pl.bB (Pl.all s.data.toList)).2).1) ((((w3.setCell ⟨w1.heap.size+1,0,none⟩ (.string ⟨#[80,79,76,89,71,79,78]⟩)).setCell ⟨w1.heap.size+1,1,none⟩ (.slice (some ⟨w3.heap.size,0,none⟩) 1 1)).setCell ⟨w1.heap.size+1,2,none⟩ (.int .i64 0)).alloc (.cells #[.slice so n3 c3] 57)):=
  iM.Vd jr (fun k hk=>(Below.heap_alloc _ _ _ (by simp;omega)).trans ((bu (by omega) _).trans ((bu (by omega) _).trans (bu (by omega) _))))
 have hbW:=(Below.heap_alloc _ (.cells #[.slice so n3 c3] 57) w.heap.size (by simp;omega)).trans ((bu (b:=w1.heap.size+1) (o:=2) (by omega) (.int .i64 0)).trans ((bu (b:=w1.heap.size+1) (o:=1) (by omega) (.slice (some ⟨w3.heap.size,0,none⟩) 1 1)).trans ((bu (b:=w1.heap.size+1) (o:=0) (by omega) (.string ⟨#[80,79,76,89,71,79,78]⟩)).trans hb0)))
 have u9:=(Below.heap_alloc _ (.cells #[.slice so n3 c3] 57) (w1.heap.size+1) (by simp;omega)).trans (heap_set (o:=2) (heap_set (o:=1) (heap_set (o:=0) kH (.string ⟨#[80,79,76,89,71,79,78]⟩)) (.slice (some ⟨w3.heap.size,0,none⟩) 1 1)) (.int .i64 0))
 have ak:Below w.heap.size w ((((w3.setCell ⟨w1.heap.size+1,0,none⟩ (.string ⟨#[80,79,76,89,71,79,78]⟩)).setCell ⟨w1.heap.size+1,1,none⟩ (.slice (some ⟨w3.heap.size,0,none⟩) 1 1)).setCell ⟨w1.heap.size+1,2,none⟩ (.int .i64 0)).alloc (.cells #[.slice so n3 c3] 57)):=by
  have q1:Below w.heap.size w w1:=((Below.refl _ w).alloc (ai _) _).trans (hb1.mono (by simp))
  have q2:=((q1.alloc (by omega) (.cells #[.slice (some ⟨tb,0,none⟩) (Pl.all s.data.toList).length cap,.int .i64 0,.bool false,.int .i64 (-1)] 55)).alloc (by simp;omega) (.cells #[.string ⟨#[]⟩,.slice none 0 0,.int .i64 0] 29)).trans (hf.below w.heap.size (by omega) (by simp;omega))
  exact(((q2.setCell (by show w.heap.size<=w1.heap.size+1;omega) _).setCell (by show w.heap.size<=w1.heap.size+1;omega) _).setCell (by show w.heap.size<=w1.heap.size+1;omega) _).alloc (by simp;omega) _
 have M8:Hid (kT ((((w3.setCell ⟨w1.heap.size+1,0,none⟩ (.string ⟨#[80,79,76,89,71,79,78]⟩)).setCell ⟨w1.heap.size+1,1,none⟩ (.slice (some ⟨w3.heap.size,0,none⟩) 1 1)).setCell ⟨w1.heap.size+1,2,none⟩ (.int .i64 0)).alloc (.cells #[.slice so n3 c3] 57)) (.slice (some ⟨w3.heap.size,0,none⟩) 1 1) [x3]):=by
  refine⟨[.slice so n3 c3],rfl,⟨rfl,af ⟨w3.heap.size,1, #[.slice so n3 c3],rfl,iI _,?_,ai _,by unfold maxLen;omega,rfl,rfl⟩⟩,fun i u x hu hx=>?_⟩
  ·have:=heap_alloc_new (((w3.setCell ⟨w1.heap.size+1,0,none⟩ (.string ⟨#[80,79,76,89,71,79,78]⟩)).setCell ⟨w1.heap.size+1,1,none⟩ (.slice (some ⟨w3.heap.size,0,none⟩) 1 1)).setCell ⟨w1.heap.size+1,2,none⟩ (.int .i64 0)) (.cells #[.slice so n3 c3] 57);simpa using this
  ·have hi0:i=0:=by
    have:=(bY.1 hu).1;simp at this;omega
   subst hi0;have e1:u=.slice so n3 c3:=by simpa using hu.symm
   have e2:x=x3:=by simpa using hx.symm
   subst e1 e2;refine yG _ _ _ _ hx3 fun k cur e hc he=>?_
   have hkb:k≠w1.heap.size+1:=fun ek=>by
    rw[ek,kH] at hc;injection hc with hc;injection hc with _ hc _;rw[<-hc] at he;simp at he
   exact(Below.heap_alloc _ _ _ (by have:=lt_of_heap hc;simp;omega)).trans ((bu hkb _).trans ((bu hkb _).trans (bu hkb _)))
 have vd:=DT;rw[show(Pl.bA (Pl.wd Pl.bB (Pl.all s.data.toList)).2).2.1=(Pl.aM (Pl.all s.data.toList)).2.1 from by rw[sW.out],show(Pl.bA (Pl.wd Pl.bB (Pl.all s.data.toList)).2).1=(Pl.aM (Pl.all s.data.toList)).1 from by rw[sW.out]] at vd
 have hxv:Hid ((Pl.aM (Pl.all s.data.toList)).1=true->[x3]=(Pl.aM (Pl.all s.data.toList)).2.2):=fun h=>by
  have h':=h;rw[sW.out] at h'⊢;rw[Hf.out h']
 clear DT h0 h1 h2 k0 k1 k2 kH hb0 hx3 iM hf3 hf dW hf2 eN fg hown;generalize(((w3.setCell ⟨w1.heap.size+1,0,none⟩ (.string ⟨#[80,79,76,89,71,79,78]⟩)).setCell ⟨w1.heap.size+1,1,none⟩ (.slice (some ⟨w3.heap.size,0,none⟩) 1 1)).setCell ⟨w1.heap.size+1,2,none⟩ (.int .i64 0)).alloc (.cells #[.slice so n3 c3] 57)=W at*;obtain⟨t,r,hlr⟩:∃t r,(Pl.aM (Pl.all s.data.toList)).2.1=t::r:=by
  have hg:=(Pl.Im _ qX).2;cases hq:(Pl.aM (Pl.all s.data.toList)).2.1 with
  |nil=>rw[hq] at hg;exact hg.elim
  |cons t r=>exact⟨t,r,rfl⟩
 have hbk:=vd.took;have kI:=vd;rw[hlr] at kI;obtain⟨c,hc,_,e0,e1,e2,e3,hcl,htl⟩:=kI.cells;have hcc:c=Pl.took s.data.toList:=CC (hc.trans (by rw[<-hlr];exact(Pl.AK s.data.toList).symm))
 subst hcc;have c0:W.cell? ⟨w1.heap.size,0,none⟩=some (.slice (some ⟨tb,0,none⟩) (Pl.all s.data.toList).length cap):=cell_of hbk 0;have c1:W.cell? ⟨w1.heap.size,1,none⟩=some (.int .i64 (Pl.took s.data.toList).length):=cell_of hbk 1;have c2:W.cell? ⟨w1.heap.size,2,none⟩=some (.bool (!(Pl.aM (Pl.all s.data.toList)).1)):=cell_of hbk 2;have c3:W.cell? ⟨w1.heap.size,3,none⟩=some (.int .i64 (bO (Pl.took s.data.toList))):=cell_of hbk 3;have b0:W.cell? ⟨w.heap.size,0,none⟩=some (.string ⟨#[]⟩):=cell_of hbW 0;have b1:W.cell? ⟨w.heap.size,1,none⟩=some (.slice none 0 0):=cell_of hbW 1;have b2:W.cell? ⟨w.heap.size,2,none⟩=some (.int .i64 0):=cell_of hbW 2;have Vf:W.frozen? ⟨w.heap.size,0,none⟩=false:=aH hbW 0;have Vg:W.frozen? ⟨w.heap.size,1,none⟩=false:=aH hbW 1;have Vh:W.frozen? ⟨w.heap.size,2,none⟩=false:=aH hbW 2;have x0:W.cell? ⟨w1.heap.size+1,0,none⟩=some (.string ⟨#[80,79,76,89,71,79,78]⟩):=cell_of u9 0;have x1:W.cell? ⟨w1.heap.size+1,1,none⟩=some (.slice (some ⟨w3.heap.size,0,none⟩) 1 1):=cell_of u9 1;have x2:W.cell? ⟨w1.heap.size+1,2,none⟩=some (.int .i64 0):=cell_of u9 2;have hib:((Pl.took s.data.toList).length:Int)<((Pl.all s.data.toList).length:Int):=by omega
 have hin:(Pl.took s.data.toList).length<(Pl.all s.data.toList).length:=hcl;have yM:w.heap.size≠w1.heap.size:=by omega
 have DU:w.heap.size≠tb:=by omega
 have lM:Hid (¬((Pl.aM (Pl.all s.data.toList)).1=true/\Pl.hk (Pl.aM (Pl.all s.data.toList)).2.1=101)->Pl.err s.data.toList=(2,Pl.hpl (Pl.aM (Pl.all s.data.toList)).2.1)):=M7 (by omega)
 have kV:Hid ((Pl.aM (Pl.all s.data.toList)).1=true/\Pl.hk (Pl.aM (Pl.all s.data.toList)).2.1=101->(0<=bO (Pl.took s.data.toList)->((Pl.err s.data.toList).1=3/\((Pl.err s.data.toList).2:Int)=bO (Pl.took s.data.toList)))/\(bO (Pl.took s.data.toList)<0->Pl.err s.data.toList=(0,0))):=fun h=>Ve (by omega) h
 rw[hlr] at lM kV;clear hbk kI vd hc hlr u9;generalize bO (Pl.took s.data.toList)=oc at*;generalize(Pl.took s.data.toList).length=tl at*;generalize(Pl.all s.data.toList).length=al at*;cases hb:(Pl.aM (Pl.all s.data.toList)).1
 ·rw[hb] at c2 lM;have jN:Hid (Pl.err s.data.toList=(2,t.pl)):=lM.out (fun h=>by cases h.1)
  clear lM kV
  go_wp2_with fail
  go_quiet (fail)
  go_wp2_with fail
  go_region_held3 (fun w'=>w'.cell? ⟨w1.heap.size,0,none⟩=some (.slice (some ⟨tb,0,none⟩) al cap)/\w'.cell? ⟨w1.heap.size,1,none⟩=some (.int .i64 tl)/\w'.cell? ⟨tb,tl*4+3,none⟩=some (.int .i64 t.pl)) (go_keep) (fail)
  go_wp2_with fail
  refine bodyPost_ret (v:=.tuple #[.agg #[.string ⟨#[]⟩,.slice none 0 0,.int .i64 0],.int .i64 2,.int .i64 t.pl]) (by simp[results,Tryz.results14,go_sem,b0,b1,b2]) rfl ⟨?_,_,_,_,_,by rw[jN.out];rfl,fun h=>by rw[jN.out] at h;cases h⟩
  exact(((pF ak (nq+1)).setCell (ai _) _).setCell (ai _) _).setCell (ai _) _
 ·rw[hb] at c2 lM kV;by_cases ht:t.k=101
  ·obtain⟨qo,gw⟩:=kV.out ⟨rfl,ht⟩;have qY:Hid (0<=oc->((Pl.err s.data.toList).1=3/\((Pl.err s.data.toList).2:Int)=oc)):=qo;have kJ:Hid (oc<0->Pl.err s.data.toList=(0,0)):=gw;rw[ht] at e0;clear lM kV qo gw;by_cases gH:0<=oc
   ·obtain⟨h3,h4⟩:=qY.out gH;have H3:Hid ((Pl.err s.data.toList).1=3):=h3;have H4:Hid (((Pl.err s.data.toList).2:Int)=oc):=h4;clear h3 h4 qY kJ
    go_wp2_with fail
    go_quiet (fail)
    go_wp2_with fail
    go_region_held3 (fun w'=>w'.cell? ⟨w1.heap.size,3,none⟩=some (.int .i64 oc)) (go_keep) (fail)
    go_wp2_with fail
    refine bodyPost_ret (v:=.tuple #[.agg #[.string ⟨#[]⟩,.slice none 0 0,.int .i64 0],.int .i64 3,.int .i64 oc]) (by simp[results,Tryz.results14,go_sem,b0,b1,b2]) rfl ⟨?_,_,_,_,_,by rw[H3.out,H4.out];rfl,fun h=>by rw[H3.out] at h;cases h⟩
    exact(((pF ak (nq+1)).setCell (ai _) _).setCell (ai _) _).setCell (ai _) _
   ·have jN:Hid (Pl.err s.data.toList=(0,0)):=kJ.out (by omega)
    clear qY kJ
    go_wp2_with fail
    go_quiet (fail)
    go_wp2_with fail
    refine bodyPost_ret (v:=.tuple #[.agg #[.string ⟨#[80,79,76,89,71,79,78]⟩,.slice (some ⟨w3.heap.size,0,none⟩) 1 1,.int .i64 0],.int .i64 0,.int .i64 0]) (by simp[results,Tryz.results14,go_sem,b0,b1,b2]) rfl ⟨?_,_,_,_,_,by rw[jN.out];rfl,fun _=>⟨rfl,?_⟩⟩
    ·exact(((pF ak nq).setCell (ai _) _).setCell (ai _) _).setCell (ai _) _
    ·rw[<-hxv.out hb];refine DG _ _ _ _ M8.out fun k cur e kX he=>?_
     have hkb:k≠w.heap.size:=fun ek=>by
      rw[ek,hbW] at kX;injection kX with kX;injection kX with _ kX _;rw[<-kX] at he;simp at he
     exact(bu hkb _).trans ((bu hkb _).trans (bu hkb _))
  ·have jN:Hid (Pl.err s.data.toList=(2,t.pl)):=lM.out (fun h=>ht h.2)
   have htk:((t.k:Int) != 101)=true:=by rw[vX];omega
   clear lM kV
   go_wp2_with fail
   go_quiet (fail)
   go_wp2_with fail
   go_region_held3 (fun w'=>w'.cell? ⟨w1.heap.size,0,none⟩=some (.slice (some ⟨tb,0,none⟩) al cap)/\w'.cell? ⟨w1.heap.size,1,none⟩=some (.int .i64 tl)/\w'.cell? ⟨tb,tl*4+3,none⟩=some (.int .i64 t.pl)) (go_keep) (fail)
   go_wp2_with fail
   refine bodyPost_ret (v:=.tuple #[.agg #[.string ⟨#[]⟩,.slice none 0 0,.int .i64 0],.int .i64 2,.int .i64 t.pl]) (by simp[results,Tryz.results14,go_sem,b0,b1,b2]) rfl ⟨?_,_,_,_,_,by rw[jN.out];rfl,fun h=>by rw[jN.out] at h;cases h⟩
   exact(((pF ak (nq+1)).setCell (ai _) _).setCell (ai _) _).setCell (ai _) _
theorem afS(s:ByteArray)(w:World)(hs:s.size<=400)(hw0:(Pl.wd Pl.bB (Pl.all s.data.toList)).1=false)(hw:(Pl.wd Pl.cP (Pl.all s.data.toList)).1=false):
  Calls Tryz.prog 14 #[.string s] w fun e w'=>Below w.heap.size w w'/\(Pl.err s.data.toList).1≠0/\∃W so pn pc,e=.returned (.tuple #[.agg #[.string W,.slice so pn pc,.int .i64 0],.int .i64 (Pl.err s.data.toList).1,.int .i64 (Pl.err s.data.toList).2]):=by
 have hsz:s.data.toList.length=s.size:=by simp
 have oF:(Pl.all s.data.toList).length<=402:=by have:=Pl.yq s.data.toList;omega
 have qm:0<(Pl.all s.data.toList).length:=by
  obtain⟨r,hr⟩:=Dz s.data.toList;rw[hr];simp
 have qX:=Pl.yo s.data.toList;have hpw:Pl.aM (Pl.all s.data.toList)=(false,Pl.all s.data.toList,[]):=by
  unfold Pl.aM;rw[aa (by rw[hw0];simp),aa (by rw[hw];simp)]
 have sW:Hid (Pl.aM (Pl.all s.data.toList)=(false,Pl.all s.data.toList,[])):=hpw;have DV:Hid ((Pl.wd Pl.bB (Pl.all s.data.toList)).1=false):=hw0;have AX:Hid ((Pl.wd Pl.cP (Pl.all s.data.toList)).1=false):=hw;obtain⟨r,hr⟩:=Dz s.data.toList;generalize Pl.tk s.data.toList 0=t at hr;have jN:Hid (Pl.err s.data.toList=(2,t.pl)):=by
  show _=_;rw[M7 (by omega) (by rw[hpw];simp),hpw]
  simp only;rw[hr];rfl
 have HR:Hid (Pl.all s.data.toList=t::r):=hr;clear hpw hw hw0 hr
 go_enter Tryz.func14,Tryz.ntmps14
 go_wp2_with fail
 refine(MJ s _ hs).mono ?_;rintro e w1 ⟨v,rfl,hown,hb1⟩;obtain⟨tb,cap,rfl,jr,DR,fg⟩:=PS.fresh qm hown;have hs1:=hb1.size;simp at hs1 DR
 go_wp2_with fail
 have eN:=(fg _ rfl).alloc (.cells #[.string ⟨#[]⟩,.slice none 0 0,.int .i64 0] 29);refine(yL w1.heap.size tb cap s.data.toList _ _ _ Pl.bB qX eN oF).mono ?_;rintro e w2' ⟨rfl,AY,IA⟩;rw[DV.out];rw[uU DV.out] at AY
 go_wp2_with fail
 refine(yL w1.heap.size tb cap s.data.toList _ _ _ Pl.cP qX AY oF).mono ?_;rintro e w3 ⟨rfl,iM,IB⟩;have hf:=IA.trans IB;rw[AX.out];rw[uU AX.out] at iM;have hs3:=hf.size;simp at hs3;have hb0:w3.heap[w.heap.size]?=some (.cells #[.string ⟨#[]⟩,.slice none 0 0,.int .i64 0] 29 (0,0)):=by
  rw[hf.block w.heap.size (by simp;omega) (by omega),Below.heap_alloc _ _ _ (by simp;omega),Below.heap_alloc _ _ _ (by omega),hb1.block w.heap.size (by simp)]
  exact heap_alloc_new w _
 have M9:=iM;rw[HR.out] at M9;rw[<-HR.out] at M9;obtain⟨c,hc,hbk⟩:=iM.box;have hc0:c=[]:=by
  have:=aw List.length hc;simp at this;exact this
 subst hc0;have ak:Below w.heap.size w w3:=by
  have q1:Below w.heap.size w w1:=((Below.refl _ w).alloc (ai _) _).trans (hb1.mono (by simp))
  exact((q1.alloc (by omega) (.cells #[.slice (some ⟨tb,0,none⟩) (Pl.all s.data.toList).length cap,.int .i64 0,.bool false,.int .i64 (-1)] 55)).alloc (by simp;omega) (.cells #[.string ⟨#[]⟩,.slice none 0 0,.int .i64 0] 29)).trans (hf.below w.heap.size (by omega) (by simp;omega))
 have aoj:w3.cell? ⟨w1.heap.size,2,none⟩=some (.bool false):=cell_of hbk 2;have aok:w3.frozen? ⟨w1.heap.size,2,none⟩=false:=aH hbk 2;have Vi:PS w1.heap.size tb cap (Pl.all s.data.toList) (t::r) true (w3.setCell ⟨w1.heap.size,2,none⟩ (.bool true)):=by
  have q:=iM.put (bad':=true) [] (l':=t::r) (by rw[HR.out];rfl) (fun k hk hne=>bu hne (.bool true)) (heap_set (o:=2) hbk (.bool true))
  exact q
 obtain⟨c,hc,hbk2,e0,e1,e2,e3,hcl,htl⟩:=Vi.cells;have hc0:c=[]:=by
  have:=aw List.length hc;rw[HR.out] at this;simp at this;exact this
 subst hc0;have hbW:(w3.setCell ⟨w1.heap.size,2,none⟩ (.bool true)).heap[w.heap.size]?=some (.cells #[.string ⟨#[]⟩,.slice none 0 0,.int .i64 0] 29 (0,0)):=(bu (by omega) _).trans hb0
 have afT:=ak.setCell (p:=⟨w1.heap.size,2,none⟩) (by show w.heap.size<=w1.heap.size;omega) (.bool true)
 clear iM M9 hf IA IB AY eN fg hown Vi hbk hb0 ak
 go_wp2_with fail
 generalize w3.setCell ⟨w1.heap.size,2,none⟩ (.bool true)=W at*;have c0:W.cell? ⟨w1.heap.size,0,none⟩=some (.slice (some ⟨tb,0,none⟩) (Pl.all s.data.toList).length cap):=cell_of hbk2 0;have c1:W.cell? ⟨w1.heap.size,1,none⟩=some (.int .i64 0):=cell_of hbk2 1;have c2:W.cell? ⟨w1.heap.size,2,none⟩=some (.bool true):=cell_of hbk2 2;have b0:W.cell? ⟨w.heap.size,0,none⟩=some (.string ⟨#[]⟩):=cell_of hbW 0;have b1:W.cell? ⟨w.heap.size,1,none⟩=some (.slice none 0 0):=cell_of hbW 1;have b2:W.cell? ⟨w.heap.size,2,none⟩=some (.int .i64 0):=cell_of hbW 2;have Vf:W.frozen? ⟨w.heap.size,0,none⟩=false:=aH hbW 0;have Vg:W.frozen? ⟨w.heap.size,1,none⟩=false:=aH hbW 1;have Vh:W.frozen? ⟨w.heap.size,2,none⟩=false:=aH hbW 2;have e3':W.cell? ⟨tb,3,none⟩=some (.int .i64 t.pl):=by simpa using e3
 have hib:(0:Int)<((Pl.all s.data.toList).length:Int):=by omega
 have hin:0<(Pl.all s.data.toList).length:=qm;have yM:w.heap.size≠w1.heap.size:=by omega
 have DU:w.heap.size≠tb:=by omega
 clear hbk2 hbW e0 e1 e2 e3;generalize(Pl.all s.data.toList).length=al at*
 go_quiet (fail)
 go_wp2_with fail
 go_region_held3 (fun w'=>w'.cell? ⟨w1.heap.size,0,none⟩=some (.slice (some ⟨tb,0,none⟩) al cap)/\w'.cell? ⟨w1.heap.size,1,none⟩=some (.int .i64 0)/\w'.cell? ⟨tb,3,none⟩=some (.int .i64 t.pl)) (go_keep) (fail)
 go_wp2_with fail
 refine bodyPost_ret (v:=.tuple #[.agg #[.string ⟨#[]⟩,.slice none 0 0,.int .i64 0],.int .i64 2,.int .i64 t.pl]) (by simp[results,Tryz.results14,go_sem,b0,b1,b2]) rfl ⟨?_,by rw[jN.out];simp,_,_,_,_,by rw[jN.out];rfl⟩
 exact(((pF afT (nq+1)).setCell (ai _) _).setCell (ai _) _).setCell (ai _) _
theorem afU(s:ByteArray)(w:World)(hs:s.size<=400)(hw0:(Pl.wd Pl.bB (Pl.all s.data.toList)).1=false)(hw:(Pl.wd Pl.cP (Pl.all s.data.toList)).1=true):
  Calls Tryz.prog 14 #[.string s] w fun e w'=>Below w.heap.size w w'/\∃W so pn pc,e=.returned (.tuple #[.agg #[.string W,.slice so pn pc,.int .i64 0],.int .i64 (Pl.err s.data.toList).1,.int .i64 (Pl.err s.data.toList).2])/\
   ((Pl.err s.data.toList).1=0->W=⟨Pl.cP.toArray⟩/\kT w' (.slice so pn pc) (Pl.aM (Pl.all s.data.toList)).2.2):=by
 have hsz:s.data.toList.length=s.size:=by simp
 have oF:(Pl.all s.data.toList).length<=402:=by have:=Pl.yq s.data.toList;omega
 have qm:0<(Pl.all s.data.toList).length:=by
  obtain⟨r,hr⟩:=Dz s.data.toList;rw[hr];simp
 have qX:=Pl.yo s.data.toList;have hg1:=Pl.AJ (q:=Pl.cP) qX;have kQ:=Pl.wU hw;have hpw:Pl.aM (Pl.all s.data.toList)=Pl.eY (Pl.wd Pl.cP (Pl.all s.data.toList)).2:=by
  unfold Pl.aM;rw[aa (by rw[hw0];simp),ah hw]
 have sW:Hid (Pl.aM (Pl.all s.data.toList)=Pl.eY (Pl.wd Pl.cP (Pl.all s.data.toList)).2):=hpw;have DV:Hid ((Pl.wd Pl.bB (Pl.all s.data.toList)).1=false):=hw0;have AX:Hid ((Pl.wd Pl.cP (Pl.all s.data.toList)).1=true):=hw;clear hpw hw hw0
 go_enter Tryz.func14,Tryz.ntmps14
 go_wp2_with fail
 refine(MJ s _ hs).mono ?_;rintro e w1 ⟨v,rfl,hown,hb1⟩;obtain⟨tb,cap,rfl,jr,DR,fg⟩:=PS.fresh qm hown;have hs1:=hb1.size;simp at hs1 DR
 go_wp2_with fail
 have eN:=(fg _ rfl).alloc (.cells #[.string ⟨#[]⟩,.slice none 0 0,.int .i64 0] 29);refine(yL w1.heap.size tb cap s.data.toList _ _ _ Pl.bB qX eN oF).mono ?_;rintro e w2' ⟨rfl,AY,IA⟩;rw[DV.out];rw[uU DV.out] at AY
 go_wp2_with fail
 refine(yL w1.heap.size tb cap s.data.toList _ _ _ Pl.cP qX AY oF).mono ?_;rintro e w2 ⟨rfl,dW,IB⟩;have hf2:=IA.trans IB;rw[AX.out]
 go_wp2_with fail
 refine(afP w1.heap.size tb cap s.data.toList _ _ _ hg1.2 dW oF (by omega)).mono ?_
 rintro e w3 ⟨v3,rfl,iM,hf3,⟨so,n3,ve,rfl⟩,x3,hx3,lL⟩;have hf:=hf2.trans hf3;have hs3:=hf.size;simp at hs3;have kH:w3.heap[w1.heap.size+1]?=some (.cells #[.string ⟨#[]⟩,.slice none 0 0,.int .i64 0] 29 (0,0)):=by
  rw[hf.block (w1.heap.size+1) (by simp) (by omega)]
  have:=heap_alloc_new (w1.alloc (.cells #[.slice (some ⟨tb,0,none⟩) (Pl.all s.data.toList).length cap,.int .i64 0,.bool false,.int .i64 (-1)] 55)) (.cells #[.string ⟨#[]⟩,.slice none 0 0,.int .i64 0] 29);simpa using this
 have hb0:w3.heap[w.heap.size]?=some (.cells #[.string ⟨#[]⟩,.slice none 0 0,.int .i64 0] 29 (0,0)):=by
  rw[hf.block w.heap.size (by simp;omega) (by omega),Below.heap_alloc _ _ _ (by simp;omega),Below.heap_alloc _ _ _ (by omega),hb1.block w.heap.size (by simp)]
  exact heap_alloc_new w _
 have h0:w3.cell? ⟨w1.heap.size+1,0,none⟩=some (.string ⟨#[]⟩):=cell_of kH 0;have h1:w3.cell? ⟨w1.heap.size+1,1,none⟩=some (.slice none 0 0):=cell_of kH 1;have h2:w3.cell? ⟨w1.heap.size+1,2,none⟩=some (.int .i64 0):=cell_of kH 2;have k0:w3.frozen? ⟨w1.heap.size+1,0,none⟩=false:=aH kH 0;have k1:w3.frozen? ⟨w1.heap.size+1,1,none⟩=false:=aH kH 1;have k2:w3.frozen? ⟨w1.heap.size+1,2,none⟩=false:=aH kH 2;have hlb:w1.heap.size+1<w3.heap.size:=by omega
 have Hf:Hid ((Pl.eY (Pl.wd Pl.cP (Pl.all s.data.toList)).2).1=true->x3=(Pl.eY (Pl.wd Pl.cP (Pl.all s.data.toList)).2).2.2):=lL;clear lL
 go_wp2_with fail
 have DT:PS w1.heap.size tb cap (Pl.all s.data.toList) (Pl.eY (Pl.wd Pl.cP (Pl.all s.data.toList)).2).2.1 (!(Pl.eY (Pl.wd Pl.cP (Pl.all s.data.toList)).2).1) (((w3.setCell ⟨w1.heap.size+1,0,none⟩ (.string ⟨#[77,85,76,84,73,80,79,76,89,71,79,78]⟩)).setCell ⟨w1.heap.size+1,1,none⟩ (.slice so n3 ve)).setCell ⟨w1.heap.size+1,2,none⟩ (.int .i64 0)):=
  iM.Vd jr (fun k hk=>(bu (by omega) _).trans ((bu (by omega) _).trans (bu (by omega) _)))
 have hbW:=((bu (b:=w1.heap.size+1) (o:=2) (by omega) (.int .i64 0)).trans ((bu (b:=w1.heap.size+1) (o:=1) (by omega) (.slice so n3 ve)).trans ((bu (b:=w1.heap.size+1) (o:=0) (by omega) (.string ⟨#[77,85,76,84,73,80,79,76,89,71,79,78]⟩)).trans hb0)))
 have u9:=(heap_set (o:=2) (heap_set (o:=1) (heap_set (o:=0) kH (.string ⟨#[77,85,76,84,73,80,79,76,89,71,79,78]⟩)) (.slice so n3 ve)) (.int .i64 0));have ak:Below w.heap.size w (((w3.setCell ⟨w1.heap.size+1,0,none⟩ (.string ⟨#[77,85,76,84,73,80,79,76,89,71,79,78]⟩)).setCell ⟨w1.heap.size+1,1,none⟩ (.slice so n3 ve)).setCell ⟨w1.heap.size+1,2,none⟩ (.int .i64 0)):=by
  have q1:Below w.heap.size w w1:=((Below.refl _ w).alloc (ai _) _).trans (hb1.mono (by simp))
  have q2:=((q1.alloc (by omega) (.cells #[.slice (some ⟨tb,0,none⟩) (Pl.all s.data.toList).length cap,.int .i64 0,.bool false,.int .i64 (-1)] 55)).alloc (by simp;omega) (.cells #[.string ⟨#[]⟩,.slice none 0 0,.int .i64 0] 29)).trans (hf.below w.heap.size (by omega) (by simp;omega))
  exact((q2.setCell (by show w.heap.size<=w1.heap.size+1;omega) _).setCell (by show w.heap.size<=w1.heap.size+1;omega) _).setCell (by show w.heap.size<=w1.heap.size+1;omega) _
 have M8:Hid (kT (((w3.setCell ⟨w1.heap.size+1,0,none⟩ (.string ⟨#[77,85,76,84,73,80,79,76,89,71,79,78]⟩)).setCell ⟨w1.heap.size+1,1,none⟩ (.slice so n3 ve)).setCell ⟨w1.heap.size+1,2,none⟩ (.int .i64 0)) (.slice so n3 ve) x3):=by
  refine DG _ _ _ _ hx3 fun k cur e hc he=>?_
  have hkb:k≠w1.heap.size+1:=fun ek=>by
   rw[ek,kH] at hc;injection hc with hc;injection hc with _ hc _;rw[<-hc] at he;simp at he
  exact(bu hkb _).trans ((bu hkb _).trans (bu hkb _))
 have vd:=DT;rw[show(Pl.eY (Pl.wd Pl.cP (Pl.all s.data.toList)).2).2.1=(Pl.aM (Pl.all s.data.toList)).2.1 from by rw[sW.out],show(Pl.eY (Pl.wd Pl.cP (Pl.all s.data.toList)).2).1=(Pl.aM (Pl.all s.data.toList)).1 from by rw[sW.out]] at vd
 have hxv:Hid ((Pl.aM (Pl.all s.data.toList)).1=true->x3=(Pl.aM (Pl.all s.data.toList)).2.2):=fun h=>by
  have h':=h;rw[sW.out] at h'⊢;exact Hf.out h'
 clear DT h0 h1 h2 k0 k1 k2 kH hb0 hx3 iM hf3 hf dW hf2 eN fg hown;generalize((w3.setCell ⟨w1.heap.size+1,0,none⟩ (.string ⟨#[77,85,76,84,73,80,79,76,89,71,79,78]⟩)).setCell ⟨w1.heap.size+1,1,none⟩ (.slice so n3 ve)).setCell ⟨w1.heap.size+1,2,none⟩ (.int .i64 0)=W at*;obtain⟨t,r,hlr⟩:∃t r,(Pl.aM (Pl.all s.data.toList)).2.1=t::r:=by
  have hg:=(Pl.Im _ qX).2;cases hq:(Pl.aM (Pl.all s.data.toList)).2.1 with
  |nil=>rw[hq] at hg;exact hg.elim
  |cons t r=>exact⟨t,r,rfl⟩
 have hbk:=vd.took;have kI:=vd;rw[hlr] at kI;obtain⟨c,hc,_,e0,e1,e2,e3,hcl,htl⟩:=kI.cells;have hcc:c=Pl.took s.data.toList:=CC (hc.trans (by rw[<-hlr];exact(Pl.AK s.data.toList).symm))
 subst hcc;have c0:W.cell? ⟨w1.heap.size,0,none⟩=some (.slice (some ⟨tb,0,none⟩) (Pl.all s.data.toList).length cap):=cell_of hbk 0;have c1:W.cell? ⟨w1.heap.size,1,none⟩=some (.int .i64 (Pl.took s.data.toList).length):=cell_of hbk 1;have c2:W.cell? ⟨w1.heap.size,2,none⟩=some (.bool (!(Pl.aM (Pl.all s.data.toList)).1)):=cell_of hbk 2;have c3:W.cell? ⟨w1.heap.size,3,none⟩=some (.int .i64 (bO (Pl.took s.data.toList))):=cell_of hbk 3;have b0:W.cell? ⟨w.heap.size,0,none⟩=some (.string ⟨#[]⟩):=cell_of hbW 0;have b1:W.cell? ⟨w.heap.size,1,none⟩=some (.slice none 0 0):=cell_of hbW 1;have b2:W.cell? ⟨w.heap.size,2,none⟩=some (.int .i64 0):=cell_of hbW 2;have Vf:W.frozen? ⟨w.heap.size,0,none⟩=false:=aH hbW 0;have Vg:W.frozen? ⟨w.heap.size,1,none⟩=false:=aH hbW 1;have Vh:W.frozen? ⟨w.heap.size,2,none⟩=false:=aH hbW 2;have x0:W.cell? ⟨w1.heap.size+1,0,none⟩=some (.string ⟨#[77,85,76,84,73,80,79,76,89,71,79,78]⟩):=cell_of u9 0;have x1:W.cell? ⟨w1.heap.size+1,1,none⟩=some (.slice so n3 ve):=cell_of u9 1;have x2:W.cell? ⟨w1.heap.size+1,2,none⟩=some (.int .i64 0):=cell_of u9 2;have hib:((Pl.took s.data.toList).length:Int)<((Pl.all s.data.toList).length:Int):=by omega
 have hin:(Pl.took s.data.toList).length<(Pl.all s.data.toList).length:=hcl;have yM:w.heap.size≠w1.heap.size:=by omega
 have DU:w.heap.size≠tb:=by omega
 have lM:Hid (¬((Pl.aM (Pl.all s.data.toList)).1=true/\Pl.hk (Pl.aM (Pl.all s.data.toList)).2.1=101)->Pl.err s.data.toList=(2,Pl.hpl (Pl.aM (Pl.all s.data.toList)).2.1)):=M7 (by omega)
 have kV:Hid ((Pl.aM (Pl.all s.data.toList)).1=true/\Pl.hk (Pl.aM (Pl.all s.data.toList)).2.1=101->(0<=bO (Pl.took s.data.toList)->((Pl.err s.data.toList).1=3/\((Pl.err s.data.toList).2:Int)=bO (Pl.took s.data.toList)))/\(bO (Pl.took s.data.toList)<0->Pl.err s.data.toList=(0,0))):=fun h=>Ve (by omega) h
 rw[hlr] at lM kV;clear hbk kI vd hc hlr u9;generalize bO (Pl.took s.data.toList)=oc at*;generalize(Pl.took s.data.toList).length=tl at*;generalize(Pl.all s.data.toList).length=al at*;cases hb:(Pl.aM (Pl.all s.data.toList)).1
 ·rw[hb] at c2 lM;have jN:Hid (Pl.err s.data.toList=(2,t.pl)):=lM.out (fun h=>by cases h.1)
  clear lM kV
  go_wp2_with fail
  go_quiet (fail)
  go_wp2_with fail
  go_region_held3 (fun w'=>w'.cell? ⟨w1.heap.size,0,none⟩=some (.slice (some ⟨tb,0,none⟩) al cap)/\w'.cell? ⟨w1.heap.size,1,none⟩=some (.int .i64 tl)/\w'.cell? ⟨tb,tl*4+3,none⟩=some (.int .i64 t.pl)) (go_keep) (fail)
  go_wp2_with fail
  refine bodyPost_ret (v:=.tuple #[.agg #[.string ⟨#[]⟩,.slice none 0 0,.int .i64 0],.int .i64 2,.int .i64 t.pl]) (by simp[results,Tryz.results14,go_sem,b0,b1,b2]) rfl ⟨?_,_,_,_,_,by rw[jN.out];rfl,fun h=>by rw[jN.out] at h;cases h⟩
  exact(((pF ak (nq+1)).setCell (ai _) _).setCell (ai _) _).setCell (ai _) _
 ·rw[hb] at c2 lM kV;by_cases ht:t.k=101
  ·obtain⟨qo,gw⟩:=kV.out ⟨rfl,ht⟩;have qY:Hid (0<=oc->((Pl.err s.data.toList).1=3/\((Pl.err s.data.toList).2:Int)=oc)):=qo;have kJ:Hid (oc<0->Pl.err s.data.toList=(0,0)):=gw;rw[ht] at e0;clear lM kV qo gw;by_cases gH:0<=oc
   ·obtain⟨h3,h4⟩:=qY.out gH;have H3:Hid ((Pl.err s.data.toList).1=3):=h3;have H4:Hid (((Pl.err s.data.toList).2:Int)=oc):=h4;clear h3 h4 qY kJ
    go_wp2_with fail
    go_quiet (fail)
    go_wp2_with fail
    go_region_held3 (fun w'=>w'.cell? ⟨w1.heap.size,3,none⟩=some (.int .i64 oc)) (go_keep) (fail)
    go_wp2_with fail
    refine bodyPost_ret (v:=.tuple #[.agg #[.string ⟨#[]⟩,.slice none 0 0,.int .i64 0],.int .i64 3,.int .i64 oc]) (by simp[results,Tryz.results14,go_sem,b0,b1,b2]) rfl ⟨?_,_,_,_,_,by rw[H3.out,H4.out];rfl,fun h=>by rw[H3.out] at h;cases h⟩
    exact(((pF ak (nq+1)).setCell (ai _) _).setCell (ai _) _).setCell (ai _) _
   ·have jN:Hid (Pl.err s.data.toList=(0,0)):=kJ.out (by omega)
    clear qY kJ
    go_wp2_with fail
    go_quiet (fail)
    go_wp2_with fail
    refine bodyPost_ret (v:=.tuple #[.agg #[.string ⟨#[77,85,76,84,73,80,79,76,89,71,79,78]⟩,.slice so n3 ve,.int .i64 0],.int .i64 0,.int .i64 0]) (by simp[results,Tryz.results14,go_sem,b0,b1,b2]) rfl ⟨?_,_,_,_,_,by rw[jN.out];rfl,fun _=>⟨rfl,?_⟩⟩
    ·exact(((pF ak nq).setCell (ai _) _).setCell (ai _) _).setCell (ai _) _
    ·rw[<-hxv.out hb];refine DG _ _ _ _ M8.out fun k cur e kX he=>?_
     have hkb:k≠w.heap.size:=fun ek=>by
      rw[ek,hbW] at kX;injection kX with kX;injection kX with _ kX _;rw[<-kX] at he;simp at he
     exact(bu hkb _).trans ((bu hkb _).trans (bu hkb _))
  ·have jN:Hid (Pl.err s.data.toList=(2,t.pl)):=lM.out (fun h=>ht h.2)
   have htk:((t.k:Int) != 101)=true:=by rw[vX];omega
   clear lM kV
   go_wp2_with fail
   go_quiet (fail)
   go_wp2_with fail
   go_region_held3 (fun w'=>w'.cell? ⟨w1.heap.size,0,none⟩=some (.slice (some ⟨tb,0,none⟩) al cap)/\w'.cell? ⟨w1.heap.size,1,none⟩=some (.int .i64 tl)/\w'.cell? ⟨tb,tl*4+3,none⟩=some (.int .i64 t.pl)) (go_keep) (fail)
   go_wp2_with fail
   refine bodyPost_ret (v:=.tuple #[.agg #[.string ⟨#[]⟩,.slice none 0 0,.int .i64 0],.int .i64 2,.int .i64 t.pl]) (by simp[results,Tryz.results14,go_sem,b0,b1,b2]) rfl ⟨?_,_,_,_,_,by rw[jN.out];rfl,fun h=>by rw[jN.out] at h;cases h⟩
   exact(((pF ak (nq+1)).setCell (ai _) _).setCell (ai _) _).setCell (ai _) _
theorem afV(s:ByteArray)(w:World)(hm:s.size<=maxLen):
  Calls Tryz.prog 14 #[.string s] w fun e w'=>Below w.heap.size w w'/\∃W so pn pc,e=.returned (.tuple #[.agg #[.string W,.slice so pn pc,.int .i64 0],.int .i64 (Pl.err s.data.toList).1,.int .i64 (Pl.err s.data.toList).2])/\
   ((Pl.err s.data.toList).1=0->((∃gs,(Pl.aM (Pl.all s.data.toList)).2.2=[gs]/\W=⟨Pl.bB.toArray⟩/\kT w' (.slice so pn pc) [gs]/\pI gs/\Pl.M6 s.data.toList=Pl.bB++([32]++Pl.bQ gs))\/
    (W=⟨Pl.cP.toArray⟩/\kT w' (.slice so pn pc) (Pl.aM (Pl.all s.data.toList)).2.2/\mG (Pl.aM (Pl.all s.data.toList)).2.2/\Pl.M6 s.data.toList=Pl.kU (Pl.aM (Pl.all s.data.toList)).2.2))):=by
 have hsz:s.data.toList.length=s.size:=by simp
 have hpt:(Pl.err s.data.toList).1=0->Pl.M6 s.data.toList=Pl.wt (Pl.took s.data.toList):=fun h=>ah h
 by_cases hs:400<s.size
 ·have he:Pl.err s.data.toList=(1,0):=by unfold Pl.err;rw[ah (by omega)]
  refine(afQ s w hs hm).mono ?_;rintro e w' ⟨rfl,hb⟩;exact⟨hb,_,_,_,_,by rw[he];rfl,fun h=>by rw[he] at h;cases h⟩
 ·have hs':s.size<=400:=by omega
  cases hw0:(Pl.wd Pl.bB (Pl.all s.data.toList)).1
  ·cases hw:(Pl.wd Pl.cP (Pl.all s.data.toList)).1
   ·refine(afS s w hs' hw0 hw).mono ?_;rintro e w' ⟨hb,hne,W,so,pn,pc,rfl⟩;exact⟨hb,W,so,pn,pc,rfl,fun h=>absurd h hne⟩
   ·refine(afU s w hs' hw0 hw).mono ?_;rintro e w' ⟨hb,W,so,pn,pc,rfl,hr⟩;refine⟨hb,W,so,pn,pc,rfl,fun h=>af ?_⟩
    obtain⟨_,h1,h2⟩:=Pl.Vb h hw0;exact⟨(hr h).1,(hr h).2,h1,(hpt h).trans h2⟩
  ·refine(afR s w hs' hw0).mono ?_;rintro e w' ⟨hb,W,so,pn,pc,rfl,hr⟩;refine⟨hb,W,so,pn,pc,rfl,fun h=>ae ?_⟩
   obtain⟨gs,h0,h1,h2⟩:=Pl.Va h hw0;exact⟨gs,h0,(hr h).1,h0▸(hr h).2,h1,(hpt h).trans h2⟩
namespace Pl
def qZ(a:Ge.Fr):List UInt8:=if a.2=1 then Lib.itoa a.1 else Lib.itoa a.1++([47]++Lib.itoa a.2)
def jd(q:Ge.Qt):List UInt8:=qZ q.1++([32]++qZ q.2)
end Pl
end Go.Proofs.YtkjhhooecopolaaGreatDoor

import Derived.Test.YtkjhhooecopolaaGreatDoorMz14
import Derived.Deep.RegionHeld3
set_option maxRecDepth 100000
set_option maxHeartbeats 4000000
namespace Go.Proofs.YtkjhhooecopolaaGreatDoor
open Go.RowKit
theorem afn(s:ByteArray)(w:World)(hs:400<s.size)(hm:s.size<=maxLen):
  Calls Tryz.prog 14 #[.string s] w fun e w'=>e=.returned (.tuple #[.agg #[.string ⟨#[]⟩,.slice none 0 0,.int .i64 0],.int .i64 1,.int .i64 0])/\Below w.heap.size w w':=by
 unfold maxLen at hm
 go_enter Tryz.func14,Tryz.ntmps14
 go_wp2
 exact bodyPost_ret (v:=.tuple #[.agg #[.string ⟨#[]⟩,.slice none 0 0,.int .i64 0],.int .i64 1,.int .i64 0]) (by simp[results,Tryz.results14,go_sem]) rfl ⟨rfl,(Below.refl _ _).alloc (ae _) _⟩
theorem PS.fresh{w1:World}{base:Nat}{v:Value}{A:List Pl.Tk}(hA:0<A.length)(h:w1.ownsRow base 61 4 v A.length (pV A)):
  ∃tb cap,v=.slice (some ⟨tb,0,none⟩) A.length cap/\tb<w1.heap.size/\base<=tb/\(∀o,o=Obj.cells #[v,.int .i64 0,.bool false,.int .i64 (-1)] 55 (0,0)->PS w1.heap.size tb cap A A false (w1.alloc o)):=by
 rcases h.2 with⟨_,h0⟩|⟨g,cap,cur,hv,hg,hh,hnc,hcm,hcs,htake⟩
 ·omega
 ·have hlt:=lt_of_heap hh;refine⟨g,cap,hv,hlt,hg,fun o ho=>⟨by omega,⟨cur,(Below.heap_alloc _ _ _ hlt).trans hh,fun j u hu=>?_⟩,[],rfl,?_⟩⟩
  ·rw[<-htake,j6] at hu;split at hu
   ·simpa using hu
   ·cases hu
  ·rw[heap_alloc_new,ho,hv];rfl
theorem PS.UH{pb tb cap:Nat}{A l:List Pl.Tk}{bad:Bool}{w w':World}(h:PS pb tb cap A l bad w)(jg:tb<pb)(hk:∀k,k<=pb->w'.heap[k]?=w.heap[k]?):PS pb tb cap A l bad w':=by
 obtain⟨hne,⟨cur,fU,hr⟩,c,hc,hb⟩:=h;exact⟨hne,⟨cur,(hk tb (by omega)).trans fU,hr⟩,c,hc,(hk pb (ae _)).trans hb⟩
theorem MB{s:List UInt8}(hs:s.length<=400)(h:¬((Pl.aH (Pl.all s)).1=true/\Pl.hk (Pl.aH (Pl.all s)).2.1=101)):Pl.err s=(2,Pl.hpl (Pl.aH (Pl.all s)).2.1):=by
 unfold Pl.err;rw[if_neg (by omega),if_neg h]
theorem UI{s:List UInt8}(hs:s.length<=400)(h:(Pl.aH (Pl.all s)).1=true/\Pl.hk (Pl.aH (Pl.all s)).2.1=101):
  (0<=bG (Pl.took s)->((Pl.err s).1=3/\((Pl.err s).2:Int)=bG (Pl.took s)))/\(bG (Pl.took s)<0->Pl.err s=(0,0)):=by
 unfold Pl.err bG;rw[if_neg (by omega),if_pos h]
 cases(Pl.took s).find? outT with
 |some u=>exact⟨fun _=>⟨rfl,rfl⟩,fun h=>by simp at h;omega⟩
 |none=>exact⟨fun h=>by simp at h,fun _=>rfl⟩
theorem PS.took{pb tb cap:Nat}{s:List UInt8}{bad:Bool}{w:World}(h:PS pb tb cap (Pl.all s) (Pl.aH (Pl.all s)).2.1 bad w):
  w.heap[pb]?=some (.cells #[.slice (some ⟨tb,0,none⟩) (Pl.all s).length cap,.int .i64 (Pl.took s).length,.bool bad,.int .i64 (bG (Pl.took s))] 55 (0,0)):=by
 obtain⟨c,hc,hb⟩:=h.box;have:=BR (hc.trans (Pl.Af s).symm);rw[<-this];exact hb
theorem afo(s:ByteArray)(w:World)(hs:s.size<=400)(hw:(Pl.wd Pl.bp (Pl.all s.data.toList)).1=true):
  Calls Tryz.prog 14 #[.string s] w fun e w'=>Below w.heap.size w w'/\∃W so pn pc,e=.returned (.tuple #[.agg #[.string W,.slice so pn pc,.int .i64 0],.int .i64 (Pl.err s.data.toList).1,.int .i64 (Pl.err s.data.toList).2])/\
   ((Pl.err s.data.toList).1=0->W=⟨Pl.bp.toArray⟩/\kI w' (.slice so pn pc) (Pl.aH (Pl.all s.data.toList)).2.2):=by
 have hsz:s.data.toList.length=s.size:=by simp
 have n9:(Pl.all s.data.toList).length<=402:=by have:=Pl.xL s.data.toList;omega
 have pW:0<(Pl.all s.data.toList).length:=by
  obtain⟨r,hr⟩:=C6 s.data.toList;rw[hr];simp
 have qK:=Pl.xK s.data.toList;have hg1:=Pl.Ae (q:=Pl.bp) qK;have kG:=Pl.wj hw;have hpw:Pl.aH (Pl.all s.data.toList)=((Pl.bo (Pl.wd Pl.bp (Pl.all s.data.toList)).2).1,(Pl.bo (Pl.wd Pl.bp (Pl.all s.data.toList)).2).2.1,[(Pl.bo (Pl.wd Pl.bp (Pl.all s.data.toList)).2).2.2]):=by
  unfold Pl.aH;rw[if_pos hw]
 have sB:Hid (Pl.aH (Pl.all s.data.toList)=((Pl.bo (Pl.wd Pl.bp (Pl.all s.data.toList)).2).1,(Pl.bo (Pl.wd Pl.bp (Pl.all s.data.toList)).2).2.1,[(Pl.bo (Pl.wd Pl.bp (Pl.all s.data.toList)).2).2.2])):=hpw;have Al:Hid ((Pl.wd Pl.bp (Pl.all s.data.toList)).1=true):=hw;clear hpw hw
 go_enter Tryz.func14,Tryz.ntmps14
 go_wp2_with fail
 refine(Mg s _ hs).mono ?_;rintro e w1 ⟨v,rfl,hown,hb1⟩;obtain⟨tb,cap,rfl,jg,Di,eK⟩:=PS.fresh pW hown;have hs1:=hb1.size;simp at hs1 Di
 go_wp2_with fail
 have eF:=(eK _ rfl).alloc (.cells #[.string ⟨#[]⟩,.slice none 0 0,.int .i64 0] 29);refine(yi w1.heap.size tb cap s.data.toList _ _ _ Pl.bp qK eF n9).mono ?_;rintro e w2 ⟨rfl,dQ,hf2⟩;rw[Al.out]
 go_wp2_with fail
 refine(UG w1.heap.size tb cap s.data.toList _ _ _ hg1.2 dQ n9 (by omega)).mono ?_
 rintro e w3 ⟨v3,rfl,iD,hf3,⟨so,n3,c3,rfl⟩,x3,hx3,lj⟩;have hf:=hf2.trans hf3;have hs3:=hf.size;simp at hs3;have ko:w3.heap[w1.heap.size+1]?=some (.cells #[.string ⟨#[]⟩,.slice none 0 0,.int .i64 0] 29 (0,0)):=by
  rw[hf.block (w1.heap.size+1) (by simp) (by omega)]
  have:=heap_alloc_new (w1.alloc (.cells #[.slice (some ⟨tb,0,none⟩) (Pl.all s.data.toList).length cap,.int .i64 0,.bool false,.int .i64 (-1)] 55)) (.cells #[.string ⟨#[]⟩,.slice none 0 0,.int .i64 0] 29);simpa using this
 have hb0:w3.heap[w.heap.size]?=some (.cells #[.string ⟨#[]⟩,.slice none 0 0,.int .i64 0] 29 (0,0)):=by
  rw[hf.block w.heap.size (by simp;omega) (by omega),Below.heap_alloc _ _ _ (by simp;omega),Below.heap_alloc _ _ _ (by omega),hb1.block w.heap.size (by simp)]
  exact heap_alloc_new w _
 have h0:w3.cell? ⟨w1.heap.size+1,0,none⟩=some (.string ⟨#[]⟩):=cell_of ko 0;have h1:w3.cell? ⟨w1.heap.size+1,1,none⟩=some (.slice none 0 0):=cell_of ko 1;have h2:w3.cell? ⟨w1.heap.size+1,2,none⟩=some (.int .i64 0):=cell_of ko 2;have k0:w3.frozen? ⟨w1.heap.size+1,0,none⟩=false:=aB ko 0;have k1:w3.frozen? ⟨w1.heap.size+1,1,none⟩=false:=aB ko 1;have k2:w3.frozen? ⟨w1.heap.size+1,2,none⟩=false:=aB ko 2;have hlb:w1.heap.size+1<w3.heap.size:=by omega
 have GC:Hid ((Pl.bo (Pl.wd Pl.bp (Pl.all s.data.toList)).2).1=true->x3=(Pl.bo (Pl.wd Pl.bp (Pl.all s.data.toList)).2).2.2):=lj;clear lj
 go_wp2_with fail
 have Dj:PS w1.heap.size tb cap (Pl.all s.data.toList) (Pl.bo (Pl.wd Pl.bp (Pl.all s.data.toList)).2).2.1 (!(Pl.bo (Pl.wd Pl.bp (Pl.all s.data.toList)).2).1) ((((w3.setCell ⟨w1.heap.size+1,0,none⟩ (.string ⟨#[80,79,76,89,71,79,78]⟩)).setCell ⟨w1.heap.size+1,1,none⟩ (.slice (some ⟨w3.heap.size,0,none⟩) 1 1)).setCell ⟨w1.heap.size+1,2,none⟩ (.int .i64 0)).alloc (.cells #[.slice so n3 c3] 57)):=
  iD.UH jg (fun k hk=>(Below.heap_alloc _ _ _ (by simp;omega)).trans ((bg (by omega) _).trans ((bg (by omega) _).trans (bg (by omega) _))))
 have hbW:=(Below.heap_alloc _ (.cells #[.slice so n3 c3] 57) w.heap.size (by simp;omega)).trans ((bg (b:=w1.heap.size+1) (o:=2) (by omega) (.int .i64 0)).trans ((bg (b:=w1.heap.size+1) (o:=1) (by omega) (.slice (some ⟨w3.heap.size,0,none⟩) 1 1)).trans ((bg (b:=w1.heap.size+1) (o:=0) (by omega) (.string ⟨#[80,79,76,89,71,79,78]⟩)).trans hb0)))
 have uH:=(Below.heap_alloc _ (.cells #[.slice so n3 c3] 57) (w1.heap.size+1) (by simp;omega)).trans (heap_set (o:=2) (heap_set (o:=1) (heap_set (o:=0) ko (.string ⟨#[80,79,76,89,71,79,78]⟩)) (.slice (some ⟨w3.heap.size,0,none⟩) 1 1)) (.int .i64 0))
 have ag:Below w.heap.size w ((((w3.setCell ⟨w1.heap.size+1,0,none⟩ (.string ⟨#[80,79,76,89,71,79,78]⟩)).setCell ⟨w1.heap.size+1,1,none⟩ (.slice (some ⟨w3.heap.size,0,none⟩) 1 1)).setCell ⟨w1.heap.size+1,2,none⟩ (.int .i64 0)).alloc (.cells #[.slice so n3 c3] 57)):=by
  have q1:Below w.heap.size w w1:=((Below.refl _ w).alloc (ae _) _).trans (hb1.mono (by simp))
  have q2:=((q1.alloc (by omega) (.cells #[.slice (some ⟨tb,0,none⟩) (Pl.all s.data.toList).length cap,.int .i64 0,.bool false,.int .i64 (-1)] 55)).alloc (by simp;omega) (.cells #[.string ⟨#[]⟩,.slice none 0 0,.int .i64 0] 29)).trans (hf.below w.heap.size (by omega) (by simp;omega))
  exact(((q2.setCell (by show w.heap.size<=w1.heap.size+1;omega) _).setCell (by show w.heap.size<=w1.heap.size+1;omega) _).setCell (by show w.heap.size<=w1.heap.size+1;omega) _).alloc (by simp;omega) _
 have MC:Hid (kI ((((w3.setCell ⟨w1.heap.size+1,0,none⟩ (.string ⟨#[80,79,76,89,71,79,78]⟩)).setCell ⟨w1.heap.size+1,1,none⟩ (.slice (some ⟨w3.heap.size,0,none⟩) 1 1)).setCell ⟨w1.heap.size+1,2,none⟩ (.int .i64 0)).alloc (.cells #[.slice so n3 c3] 57)) (.slice (some ⟨w3.heap.size,0,none⟩) 1 1) [x3]):=by
  refine⟨[.slice so n3 c3],rfl,⟨rfl,Or.inr ⟨w3.heap.size,1, #[.slice so n3 c3],rfl,iz _,?_,ae _,by unfold maxLen;omega,rfl,rfl⟩⟩,fun i u x hu hx=>?_⟩
  ·have:=heap_alloc_new (((w3.setCell ⟨w1.heap.size+1,0,none⟩ (.string ⟨#[80,79,76,89,71,79,78]⟩)).setCell ⟨w1.heap.size+1,1,none⟩ (.slice (some ⟨w3.heap.size,0,none⟩) 1 1)).setCell ⟨w1.heap.size+1,2,none⟩ (.int .i64 0)) (.cells #[.slice so n3 c3] 57);simpa using this
  ·have hi0:i=0:=by
    have:=(bT.1 hu).1;simp at this;omega
   subst hi0;have e1:u=.slice so n3 c3:=by simpa using hu.symm
   have e2:x=x3:=by simpa using hx.symm
   subst e1 e2;refine x7 _ _ _ _ hx3 fun k cur e hc he=>?_
   have hkb:k≠w1.heap.size+1:=fun ek=>by
    rw[ek,ko] at hc;injection hc with hc;injection hc with _ hc _;rw[<-hc] at he;simp at he
   exact(Below.heap_alloc _ _ _ (by have:=lt_of_heap hc;simp;omega)).trans ((bg hkb _).trans ((bg hkb _).trans (bg hkb _)))
 have uI:=Dj;rw[show(Pl.bo (Pl.wd Pl.bp (Pl.all s.data.toList)).2).2.1=(Pl.aH (Pl.all s.data.toList)).2.1 from by rw[sB.out],show(Pl.bo (Pl.wd Pl.bp (Pl.all s.data.toList)).2).1=(Pl.aH (Pl.all s.data.toList)).1 from by rw[sB.out]] at uI
 have hxv:Hid ((Pl.aH (Pl.all s.data.toList)).1=true->[x3]=(Pl.aH (Pl.all s.data.toList)).2.2):=fun h=>by
  have h':=h;rw[sB.out] at h'⊢;rw[GC.out h']
 clear Dj h0 h1 h2 k0 k1 k2 ko hb0 hx3 iD hf3 hf dQ hf2 eF eK hown;generalize(((w3.setCell ⟨w1.heap.size+1,0,none⟩ (.string ⟨#[80,79,76,89,71,79,78]⟩)).setCell ⟨w1.heap.size+1,1,none⟩ (.slice (some ⟨w3.heap.size,0,none⟩) 1 1)).setCell ⟨w1.heap.size+1,2,none⟩ (.int .i64 0)).alloc (.cells #[.slice so n3 c3] 57)=W at*;obtain⟨t,r,hlr⟩:∃t r,(Pl.aH (Pl.all s.data.toList)).2.1=t::r:=by
  have hg:=(Pl.Ho _ qK).2;cases hq:(Pl.aH (Pl.all s.data.toList)).2.1 with
  |nil=>rw[hq] at hg;exact hg.elim
  |cons t r=>exact⟨t,r,rfl⟩
 have hbk:=uI.took;have kq:=uI;rw[hlr] at kq;obtain⟨c,hc,_,e0,e1,e2,e3,hcl,htl⟩:=kq.cells;have hcc:c=Pl.took s.data.toList:=BR (hc.trans (by rw[<-hlr];exact(Pl.Af s.data.toList).symm))
 subst hcc;have c0:W.cell? ⟨w1.heap.size,0,none⟩=some (.slice (some ⟨tb,0,none⟩) (Pl.all s.data.toList).length cap):=cell_of hbk 0;have c1:W.cell? ⟨w1.heap.size,1,none⟩=some (.int .i64 (Pl.took s.data.toList).length):=cell_of hbk 1;have c2:W.cell? ⟨w1.heap.size,2,none⟩=some (.bool (!(Pl.aH (Pl.all s.data.toList)).1)):=cell_of hbk 2;have c3:W.cell? ⟨w1.heap.size,3,none⟩=some (.int .i64 (bG (Pl.took s.data.toList))):=cell_of hbk 3;have b0:W.cell? ⟨w.heap.size,0,none⟩=some (.string ⟨#[]⟩):=cell_of hbW 0;have b1:W.cell? ⟨w.heap.size,1,none⟩=some (.slice none 0 0):=cell_of hbW 1;have b2:W.cell? ⟨w.heap.size,2,none⟩=some (.int .i64 0):=cell_of hbW 2;have UJ:W.frozen? ⟨w.heap.size,0,none⟩=false:=aB hbW 0;have UK:W.frozen? ⟨w.heap.size,1,none⟩=false:=aB hbW 1;have UL:W.frozen? ⟨w.heap.size,2,none⟩=false:=aB hbW 2;have x0:W.cell? ⟨w1.heap.size+1,0,none⟩=some (.string ⟨#[80,79,76,89,71,79,78]⟩):=cell_of uH 0;have x1:W.cell? ⟨w1.heap.size+1,1,none⟩=some (.slice (some ⟨w3.heap.size,0,none⟩) 1 1):=cell_of uH 1;have x2:W.cell? ⟨w1.heap.size+1,2,none⟩=some (.int .i64 0):=cell_of uH 2;have hib:((Pl.took s.data.toList).length:Int)<((Pl.all s.data.toList).length:Int):=by omega
 have hin:(Pl.took s.data.toList).length<(Pl.all s.data.toList).length:=hcl;have yj:w.heap.size≠w1.heap.size:=by omega
 have Dk:w.heap.size≠tb:=by omega
 have ll:Hid (¬((Pl.aH (Pl.all s.data.toList)).1=true/\Pl.hk (Pl.aH (Pl.all s.data.toList)).2.1=101)->Pl.err s.data.toList=(2,Pl.hpl (Pl.aH (Pl.all s.data.toList)).2.1)):=MB (by omega)
 have kK:Hid ((Pl.aH (Pl.all s.data.toList)).1=true/\Pl.hk (Pl.aH (Pl.all s.data.toList)).2.1=101->(0<=bG (Pl.took s.data.toList)->((Pl.err s.data.toList).1=3/\((Pl.err s.data.toList).2:Int)=bG (Pl.took s.data.toList)))/\(bG (Pl.took s.data.toList)<0->Pl.err s.data.toList=(0,0))):=fun h=>UI (by omega) h
 rw[hlr] at ll kK;clear hbk kq uI hc hlr uH;generalize bG (Pl.took s.data.toList)=oc at*;generalize(Pl.took s.data.toList).length=tl at*;generalize(Pl.all s.data.toList).length=al at*;cases hb:(Pl.aH (Pl.all s.data.toList)).1
 ·rw[hb] at c2 ll;have jD:Hid (Pl.err s.data.toList=(2,t.pl)):=ll.out (fun h=>by cases h.1)
  clear ll kK
  go_wp2_with fail
  go_quiet (fail)
  go_wp2_with fail
  go_region_held3 (fun w'=>w'.cell? ⟨w1.heap.size,0,none⟩=some (.slice (some ⟨tb,0,none⟩) al cap)/\w'.cell? ⟨w1.heap.size,1,none⟩=some (.int .i64 tl)/\w'.cell? ⟨tb,tl*4+3,none⟩=some (.int .i64 t.pl)) (go_keep) (fail)
  go_wp2_with fail
  refine bodyPost_ret (v:=.tuple #[.agg #[.string ⟨#[]⟩,.slice none 0 0,.int .i64 0],.int .i64 2,.int .i64 t.pl]) (by simp[results,Tryz.results14,go_sem,b0,b1,b2]) rfl ⟨?_,_,_,_,_,by rw[jD.out];rfl,fun h=>by rw[jD.out] at h;cases h⟩
  exact(((o6 ag (nq+1)).setCell (ae _) _).setCell (ae _) _).setCell (ae _) _
 ·rw[hb] at c2 ll kK;by_cases ht:t.k=101
  ·obtain⟨pX,gb⟩:=kK.out ⟨rfl,ht⟩;have qL:Hid (0<=oc->((Pl.err s.data.toList).1=3/\((Pl.err s.data.toList).2:Int)=oc)):=pX;have kz:Hid (oc<0->Pl.err s.data.toList=(0,0)):=gb;rw[ht] at e0;clear ll kK pX gb;by_cases gv:0<=oc
   ·obtain⟨h3,h4⟩:=qL.out gv;have H3:Hid ((Pl.err s.data.toList).1=3):=h3;have H4:Hid (((Pl.err s.data.toList).2:Int)=oc):=h4;clear h3 h4 qL kz
    go_wp2_with fail
    go_quiet (fail)
    go_wp2_with fail
    go_region_held3 (fun w'=>w'.cell? ⟨w1.heap.size,3,none⟩=some (.int .i64 oc)) (go_keep) (fail)
    go_wp2_with fail
    refine bodyPost_ret (v:=.tuple #[.agg #[.string ⟨#[]⟩,.slice none 0 0,.int .i64 0],.int .i64 3,.int .i64 oc]) (by simp[results,Tryz.results14,go_sem,b0,b1,b2]) rfl ⟨?_,_,_,_,_,by rw[H3.out,H4.out];rfl,fun h=>by rw[H3.out] at h;cases h⟩
    exact(((o6 ag (nq+1)).setCell (ae _) _).setCell (ae _) _).setCell (ae _) _
   ·have jD:Hid (Pl.err s.data.toList=(0,0)):=kz.out (by omega)
    clear qL kz
    go_wp2_with fail
    go_quiet (fail)
    go_wp2_with fail
    refine bodyPost_ret (v:=.tuple #[.agg #[.string ⟨#[80,79,76,89,71,79,78]⟩,.slice (some ⟨w3.heap.size,0,none⟩) 1 1,.int .i64 0],.int .i64 0,.int .i64 0]) (by simp[results,Tryz.results14,go_sem,b0,b1,b2]) rfl ⟨?_,_,_,_,_,by rw[jD.out];rfl,fun _=>⟨rfl,?_⟩⟩
    ·exact(((o6 ag nq).setCell (ae _) _).setCell (ae _) _).setCell (ae _) _
    ·rw[<-hxv.out hb];refine Db _ _ _ _ MC.out fun k cur e kL he=>?_
     have hkb:k≠w.heap.size:=fun ek=>by
      rw[ek,hbW] at kL;injection kL with kL;injection kL with _ kL _;rw[<-kL] at he;simp at he
     exact(bg hkb _).trans ((bg hkb _).trans (bg hkb _))
  ·have jD:Hid (Pl.err s.data.toList=(2,t.pl)):=ll.out (fun h=>ht h.2)
   have htk:((t.k:Int) != 101)=true:=by rw[bne_iff_ne];omega
   clear ll kK
   go_wp2_with fail
   go_quiet (fail)
   go_wp2_with fail
   go_region_held3 (fun w'=>w'.cell? ⟨w1.heap.size,0,none⟩=some (.slice (some ⟨tb,0,none⟩) al cap)/\w'.cell? ⟨w1.heap.size,1,none⟩=some (.int .i64 tl)/\w'.cell? ⟨tb,tl*4+3,none⟩=some (.int .i64 t.pl)) (go_keep) (fail)
   go_wp2_with fail
   refine bodyPost_ret (v:=.tuple #[.agg #[.string ⟨#[]⟩,.slice none 0 0,.int .i64 0],.int .i64 2,.int .i64 t.pl]) (by simp[results,Tryz.results14,go_sem,b0,b1,b2]) rfl ⟨?_,_,_,_,_,by rw[jD.out];rfl,fun h=>by rw[jD.out] at h;cases h⟩
   exact(((o6 ag (nq+1)).setCell (ae _) _).setCell (ae _) _).setCell (ae _) _
theorem afp(s:ByteArray)(w:World)(hs:s.size<=400)(hw0:(Pl.wd Pl.bp (Pl.all s.data.toList)).1=false)(hw:(Pl.wd Pl.cJ (Pl.all s.data.toList)).1=false):
  Calls Tryz.prog 14 #[.string s] w fun e w'=>Below w.heap.size w w'/\(Pl.err s.data.toList).1≠0/\∃W so pn pc,e=.returned (.tuple #[.agg #[.string W,.slice so pn pc,.int .i64 0],.int .i64 (Pl.err s.data.toList).1,.int .i64 (Pl.err s.data.toList).2]):=by
 have hsz:s.data.toList.length=s.size:=by simp
 have n9:(Pl.all s.data.toList).length<=402:=by have:=Pl.xL s.data.toList;omega
 have pW:0<(Pl.all s.data.toList).length:=by
  obtain⟨r,hr⟩:=C6 s.data.toList;rw[hr];simp
 have qK:=Pl.xK s.data.toList;have hpw:Pl.aH (Pl.all s.data.toList)=(false,Pl.all s.data.toList,[]):=by
  unfold Pl.aH;rw[if_neg (by rw[hw0];simp),if_neg (by rw[hw];simp)]
 have sB:Hid (Pl.aH (Pl.all s.data.toList)=(false,Pl.all s.data.toList,[])):=hpw;have Dl:Hid ((Pl.wd Pl.bp (Pl.all s.data.toList)).1=false):=hw0;have Al:Hid ((Pl.wd Pl.cJ (Pl.all s.data.toList)).1=false):=hw;obtain⟨r,hr⟩:=C6 s.data.toList;generalize Pl.tk s.data.toList 0=t at hr;have jD:Hid (Pl.err s.data.toList=(2,t.pl)):=by
  show _=_;rw[MB (by omega) (by rw[hpw];simp),hpw]
  simp only;rw[hr];rfl
 have HR:Hid (Pl.all s.data.toList=t::r):=hr;clear hpw hw hw0 hr
 go_enter Tryz.func14,Tryz.ntmps14
 go_wp2_with fail
 refine(Mg s _ hs).mono ?_;rintro e w1 ⟨v,rfl,hown,hb1⟩;obtain⟨tb,cap,rfl,jg,Di,eK⟩:=PS.fresh pW hown;have hs1:=hb1.size;simp at hs1 Di
 go_wp2_with fail
 have eF:=(eK _ rfl).alloc (.cells #[.string ⟨#[]⟩,.slice none 0 0,.int .i64 0] 29);refine(yi w1.heap.size tb cap s.data.toList _ _ _ Pl.bp qK eF n9).mono ?_;rintro e w2' ⟨rfl,Am,Hy⟩;rw[Dl.out];rw[uB Dl.out] at Am
 go_wp2_with fail
 refine(yi w1.heap.size tb cap s.data.toList _ _ _ Pl.cJ qK Am n9).mono ?_;rintro e w3 ⟨rfl,iD,Hz⟩;have hf:=Hy.trans Hz;rw[Al.out];rw[uB Al.out] at iD;have hs3:=hf.size;simp at hs3;have hb0:w3.heap[w.heap.size]?=some (.cells #[.string ⟨#[]⟩,.slice none 0 0,.int .i64 0] 29 (0,0)):=by
  rw[hf.block w.heap.size (by simp;omega) (by omega),Below.heap_alloc _ _ _ (by simp;omega),Below.heap_alloc _ _ _ (by omega),hb1.block w.heap.size (by simp)]
  exact heap_alloc_new w _
 have MD:=iD;rw[HR.out] at MD;rw[<-HR.out] at MD;obtain⟨c,hc,hbk⟩:=iD.box;have hc0:c=[]:=by
  have:=congrArg List.length hc;simp at this;exact this
 subst hc0;have ag:Below w.heap.size w w3:=by
  have q1:Below w.heap.size w w1:=((Below.refl _ w).alloc (ae _) _).trans (hb1.mono (by simp))
  exact((q1.alloc (by omega) (.cells #[.slice (some ⟨tb,0,none⟩) (Pl.all s.data.toList).length cap,.int .i64 0,.bool false,.int .i64 (-1)] 55)).alloc (by simp;omega) (.cells #[.string ⟨#[]⟩,.slice none 0 0,.int .i64 0] 29)).trans (hf.below w.heap.size (by omega) (by simp;omega))
 have anT:w3.cell? ⟨w1.heap.size,2,none⟩=some (.bool false):=cell_of hbk 2;have anU:w3.frozen? ⟨w1.heap.size,2,none⟩=false:=aB hbk 2;have UM:PS w1.heap.size tb cap (Pl.all s.data.toList) (t::r) true (w3.setCell ⟨w1.heap.size,2,none⟩ (.bool true)):=by
  have q:=iD.put (bad':=true) [] (l':=t::r) (by rw[HR.out];rfl) (fun k hk hne=>bg hne (.bool true)) (heap_set (o:=2) hbk (.bool true))
  exact q
 obtain⟨c,hc,hbk2,e0,e1,e2,e3,hcl,htl⟩:=UM.cells;have hc0:c=[]:=by
  have:=congrArg List.length hc;rw[HR.out] at this;simp at this;exact this
 subst hc0;have hbW:(w3.setCell ⟨w1.heap.size,2,none⟩ (.bool true)).heap[w.heap.size]?=some (.cells #[.string ⟨#[]⟩,.slice none 0 0,.int .i64 0] 29 (0,0)):=(bg (by omega) _).trans hb0
 have afq:=ag.setCell (p:=⟨w1.heap.size,2,none⟩) (by show w.heap.size<=w1.heap.size;omega) (.bool true)
 clear iD MD hf Hy Hz Am eF eK hown UM hbk hb0 ag
 go_wp2_with fail
 generalize w3.setCell ⟨w1.heap.size,2,none⟩ (.bool true)=W at*;have c0:W.cell? ⟨w1.heap.size,0,none⟩=some (.slice (some ⟨tb,0,none⟩) (Pl.all s.data.toList).length cap):=cell_of hbk2 0;have c1:W.cell? ⟨w1.heap.size,1,none⟩=some (.int .i64 0):=cell_of hbk2 1;have c2:W.cell? ⟨w1.heap.size,2,none⟩=some (.bool true):=cell_of hbk2 2;have b0:W.cell? ⟨w.heap.size,0,none⟩=some (.string ⟨#[]⟩):=cell_of hbW 0;have b1:W.cell? ⟨w.heap.size,1,none⟩=some (.slice none 0 0):=cell_of hbW 1;have b2:W.cell? ⟨w.heap.size,2,none⟩=some (.int .i64 0):=cell_of hbW 2;have UJ:W.frozen? ⟨w.heap.size,0,none⟩=false:=aB hbW 0;have UK:W.frozen? ⟨w.heap.size,1,none⟩=false:=aB hbW 1;have UL:W.frozen? ⟨w.heap.size,2,none⟩=false:=aB hbW 2;have e3':W.cell? ⟨tb,3,none⟩=some (.int .i64 t.pl):=by simpa using e3
 have hib:(0:Int)<((Pl.all s.data.toList).length:Int):=by omega
 have hin:0<(Pl.all s.data.toList).length:=pW;have yj:w.heap.size≠w1.heap.size:=by omega
 have Dk:w.heap.size≠tb:=by omega
 clear hbk2 hbW e0 e1 e2 e3;generalize(Pl.all s.data.toList).length=al at*
 go_quiet (fail)
 go_wp2_with fail
 go_region_held3 (fun w'=>w'.cell? ⟨w1.heap.size,0,none⟩=some (.slice (some ⟨tb,0,none⟩) al cap)/\w'.cell? ⟨w1.heap.size,1,none⟩=some (.int .i64 0)/\w'.cell? ⟨tb,3,none⟩=some (.int .i64 t.pl)) (go_keep) (fail)
 go_wp2_with fail
 refine bodyPost_ret (v:=.tuple #[.agg #[.string ⟨#[]⟩,.slice none 0 0,.int .i64 0],.int .i64 2,.int .i64 t.pl]) (by simp[results,Tryz.results14,go_sem,b0,b1,b2]) rfl ⟨?_,by rw[jD.out];simp,_,_,_,_,by rw[jD.out];rfl⟩
 exact(((o6 afq (nq+1)).setCell (ae _) _).setCell (ae _) _).setCell (ae _) _
theorem afr(s:ByteArray)(w:World)(hs:s.size<=400)(hw0:(Pl.wd Pl.bp (Pl.all s.data.toList)).1=false)(hw:(Pl.wd Pl.cJ (Pl.all s.data.toList)).1=true):
  Calls Tryz.prog 14 #[.string s] w fun e w'=>Below w.heap.size w w'/\∃W so pn pc,e=.returned (.tuple #[.agg #[.string W,.slice so pn pc,.int .i64 0],.int .i64 (Pl.err s.data.toList).1,.int .i64 (Pl.err s.data.toList).2])/\
   ((Pl.err s.data.toList).1=0->W=⟨Pl.cJ.toArray⟩/\kI w' (.slice so pn pc) (Pl.aH (Pl.all s.data.toList)).2.2):=by
 have hsz:s.data.toList.length=s.size:=by simp
 have n9:(Pl.all s.data.toList).length<=402:=by have:=Pl.xL s.data.toList;omega
 have pW:0<(Pl.all s.data.toList).length:=by
  obtain⟨r,hr⟩:=C6 s.data.toList;rw[hr];simp
 have qK:=Pl.xK s.data.toList;have hg1:=Pl.Ae (q:=Pl.cJ) qK;have kG:=Pl.wj hw;have hpw:Pl.aH (Pl.all s.data.toList)=Pl.eJ (Pl.wd Pl.cJ (Pl.all s.data.toList)).2:=by
  unfold Pl.aH;rw[if_neg (by rw[hw0];simp),if_pos hw]
 have sB:Hid (Pl.aH (Pl.all s.data.toList)=Pl.eJ (Pl.wd Pl.cJ (Pl.all s.data.toList)).2):=hpw;have Dl:Hid ((Pl.wd Pl.bp (Pl.all s.data.toList)).1=false):=hw0;have Al:Hid ((Pl.wd Pl.cJ (Pl.all s.data.toList)).1=true):=hw;clear hpw hw hw0
 go_enter Tryz.func14,Tryz.ntmps14
 go_wp2_with fail
 refine(Mg s _ hs).mono ?_;rintro e w1 ⟨v,rfl,hown,hb1⟩;obtain⟨tb,cap,rfl,jg,Di,eK⟩:=PS.fresh pW hown;have hs1:=hb1.size;simp at hs1 Di
 go_wp2_with fail
 have eF:=(eK _ rfl).alloc (.cells #[.string ⟨#[]⟩,.slice none 0 0,.int .i64 0] 29);refine(yi w1.heap.size tb cap s.data.toList _ _ _ Pl.bp qK eF n9).mono ?_;rintro e w2' ⟨rfl,Am,Hy⟩;rw[Dl.out];rw[uB Dl.out] at Am
 go_wp2_with fail
 refine(yi w1.heap.size tb cap s.data.toList _ _ _ Pl.cJ qK Am n9).mono ?_;rintro e w2 ⟨rfl,dQ,Hz⟩;have hf2:=Hy.trans Hz;rw[Al.out]
 go_wp2_with fail
 refine(afm w1.heap.size tb cap s.data.toList _ _ _ hg1.2 dQ n9 (by omega)).mono ?_
 rintro e w3 ⟨v3,rfl,iD,hf3,⟨so,n3,uJ,rfl⟩,x3,hx3,lj⟩;have hf:=hf2.trans hf3;have hs3:=hf.size;simp at hs3;have ko:w3.heap[w1.heap.size+1]?=some (.cells #[.string ⟨#[]⟩,.slice none 0 0,.int .i64 0] 29 (0,0)):=by
  rw[hf.block (w1.heap.size+1) (by simp) (by omega)]
  have:=heap_alloc_new (w1.alloc (.cells #[.slice (some ⟨tb,0,none⟩) (Pl.all s.data.toList).length cap,.int .i64 0,.bool false,.int .i64 (-1)] 55)) (.cells #[.string ⟨#[]⟩,.slice none 0 0,.int .i64 0] 29);simpa using this
 have hb0:w3.heap[w.heap.size]?=some (.cells #[.string ⟨#[]⟩,.slice none 0 0,.int .i64 0] 29 (0,0)):=by
  rw[hf.block w.heap.size (by simp;omega) (by omega),Below.heap_alloc _ _ _ (by simp;omega),Below.heap_alloc _ _ _ (by omega),hb1.block w.heap.size (by simp)]
  exact heap_alloc_new w _
 have h0:w3.cell? ⟨w1.heap.size+1,0,none⟩=some (.string ⟨#[]⟩):=cell_of ko 0;have h1:w3.cell? ⟨w1.heap.size+1,1,none⟩=some (.slice none 0 0):=cell_of ko 1;have h2:w3.cell? ⟨w1.heap.size+1,2,none⟩=some (.int .i64 0):=cell_of ko 2;have k0:w3.frozen? ⟨w1.heap.size+1,0,none⟩=false:=aB ko 0;have k1:w3.frozen? ⟨w1.heap.size+1,1,none⟩=false:=aB ko 1;have k2:w3.frozen? ⟨w1.heap.size+1,2,none⟩=false:=aB ko 2;have hlb:w1.heap.size+1<w3.heap.size:=by omega
 have GC:Hid ((Pl.eJ (Pl.wd Pl.cJ (Pl.all s.data.toList)).2).1=true->x3=(Pl.eJ (Pl.wd Pl.cJ (Pl.all s.data.toList)).2).2.2):=lj;clear lj
 go_wp2_with fail
 have Dj:PS w1.heap.size tb cap (Pl.all s.data.toList) (Pl.eJ (Pl.wd Pl.cJ (Pl.all s.data.toList)).2).2.1 (!(Pl.eJ (Pl.wd Pl.cJ (Pl.all s.data.toList)).2).1) (((w3.setCell ⟨w1.heap.size+1,0,none⟩ (.string ⟨#[77,85,76,84,73,80,79,76,89,71,79,78]⟩)).setCell ⟨w1.heap.size+1,1,none⟩ (.slice so n3 uJ)).setCell ⟨w1.heap.size+1,2,none⟩ (.int .i64 0)):=
  iD.UH jg (fun k hk=>(bg (by omega) _).trans ((bg (by omega) _).trans (bg (by omega) _)))
 have hbW:=((bg (b:=w1.heap.size+1) (o:=2) (by omega) (.int .i64 0)).trans ((bg (b:=w1.heap.size+1) (o:=1) (by omega) (.slice so n3 uJ)).trans ((bg (b:=w1.heap.size+1) (o:=0) (by omega) (.string ⟨#[77,85,76,84,73,80,79,76,89,71,79,78]⟩)).trans hb0)))
 have uH:=(heap_set (o:=2) (heap_set (o:=1) (heap_set (o:=0) ko (.string ⟨#[77,85,76,84,73,80,79,76,89,71,79,78]⟩)) (.slice so n3 uJ)) (.int .i64 0));have ag:Below w.heap.size w (((w3.setCell ⟨w1.heap.size+1,0,none⟩ (.string ⟨#[77,85,76,84,73,80,79,76,89,71,79,78]⟩)).setCell ⟨w1.heap.size+1,1,none⟩ (.slice so n3 uJ)).setCell ⟨w1.heap.size+1,2,none⟩ (.int .i64 0)):=by
  have q1:Below w.heap.size w w1:=((Below.refl _ w).alloc (ae _) _).trans (hb1.mono (by simp))
  have q2:=((q1.alloc (by omega) (.cells #[.slice (some ⟨tb,0,none⟩) (Pl.all s.data.toList).length cap,.int .i64 0,.bool false,.int .i64 (-1)] 55)).alloc (by simp;omega) (.cells #[.string ⟨#[]⟩,.slice none 0 0,.int .i64 0] 29)).trans (hf.below w.heap.size (by omega) (by simp;omega))
  exact((q2.setCell (by show w.heap.size<=w1.heap.size+1;omega) _).setCell (by show w.heap.size<=w1.heap.size+1;omega) _).setCell (by show w.heap.size<=w1.heap.size+1;omega) _
 have MC:Hid (kI (((w3.setCell ⟨w1.heap.size+1,0,none⟩ (.string ⟨#[77,85,76,84,73,80,79,76,89,71,79,78]⟩)).setCell ⟨w1.heap.size+1,1,none⟩ (.slice so n3 uJ)).setCell ⟨w1.heap.size+1,2,none⟩ (.int .i64 0)) (.slice so n3 uJ) x3):=by
  refine Db _ _ _ _ hx3 fun k cur e hc he=>?_
  have hkb:k≠w1.heap.size+1:=fun ek=>by
   rw[ek,ko] at hc;injection hc with hc;injection hc with _ hc _;rw[<-hc] at he;simp at he
  exact(bg hkb _).trans ((bg hkb _).trans (bg hkb _))
 have uI:=Dj;rw[show(Pl.eJ (Pl.wd Pl.cJ (Pl.all s.data.toList)).2).2.1=(Pl.aH (Pl.all s.data.toList)).2.1 from by rw[sB.out],show(Pl.eJ (Pl.wd Pl.cJ (Pl.all s.data.toList)).2).1=(Pl.aH (Pl.all s.data.toList)).1 from by rw[sB.out]] at uI
 have hxv:Hid ((Pl.aH (Pl.all s.data.toList)).1=true->x3=(Pl.aH (Pl.all s.data.toList)).2.2):=fun h=>by
  have h':=h;rw[sB.out] at h'⊢;exact GC.out h'
 clear Dj h0 h1 h2 k0 k1 k2 ko hb0 hx3 iD hf3 hf dQ hf2 eF eK hown;generalize((w3.setCell ⟨w1.heap.size+1,0,none⟩ (.string ⟨#[77,85,76,84,73,80,79,76,89,71,79,78]⟩)).setCell ⟨w1.heap.size+1,1,none⟩ (.slice so n3 uJ)).setCell ⟨w1.heap.size+1,2,none⟩ (.int .i64 0)=W at*;obtain⟨t,r,hlr⟩:∃t r,(Pl.aH (Pl.all s.data.toList)).2.1=t::r:=by
  have hg:=(Pl.Ho _ qK).2;cases hq:(Pl.aH (Pl.all s.data.toList)).2.1 with
  |nil=>rw[hq] at hg;exact hg.elim
  |cons t r=>exact⟨t,r,rfl⟩
 have hbk:=uI.took;have kq:=uI;rw[hlr] at kq;obtain⟨c,hc,_,e0,e1,e2,e3,hcl,htl⟩:=kq.cells;have hcc:c=Pl.took s.data.toList:=BR (hc.trans (by rw[<-hlr];exact(Pl.Af s.data.toList).symm))
 subst hcc;have c0:W.cell? ⟨w1.heap.size,0,none⟩=some (.slice (some ⟨tb,0,none⟩) (Pl.all s.data.toList).length cap):=cell_of hbk 0;have c1:W.cell? ⟨w1.heap.size,1,none⟩=some (.int .i64 (Pl.took s.data.toList).length):=cell_of hbk 1;have c2:W.cell? ⟨w1.heap.size,2,none⟩=some (.bool (!(Pl.aH (Pl.all s.data.toList)).1)):=cell_of hbk 2;have c3:W.cell? ⟨w1.heap.size,3,none⟩=some (.int .i64 (bG (Pl.took s.data.toList))):=cell_of hbk 3;have b0:W.cell? ⟨w.heap.size,0,none⟩=some (.string ⟨#[]⟩):=cell_of hbW 0;have b1:W.cell? ⟨w.heap.size,1,none⟩=some (.slice none 0 0):=cell_of hbW 1;have b2:W.cell? ⟨w.heap.size,2,none⟩=some (.int .i64 0):=cell_of hbW 2;have UJ:W.frozen? ⟨w.heap.size,0,none⟩=false:=aB hbW 0;have UK:W.frozen? ⟨w.heap.size,1,none⟩=false:=aB hbW 1;have UL:W.frozen? ⟨w.heap.size,2,none⟩=false:=aB hbW 2;have x0:W.cell? ⟨w1.heap.size+1,0,none⟩=some (.string ⟨#[77,85,76,84,73,80,79,76,89,71,79,78]⟩):=cell_of uH 0;have x1:W.cell? ⟨w1.heap.size+1,1,none⟩=some (.slice so n3 uJ):=cell_of uH 1;have x2:W.cell? ⟨w1.heap.size+1,2,none⟩=some (.int .i64 0):=cell_of uH 2;have hib:((Pl.took s.data.toList).length:Int)<((Pl.all s.data.toList).length:Int):=by omega
 have hin:(Pl.took s.data.toList).length<(Pl.all s.data.toList).length:=hcl;have yj:w.heap.size≠w1.heap.size:=by omega
 have Dk:w.heap.size≠tb:=by omega
 have ll:Hid (¬((Pl.aH (Pl.all s.data.toList)).1=true/\Pl.hk (Pl.aH (Pl.all s.data.toList)).2.1=101)->Pl.err s.data.toList=(2,Pl.hpl (Pl.aH (Pl.all s.data.toList)).2.1)):=MB (by omega)
 have kK:Hid ((Pl.aH (Pl.all s.data.toList)).1=true/\Pl.hk (Pl.aH (Pl.all s.data.toList)).2.1=101->(0<=bG (Pl.took s.data.toList)->((Pl.err s.data.toList).1=3/\((Pl.err s.data.toList).2:Int)=bG (Pl.took s.data.toList)))/\(bG (Pl.took s.data.toList)<0->Pl.err s.data.toList=(0,0))):=fun h=>UI (by omega) h
 rw[hlr] at ll kK;clear hbk kq uI hc hlr uH;generalize bG (Pl.took s.data.toList)=oc at*;generalize(Pl.took s.data.toList).length=tl at*;generalize(Pl.all s.data.toList).length=al at*;cases hb:(Pl.aH (Pl.all s.data.toList)).1
 ·rw[hb] at c2 ll;have jD:Hid (Pl.err s.data.toList=(2,t.pl)):=ll.out (fun h=>by cases h.1)
  clear ll kK
  go_wp2_with fail
  go_quiet (fail)
  go_wp2_with fail
  go_region_held3 (fun w'=>w'.cell? ⟨w1.heap.size,0,none⟩=some (.slice (some ⟨tb,0,none⟩) al cap)/\w'.cell? ⟨w1.heap.size,1,none⟩=some (.int .i64 tl)/\w'.cell? ⟨tb,tl*4+3,none⟩=some (.int .i64 t.pl)) (go_keep) (fail)
  go_wp2_with fail
  refine bodyPost_ret (v:=.tuple #[.agg #[.string ⟨#[]⟩,.slice none 0 0,.int .i64 0],.int .i64 2,.int .i64 t.pl]) (by simp[results,Tryz.results14,go_sem,b0,b1,b2]) rfl ⟨?_,_,_,_,_,by rw[jD.out];rfl,fun h=>by rw[jD.out] at h;cases h⟩
  exact(((o6 ag (nq+1)).setCell (ae _) _).setCell (ae _) _).setCell (ae _) _
 ·rw[hb] at c2 ll kK;by_cases ht:t.k=101
  ·obtain⟨pX,gb⟩:=kK.out ⟨rfl,ht⟩;have qL:Hid (0<=oc->((Pl.err s.data.toList).1=3/\((Pl.err s.data.toList).2:Int)=oc)):=pX;have kz:Hid (oc<0->Pl.err s.data.toList=(0,0)):=gb;rw[ht] at e0;clear ll kK pX gb;by_cases gv:0<=oc
   ·obtain⟨h3,h4⟩:=qL.out gv;have H3:Hid ((Pl.err s.data.toList).1=3):=h3;have H4:Hid (((Pl.err s.data.toList).2:Int)=oc):=h4;clear h3 h4 qL kz
    go_wp2_with fail
    go_quiet (fail)
    go_wp2_with fail
    go_region_held3 (fun w'=>w'.cell? ⟨w1.heap.size,3,none⟩=some (.int .i64 oc)) (go_keep) (fail)
    go_wp2_with fail
    refine bodyPost_ret (v:=.tuple #[.agg #[.string ⟨#[]⟩,.slice none 0 0,.int .i64 0],.int .i64 3,.int .i64 oc]) (by simp[results,Tryz.results14,go_sem,b0,b1,b2]) rfl ⟨?_,_,_,_,_,by rw[H3.out,H4.out];rfl,fun h=>by rw[H3.out] at h;cases h⟩
    exact(((o6 ag (nq+1)).setCell (ae _) _).setCell (ae _) _).setCell (ae _) _
   ·have jD:Hid (Pl.err s.data.toList=(0,0)):=kz.out (by omega)
    clear qL kz
    go_wp2_with fail
    go_quiet (fail)
    go_wp2_with fail
    refine bodyPost_ret (v:=.tuple #[.agg #[.string ⟨#[77,85,76,84,73,80,79,76,89,71,79,78]⟩,.slice so n3 uJ,.int .i64 0],.int .i64 0,.int .i64 0]) (by simp[results,Tryz.results14,go_sem,b0,b1,b2]) rfl ⟨?_,_,_,_,_,by rw[jD.out];rfl,fun _=>⟨rfl,?_⟩⟩
    ·exact(((o6 ag nq).setCell (ae _) _).setCell (ae _) _).setCell (ae _) _
    ·rw[<-hxv.out hb];refine Db _ _ _ _ MC.out fun k cur e kL he=>?_
     have hkb:k≠w.heap.size:=fun ek=>by
      rw[ek,hbW] at kL;injection kL with kL;injection kL with _ kL _;rw[<-kL] at he;simp at he
     exact(bg hkb _).trans ((bg hkb _).trans (bg hkb _))
  ·have jD:Hid (Pl.err s.data.toList=(2,t.pl)):=ll.out (fun h=>ht h.2)
   have htk:((t.k:Int) != 101)=true:=by rw[bne_iff_ne];omega
   clear ll kK
   go_wp2_with fail
   go_quiet (fail)
   go_wp2_with fail
   go_region_held3 (fun w'=>w'.cell? ⟨w1.heap.size,0,none⟩=some (.slice (some ⟨tb,0,none⟩) al cap)/\w'.cell? ⟨w1.heap.size,1,none⟩=some (.int .i64 tl)/\w'.cell? ⟨tb,tl*4+3,none⟩=some (.int .i64 t.pl)) (go_keep) (fail)
   go_wp2_with fail
   refine bodyPost_ret (v:=.tuple #[.agg #[.string ⟨#[]⟩,.slice none 0 0,.int .i64 0],.int .i64 2,.int .i64 t.pl]) (by simp[results,Tryz.results14,go_sem,b0,b1,b2]) rfl ⟨?_,_,_,_,_,by rw[jD.out];rfl,fun h=>by rw[jD.out] at h;cases h⟩
   exact(((o6 ag (nq+1)).setCell (ae _) _).setCell (ae _) _).setCell (ae _) _
theorem afs(s:ByteArray)(w:World)(hm:s.size<=maxLen):
  Calls Tryz.prog 14 #[.string s] w fun e w'=>Below w.heap.size w w'/\∃W so pn pc,e=.returned (.tuple #[.agg #[.string W,.slice so pn pc,.int .i64 0],.int .i64 (Pl.err s.data.toList).1,.int .i64 (Pl.err s.data.toList).2])/\
   ((Pl.err s.data.toList).1=0->((∃gs,(Pl.aH (Pl.all s.data.toList)).2.2=[gs]/\W=⟨Pl.bp.toArray⟩/\kI w' (.slice so pn pc) [gs]/\pj gs/\Pl.MA s.data.toList=Pl.bp++([32]++Pl.bH gs))\/
    (W=⟨Pl.cJ.toArray⟩/\kI w' (.slice so pn pc) (Pl.aH (Pl.all s.data.toList)).2.2/\mh (Pl.aH (Pl.all s.data.toList)).2.2/\Pl.MA s.data.toList=Pl.kJ (Pl.aH (Pl.all s.data.toList)).2.2))):=by
 have hsz:s.data.toList.length=s.size:=by simp
 have hpt:(Pl.err s.data.toList).1=0->Pl.MA s.data.toList=Pl.wt (Pl.took s.data.toList):=fun h=>if_pos h
 by_cases hs:400<s.size
 ·have he:Pl.err s.data.toList=(1,0):=by unfold Pl.err;rw[if_pos (by omega)]
  refine(afn s w hs hm).mono ?_;rintro e w' ⟨rfl,hb⟩;exact⟨hb,_,_,_,_,by rw[he];rfl,fun h=>by rw[he] at h;cases h⟩
 ·have hs':s.size<=400:=by omega
  cases hw0:(Pl.wd Pl.bp (Pl.all s.data.toList)).1
  ·cases hw:(Pl.wd Pl.cJ (Pl.all s.data.toList)).1
   ·refine(afp s w hs' hw0 hw).mono ?_;rintro e w' ⟨hb,hne,W,so,pn,pc,rfl⟩;exact⟨hb,W,so,pn,pc,rfl,fun h=>absurd h hne⟩
   ·refine(afr s w hs' hw0 hw).mono ?_;rintro e w' ⟨hb,W,so,pn,pc,rfl,hr⟩;refine⟨hb,W,so,pn,pc,rfl,fun h=>Or.inr ?_⟩
    obtain⟨_,h1,h2⟩:=Pl.UF h hw0;exact⟨(hr h).1,(hr h).2,h1,(hpt h).trans h2⟩
  ·refine(afo s w hs' hw0).mono ?_;rintro e w' ⟨hb,W,so,pn,pc,rfl,hr⟩;refine⟨hb,W,so,pn,pc,rfl,fun h=>Or.inl ?_⟩
   obtain⟨gs,h0,h1,h2⟩:=Pl.UE h hw0;exact⟨gs,h0,(hr h).1,h0▸(hr h).2,h1,(hpt h).trans h2⟩
namespace Pl
def qM(a:Ge.Fr):List UInt8:=if a.2=1 then Lib.itoa a.1 else Lib.itoa a.1++([47]++Lib.itoa a.2)
def iU(q:Ge.Qt):List UInt8:=qM q.1++([32]++qM q.2)
end Pl
end Go.Proofs.YtkjhhooecopolaaGreatDoor

import Derived.Test.YtkjhhooecopolaaGreatDoorYz10
set_option maxRecDepth 100000
set_option maxHeartbeats 4000000
namespace Go.Proofs.YtkjhhooecopolaaGreatDoor
open Go.RowKit
theorem Fp.alloc{pb:Nat}{a w:World}(h:Fp pb a w)(o:Obj):Fp pb a (w.alloc o):=
 ⟨h.os,h.tape,h.output,by simp;exact Nat.le_succ_of_le h.size,fun k hk hne=>(Below.heap_alloc _ _ _ (aQ hk h.size)).trans (h.block k hk hne)⟩
theorem Fp.drew{pb:Nat}{a w:World}(h:Fp pb a w):Fp pb a w.drew:=⟨h.os,h.tape,h.output,h.size,h.block⟩
theorem aff(pb tb cap:Nat)(A r:List Pl.Tk)(t:Pl.Tk)(w:World)(q:ByteArray)(hP:PS pb tb cap A (t::r) false w)(hl:A.length<=402)(hk:t.k=119)(hq:(⟨t.raw.toArray⟩:ByteArray)=q):
  Calls Tryz.prog 29 #[.pointer (some ⟨pb,0,none⟩),.string q] w fun e w'=>e=.returned (.bool true)/\PS pb tb cap A r false w'/\Fp pb w w':=by
 obtain⟨c,hc,hb,e0,e1,e2,e3,hcl,jr⟩:=hP.cells;have HC:Hid (c++t::r=A):=hc;have c0:w.cell? ⟨pb,0,none⟩=some (.slice (some ⟨tb,0,none⟩) A.length cap):=cell_of hb 0;have c1:w.cell? ⟨pb,1,none⟩=some (.int .i64 c.length):=cell_of hb 1;have c2:w.cell? ⟨pb,2,none⟩=some (.bool false):=cell_of hb 2;have c3:w.cell? ⟨pb,3,none⟩=some (.int .i64 (bO c)):=cell_of hb 3;have f1:w.frozen? ⟨pb,1,none⟩=false:=aH hb 1;have f2:w.frozen? ⟨pb,2,none⟩=false:=aH hb 2;have f3:w.frozen? ⟨pb,3,none⟩=false:=aH hb 3;have hib:(c.length:Int)<(A.length:Int):=by omega
 have hpb:pb<w.heap.size:=lt_of_heap hb;clear hc;have HO:Hid (bO (c++[t])=bO c):=MM c t (by omega)
 have hrs:Pl.rS t=t.raw:=by unfold Pl.rS;rw[aa (by omega)]
 rw[hrs,hq] at e1;rw[hk] at e0;clear hk hq hrs
 go_enter Tryz.func29,Tryz.ntmps29
 go_wp2_with fail
 go_quiet (fail)
 go_wp2_with fail
 go_ret
 refine⟨rfl,hP.put (c++[t]) (by rw[<-HC.out];simp) (fun k hk hne=>bu hne _) ?_,((Fp.refl pb w).drewN nq).set 1 _⟩
 have q:=heap_set (w:=w.drewN nq) (o:=1) hb (.int .i64 ((c.length:Int)+1));rw[HO.out];simpa using q
theorem afg(pb tb cap:Nat)(A r:List Pl.Tk)(t:Pl.Tk)(w:World)(q:ByteArray)(hP:PS pb tb cap A (t::r) false w)(_hl:A.length<=402)(hk:t.k≠119):
  Calls Tryz.prog 29 #[.pointer (some ⟨pb,0,none⟩),.string q] w fun e w'=>e=.returned (.bool false)/\∃n,w'=w.drewN n:=by
 obtain⟨c,hc,hb,e0,e1,e2,e3,hcl,jr⟩:=hP.cells;have HC:Hid (c++t::r=A):=hc;have c0:w.cell? ⟨pb,0,none⟩=some (.slice (some ⟨tb,0,none⟩) A.length cap):=cell_of hb 0;have c1:w.cell? ⟨pb,1,none⟩=some (.int .i64 c.length):=cell_of hb 1;have c2:w.cell? ⟨pb,2,none⟩=some (.bool false):=cell_of hb 2;have c3:w.cell? ⟨pb,3,none⟩=some (.int .i64 (bO c)):=cell_of hb 3;have f1:w.frozen? ⟨pb,1,none⟩=false:=aH hb 1;have f2:w.frozen? ⟨pb,2,none⟩=false:=aH hb 2;have f3:w.frozen? ⟨pb,3,none⟩=false:=aH hb 3;have hib:(c.length:Int)<(A.length:Int):=by omega
 have hpb:pb<w.heap.size:=lt_of_heap hb;clear hc;have hkb:((t.k:Int) == 119)=false:=by rw[uv];omega
 clear hk
 go_enter Tryz.func29,Tryz.ntmps29
 go_wp2_with fail
 go_quiet (fail)
 go_wp2_with fail
 go_ret
 exact⟨rfl,_,rfl⟩
theorem afh(pb tb cap:Nat)(A r:List Pl.Tk)(t:Pl.Tk)(w:World)(q:ByteArray)(hP:PS pb tb cap A (t::r) false w)(_hl:A.length<=402)(hk:t.k=119)(hq:((⟨t.raw.toArray⟩:ByteArray).toList == q.toList)=false):
  Calls Tryz.prog 29 #[.pointer (some ⟨pb,0,none⟩),.string q] w fun e w'=>e=.returned (.bool false)/\∃n,w'=w.drewN n:=by
 obtain⟨c,hc,hb,e0,e1,e2,e3,hcl,jr⟩:=hP.cells;have HC:Hid (c++t::r=A):=hc;have c0:w.cell? ⟨pb,0,none⟩=some (.slice (some ⟨tb,0,none⟩) A.length cap):=cell_of hb 0;have c1:w.cell? ⟨pb,1,none⟩=some (.int .i64 c.length):=cell_of hb 1;have c2:w.cell? ⟨pb,2,none⟩=some (.bool false):=cell_of hb 2;have c3:w.cell? ⟨pb,3,none⟩=some (.int .i64 (bO c)):=cell_of hb 3;have f1:w.frozen? ⟨pb,1,none⟩=false:=aH hb 1;have f2:w.frozen? ⟨pb,2,none⟩=false:=aH hb 2;have f3:w.frozen? ⟨pb,3,none⟩=false:=aH hb 3;have hib:(c.length:Int)<(A.length:Int):=by omega
 have hpb:pb<w.heap.size:=lt_of_heap hb;clear hc;have hrs:Pl.rS t=t.raw:=by unfold Pl.rS;rw[aa (by omega)]
 rw[hrs] at e1;rw[hk] at e0;clear hk hrs;generalize(⟨t.raw.toArray⟩:ByteArray)=AH at*
 go_enter Tryz.func29,Tryz.ntmps29
 go_wp2_with fail
 go_quiet (fail)
 go_wp2_with fail
 go_ret
 exact⟨rfl,_,rfl⟩
theorem afi(pb tb cap:Nat)(A r:List Pl.Tk)(t:Pl.Tk)(w:World)(hP:PS pb tb cap A (t::r) true w)(_hl:A.length<=402):
  Calls Tryz.prog 145 #[.pointer (some ⟨pb,0,none⟩)] w fun e w'=>e=.returned (.int .i64 0)/\PS pb tb cap A (t::r) true w'/\Fp pb w w':=by
 obtain⟨c,hc,hb,e0,e1,e2,e3,hcl,jr⟩:=hP.cells;have HC:Hid (c++t::r=A):=hc;have c0:w.cell? ⟨pb,0,none⟩=some (.slice (some ⟨tb,0,none⟩) A.length cap):=cell_of hb 0;have c1:w.cell? ⟨pb,1,none⟩=some (.int .i64 c.length):=cell_of hb 1;have c2:w.cell? ⟨pb,2,none⟩=some (.bool true):=cell_of hb 2;have c3:w.cell? ⟨pb,3,none⟩=some (.int .i64 (bO c)):=cell_of hb 3;have f1:w.frozen? ⟨pb,1,none⟩=false:=aH hb 1;have f2:w.frozen? ⟨pb,2,none⟩=false:=aH hb 2;have f3:w.frozen? ⟨pb,3,none⟩=false:=aH hb 3;have hib:(c.length:Int)<(A.length:Int):=by omega
 have hpb:pb<w.heap.size:=lt_of_heap hb;clear hc;have n0:=World.new_ne w _ c0;have n1:=World.new_ne w _ c1;have n2:=World.new_ne w _ e0;have n3:=World.new_ne w _ e1;have n4:=World.new_ne w _ e2;have n5:=World.new_ne w _ e3
 go_enter Tryz.func145,Tryz.ntmps145
 go_wp2_with fail
 go_region_held3 (fun w'=>w'.cell? ⟨pb,0,none⟩=some (.slice (some ⟨tb,0,none⟩) A.length cap)/\w'.cell? ⟨pb,1,none⟩=some (.int .i64 c.length)/\w'.cell? ⟨tb,c.length*4,none⟩=some (.int .u8 t.k)/\w'.cell? ⟨tb,c.length*4+1,none⟩=some (.string ⟨(Pl.rS t).toArray⟩)/\w'.cell? ⟨tb,c.length*4+2,none⟩=some (.int .i64 t.n)/\w'.cell? ⟨tb,c.length*4+3,none⟩=some (.int .i64 t.pl)) (go_keep) (fail)
 go_wp2_with fail
 go_ret
 refine⟨rfl,hP.put c HC.out (fun k hk hne=>(Below.heap_alloc _ _ _ (by simp;exact hk)).trans (bu hne _)) ?_,(((Fp.refl pb w).set 2 _).alloc _).drew⟩
 exact(Below.heap_alloc _ _ _ (by simp;exact hpb)).trans (heap_set (o:=2) hb (.bool true))
theorem UB(pb tb cap:Nat)(A r:List Pl.Tk)(t:Pl.Tk)(w:World)(hP:PS pb tb cap A (t::r) false w)(_hl:A.length<=402)(hk:t.k≠110):
  Calls Tryz.prog 145 #[.pointer (some ⟨pb,0,none⟩)] w fun e w'=>e=.returned (.int .i64 0)/\PS pb tb cap A (t::r) true w'/\Fp pb w w':=by
 obtain⟨c,hc,hb,e0,e1,e2,e3,hcl,jr⟩:=hP.cells;have HC:Hid (c++t::r=A):=hc;have c0:w.cell? ⟨pb,0,none⟩=some (.slice (some ⟨tb,0,none⟩) A.length cap):=cell_of hb 0;have c1:w.cell? ⟨pb,1,none⟩=some (.int .i64 c.length):=cell_of hb 1;have c2:w.cell? ⟨pb,2,none⟩=some (.bool false):=cell_of hb 2;have c3:w.cell? ⟨pb,3,none⟩=some (.int .i64 (bO c)):=cell_of hb 3;have f1:w.frozen? ⟨pb,1,none⟩=false:=aH hb 1;have f2:w.frozen? ⟨pb,2,none⟩=false:=aH hb 2;have f3:w.frozen? ⟨pb,3,none⟩=false:=aH hb 3;have hib:(c.length:Int)<(A.length:Int):=by omega
 have hpb:pb<w.heap.size:=lt_of_heap hb;clear hc;have hkb:((t.k:Int) != 110)=true:=by rw[vX];omega
 clear hk;have n0:=World.new_ne w _ c0;have n1:=World.new_ne w _ c1;have n2:=World.new_ne w _ e0;have n3:=World.new_ne w _ e1;have n4:=World.new_ne w _ e2;have n5:=World.new_ne w _ e3
 go_enter Tryz.func145,Tryz.ntmps145
 go_wp2_with fail
 go_region_held3 (fun w'=>w'.cell? ⟨pb,0,none⟩=some (.slice (some ⟨tb,0,none⟩) A.length cap)/\w'.cell? ⟨pb,1,none⟩=some (.int .i64 c.length)/\w'.cell? ⟨tb,c.length*4,none⟩=some (.int .u8 t.k)/\w'.cell? ⟨tb,c.length*4+1,none⟩=some (.string ⟨(Pl.rS t).toArray⟩)/\w'.cell? ⟨tb,c.length*4+2,none⟩=some (.int .i64 t.n)/\w'.cell? ⟨tb,c.length*4+3,none⟩=some (.int .i64 t.pl)) (go_keep) (fail)
 go_wp2_with fail
 go_ret
 refine⟨rfl,hP.put c HC.out (fun k hk hne=>(Below.heap_alloc _ _ _ (by simp;exact hk)).trans (bu hne _)) ?_,(((Fp.refl pb w).set 2 _).alloc _).drew⟩
 exact(Below.heap_alloc _ _ _ (by simp;exact hpb)).trans (heap_set (o:=2) hb (.bool true))
theorem afj(pb tb cap:Nat)(A r:List Pl.Tk)(t:Pl.Tk)(w:World)(hP:PS pb tb cap A (t::r) false w)(hl:A.length<=402)(hk:t.k=110)(ho:∀c:List Pl.Tk,c++t::r=A->0<=bO c):
  Calls Tryz.prog 145 #[.pointer (some ⟨pb,0,none⟩)] w fun e w'=>e=.returned (.int .i64 t.n)/\PS pb tb cap A r false w'/\Fp pb w w':=by
 obtain⟨c,hc,hb,e0,e1,e2,e3,hcl,jr⟩:=hP.cells;have HC:Hid (c++t::r=A):=hc;have c0:w.cell? ⟨pb,0,none⟩=some (.slice (some ⟨tb,0,none⟩) A.length cap):=cell_of hb 0;have c1:w.cell? ⟨pb,1,none⟩=some (.int .i64 c.length):=cell_of hb 1;have c2:w.cell? ⟨pb,2,none⟩=some (.bool false):=cell_of hb 2;have c3:w.cell? ⟨pb,3,none⟩=some (.int .i64 (bO c)):=cell_of hb 3;have f1:w.frozen? ⟨pb,1,none⟩=false:=aH hb 1;have f2:w.frozen? ⟨pb,2,none⟩=false:=aH hb 2;have f3:w.frozen? ⟨pb,3,none⟩=false:=aH hb 3;have hib:(c.length:Int)<(A.length:Int):=by omega
 have hpb:pb<w.heap.size:=lt_of_heap hb;clear hc;rw[hk] at e0;have gH:=ho c HC.out;have hd:decide (bO c<0)=false:=by simp;omega
 have HO:Hid (bO (c++[t])=bO c):=by
  show _=_;unfold bO at gH⊢;rw[zR];cases h1:c.find? outT with
  |some u=>rfl
  |none=>rw[h1] at gH;simp at gH
 generalize bO c=oc at*;clear hk;have n0:=World.new_ne w _ c0;have n1:=World.new_ne w _ c1;have n2:=World.new_ne w _ e0;have n3:=World.new_ne w _ e1;have n4:=World.new_ne w _ e2;have n5:=World.new_ne w _ e3
 go_enter Tryz.func145,Tryz.ntmps145
 go_wp2_with fail
 go_region_held3 (fun w'=>w'.cell? ⟨pb,0,none⟩=some (.slice (some ⟨tb,0,none⟩) A.length cap)/\w'.cell? ⟨pb,1,none⟩=some (.int .i64 c.length)/\w'.cell? ⟨tb,c.length*4,none⟩=some (.int .u8 110)/\w'.cell? ⟨tb,c.length*4+1,none⟩=some (.string ⟨(Pl.rS t).toArray⟩)/\w'.cell? ⟨tb,c.length*4+2,none⟩=some (.int .i64 t.n)/\w'.cell? ⟨tb,c.length*4+3,none⟩=some (.int .i64 t.pl)) (go_keep) (fail)
 go_wp2_with fail
 go_ret
 refine⟨rfl,hP.put (c++[t]) (by rw[<-HC.out];simp) (fun k hk hne=>(Below.heap_alloc _ _ _ (by simp;exact hk)).trans (bu hne _)) ?_,(((Fp.refl pb w).set 1 _).alloc _).drew⟩
 have q:=(Below.heap_alloc _ (.cells #[.int .u8 110,.string ⟨(Pl.rS t).toArray⟩,.int .i64 t.n,.int .i64 t.pl] 61) _ (by simp;exact hpb)).trans (heap_set (w:=w) (o:=1) hb (.int .i64 ((c.length:Int)+1)))
 rw[HO.out];simp only[aX,bW,fJ];exact q
theorem afk(pb tb cap:Nat)(A r:List Pl.Tk)(t:Pl.Tk)(w:World)(hP:PS pb tb cap A (t::r) false w)(hl:A.length<=402)(hk:t.k=110)(ho:∀c:List Pl.Tk,c++t::r=A->bO c<0)(hin:kR 50 t.n=true):
  Calls Tryz.prog 145 #[.pointer (some ⟨pb,0,none⟩)] w fun e w'=>e=.returned (.int .i64 t.n)/\PS pb tb cap A r false w'/\Fp pb w w':=by
 obtain⟨c,hc,hb,e0,e1,e2,e3,hcl,jr⟩:=hP.cells;have HC:Hid (c++t::r=A):=hc;have c0:w.cell? ⟨pb,0,none⟩=some (.slice (some ⟨tb,0,none⟩) A.length cap):=cell_of hb 0;have c1:w.cell? ⟨pb,1,none⟩=some (.int .i64 c.length):=cell_of hb 1;have c2:w.cell? ⟨pb,2,none⟩=some (.bool false):=cell_of hb 2;have c3:w.cell? ⟨pb,3,none⟩=some (.int .i64 (bO c)):=cell_of hb 3;have f1:w.frozen? ⟨pb,1,none⟩=false:=aH hb 1;have f2:w.frozen? ⟨pb,2,none⟩=false:=aH hb 2;have f3:w.frozen? ⟨pb,3,none⟩=false:=aH hb 3;have hib:(c.length:Int)<(A.length:Int):=by omega
 have hpb:pb<w.heap.size:=lt_of_heap hb;clear hc;rw[hk] at e0;have gH:=ho c HC.out;have hr:=eW hin;obtain⟨hr1,hr2⟩:=hr;have HO:Hid (bO (c++[t])=bO c):=by
  show _=_;unfold bO at gH⊢;rw[zR];cases h1:c.find? outT with
  |some u=>rfl
  |none=>simp[outT,hin]
 generalize bO c=oc at*;clear hin;clear hk;have n0:=World.new_ne w _ c0;have n1:=World.new_ne w _ c1;have n2:=World.new_ne w _ e0;have n3:=World.new_ne w _ e1;have n4:=World.new_ne w _ e2;have n5:=World.new_ne w _ e3
 go_enter Tryz.func145,Tryz.ntmps145
 go_wp2_with fail
 go_region_held3 (fun w'=>w'.cell? ⟨pb,0,none⟩=some (.slice (some ⟨tb,0,none⟩) A.length cap)/\w'.cell? ⟨pb,1,none⟩=some (.int .i64 c.length)/\w'.cell? ⟨tb,c.length*4,none⟩=some (.int .u8 110)/\w'.cell? ⟨tb,c.length*4+1,none⟩=some (.string ⟨(Pl.rS t).toArray⟩)/\w'.cell? ⟨tb,c.length*4+2,none⟩=some (.int .i64 t.n)/\w'.cell? ⟨tb,c.length*4+3,none⟩=some (.int .i64 t.pl)) (go_keep) (fail)
 go_wp2_with fail
 go_ret
 refine⟨rfl,hP.put (c++[t]) (by rw[<-HC.out];simp) (fun k hk hne=>(Below.heap_alloc _ _ _ (by simp;exact hk)).trans (bu hne _)) ?_,(((Fp.refl pb w).set 1 _).alloc _).drew⟩
 have q:=(Below.heap_alloc _ (.cells #[.int .u8 110,.string ⟨(Pl.rS t).toArray⟩,.int .i64 t.n,.int .i64 t.pl] 61) _ (by simp;exact hpb)).trans (heap_set (w:=w) (o:=1) hb (.int .i64 ((c.length:Int)+1)))
 rw[HO.out];simp only[aX,bW,fJ];exact q
theorem afl(pb tb cap:Nat)(A r:List Pl.Tk)(t:Pl.Tk)(w:World)(hP:PS pb tb cap A (t::r) false w)(hl:A.length<=402)(hk:t.k=110)(ho:∀c:List Pl.Tk,c++t::r=A->bO c<0)(hin:50<t.n):
  Calls Tryz.prog 145 #[.pointer (some ⟨pb,0,none⟩)] w fun e w'=>e=.returned (.int .i64 t.n)/\PS pb tb cap A r false w'/\Fp pb w w':=by
 obtain⟨c,hc,hb,e0,e1,e2,e3,hcl,jr⟩:=hP.cells;have HC:Hid (c++t::r=A):=hc;have c0:w.cell? ⟨pb,0,none⟩=some (.slice (some ⟨tb,0,none⟩) A.length cap):=cell_of hb 0;have c1:w.cell? ⟨pb,1,none⟩=some (.int .i64 c.length):=cell_of hb 1;have c2:w.cell? ⟨pb,2,none⟩=some (.bool false):=cell_of hb 2;have c3:w.cell? ⟨pb,3,none⟩=some (.int .i64 (bO c)):=cell_of hb 3;have f1:w.frozen? ⟨pb,1,none⟩=false:=aH hb 1;have f2:w.frozen? ⟨pb,2,none⟩=false:=aH hb 2;have f3:w.frozen? ⟨pb,3,none⟩=false:=aH hb 3;have hib:(c.length:Int)<(A.length:Int):=by omega
 have hpb:pb<w.heap.size:=lt_of_heap hb;clear hc;rw[hk] at e0;have gH:=ho c HC.out;have HO:Hid (bO (c++[t])=t.pl):=by
  show _=_;unfold bO at gH⊢;rw[zR];cases h1:c.find? outT with
  |some u=>rw[h1] at gH;simp at gH;omega
  |none=>
   have:outT t=true:=by unfold outT kR;simp[hk];omega
   simp[this]
 generalize bO c=oc at*;clear hk;have n0:=World.new_ne w _ c0;have n1:=World.new_ne w _ c1;have n2:=World.new_ne w _ e0;have n3:=World.new_ne w _ e1;have n4:=World.new_ne w _ e2;have n5:=World.new_ne w _ e3
 go_enter Tryz.func145,Tryz.ntmps145
 go_wp2_with fail
 go_region_held3 (fun w'=>w'.cell? ⟨pb,0,none⟩=some (.slice (some ⟨tb,0,none⟩) A.length cap)/\w'.cell? ⟨pb,1,none⟩=some (.int .i64 c.length)/\w'.cell? ⟨tb,c.length*4,none⟩=some (.int .u8 110)/\w'.cell? ⟨tb,c.length*4+1,none⟩=some (.string ⟨(Pl.rS t).toArray⟩)/\w'.cell? ⟨tb,c.length*4+2,none⟩=some (.int .i64 t.n)/\w'.cell? ⟨tb,c.length*4+3,none⟩=some (.int .i64 t.pl)) (go_keep) (fail)
 go_wp2_with fail
 go_ret
 refine⟨rfl,hP.put (c++[t]) (by rw[<-HC.out];simp) (fun k hk hne=>(Below.heap_alloc _ _ _ (by simp;exact hk)).trans ((bu hne _).trans (bu hne _))) ?_,((((Fp.refl pb w).set 1 _).set 3 _).alloc _).drew⟩
 have q:=(Below.heap_alloc _ (.cells #[.int .u8 110,.string ⟨(Pl.rS t).toArray⟩,.int .i64 t.n,.int .i64 t.pl] 61) _ (by simp;exact hpb)).trans (heap_set (o:=3) (heap_set (w:=w) (o:=1) hb (.int .i64 ((c.length:Int)+1))) (.int .i64 t.pl))
 rw[HO.out];simp only[aX,bW,fJ];exact q
theorem afm(pb tb cap:Nat)(A r:List Pl.Tk)(t:Pl.Tk)(w:World)(hP:PS pb tb cap A (t::r) false w)(hl:A.length<=402)(hk:t.k=110)(ho:∀c:List Pl.Tk,c++t::r=A->bO c<0)(hin:t.n< -50):
  Calls Tryz.prog 145 #[.pointer (some ⟨pb,0,none⟩)] w fun e w'=>e=.returned (.int .i64 t.n)/\PS pb tb cap A r false w'/\Fp pb w w':=by
 obtain⟨c,hc,hb,e0,e1,e2,e3,hcl,jr⟩:=hP.cells;have HC:Hid (c++t::r=A):=hc;have c0:w.cell? ⟨pb,0,none⟩=some (.slice (some ⟨tb,0,none⟩) A.length cap):=cell_of hb 0;have c1:w.cell? ⟨pb,1,none⟩=some (.int .i64 c.length):=cell_of hb 1;have c2:w.cell? ⟨pb,2,none⟩=some (.bool false):=cell_of hb 2;have c3:w.cell? ⟨pb,3,none⟩=some (.int .i64 (bO c)):=cell_of hb 3;have f1:w.frozen? ⟨pb,1,none⟩=false:=aH hb 1;have f2:w.frozen? ⟨pb,2,none⟩=false:=aH hb 2;have f3:w.frozen? ⟨pb,3,none⟩=false:=aH hb 3;have hib:(c.length:Int)<(A.length:Int):=by omega
 have hpb:pb<w.heap.size:=lt_of_heap hb;clear hc;rw[hk] at e0;have gH:=ho c HC.out;have aog:decide (50<t.n)=false:=by simp;omega
 have HO:Hid (bO (c++[t])=t.pl):=by
  show _=_;unfold bO at gH⊢;rw[zR];cases h1:c.find? outT with
  |some u=>rw[h1] at gH;simp at gH;omega
  |none=>
   have:outT t=true:=by unfold outT kR;simp[hk];omega
   simp[this]
 generalize bO c=oc at*;clear hk;have n0:=World.new_ne w _ c0;have n1:=World.new_ne w _ c1;have n2:=World.new_ne w _ e0;have n3:=World.new_ne w _ e1;have n4:=World.new_ne w _ e2;have n5:=World.new_ne w _ e3
 go_enter Tryz.func145,Tryz.ntmps145
 go_wp2_with fail
 go_region_held3 (fun w'=>w'.cell? ⟨pb,0,none⟩=some (.slice (some ⟨tb,0,none⟩) A.length cap)/\w'.cell? ⟨pb,1,none⟩=some (.int .i64 c.length)/\w'.cell? ⟨tb,c.length*4,none⟩=some (.int .u8 110)/\w'.cell? ⟨tb,c.length*4+1,none⟩=some (.string ⟨(Pl.rS t).toArray⟩)/\w'.cell? ⟨tb,c.length*4+2,none⟩=some (.int .i64 t.n)/\w'.cell? ⟨tb,c.length*4+3,none⟩=some (.int .i64 t.pl)) (go_keep) (fail)
 go_wp2_with fail
 go_ret
 refine⟨rfl,hP.put (c++[t]) (by rw[<-HC.out];simp) (fun k hk hne=>(Below.heap_alloc _ _ _ (by simp;exact hk)).trans ((bu hne _).trans (bu hne _))) ?_,((((Fp.refl pb w).set 1 _).set 3 _).alloc _).drew⟩
 have q:=(Below.heap_alloc _ (.cells #[.int .u8 110,.string ⟨(Pl.rS t).toArray⟩,.int .i64 t.n,.int .i64 t.pl] 61) _ (by simp;exact hpb)).trans (heap_set (o:=3) (heap_set (w:=w) (o:=1) hb (.int .i64 ((c.length:Int)+1))) (.int .i64 t.pl))
 rw[HO.out];simp only[aX,bW,fJ];exact q
theorem MN(pb tb cap:Nat)(A r:List Pl.Tk)(t:Pl.Tk)(w:World)(hP:PS pb tb cap A (t::r) false w)(hl:A.length<=402)(hk:t.k=110):
  Calls Tryz.prog 145 #[.pointer (some ⟨pb,0,none⟩)] w fun e w'=>e=.returned (.int .i64 t.n)/\PS pb tb cap A r false w'/\Fp pb w w':=by
 obtain⟨c,hc,_⟩:=hP.cells;have UC:∀c':List Pl.Tk,c'++t::r=A->c'=c:=fun c' h=>CC (h.trans hc.symm)
 by_cases h0:0<=bO c
 ·exact afj pb tb cap A r t w hP hl hk (fun c' h=>by rw[UC c' h];exact h0)
 ·have hn:∀c':List Pl.Tk,c'++t::r=A->bO c'<0:=fun c' h=>by rw[UC c' h];omega
  by_cases h1:50<t.n
  ·exact afl pb tb cap A r t w hP hl hk hn h1
  ·by_cases h2:t.n< -50
   ·exact afm pb tb cap A r t w hP hl hk hn h2
   ·exact afk pb tb cap A r t w hP hl hk hn (by unfold kR;simp;omega)
theorem addr_add(g j:Nat):(⟨g,0,none⟩:Addr).add j=⟨g,j,none⟩:=by
 unfold Addr.add;split<;>simp_all
def afn(s:ByteArray)(l':List Pl.Tk)(v:List (List (List (Int×Int))))(w:World)(o:Option Pl.Tk)(e:Ending)(w':World):Prop:=
 Below w.heap.size w w'/\((∃u,o=some u/\e=.returned (.tuple #[.pointer none,.int .i64 3,.int .i64 u.pl]))\/
  (o=none/\∃rb,e=.returned (.tuple #[.pointer (some ⟨rb,0,none⟩),.int .i64 0,.int .i64 0])/\w.heap.size<=rb/\RD rb s (Pl.all s.data.toList) l' v.flatten w'))
theorem MO{α:Type}(p:α->Bool)(c:List α)(k:Nat)(a:α)(h:c[k]?=some a)(hn:(c.take k).find? p=none):
  (p a=false->(c.take (k+1)).find? p=none)/\(p a=true->c.find? p=some a):=by
 have hk:=(bY.1 h).1;have ha:c[k]=a:=(bY.1 h).2;have e:c.take (k+1)=c.take k++[a]:=by rw[oY hk,ha]
 constructor
 ·intro hp;rw[e,zR,hn];simp[hp]
 ·intro hp;have e2:c=(c.take k++[a])++c.drop (k+1):=by rw[<-e,RS]
  rw[e2,zR,zR,hn];simp[hp]
theorem afo(s:ByteArray)(w:World)(hs:s.size<=400)(hG:Gl w)(t:Pl.Tk)(r c:List Pl.Tk)(v:List (List (List (Int×Int))))
  (hp:Pl.aM (Pl.all s.data.toList)=(true,t::r,v))(ht:t.k=101)(hc:c++t::r=Pl.all s.data.toList)(hc0:0<c.length):
  Calls Tryz.prog 33 #[.string s] w (afn s (t::r) v w (c.find? outT)):=by
 have HP:Hid (Pl.aM (Pl.all s.data.toList)=(true,t::r,v)):=hp;have HT:Hid (∀w1,Gl w1->Calls Tryz.prog 60 #[.string s,.int .i64 0] w1 fun e w'=>e=.returned (.agg (fA (Pl.tk s.data.toList 0)))/\Below w1.heap.size w1 w'):=fun w1 g1=>UA s w1 hs g1
 have hk1:(Pl.pk t != 1)=false:=by rw[Pl.Tp.2 ht];rfl
 have HC:Hid (c++t::r=Pl.all s.data.toList):=hc;have hcl:c.length<=402:=by
  have:=Pl.yq s.data.toList;rw[<-hc] at this;simp at this;omega
 clear hp hc ht;generalize hk:Pl.tk s.data.toList 0=t0 at*;have HK:Hid (Pl.tk s.data.toList 0=t0):=hk;unfold fA at HT;clear hk;generalize hF:c.find? outT=F;have HF:Hid (c.find? outT=F):=hF;clear hF
 go_enter Tryz.func33,Tryz.ntmps33
 go_wp2_with fail
 refine(HT.out _ hG).mono ?_;rintro e w1 ⟨rfl,hb1⟩;have cH:Gl w1:=hG.below hb1 hG.sz
 go_wp2_with fail
 have Ih:RD w1.heap.size s (Pl.all s.data.toList) (Pl.all s.data.toList) [] (w1.alloc (.cells (Hm s t0 (.slice none 0 0) (.slice none 0 0)) 80)):=RD.fresh (by rw[HK.out])
 have cx:Cx w1.heap.size s (Pl.all s.data.toList):=Cx.mk' hs cH.sz;refine(Ux Uz w1.heap.size s _ _ _ cx Ih (cH.alloc _)).mono ?_;rintro e w2 ⟨rfl,⟨rg2,cG,hrg2⟩,hb2⟩;rw[HP.out] at cG hrg2⊢;simp only at cG hrg2⊢;have hrg:=hrg2 trivial;subst hrg;clear hrg2 Ih;obtain⟨c',t',r',tv,rv,hc',hl,hbk,hown,Mk⟩:=id cG;injection hl with h1 h2;subst h1 h2;have hcc:c'=c:=by
  have:=HC.out;rw[<-hc'] at this;exact(CC this).symm
 subst hcc;obtain⟨g,cap,rfl,hg1,hg2⟩:=hown.form hc0;have c1:w2.cell? ⟨w1.heap.size,1,none⟩=some (.int .i64 (Pl.pk t)):=cell_of hbk 1;have c5:w2.cell? ⟨w1.heap.size,5,none⟩=some (.slice (some ⟨g,0,none⟩) c'.length cap):=cell_of hbk 5;have hrow:=hown.cells (g:=g) rfl;have iL:Hid (∀j u,(uI c')[j]?=some u->w2.cell? ⟨g,j,none⟩=some u):=fun j u h=>by
  have:=hrow j u h;rwa[addr_add] at this
 have ak:Below w.heap.size w w2:=((hb1.alloc hb1.size _).trans (hb2.mono hb1.size));have hw1:w.heap.size<=w1.heap.size:=hb1.size;clear hrow hown Mk hbk hc' HT HP HK
 go_wp2_with fail
 go_loopg [37] c'.length (fun n i wr=>∃k:Nat,k+n=c'.length/\i=.int .i64 k/\Hid ((c'.take k).find? outT=none)/\Below w2.heap.size w2 wr)
 case atStart=>exact⟨0,by omega,rfl,by show _=_;simp,Below.refl _ _⟩
 case round=>
  obtain⟨k,hkn,rfl,hnone,hbr⟩:=hrel;by_cases hlt:k<c'.length
  ·obtain⟨u,hu⟩:∃u,c'[k]?=some u:=⟨_,aD hlt⟩;have HU:Hid (c'[k]?=some u):=hu;have e0:wr.cell? ⟨g,k*4,none⟩=some (.int .i64 (Pl.pk u)):=by
    rw[hbr.cell (p:=⟨g,k*4,none⟩) hg2];exact iL.out (k*4) (.int .i64 (Pl.pk u)) (by have:=Ig c' k u hu 0 (by omega);rw[ux] at this;rw[this];rfl)
   have e1:wr.cell? ⟨g,k*4+1,none⟩=some (.string ⟨(Pl.fO u).toArray⟩):=by
    rw[hbr.cell (p:=⟨g,k*4+1,none⟩) hg2];exact iL.out (k*4+1) (.string ⟨(Pl.fO u).toArray⟩) (by rw[Ig c' k u hu 1 (by omega)];rfl)
   have e2:wr.cell? ⟨g,k*4+2,none⟩=some (.int .i64 u.n):=by
    rw[hbr.cell (p:=⟨g,k*4+2,none⟩) hg2];exact iL.out (k*4+2) (.int .i64 u.n) (by rw[Ig c' k u hu 2 (by omega)];rfl)
   have e3:wr.cell? ⟨g,k*4+3,none⟩=some (.int .i64 u.pl):=by
    rw[hbr.cell (p:=⟨g,k*4+3,none⟩) hg2];exact iL.out (k*4+3) (.int .i64 u.pl) (by rw[Ig c' k u hu 3 (by omega)];rfl)
   clear hu;by_cases Ik:u.k=110
   ·have sO:Pl.pk u=3:=Pl.Ho.2 Ik;rw[sO] at e0;cases hin:kR 50 u.n
    ·have ho:F=some u:=by
      rw[<-HF.out];exact(MO outT c' k u HU.out hnone.out).2 (by unfold outT;simp[Ik,hin])
     subst ho
     go_wp2_with fail
     refine(Ie u.n 50 _ (by omega) (by omega)).mono ?_
     rintro e w3 ⟨rfl,rfl⟩
     go_wp2_with fail
     go_quiet (fail)
     go_wp2_with fail
     go_ret3
     refine⟨?_,ae ⟨u,rfl,rfl⟩⟩;have q:Below w.heap.size w (wr.alloc (.cells #[.int .i64 3,.string ⟨(Pl.fO u).toArray⟩,.int .i64 u.n,.int .i64 u.pl] 76)):=(ak.trans (hbr.mono ak.size)).alloc (dY ak.size hbr.size) _;exact⟨q.os,q.tape,q.output,q.size,q.block⟩
    ·have hn:Hid ((c'.take (k+1)).find? outT=none):=(MO outT c' k u HU.out hnone.out).1 (by unfold outT;simp[hin])
     go_wp2_with fail
     refine(Ie u.n 50 _ (by omega) (by omega)).mono ?_
     rintro e w3 ⟨rfl,rfl⟩
     go_wp2_with fail
     go_roundg (gk-1)
     case measure=>omega
     case rel=>exact⟨k+1,by omega,by go_num,hn,hbr.alloc hbr.size _⟩
   ·have hn:Hid ((c'.take (k+1)).find? outT=none):=(MO outT c' k u HU.out hnone.out).1 (by unfold outT;simp[Ik])
    have sO:(Pl.pk u == 3)=false:=by
     rw[uv];intro h;exact Ik (Pl.Ho.1 h)
    generalize Pl.pk u=pku at*
    go_wp2_with fail
    go_roundg (gk-1)
    case measure=>omega
    case rel=>exact⟨k+1,by omega,by go_num,hn,hbr.alloc hbr.size _⟩
  ·have ho:F=none:=by
    rw[<-HF.out];have:=hnone.out;rwa[rV (by omega)] at this
   subst ho
   go_wp2_with fail
   go_ret3
   exact⟨ak.trans (hbr.mono ak.size),af ⟨rfl,w1.heap.size,rfl,hw1,cG.below hbr⟩⟩
namespace Pl
def wr(t:Tk):List UInt8:=if t.k=110 then Lib.itoa t.n else fO t
def bb(a b:Tk):Bool:=decide (fO a=[44])||(decide (a.k=110)&&decide (b.k=110))
def fS:Tk->List Tk->List UInt8
 |_,[]=>[]
 |p,t::r=>(if bb p t=true then[32] else[])++(wr t++fS t r)
def wt:List Tk->List UInt8
 |[]=>[]
 |[t]=>wr t
 |a::b::r=>wr a++([32]++(wr b++fS b r))
end Pl
theorem pF{B:Nat}{w w':World}(h:Below B w w')(n:Nat):Below B w (w'.drewN n):=⟨h.os,h.tape,h.output,h.size,h.block⟩
namespace Pl
def Goes(s:List UInt8)(l l':List Tk):Prop:=(∃c,c++l'=l)/\eJ s l'
theorem Goes.refl{s:List UInt8}{l:List Tk}(h:eJ s l):Goes s l l:=⟨⟨[],rfl⟩,h⟩
theorem Goes.trans{s:List UInt8}{a b c:List Tk}(h:Goes s a b)(k:Goes s b c):Goes s a c:=by
 obtain⟨⟨x,hx⟩,_⟩:=h;obtain⟨⟨y,hy⟩,hc⟩:=k;exact⟨⟨x++y,by rw[fI,hy,hx]⟩,hc⟩
theorem Goes.tail{s:List UInt8}{t:Tk}{r:List Tk}(h:eJ s (t::r))(hk:¬(t.k=101\/t.k=120)):Goes s (t::r) r:=by
 obtain⟨u,r',_,_,hc⟩:=S3 s t r h hk;exact⟨⟨[t],rfl⟩,hc⟩
theorem uV{s:List UInt8}{c:Nat}{l:List Tk}(h:eJ s l)(hc:c≠101/\c≠120):Goes s l (mk c l).2:=by
 cases l with
 |nil=>exact h.elim
 |cons t r=>
  by_cases hk:t.k=c
  ·have e:mk c (t::r)=(true,r):=by simp[mk,hk]
   rw[e];exact Goes.tail h (by omega)
  ·have e:mk c (t::r)=(false,t::r):=by simp[mk,hk]
   rw[e];exact Goes.refl h
theorem AJ{s:List UInt8}{q:List UInt8}{l:List Tk}(h:eJ s l):Goes s l (wd q l).2:=by
 cases l with
 |nil=>exact h.elim
 |cons t r=>
  by_cases hk:t.k=119/\t.raw=q
  ·have e:wd q (t::r)=(true,r):=by simp only[wd];rw[ah hk]
   rw[e];exact Goes.tail h (by omega)
  ·have e:wd q (t::r)=(false,t::r):=by simp only[wd];rw[aa hk]
   rw[e];exact Goes.refl h
theorem UD{s:List UInt8}(l:List Tk)(h:eJ s l):Goes s l (cK l).2.1:=by
 match l,h with
 |[],h=>exact h.elim
 |[x],h=>exact Goes.refl h
 |x::y::r,h=>
  by_cases hx:x.k=110
  ·have g1:=Goes.tail h (by omega)
   by_cases hy:y.k=110
   ·have e:cK (x::y::r)=(true,r,(x.n,y.n)):=by simp[cK,hx,hy]
    rw[e];exact g1.trans (Goes.tail g1.2 (by omega))
   ·have e:cK (x::y::r)=(false,y::r,(0,0)):=by simp[cK,hx,hy]
    rw[e];exact g1
  ·have e:cK (x::y::r)=(false,x::y::r,(0,0)):=by simp[cK,hx]
   rw[e];exact Goes.refl h
theorem Il{s:List UInt8}{α:Type}(item:List Tk->Bool×List Tk×α)(hi:∀l,eJ s l->Goes s l (item l).2.1):
  ∀(f:Nat)(l:List Tk)(acc:List α),eJ s l->Goes s l (bV item f l acc).2.1
 |0,l,acc,h=>Goes.refl h
 |f+1,l,acc,h=>by
  have g1:=hi l h;cases h1:(item l).1
  ·rw[wR h1];exact g1
  ·cases h2:(mk 44 (item l).2.1).1
   ·rw[wT h1 h2];exact g1.trans (uV g1.2 (by omega))
   ·rw[wS h1 h2];have g2:=uV (c:=44) g1.2 (by omega)
    exact(g1.trans g2).trans (Il item hi f _ _ g2.2)
theorem UE{s:List UInt8}(l:List Tk)(h:eJ s l):Goes s l (dB l).2.1:=by
 unfold dB;have g1:=uV (c:=40) h (by omega)
 split
 ·split
  ·exact g1.trans (uV g1.2 (by omega))
  ·exact g1.trans (Il cK UD _ _ _ g1.2)
 ·exact Goes.refl h
theorem MQ{s:List UInt8}(l:List Tk)(h:eJ s l):Goes s l (bA l).2.1:=by
 unfold bA;split
 ·exact AJ h
 ·have g1:=uV (c:=40) h (by omega)
  split
  ·exact g1.trans (Il dB UE _ _ _ g1.2)
  ·exact Goes.refl h
theorem afp{s:List UInt8}(l:List Tk)(h:eJ s l):Goes s l (eY l).2.1:=by
 unfold eY;split
 ·exact AJ h
 ·have g1:=uV (c:=40) h (by omega)
  split
  ·exact g1.trans (Il bA MQ _ _ _ g1.2)
  ·exact Goes.refl h
theorem Im{s:List UInt8}(l:List Tk)(h:eJ s l):Goes s l (aM l).2.1:=by
 unfold aM;split
 ·have g1:=AJ (q:=bB) h;exact g1.trans (MQ _ g1.2)
 ·split
  ·have g1:=AJ (q:=cP) h;exact g1.trans (afp _ g1.2)
  ·exact Goes.refl h
theorem afq(l:List Tk)(h:(aM l).1=true):(aM l).2.1.length<l.length:=by
 unfold aM at h⊢;by_cases h1:(wd bB l).1=true
 ·rw[ah h1] at h⊢;have:=wU h1;have:=(Dx _ h).1;simp only;omega
 ·rw[aa h1] at h⊢;by_cases h2:(wd cP l).1=true
  ·rw[ah h2] at h⊢;have:=wU h2;have:=aeX _ h;omega
  ·rw[aa h2] at h;cases h
def hk(l:List Tk):Nat:=match l with |[]=>0|t::_=>t.k
def hpl(l:List Tk):Nat:=match l with |[]=>0|t::_=>t.pl
def took(s:List UInt8):List Tk:=(all s).take ((all s).length-(aM (all s)).2.1.length)
def err(s:List UInt8):Nat×Nat:=
  if 400<s.length then(1,0)
  else if(aM (all s)).1=true/\hk (aM (all s)).2.1=101 then
    (match(took s).find? outT with
     | some u=>(3,u.pl)
     | none=>(0,0))
  else(2,hpl (aM (all s)).2.1)
theorem AK(s:List UInt8):took s++(aM (all s)).2.1=all s:=by
 obtain⟨⟨c,hc⟩,_⟩:=Im (all s) (yo s);unfold took;have:(all s).length=c.length+(aM (all s)).2.1.length:=by
  conv=>lhs;rw[<-hc]
  simp
 rw[this,Nat.add_sub_cancel]
 conv=>lhs;lhs;rw[<-hc]
 rw[List.take_left];exact hc
end Pl
def UF(s:ByteArray)(w:World)(e:Ending)(w':World):Prop:=
 Below w.heap.size w w'/\∃pv,e=.returned (.tuple #[.pointer pv,.int .i64 (Pl.err s.data.toList).1,.int .i64 (Pl.err s.data.toList).2])/\
  ((Pl.err s.data.toList).1=0->∃rb,pv=some ⟨rb,0,none⟩/\w.heap.size<=rb/\RD rb s (Pl.all s.data.toList) (Pl.aM (Pl.all s.data.toList)).2.1 (Pl.aM (Pl.all s.data.toList)).2.2.flatten w')
theorem Io(s:ByteArray)(w:World)(hm:s.size<=maxLen)(hG:Gl w):
  Calls Tryz.prog 33 #[.string s] w (UF s w):=by
 have hsz:s.data.toList.length=s.size:=by simp
 by_cases hs:400<s.size
 ·refine(ae8 s w hs hm).mono ?_;rintro e w' ⟨rfl,rfl⟩;have he:Pl.err s.data.toList=(1,0):=by unfold Pl.err;rw[ah (by omega)]
  refine⟨Below.refl _ _,none,?_,?_⟩
  ·rw[he];rfl
  ·rw[he];intro h;cases h
 ·have hs':s.size<=400:=by omega
  have hg:=Pl.Im (Pl.all s.data.toList) (Pl.yo s.data.toList);have pE:=Pl.AK s.data.toList;have pG:Pl.err s.data.toList=if(Pl.aM (Pl.all s.data.toList)).1=true/\Pl.hk (Pl.aM (Pl.all s.data.toList)).2.1=101 then
    (match(Pl.took s.data.toList).find? outT with |some u=>(3,u.pl)|none=>(0,0)) else(2,Pl.hpl (Pl.aM (Pl.all s.data.toList)).2.1):=by
   unfold Pl.err;rw[aa (by omega)]
  have hlt:=Pl.afq (Pl.all s.data.toList);unfold UF;rcases hp:Pl.aM (Pl.all s.data.toList) with⟨b,l',v⟩;rw[hp] at hg pE pG hlt;simp only at hg pE pG hlt⊢;obtain⟨t,r,rfl⟩:∃t r,l'=t::r:=by
   cases l' with
   |nil=>exact hg.2.elim
   |cons t r=>exact⟨t,r,rfl⟩
  by_cases hok:b=true/\t.k=101
  ·obtain⟨rfl,ht⟩:=hok;have hc0:0<(Pl.took s.data.toList).length:=by
    have h1:=hlt rfl;have h2:=aw List.length pE;simp only[aX] at h2;omega
   refine(afo s w hs' hG t r (Pl.took s.data.toList) v hp ht pE hc0).mono ?_;rintro e w' ⟨ak,hr⟩;rw[ah ⟨rfl,ht⟩] at pG;refine⟨ak,?_⟩;rcases hr with⟨u,hu,rfl⟩|⟨hu,rb,rfl,h1,h2⟩
   ·rw[hu] at pG;simp only at pG;refine⟨none,by rw[pG];rfl,?_⟩
    rw[pG];intro h;cases h
   ·rw[hu] at pG;simp only at pG;exact⟨_,by rw[pG];rfl,fun _=>⟨rb,rfl,h1,h2⟩⟩
  ·rw[aa (by exact hok)] at pG
   refine(ae9 s w hs' hG (t::r) t r b v hp rfl (by
    by_cases hb:b=true
    ·exact af (fun h=>hok ⟨hb,h⟩)
    ·exact ae (by simpa using hb))).mono ?_
   rintro e w' ⟨rfl,ak⟩;refine⟨ak,none,by rw[pG];rfl,?_⟩
   rw[pG];intro h;cases h
theorem PS.lt{pb tb cap:Nat}{A l:List Pl.Tk}{bad:Bool}{w:World}(h:PS pb tb cap A l bad w):pb<w.heap.size:=by
 obtain⟨_,_,c,_,hb⟩:=h;exact lt_of_heap hb
theorem PS.alloc{pb tb cap:Nat}{A l:List Pl.Tk}{bad:Bool}{w:World}(h:PS pb tb cap A l bad w)(o:Obj):PS pb tb cap A l bad (w.alloc o):=
 h.mono fun _ hk=>Below.heap_alloc _ _ _ hk
theorem PS.drewN{pb tb cap:Nat}{A l:List Pl.Tk}{bad:Bool}{w:World}(h:PS pb tb cap A l bad w)(n:Nat):PS pb tb cap A l bad (w.drewN n):=h
theorem PS.box{pb tb cap:Nat}{A l:List Pl.Tk}{bad:Bool}{w:World}(h:PS pb tb cap A l bad w):
  ∃c:List Pl.Tk,c++l=A/\w.heap[pb]?=some (.cells #[.slice (some ⟨tb,0,none⟩) A.length cap,.int .i64 c.length,.bool bad,.int .i64 (bO c)] 55 (0,0)):=by
 obtain⟨_,_,c,hc,hb⟩:=h;exact⟨c,hc,hb⟩
theorem PS.MR{pb tb cap:Nat}{A l:List Pl.Tk}{bad:Bool}{w:World}{T:TypeId}{cs:Array Value}{X Y:Value}(h:PS pb tb cap A l bad w)(b:Nat)(hb:b≠pb)(hT:T=61->False)(dP:w.heap[b]?=some (.cells cs T (0,0))):
  PS pb tb cap A l bad ((w.setCell ⟨b,0,none⟩ X).setCell ⟨b,1,none⟩ Y):=by
 obtain⟨hne,⟨cur,gf,hrow⟩,c,hc,hbk⟩:=h;have jr:tb≠b:=fun e=>by
  rw[e,dP] at gf;injection gf with gf;injection gf with _ gf _;exact hT gf
 exact⟨hne,⟨cur,((bu jr _).trans (bu jr _)).trans gf,hrow⟩,c,hc,((bu (Ne.symm hb) _).trans (bu (Ne.symm hb) _)).trans hbk⟩
def afr(pb tb cap:Nat)(A:List Pl.Tk)(b:Bool)(l':List Pl.Tk)(p:Int×Int)(w:World)(e:Ending)(w':World):Prop:=
 ∃X Y:Int,e=.returned (.agg #[.int .i64 X,.int .i64 Y])/\PS pb tb cap A l' (!b) w'/\Fp pb w w'/\(b=true->(X,Y)=p)
theorem MS{pb:Nat}{w w1 w2:World}{X Y:Value}{o:Obj}(h1:Fp pb (w.alloc o) w1)(h2:Fp pb w1 w2)(_hpb:pb<w.heap.size):
  Fp pb w ((w2.setCell ⟨w.heap.size,0,none⟩ X).setCell ⟨w.heap.size,1,none⟩ Y):=by
 have h:=h1.trans h2;refine⟨h.os,h.tape,h.output,?_,fun k hk hne=>?_⟩
 ·have:=h.size;simp at this⊢;omega
 ·rw[bu (by omega),bu (by omega),h.block k (by simp;omega) hne]
  exact Below.heap_alloc _ _ _ hk
theorem afs(pb tb cap:Nat)(A r:List Pl.Tk)(x y:Pl.Tk)(w:World)(hP:PS pb tb cap A (x::y::r) false w)(hl:A.length<=402)(hx:x.k=110)(hy:y.k=110):
  Calls Tryz.prog 87 #[.pointer (some ⟨pb,0,none⟩)] w fun e w'=>e=.returned (.agg #[.int .i64 (x.n),.int .i64 (y.n)])/\PS pb tb cap A r (!true) w'/\Fp pb w w':=by
 have hpb:=hP.lt
 go_enter Tryz.func87,Tryz.ntmps87
 go_wp2_with fail
 refine(MN pb tb cap A _ x _ (hP.alloc _) hl hx).mono ?_;rintro e w1 ⟨rfl,eN,gI⟩
 go_wp2_with fail
 refine(MN pb tb cap A _ y _ eN hl hy).mono ?_;rintro e w2 ⟨rfl,dW,hf2⟩;have dP:w2.heap[w.heap.size]?=some (.cells #[.int .i64 0,.int .i64 0] 65 (0,0)):=((gI.trans hf2).block w.heap.size (by simp) (by omega)).trans (heap_alloc_new w _)
 have b0:w2.cell? ⟨w.heap.size,0,none⟩=some (.int .i64 0):=cell_of dP 0;have b1:w2.cell? ⟨w.heap.size,1,none⟩=some (.int .i64 0):=cell_of dP 1;have g0:w2.frozen? ⟨w.heap.size,0,none⟩=false:=aH dP 0;have g1:w2.frozen? ⟨w.heap.size,1,none⟩=false:=aH dP 1
 go_wp2_with fail
 refine bodyPost_ret (v:=.agg #[.int .i64 (x.n),.int .i64 (y.n)]) (by simp[results,Tryz.results87,go_sem,b0,b1]) rfl ⟨rfl,?_,MS gI hf2 hpb⟩
 exact dW.MR w.heap.size (by omega) (fun h=>by cases h) dP
theorem afu(pb tb cap:Nat)(A r:List Pl.Tk)(x y:Pl.Tk)(w:World)(hP:PS pb tb cap A (x::y::r) false w)(hl:A.length<=402)(hx:x.k=110)(hy:y.k≠110):
  Calls Tryz.prog 87 #[.pointer (some ⟨pb,0,none⟩)] w fun e w'=>e=.returned (.agg #[.int .i64 (x.n),.int .i64 0])/\PS pb tb cap A (y::r) (!false) w'/\Fp pb w w':=by
 have hpb:=hP.lt
 go_enter Tryz.func87,Tryz.ntmps87
 go_wp2_with fail
 refine(MN pb tb cap A _ x _ (hP.alloc _) hl hx).mono ?_;rintro e w1 ⟨rfl,eN,gI⟩
 go_wp2_with fail
 refine(UB pb tb cap A _ y _ eN hl hy).mono ?_;rintro e w2 ⟨rfl,dW,hf2⟩;have dP:w2.heap[w.heap.size]?=some (.cells #[.int .i64 0,.int .i64 0] 65 (0,0)):=((gI.trans hf2).block w.heap.size (by simp) (by omega)).trans (heap_alloc_new w _)
 have b0:w2.cell? ⟨w.heap.size,0,none⟩=some (.int .i64 0):=cell_of dP 0;have b1:w2.cell? ⟨w.heap.size,1,none⟩=some (.int .i64 0):=cell_of dP 1;have g0:w2.frozen? ⟨w.heap.size,0,none⟩=false:=aH dP 0;have g1:w2.frozen? ⟨w.heap.size,1,none⟩=false:=aH dP 1
 go_wp2_with fail
 refine bodyPost_ret (v:=.agg #[.int .i64 (x.n),.int .i64 0]) (by simp[results,Tryz.results87,go_sem,b0,b1]) rfl ⟨rfl,?_,MS gI hf2 hpb⟩
 exact dW.MR w.heap.size (by omega) (fun h=>by cases h) dP
theorem UG(pb tb cap:Nat)(A r:List Pl.Tk)(x:Pl.Tk)(w:World)(hP:PS pb tb cap A (x::r) false w)(hl:A.length<=402)(hx:x.k≠110):
  Calls Tryz.prog 87 #[.pointer (some ⟨pb,0,none⟩)] w fun e w'=>e=.returned (.agg #[.int .i64 0,.int .i64 0])/\PS pb tb cap A (x::r) (!false) w'/\Fp pb w w':=by
 have hpb:=hP.lt
 go_enter Tryz.func87,Tryz.ntmps87
 go_wp2_with fail
 refine(UB pb tb cap A _ x _ (hP.alloc _) hl hx).mono ?_;rintro e w1 ⟨rfl,eN,gI⟩
 go_wp2_with fail
 refine(afi pb tb cap A _ x _ eN hl).mono ?_;rintro e w2 ⟨rfl,dW,hf2⟩;have dP:w2.heap[w.heap.size]?=some (.cells #[.int .i64 0,.int .i64 0] 65 (0,0)):=((gI.trans hf2).block w.heap.size (by simp) (by omega)).trans (heap_alloc_new w _)
 have b0:w2.cell? ⟨w.heap.size,0,none⟩=some (.int .i64 0):=cell_of dP 0;have b1:w2.cell? ⟨w.heap.size,1,none⟩=some (.int .i64 0):=cell_of dP 1;have g0:w2.frozen? ⟨w.heap.size,0,none⟩=false:=aH dP 0;have g1:w2.frozen? ⟨w.heap.size,1,none⟩=false:=aH dP 1
 go_wp2_with fail
 refine bodyPost_ret (v:=.agg #[.int .i64 0,.int .i64 0]) (by simp[results,Tryz.results87,go_sem,b0,b1]) rfl ⟨rfl,?_,MS gI hf2 hpb⟩
 exact dW.MR w.heap.size (by omega) (fun h=>by cases h) dP
theorem afv(pb tb cap:Nat)(s:List UInt8)(A l:List Pl.Tk)(w:World)(hch:Pl.eJ s l)(hP:PS pb tb cap A l false w)(hl:A.length<=402):
  Calls Tryz.prog 87 #[.pointer (some ⟨pb,0,none⟩)] w (afr pb tb cap A (Pl.cK l).1 (Pl.cK l).2.1 (Pl.cK l).2.2 w):=by
 match l,hP,hch with
 |[],hP,hch=>exact hch.elim
 |[x],hP,hch=>
  have hx:x.k≠110:=by
   have:x.k=101\/x.k=120:=hch;omega
  refine(UG pb tb cap A [] x w hP hl hx).mono ?_;rintro e w' ⟨rfl,h1,h2⟩;exact⟨_,_,rfl,h1,h2,fun h=>by cases h⟩
 |x::y::r,hP,hch=>
  by_cases hx:x.k=110
  ·by_cases hy:y.k=110
   ·have e:Pl.cK (x::y::r)=(true,r,(x.n,y.n)):=by simp[Pl.cK,hx,hy]
    rw[e];refine(afs pb tb cap A r x y w hP hl hx hy).mono ?_;rintro e w' ⟨rfl,h1,h2⟩;exact⟨_,_,rfl,h1,h2,fun _=>rfl⟩
   ·have e:Pl.cK (x::y::r)=(false,y::r,(0,0)):=by simp[Pl.cK,hx,hy]
    rw[e];refine(afu pb tb cap A r x y w hP hl hx hy).mono ?_;rintro e w' ⟨rfl,h1,h2⟩;exact⟨_,_,rfl,h1,h2,fun h=>by cases h⟩
  ·have e:Pl.cK (x::y::r)=(false,x::y::r,(0,0)):=by simp[Pl.cK,hx]
   rw[e];refine(UG pb tb cap A _ x w hP hl hx).mono ?_;rintro e w' ⟨rfl,h1,h2⟩;exact⟨_,_,rfl,h1,h2,fun h=>by cases h⟩
end Go.Proofs.YtkjhhooecopolaaGreatDoor

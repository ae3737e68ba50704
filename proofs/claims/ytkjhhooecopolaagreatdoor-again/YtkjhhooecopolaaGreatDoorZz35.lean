import Derived.Test.YtkjhhooecopolaaGreatDoorZz34
set_option maxRecDepth 100000
set_option maxHeartbeats 4000000
namespace Go.Proofs.YtkjhhooecopolaaGreatDoor
open Go.RowKit Go.Shelf
section
variable{bs:List Nat}{base:Nat}{PS:List Pg}{PH:List jf}{T:Nat->Tg}{g:Nat}{Xs:List PB}
theorem ahY{fk:Value}{wr:World}(hB:BD Xs)(hg:g<base)(hbb:∀b∈bs,b<base)(hz0:base<=wr.heap.size)(h:PI bs base fk PS PH T wr)(hR:RB wr g bs Xs)(hd:∀p∈PS,RG Xs p.1)(hl:PS.length<=85000000):
  Calls Tryz.prog 175 #[fk,.func (.func 176) #[] #[]] wr fun e w'=>e=.returned (.tuple #[])/\(∃qc,PO bs base fk (iT (mU Xs) PS) qc w')/\Below base wr w':=by
 have eg:∀args w,(callFunc 176 args).run Tryz.prog w=.ok (.enter 176 args) w:=enters_of Tryz.func176 (by kernel_rfl) rfl
 have Ib:=hB.len;have hlm:(PH.map iR).length=PS.length:=by rw[gV];exact h.len
 have hone:∀v∈PH.map iR,v.oneCell'=true:=fun v hv=>by
  obtain⟨p,_,rfl⟩:=bp.1 hv;rfl
 have hsw:Sort.SWO (ltOf fun i j:Fin PS.length=>mU Xs PS[i] PS[j]):=xD (fun i:Fin PS.length=>fr Xs PS[i].1) (fun i=>Iw hB (hd _ (gF i.2)))
 have hrow:wr.ownsRow base 165 1 fk (PH.map iR).length (PH.map iR):=by rw[gV];exact h.row
 refine(Xq Tryz.sortPg 176 eg (mU Xs) PS (PH.map iR) hone hrow hlm hl hsw ?_).mono ?_
 ·intro w' hz hk i j u v x y h1 h2 h3 h4;rw[fR] at h1 h2;obtain⟨p,hp,rfl⟩:=nZ.1 h1;obtain⟨p',hp',rfl⟩:=nZ.1 h2;have hP:=h.pg i p x hp h3;have zM:=h.pg j p' y hp' h4;have kr:∀b,b<wr.heap.size->T b≠.vk->w'.heap[b]?=wr.heap[b]?:=fun b hb ht=>hk b hb (fun e=>ht (h.tl b e))
  have gx:=hd x (bh h3);have gy:=hd y (bh h4);have hR':RB w' g bs Xs:=hR.low hg hbb (fun k hkb=>hk k (by omega) (qE h.row k hkb))
  have o1:w'.ownsRow base 175 1 p.sv x.1.length (aK (x.1.map (bx bs))):=aO hP.sh fun k e=>kr k (aB hP.sh k e).2 (by rw[hP.ts k e];simp)
  have o2:w'.ownsRow base 175 1 p'.sv y.1.length (aK (y.1.map (bx bs))):=aO zM.sh fun k e=>kr k (aB zM.sh k e).2 (by rw[zM.ts k e];simp)
  have b1:w'.heap[p.pb]?=some (.cells #[p.sv,p.hv] 187 (0,0)):=(kr _ (lt_of_heap hP.blk) (by rw[hP.tp];simp)).trans hP.blk
  have b2:w'.heap[p'.pb]?=some (.cells #[p'.sv,p'.hv] 187 (0,0)):=(kr _ (lt_of_heap zM.blk) (by rw[zM.tp];simp)).trans zM.blk
  obtain⟨g1,c1,e1,_⟩:=lW o1 (il.2 gx.ne);obtain⟨g2,c2,e2,_⟩:=lW o2 (il.2 gy.ne);have hc:∀w'',Gr w' w''->Calls Tryz.prog 174 #[p.sv,p'.sv] w'' fun e w3=>e=.returned (.int .i64 (mU Xs x y))/\Gr w'' w3:=fun w'' hG=>
   Xp hB (hR'.below hG.1) (aO o1 fun k e=>hG.1.block k (aB o1 k e).2) (aO o2 fun k e=>hG.1.block k (aB o2 k e).2) gx.ne gy.ne gx.lt gy.lt (by have:=gx.len;omega) (by have:=gy.len;omega)
  rw[e1,e2] at hc;refine ahT p.pb p'.pb g1 _ c1 g2 _ c2 w' (mU Xs x y) ?_ ?_ hc
  ·rw[cell_of b1 0,<-e1];rfl
  ·rw[cell_of b2 0,<-e2];rfl
 ·rintro e w' ⟨rfl,d,p1,p2,p3,p4,p5,p6⟩;have hin:∀a∈d,a<PH.length:=fun a ha=>by
   have:=p1.mem_iff.1 ha;rw[oW] at this;rw[h.len];exact this
  have f1:∀a∈d,∃b,(fun i=>PH[i]?) a=some b:=fun a ha=>⟨_,aD (hin a ha)⟩
  have xh:d.length=PH.length:=by rw[p1.length_eq,ZN,h.len]
  have uU:(d.filterMap (fun i=>PH[i]?)).length=PH.length:=by rw[Xv _ _ f1,xh]
  have hvs:d.filterMap (fun i=>(PH.map iR)[i]?)=(d.filterMap (fun i=>PH[i]?)).map iR:=by
   rw[List.map_filterMap];congr 1;funext i;rw[fR]
  refine⟨rfl,⟨d.filterMap (fun i=>PH[i]?),?_,by rw[uU,p3,h.len],fun q ph ps h1 h2=>?_⟩,p6.os,p6.tape,p6.output,p6.size,fun k hk=>p6.block k (by omega) (Ix (qE h.row k hk))⟩
  ·rw[<-hvs,uU,<-gV (f:=iR)];exact p4
  ·have h1':((d.filterMap (fun i=>PH[i]?)).map iR)[q]?=some (iR ph):=by rw[fR,h1];rfl
   rw[<-hvs] at h1';obtain⟨j,_,j1,_,j2⟩:=p5 q _ ps h1' h2;rw[Xu _ _ f1,j1] at h1;have hj:PH[j]?=some ph:=h1;have hP:=h.pg j ph ps hj j2;have kr:∀b,b<wr.heap.size->T b≠.vk->w'.heap[b]?=wr.heap[b]?:=fun b hb ht=>p6.block b hb (Ix fun e=>ht (h.tl b e))
   exact⟨(kr _ (lt_of_heap hP.blk) (by rw[hP.tp];simp)).trans hP.blk,aO hP.sh fun k e=>kr k (aB hP.sh k e).2 (by rw[hP.ts k e];simp),aO hP.ho fun k e=>kr k (aB hP.ho k e).2 (by rw[hP.th k e];simp),hP.hl,fun i v r h3 h4=>by
    obtain⟨k1,k2⟩:=hP.hr i v r h3 h4;exact aO k1 fun k e=>kr k (aB k1 k e).2 (by rw[k2 k e];simp)⟩
theorem ahZ{fk:Value}{wr:World}(hB:BD Xs)(hg:g<base)(hbb:∀b∈bs,b<base)(hz0:base<=wr.heap.size)(h:PI bs base fk PS PH T wr)(hR:RB wr g bs Xs)(hd:∀p∈PS,lX Xs p)(hl:PS.length<=85000000)(hh:∀p∈PS,p.2.length<=85000000):
  Calls Tryz.prog 116 #[fk] wr fun e w'=>e=.returned (.tuple #[])/\(∃qc,PO bs base fk (rL Xs PS) qc w')/\RB w' g bs Xs/\Below base wr w':=by
 obtain⟨hlen,tD⟩:=id h.row;rcases tD with⟨rfl,h0⟩|⟨gp,cap,cur,rfl,F5,hblk,hnc,hcm,hcs,htk⟩
 ·have hPH:PH=[]:=fK.1 h0;have zN:PS=[]:=fK.1 (by rw[<-h.len];exact h0)
  subst hPH;subst zN;refine(Xr wr).mono ?_;rintro e w' ⟨rfl,rfl⟩;exact⟨rfl,⟨[],⟨h.row,rfl,fun q ph ps hq=>by simp at hq⟩⟩,hR,Below.refl _ _⟩
 ·refine ahU gp PH.length cap (fun k w'=>k<=PH.length/\∃zO qc,PI bs base (.slice (some ⟨gp,0,none⟩) PH.length cap) zO qc T w'/\qc.length=PH.length/\(∀i:Nat,zO[i]?=if i<k then PS[i]?.map (fI Xs) else PS[i]?)/\RB w' g bs Xs/\Below base wr w') _ wr (by rw[h.len];exact hl) (fun k w1 hI hk=>?_) (fun w1 hI=>?_) ⟨iq _,PS,PH,h,rfl,fun i=>by simp,hR,Below.refl _ _⟩
  ·obtain⟨_,zO,qc,j4,uU,zN,dD,aj⟩:=hI;have hk':k<qc.length:=by rw[uU];exact hk
   obtain⟨ph,fD⟩:∃ph,qc[k]?=some ph:=⟨_,aD hk'⟩;have tU:k<PS.length:=by rw[<-h.len];exact hk
   have hps:zO[k]?=some PS[k]:=by rw[zN k,aa (ZB _),aD tU]
   have hP:=j4.pg k ph _ fD hps;have hmem:=gF tU;obtain⟨so,m,c,hv⟩:=DA hP.ho;have hcell:w1.cell? ⟨gp,k,none⟩=some (.pointer (some ⟨ph.pb,0,none⟩)):=by
    obtain⟨gT,cT,e1,_,_,_,f1⟩:=lW j4.row (by omega)
    injection e1 with e1;injection e1 with e1;injection e1 with e1;subst e1;exact f1 k _ (by rw[fR,fD];rfl)
   refine⟨ph.pb,so,m,c,hcell,by rw[cell_of hP.blk 1,<-hv];rfl,?_⟩
   rw[<-hv];refine(ahX hB hg hbb j4 dD fD hps (hd _ hmem) (hh _ hmem)).mono ?_;rintro e w' ⟨rfl,⟨rH,ah1⟩,hb'⟩;refine⟨rfl,by omega,_,_,ah1,by rw[Jq];exact uU,fun i=>?_,dD.low hg hbb hb'.block,aj.trans hb'⟩
   rw[List.getElem?_set];by_cases hik:k=i
   ·subst hik;rw[ah rfl,ah (by rw[<-j4.len];exact hk'),ah (by omega),aD tU]
    rfl
   ·rw[aa hik,zN i];by_cases hi:i<k
    ·rw[ah hi,ah (by omega)]
    ·rw[aa hi,aa (by omega)]
  ·obtain⟨_,zO,qc,j4,uU,zN,dD,aj⟩:=hI;have ah2:zO=PS.map (fI Xs):=by
    apply zY;intro i;rw[zN i,fR];split
    ·rfl
    ·rename_i hi
     rw[vC (by rw[<-h.len];omega)]
     rfl
   subst ah2;refine(ahY hB hg hbb (dY hz0 aj.size) j4 dD (fun p hp=>?_) (by rw[gV];exact hl)).mono ?_
   ·obtain⟨p0,hp0,rfl⟩:=bp.1 hp;exact(hd p0 hp0).1
   ·rintro e w' ⟨rfl,NG,hb'⟩;exact⟨rfl,NG,dD.low hg hbb hb'.block,aj.trans hb'⟩
end
end Go.Proofs.YtkjhhooecopolaaGreatDoor
namespace Go.Proofs.YtkjhhooecopolaaGreatDoor
open Go.RowKit
theorem Xw{w wr:World}{lv:Value}{xs:List ByteArray}(sep:ByteArray)(h:SI w lv xs wr)(hl:xs.length<=100000000)(hlen:(Lib.join (xs.map (·.data.toList)) sep.data.toList).length<=140737488355328):
  Calls Tryz.prog 103 #[lv,.string sep] wr fun e w'=>e=.returned (.string ⟨(Lib.join (xs.map (·.data.toList)) sep.data.toList).toArray⟩)/\Below wr.heap.size wr w':=by
 rcases h.1.2 with⟨hv,h0⟩|⟨g,cap,cur,hv,_,hb,hc,_,_,ht⟩
 ·have hx:xs=[]:=fK.1 h0;subst hx;rw[hv];exact(Tryz.strings_Join_none none 0 sep wr).mono fun e w'⟨he,hw⟩=>⟨he,hw▸Below.refl _ _⟩
 ·rw[hv];have hlt:g<wr.heap.size:=by
   rcases Ek g wr.heap.size with h1|h1
   ·exact h1
   ·rw[z8 h1] at hb;cases hb
  refine Tryz.strings_Join g 0 cap xs sep wr (fun j x hj=>?_) hlt (by omega) hc hlen
  have hm:(xs.map Value.string)[j]?=some (.string x):=by simp[hj]
  rw[js,Ku hb j,<-iu];rw[<-ht,jt] at hm;split at hm
  ·exact hm
  ·cases hm
theorem ah3(l:List Ge.Nd)(v:Value)(w:World)(hR:fM w v l)(hG:Gl w)(hn:∀n∈l,cP n.1 n.2.1 n.2.2)(hl:l.length<=90000000):
  Calls Tryz.prog 71 #[v] w fun e w'=>e=.returned (.string ⟨(Pl.aU Pl.dE (l.map Ge.au)).toArray⟩)/\Below w.heap.size w w':=by
 obtain⟨so,cap,rfl⟩:=BR hR;obtain⟨i0,hi,hz0,hz1,hz2⟩:=info_parts Gv;have HR:Hid (fM w (.slice so l.length cap) l):=hR;have HN:Hid (∀n∈l,∀w1,Gl w1->Calls Tryz.prog 122 #[.agg #[.complex .f64 (floatOfInt .f64 n.1) (floatOfInt .f64 n.2.1),.int .i64 n.2.2]] w1 fun e w'=>e=.returned (.string ⟨(Pl.dE (Ge.au n)).toArray⟩)/\Below w1.heap.size w1 w'):=fun n h w1 g1=>SP n (hn n h) w1 g1
 have HJ:Hid (∀lv wr,SI w lv (gN l) wr->Calls Tryz.prog 103 #[lv,.string ⟨#[44,32]⟩] wr fun e w'=>e=.returned (.string ⟨(Pl.aU Pl.dE (l.map Ge.au)).toArray⟩)/\Below wr.heap.size wr w'):=fun lv wr h=>by
  have e:Lib.join ((gN l).map (·.data.toList)) (⟨#[44,32]⟩:ByteArray).data.toList=Pl.aU Pl.dE (l.map Ge.au):=by
   rw[SQ];exact K7 Pl.dE _
  have hlen:=Pl.Bu Pl.dE 101 (l.map Ge.au) (fun q hq=>by
   obtain⟨n,hm,rfl⟩:=bp.1 hq;exact Gw (hn n hm))
  rw[gV] at hlen;have:=Xw ⟨#[44,32]⟩ h (by simp[gN];omega) (by rw[e];omega)
  rw[e] at this;exact this
 clear hR;generalize Pl.aU Pl.dE (l.map Ge.au)=RT at*
 go_enter Tryz.func71,Tryz.ntmps71
 go_wp2_with fail
 have bH:Hid (SI w (.slice none 0 0) [] w):=⟨World.ownsRow_nil _ _ _ _,Below.refl _ _⟩
 go_loopg [3,8] l.length (fun m lv iv wr=>∃i:Nat,i+m=l.length/\iv=.int .i64 i/\Hid (SI w lv (gN (l.take i)) wr))
 case atStart=>exact⟨0,by omega,rfl,bH⟩
 case round=>
  obtain⟨i,him,rfl,HE⟩:=hrel;have aj:=HE.out.2;clear bH;by_cases hlt:i<l.length
  ·obtain⟨n,hg⟩:∃g,l[i]?=some g:=⟨_,aD hlt⟩;obtain⟨b,rfl,hb,c0,c1⟩:=BW HR.out hg;have r0:=(aj.cell (p:=⟨b,i*2,none⟩) hb).trans c0;have r1:=(aj.cell (p:=⟨b,i*2+1,none⟩) hb).trans c1;have HT:Hid (gN (l.take (i+1))=gN (l.take i)++[⟨(Pl.dE (Ge.au n)).toArray⟩]):=by
    have e:=ako hlt;have hn':l[i]=n:=by
     have:=aD hlt;rw[hg] at this;injection this with this;exact this.symm
    rw[<-e,hn'];show gN (l.take i++[n])=_;simp[gN]
   have HW:=HN.out n (bh hg);have hxl:(gN (l.take i)).length<=90000000:=by simp[gN];omega
   have ez:(i:Int)<(l.length:Int):=by omega
   have hbr:b<wr.heap.size:=aZ hb aj.size;have om:Gl wr:=hG.below aj hG.sz;have nP:Hid (∀w1,Gl w1->Calls Tryz.prog 122 #[.agg #[.complex .f64 (floatOfInt .f64 n.1) (floatOfInt .f64 n.2.1),.int .i64 n.2.2]] w1 fun e w'=>e=.returned (.string ⟨(Pl.dE (Ge.au n)).toArray⟩)/\Below w1.heap.size w1 w'):=HW
   generalize Pl.dE (Ge.au n)=X at*;generalize floatOfInt .f64 n.1=N1 at*;generalize floatOfInt .f64 n.2.1=N2 at*;generalize gN (l.take i)=A1 at*;clear hg c0 c1 HN HR HW
   go_wp2_with (simp only[eK];go_simp)
   refine(nP.out _ (om.alloc _)).mono ?_;rintro e w5 ⟨rfl,az⟩;obtain⟨hx2,_⟩:=HE.out;have pI:=aj.alloc aj.size (.cells #[.complex .f64 N1 N2,.int .i64 n.2.2] 83);have ib:=pI.trans (az.mono pI.size);have cI:w5.ownsRow w.heap.size 9 1 u3 A1.length (A1.map Value.string):=aO hx2 fun k hk=>(az.block k (by have:=(aB hx2 k hk).2;simp;omega)).trans (Below.heap_alloc _ _ _ (aB hx2 k hk).2)
   have hs5:=ib.size;clear hx2 HE
   go_wp2_with (at_builtin;refine wpList_append_lies _ rfl (.tmp 12) (.tmp 15) 164 rfl w.heap.size 9 i0 _ 1 16 Tryz.underlying164 hi hz0 hz1 hz2 rfl (by decide) u3 A1.length (A1.map Value.string) rfl (aO cI (fun k hk=>Below.heap_alloc _ _ _ (aB cI k hk).2)) ⟨w5.heap.size,0,none⟩ 1 1 [.string ⟨X.toArray⟩] rfl rfl (World.news_of_block (cs:= #[.string ⟨X.toArray⟩]) (t:=9) (fr:=(0,0)) (heap_alloc_new w5 _)) (by simp[Value.oneCell']) (by decide) (by unfold maxLen;omega) (by omega) (by simp;omega) (w5.heap.size+1) (by simp) ?_;intro g' cap' w6 eN jA yN yO)
   have HN:Hid (SI w (.slice (some ⟨g',0,none⟩) (A1.length+1) cap') (gN (l.take (i+1))) w6):=by
    rw[HT.out];refine⟨?_,(ib.alloc ib.size _).grown jA (by simp;omega) (fun k hk=>(aB cI k hk).1)⟩
    rw[aT,iD];exact eN
   clear eN jA cI nP HT
   go_roundg (gk-1)
   case measure=>omega
   case rel=>exact⟨i+1,by omega,by go_num,HN⟩
  ·have hk:i=l.length:=by omega
   subst hk;have HF:=HE.out;rw[fg] at HF;clear HE HR HN
   go_wp2_with fail
   refine(HJ.out _ _ HF).mono ?_;rintro e w5 ⟨rfl,az⟩
   go_wp2_with fail
   go_ret
   exact⟨rfl,HF.2.trans (az.mono HF.2.size)⟩
def dV(Xs:List PB)(r:List Nat):List UInt8:=40::(Pl.aU Pl.dE ((fr Xs r++(fr Xs r).take 1).map Ge.au)++[41])
def NJ(w:World)(lv:Value)(l:List Ge.Nd)(wr:World):Prop:=wr.ownsRow w.heap.size 83 2 lv l.length (cS l)/\Below w.heap.size w wr
theorem ah4(bs:List Nat)(Xs:List PB)(r:List Nat)(g1 c1:Nat)(w:World)(hl:r.length<=85000000)(hne:0<r.length)(hG:Gl w)
  (HV:Hid (∀(i:Nat) a,r[i]?=some a->w.cell? ⟨g1,i,none⟩=some (.pointer (some ⟨bx bs a,0,none⟩))/\w.cell? ⟨bx bs a,2,none⟩=some (.complex .f64 (floatOfInt .f64 (xi Xs a).f.1) (floatOfInt .f64 (xi Xs a).f.2.1))/\w.cell? ⟨bx bs a,3,none⟩=some (.int .i64 (xi Xs a).f.2.2)))
  (HN:Hid (∀n∈fr Xs r,cP n.1 n.2.1 n.2.2)):
  Calls Tryz.prog 153 #[.slice (some ⟨g1,0,none⟩) r.length c1] w fun e w'=>e=.returned (.string ⟨(dV Xs r).toArray⟩)/\Below w.heap.size w w':=by
 obtain⟨i0,hi,hz0,hz1,hz2⟩:=info_parts SS;have bH:Hid (NJ w (.slice none 0 0) (fr Xs (r.take 0)) w):=⟨World.ownsRow_nil _ _ _ _,Below.refl _ _⟩
 go_enter Tryz.func153,Tryz.ntmps153
 go_wp2_with fail
 go_loopg [3,8] r.length (fun m lv iv wr=>∃k:Nat,k+m=r.length/\iv=.int .i64 k/\Hid (NJ w lv (fr Xs (r.take k)) wr))
 case atStart=>exact⟨0,by omega,rfl,bH⟩
 case round=>
  obtain⟨k,hkn,rfl,HE⟩:=hrel;have aj:=HE.out.2;clear bH;by_cases hlt:k<r.length
  ·obtain⟨a,ha⟩:∃a,r[k]?=some a:=⟨_,aD hlt⟩;obtain⟨v0,v2,v3⟩:=HV.out k a ha;have r0:=(aj.cell (p:=⟨g1,k,none⟩) (lt_of_cell v0)).trans v0;have r2:=(aj.cell (p:=⟨bx bs a,2,none⟩) (lt_of_cell v2)).trans v2;have r3:=(aj.cell (p:=⟨bx bs a,3,none⟩) (lt_of_cell v3)).trans v3;have ez:(k:Int)<(r.length:Int):=by omega
   have hT':fr Xs (r.take (k+1))=fr Xs (r.take k)++[(xi Xs a).f]:=by
    unfold fr;rw[jh,ha];simp
   have HT:Hid (fr Xs (r.take (k+1))=fr Xs (r.take k)++[(xi Xs a).f]):=hT';have hxl:(fr Xs (r.take k)).length<=85000000:=by simp[fr];omega
   have HC:Hid (gu (xi Xs a).f=[.complex .f64 (floatOfInt .f64 (xi Xs a).f.1) (floatOfInt .f64 (xi Xs a).f.2.1),.int .i64 (xi Xs a).f.2.2]):=rfl;clear hT' v0 v2 v3 ha;generalize(xi Xs a).f=N at*;generalize floatOfInt .f64 N.1=N1 at*;generalize floatOfInt .f64 N.2.1=N2 at*;generalize N.2.2=N3 at*;generalize fr Xs (r.take k)=A1 at*;obtain⟨ho,_⟩:=HE.out;have hs5:=aj.size;clear HE HV HN
   go_wp2_with (first |(simp only[eK];go_simp)|(at_builtin;refine wpList_append_lies _ rfl (.tmp 12) (.tmp 18) 138 rfl w.heap.size 83 i0 _ 2 24 Tryz.underlying138 hi hz0 hz1 hz2 rfl (by decide) u3 A1.length (cS A1) rfl (aO ho (fun k hk=>Below.heap_alloc _ _ _ (aB ho k hk).2)) ⟨wr.heap.size,0,none⟩ 1 1 [.complex .f64 N1 N2,.int .i64 N3] rfl rfl (World.news_of_block (cs:= #[.complex .f64 N1 N2,.int .i64 N3]) (t:=83) (fr:=(0,0)) (heap_alloc_new wr _)) (by simp[Value.oneCell']) (by decide) (by unfold maxLen;omega) (by omega) (by simp;omega) (wr.heap.size+1) (by simp) ?_;intro g' cap' w6 eN jA yN yO))
   have HN':Hid (NJ w (.slice (some ⟨g',0,none⟩) (A1.length+1) cap') (fr Xs (r.take (k+1))) w6):=by
    rw[HT.out];refine⟨?_,(aj.alloc aj.size _).grown jA (by simp;omega) (fun k hk=>(aB ho k hk).1)⟩
    rw[aT,K6,HC.out];exact eN
   clear eN jA ho HT HC
   go_roundg (gk-1)
   case measure=>omega
   case rel=>exact⟨k+1,by omega,by go_num,HN'⟩
  ·have hk:k=r.length:=by omega
   subst hk;have HF:=HE.out;rw[fg] at HF;clear HE HV;obtain⟨a0,ha0⟩:∃a,(fr Xs r)[0]?=some a:=⟨_,aD (by simp[fr];exact hne)⟩
   have hfl:(fr Xs r).length=r.length:=by simp[fr]
   have Xx:(fr Xs r).take 1=[a0]:=by
    have:=jh (l:=fr Xs r) (i:=0);rw[ha0] at this;simpa using this
   have HW:Hid (∀v w1,fM w1 v (fr Xs r++[a0])->Gl w1->Calls Tryz.prog 71 #[v] w1 fun e w'=>e=.returned (.string ⟨(Pl.aU Pl.dE ((fr Xs r++[a0]).map Ge.au)).toArray⟩)/\Below w1.heap.size w1 w'):=fun v w1 h1 h2=>ah3 _ v w1 h1 h2 (fun n hn=>by
    rcases bT.1 hn with hn|hn
    ·exact HN.out n hn
    ·rw[bI] at hn;rw[hn];exact HN.out a0 (bh ha0)) (by rw[aT,hfl];simp;omega)
   have Xy:dV Xs r=40::(Pl.aU Pl.dE ((fr Xs r++[a0]).map Ge.au)++[41]):=by unfold dV;rw[Xx]
   have DL:Hid (dV Xs r=40::(Pl.aU Pl.dE ((fr Xs r++[a0]).map Ge.au)++[41])):=Xy;have L4:(Pl.aU Pl.dE ((fr Xs r++[a0]).map Ge.au)).length<=140737488355328:=by
    have:=Pl.Bu Pl.dE 101 ((fr Xs r++[a0]).map Ge.au) (fun q hq=>by
     obtain⟨n,hm,rfl⟩:=bp.1 hq;refine Gw ?_;rcases bT.1 hm with hn|hn
     ·exact HN.out n hn
     ·rw[bI] at hn;rw[hn];exact HN.out a0 (bh ha0))
    rw[gV,aT,hfl,ZV] at this;omega
   generalize Pl.aU Pl.dE ((fr Xs r++[a0]).map Ge.au)=TX at*;have hs1:¬9223372036854775807<1+TX.length:=by omega
   have hs2:¬9223372036854775807<1+TX.length+1:=by omega
   clear Xx HN Xy;generalize fr Xs r=F at*;obtain⟨ho,_⟩:=HF;rw[hfl] at ho;have jz:fM wr u3 F:=by
    have:=td ho (iq _);rw[<-hfl] at this;exact this
   obtain⟨so3,ah6,hu3⟩:=BR jz;subst hu3;obtain⟨g3,hso,hlt',c0,c1'⟩:=BW jz ha0;subst hso;rw[hfl] at ho;have HC:Hid (gu a0=[.complex .f64 (floatOfInt .f64 a0.1) (floatOfInt .f64 a0.2.1),.int .i64 a0.2.2]):=rfl;generalize floatOfInt .f64 a0.1=N1 at*;generalize floatOfInt .f64 a0.2.1=N2 at*;generalize zg:a0.2.2=N3 at*;clear jz ha0;have hs5:=aj.size;have om:Gl wr:=hG.below aj hG.sz;rw[hfl]
   go_wp2_with (first |(simp only;go_simp)|(at_builtin;refine wpList_append_lies _ rfl (.tmp 21) (.tmp 25) 138 rfl w.heap.size 83 i0 _ 2 24 Tryz.underlying138 hi hz0 hz1 hz2 rfl (by decide) (.slice (some ⟨g3,0,none⟩) r.length ah6) r.length (cS F) rfl (aO ho (fun k hk=>Below.heap_alloc _ _ _ (aB ho k hk).2)) ⟨wr.heap.size,0,none⟩ 1 1 [.complex .f64 N1 N2,.int .i64 N3] rfl rfl (World.news_of_block (cs:= #[.complex .f64 N1 N2,.int .i64 N3]) (t:=83) (fr:=(0,0)) (heap_alloc_new wr _)) (by simp[Value.oneCell']) (by decide) (by unfold maxLen;omega) (by omega) (by simp;omega) (wr.heap.size+1) (by simp) ?_;intro g' cap' w6 eN jA yN yO))
   have aC:Below w.heap.size w w6:=(aj.alloc aj.size _).grown jA (by simp;omega) (fun k hk=>(aB ho k hk).1)
   have Xz:fM w6 (.slice (some ⟨g',0,none⟩) (r.length+1) cap') (F++[a0]):=by
    unfold fM;rw[aT,K6,HC.out,hfl];exact td eN (iq _)
   have kq:Hid (Calls Tryz.prog 71 #[.slice (some ⟨g',0,none⟩) (r.length+1) cap'] w6 fun e w'=>e=.returned (.string ⟨TX.toArray⟩)/\Below w6.heap.size w6 w'):=HW.out _ _ Xz (hG.below aC hG.sz)
   have DM:Hid (Below w.heap.size w w6):=aC;clear Xz eN jA ho HW HC aC c0 c1' aj om
   go_wp2_with fail
   refine kq.out.mono ?_;rintro e w7 ⟨rfl,aQ⟩;have DN:Hid (Below w.heap.size w w7):=DM.out.trans (aQ.mono DM.out.size);clear kq DM aQ
   go_wp2_with fail
   go_ret
   exact⟨by rw[DL.out];simp[ByteArray.mk_append_mk],DN.out⟩
end Go.Proofs.YtkjhhooecopolaaGreatDoor
namespace Go.Proofs.YtkjhhooecopolaaGreatDoor
open Go.RowKit
open Ge
def dw(Rs:List (List Nat)):Nat:=(Rs.map List.length).sum
def gQ(ps:List Pg):Nat:=(ps.map fun p=>p.1.length+dw p.2).sum
theorem XA(a b:List (List Nat)):dw (a++b)=dw a+dw b:=by simp[dw]
theorem ah8(a b:List Pg):gQ (a++b)=gQ a+gQ b:=by simp[gQ]
theorem ah9(Xs:List PB)(A:List Nat):(cL Xs A).length<=A.length:=by rw[Nn];exact MI Xs A
theorem aia(Xs:List PB)(A:List Nat):∀k,k<=A.length->(bB Xs (A.take k)).1.length+dw (bB Xs (A.take k)).2<=k:=by
 intro k;induction k with
 |zero=>intro _;simp[bB,dw]
 |succ k ih=>
  intro hk;have ih:=ih (by omega)
  have htk:A.take (k+1)=A.take k++[A[k]]:=by rw[jh,aD (by omega)];rfl
  rw[htk,vg];generalize bB Xs (A.take k)=p at*;unfold iQ;split
  ·simp only;rw[XA];have h1:=ah9 Xs ((p.1++[A[k]]).drop (gw Xs (p.1++[A[k]]) A[k]).toNat);have h2:dw [cL Xs ((p.1++[A[k]]).drop (gw Xs (p.1++[A[k]]) A[k]).toNat)]=(cL Xs ((p.1++[A[k]]).drop (gw Xs (p.1++[A[k]]) A[k]).toNat)).length:=by simp[dw]
   rw[h2];rw[qi] at h1;rw[ir];simp only[aT,ZV] at h1⊢;omega
  ·simp only[aT,ZV];omega
theorem aib(Xs:List PB)(A:List Nat):dw (bg Xs A)<=A.length:=by
 have:=aia Xs A A.length (ax _);rw[fg] at this;unfold bg;omega
theorem NH(P:List Nat->Bool):∀(Rs:List (List Nat)) acc,(Rs.foldl (fun acc r=>if P r then r else acc) acc).length+dw (Rs.filter fun r=> !P r)<=acc.length+dw Rs
 |[],acc=>by simp[dw]
 |r::Rs,acc=>by
  rw[qj];have e:dw (r::Rs)=r.length+dw Rs:=by simp[dw]
  cases hp:P r
  ·have:=NH P Rs acc;rw[Ak (by simp[hp])]
   have e2:dw (r::Rs.filter fun r=> !P r)=r.length+dw (Rs.filter fun r=> !P r):=by simp[dw]
   rw[e2,e];simp only[iC,jg];omega
  ·have:=NH P Rs r;rw[vL (by simp[hp])]
   rw[e];simp only[fJ];omega
theorem XB:∀(ps:List Pg)(q:Nat)(Rs:List (List Nat)),gQ (ps.set q ((ps.getD q ([],[])).1,(ps.getD q ([],[])).2++Rs))<=gQ ps+dw Rs
 |[],_,_=>by simp
 |p::ps,0,Rs=>by
  simp only[aI,List.getD_cons_zero,gQ,iE,Al,XA];omega
 |p::ps,q+1,Rs=>by
  have:=XB ps q Rs;simp only[aG,List.getD_cons_succ];simp only[gQ,iE,Al] at this⊢;omega
section
variable{rg:List (List Pt)}{l:List Nd}{r:Int}{Xs:List PB}
theorem SX.dw(h:SX rg l r Xs)(hB:BD Xs):∀k,k<=Xs.length->gQ (aL Xs k).ps+iA Xs.length (aL Xs k).aJ []<=Xs.length
 |0,_=>by
  have:=tM Xs.length (aL Xs 0).aJ [];have e:gQ (aL Xs 0).ps=0:=by simp[aL,gQ]
  omega
 |k+1,hk=>by
  have ih:=h.dw hB k (by omega)
  have hP:=h.pv hB k (by omega)
  rw[xz];generalize aL Xs k=st at*;cases hm:st.aJ k
  ·have hleft:iA Xs.length st.aJ (cz Xs st.aJ k)+(cz Xs st.aJ k).length<=iA Xs.length st.aJ []+0:=vp (mk:=st.aJ) (fun j hj=>(h.next hB hj).1) Xs.length [] k (by omega)
   have Dz:iA Xs.length (fun j=>st.aJ j||(cz Xs st.aJ k).contains j) []=iA Xs.length st.aJ (cz Xs st.aJ k):=by unfold iA;simp
   have hrt:=aib Xs (cz Xs st.aJ k);unfold mQ;rw[hm];simp only[iC,jg];split
   ·simp only;rw[Dz,ah8];have h1:=NH (bQ Xs) (bg Xs (cz Xs st.aJ k)) [];have e:gQ [(rJ (bQ Xs) (bg Xs (cz Xs st.aJ k)),(bg Xs (cz Xs st.aJ k)).filter fun r=> !bQ Xs r)]=(rJ (bQ Xs) (bg Xs (cz Xs st.aJ k))).length+_root_.Go.Proofs.YtkjhhooecopolaaGreatDoor.dw ((bg Xs (cz Xs st.aJ k)).filter fun r=> !bQ Xs r):=by simp[gQ]
    rw[e];unfold rJ;simp only[gU] at h1;omega
   ·simp only;rw[Dz];have:=XB st.ps (st.ow (gA Xs (xi Xs k).f)) (bg Xs (cz Xs st.aJ k));omega
  ·unfold mQ;rw[hm];exact ih
end
end Go.Proofs.YtkjhhooecopolaaGreatDoor
namespace Go.Proofs.YtkjhhooecopolaaGreatDoor
open Go.RowKit
def ba(t:List UInt8):ByteArray:=⟨t.toArray⟩
def xE(ST:List UInt8)(TS:List (List UInt8)):List UInt8:=40::(Lib.join (ST::TS) [44,32]++[41])
theorem XC(l:List (List UInt8)):(l.map ba).map (·.data.toList)=l:=by
 rw[jM]
 conv=>rhs;rw[<-List.map_id l]
 rfl
theorem XD{w wr:World}{lv:Value}{l:List (List UInt8)}(h:SI w lv (l.map ba) wr)(hl:l.length<=90000000)(hlen:(Lib.join l [44,32]).length<=140737488355328):
  Calls Tryz.prog 103 #[lv,.string ⟨#[44,32]⟩] wr fun e w'=>e=.returned (.string ⟨(Lib.join l [44,32]).toArray⟩)/\Below wr.heap.size wr w':=by
 have:=Xw ⟨#[44,32]⟩ h (by rw[gV];omega) (by rw[XC];exact hlen)
 rw[XC] at this;exact this
theorem aic(pb gs ns cs:Nat)(so:Option Addr)(c:Nat)(ST:List UInt8)(TS:List (List UInt8))(w:World)(hl:TS.length<=85000000)(hlen:(Lib.join (ST::TS) [44,32]).length<=140737488355328)(hG:Gl w)
  (c0:w.cell? ⟨pb,0,none⟩=some (.slice (some ⟨gs,0,none⟩) ns cs))(c1:w.cell? ⟨pb,1,none⟩=some (.slice so TS.length c))
  (HS:Hid (∀w1,Below w.heap.size w w1->Gl w1->Calls Tryz.prog 153 #[.slice (some ⟨gs,0,none⟩) ns cs] w1 fun e w'=>e=.returned (.string (ba ST))/\Below w1.heap.size w1 w'))
  (HH:Hid (∀(k:Nat) t,TS[k]?=some t->∃b gk nk ck,so=some ⟨b,0,none⟩/\w.cell? ⟨b,k,none⟩=some (.slice (some ⟨gk,0,none⟩) nk ck)/\∀w1,Below w.heap.size w w1->Gl w1->Calls Tryz.prog 153 #[.slice (some ⟨gk,0,none⟩) nk ck] w1 fun e w'=>e=.returned (.string (ba t))/\Below w1.heap.size w1 w')):
  Calls Tryz.prog 102 #[.pointer (some ⟨pb,0,none⟩)] w fun e w'=>e=.returned (.string (ba (xE ST TS)))/\Below w.heap.size w w':=by
 obtain⟨i0,hi,hz0,hz1,hz2⟩:=info_parts Gv;have kz:pb<w.heap.size:=lt_of_cell c0;have XE:Hid (Calls Tryz.prog 153 #[.slice (some ⟨gs,0,none⟩) ns cs] w fun e w'=>e=.returned (.string (ba ST))/\Below w.heap.size w w'):=HS.out w (Below.refl _ _) hG
 go_enter Tryz.func102,Tryz.ntmps102
 go_wp2_with fail
 refine XE.out.mono ?_;rintro e w1 ⟨rfl,hb1⟩;have NI:=hb1.alloc hb1.size (.cells #[.string (ba ST)] 9);have d1:=(NI.cell (p:=⟨pb,1,none⟩) kz).trans c1;have bH:Hid (SI w (.slice (some ⟨w1.heap.size,0,none⟩) 1 1) ((ST::TS.take 0).map ba) (w1.alloc (.cells #[.string (ba ST)] 9))):=⟨⟨rfl,af ⟨w1.heap.size,1, #[.string (ba ST)],rfl,hb1.size,heap_alloc_new w1 _,ax _,by unfold maxLen;omega,rfl,rfl⟩⟩,NI⟩
 clear hb1 XE
 go_wp2_with fail
 go_loopg [3,17] TS.length (fun m lv iv wr=>∃k:Nat,k+m=TS.length/\iv=.int .i64 k/\Hid (SI w lv ((ST::TS.take k).map ba) wr))
 case atStart=>exact⟨0,by omega,rfl,bH⟩
 case round=>
  obtain⟨k,hkn,rfl,HE⟩:=hrel;have aj:=HE.out.2;clear bH d1 NI;by_cases hlt:k<TS.length
  ·obtain⟨t,ht⟩:∃t,TS[k]?=some t:=⟨_,aD hlt⟩;obtain⟨b,gk',nk,ck,rfl,v0,hc⟩:=HH.out k t ht;have r0:=(aj.cell (p:=⟨b,k,none⟩) (lt_of_cell v0)).trans v0;have ez:(k:Int)<(TS.length:Int):=by omega
   have HC:Hid (Calls Tryz.prog 153 #[.slice (some ⟨gk',0,none⟩) nk ck] wr fun e w'=>e=.returned (.string (ba t))/\Below wr.heap.size wr w'):=hc wr aj (hG.below aj hG.sz)
   have hT':(ST::TS.take (k+1)).map ba=(ST::TS.take k).map ba++[ba t]:=by
    rw[jh,ht];simp
   have HT:Hid ((ST::TS.take (k+1)).map ba=(ST::TS.take k).map ba++[ba t]):=hT';have hxl:((ST::TS.take k).map ba).length<=85000001:=by simp;omega
   obtain⟨ho,_⟩:=HE.out;clear hT' v0 ht hc HE HH HS c0 c1;generalize(ST::TS.take k).map ba=A1 at*;generalize ba t=X at*
   go_wp2_with fail
   refine HC.out.mono ?_;rintro e w5 ⟨rfl,az⟩;have ib:Below w.heap.size w w5:=aj.trans (az.mono aj.size);have cI:w5.ownsRow w.heap.size 9 1 u3 A1.length (A1.map Value.string):=aO ho fun k hk=>az.block k (aB ho k hk).2
   have hs5:=ib.size;clear ho HC az aj
   go_wp2_with (at_builtin;refine wpList_append_lies _ rfl (.tmp 21) (.tmp 24) 164 rfl w.heap.size 9 i0 _ 1 16 Tryz.underlying164 hi hz0 hz1 hz2 rfl (by decide) u3 A1.length (A1.map Value.string) rfl (aO cI (fun k hk=>Below.heap_alloc _ _ _ (aB cI k hk).2)) ⟨w5.heap.size,0,none⟩ 1 1 [.string X] rfl rfl (World.news_of_block (cs:= #[.string X]) (t:=9) (fr:=(0,0)) (heap_alloc_new w5 _)) (by simp[Value.oneCell']) (by decide) (by unfold maxLen;omega) (by omega) (by simp;omega) (w5.heap.size+1) (by simp) ?_;intro g' cap' w6 eN jA yN yO)
   have HN:Hid (SI w (.slice (some ⟨g',0,none⟩) (A1.length+1) cap') ((ST::TS.take (k+1)).map ba) w6):=by
    rw[HT.out];refine⟨?_,(ib.alloc ib.size _).grown jA (by simp;omega) (fun k hk=>(aB cI k hk).1)⟩
    rw[aT,iD];exact eN
   clear eN jA cI HT
   go_roundg (gk-1)
   case measure=>omega
   case rel=>exact⟨k+1,by omega,by go_num,HN⟩
  ·have hk:k=TS.length:=by omega
   subst hk;have HF:=HE.out;rw[fg] at HF;have HJ:Hid (Calls Tryz.prog 103 #[u3,.string ⟨#[44,32]⟩] wr fun e w'=>e=.returned (.string ⟨(Lib.join (ST::TS) [44,32]).toArray⟩)/\Below wr.heap.size wr w'):=XD HF (by simp;omega) hlen
   have DL:Hid (xE ST TS=40::(Lib.join (ST::TS) [44,32]++[41])):=rfl;generalize Lib.join (ST::TS) [44,32]=TX at*;have hs1:¬9223372036854775807<1+TX.length:=by omega
   have hs2:¬9223372036854775807<1+TX.length+1:=by omega
   have HB:Hid (Below w.heap.size w wr):=aj;clear HE HH HS c0 c1 HF aj
   go_wp2_with fail
   refine HJ.out.mono ?_;rintro e w7 ⟨rfl,aQ⟩;have DN:Hid (Below w.heap.size w w7):=HB.out.trans (aQ.mono HB.out.size);clear HJ aQ HB
   go_wp2_with fail
   go_ret
   exact⟨by rw[DL.out];simp[ba,ByteArray.mk_append_mk],DN.out⟩
def DR:List UInt8:=[77,85,76,84,73,80,79,76,89,71,79,78,32,40]
def XH:List UInt8:=[77,85,76,84,73,80,79,76,89,71,79,78,32,69,77,80,84,89]
def zP(TS:List (List UInt8)):List UInt8:=if TS=[] then XH else DR++(Lib.join TS [44,32]++[41])
theorem XI(so:Option Addr)(c:Nat)(TS:List (List UInt8))(w:World)(hl:TS.length<=85000000)(hlen:(Lib.join TS [44,32]).length<=140737488355328)
  (HH:Hid (∀(k:Nat) t,TS[k]?=some t->∃b pb,so=some ⟨b,0,none⟩/\w.cell? ⟨b,k,none⟩=some (.pointer (some ⟨pb,0,none⟩))/\∀w1,Below w.heap.size w w1->Calls Tryz.prog 102 #[.pointer (some ⟨pb,0,none⟩)] w1 fun e w'=>e=.returned (.string (ba t))/\Below w1.heap.size w1 w')):
  Calls Tryz.prog 67 #[.slice so TS.length c] w fun e w'=>e=.returned (.string (ba (zP TS)))/\Below w.heap.size w w':=by
 obtain⟨i0,hi,hz0,hz1,hz2⟩:=info_parts Gv;by_cases hT0:TS=[]
 ·subst hT0;clear HH
  go_enter Tryz.func67,Tryz.ntmps67
  go_wp2_with fail
  go_ret
  exact⟨rfl,Below.refl _ _⟩
 ·have uK:Hid (TS≠[]):=hT0;have hne:¬TS.length=0:=fun e=>hT0 (fK.1 e)
  have alV:((TS.length:Int) == 0)=false:=by rw[xM];omega
  clear hT0;have bH:Hid (SI w (.slice none 0 0) ((TS.take 0).map ba) w):=⟨World.ownsRow_nil _ _ _ _,Below.refl _ _⟩
  go_enter Tryz.func67,Tryz.ntmps67
  go_wp2_with fail
  go_loopg [3,11] TS.length (fun m lv iv wr=>∃k:Nat,k+m=TS.length/\iv=.int .i64 k/\Hid (SI w lv ((TS.take k).map ba) wr))
  case atStart=>exact⟨0,by omega,rfl,bH⟩
  case round=>
   obtain⟨k,hkn,rfl,HE⟩:=hrel;have aj:=HE.out.2;clear bH;by_cases hlt:k<TS.length
   ·obtain⟨t,ht⟩:∃t,TS[k]?=some t:=⟨_,aD hlt⟩;obtain⟨b,pb,rfl,v0,hc⟩:=HH.out k t ht;have r0:=(aj.cell (p:=⟨b,k,none⟩) (lt_of_cell v0)).trans v0;have ez:(k:Int)<(TS.length:Int):=by omega
    have HC:Hid (Calls Tryz.prog 102 #[.pointer (some ⟨pb,0,none⟩)] wr fun e w'=>e=.returned (.string (ba t))/\Below wr.heap.size wr w'):=hc wr aj
    have hT':(TS.take (k+1)).map ba=(TS.take k).map ba++[ba t]:=by
     rw[jh,ht];simp
    have HT:Hid ((TS.take (k+1)).map ba=(TS.take k).map ba++[ba t]):=hT';have hxl:((TS.take k).map ba).length<=85000001:=by simp;omega
    obtain⟨ho,_⟩:=HE.out;clear hT' v0 ht hc HE HH uK;generalize(TS.take k).map ba=A1 at*;generalize ba t=X at*
    go_wp2_with fail
    refine HC.out.mono ?_;rintro e w5 ⟨rfl,az⟩;have ib:Below w.heap.size w w5:=aj.trans (az.mono aj.size);have cI:w5.ownsRow w.heap.size 9 1 u3 A1.length (A1.map Value.string):=aO ho fun k hk=>az.block k (aB ho k hk).2
    have hs5:=ib.size;clear ho HC az aj
    go_wp2_with (at_builtin;refine wpList_append_lies _ rfl (.tmp 15) (.tmp 18) 164 rfl w.heap.size 9 i0 _ 1 16 Tryz.underlying164 hi hz0 hz1 hz2 rfl (by decide) u3 A1.length (A1.map Value.string) rfl (aO cI (fun k hk=>Below.heap_alloc _ _ _ (aB cI k hk).2)) ⟨w5.heap.size,0,none⟩ 1 1 [.string X] rfl rfl (World.news_of_block (cs:= #[.string X]) (t:=9) (fr:=(0,0)) (heap_alloc_new w5 _)) (by simp[Value.oneCell']) (by decide) (by unfold maxLen;omega) (by omega) (by simp;omega) (w5.heap.size+1) (by simp) ?_;intro g' cap' w6 eN jA yN yO)
    have HN:Hid (SI w (.slice (some ⟨g',0,none⟩) (A1.length+1) cap') ((TS.take (k+1)).map ba) w6):=by
     rw[HT.out];refine⟨?_,(ib.alloc ib.size _).grown jA (by simp;omega) (fun k hk=>(aB cI k hk).1)⟩
     rw[aT,iD];exact eN
    clear eN jA cI HT
    go_roundg (gk-1)
    case measure=>omega
    case rel=>exact⟨k+1,by omega,by go_num,HN⟩
   ·have hk:k=TS.length:=by omega
    subst hk;have HF:=HE.out;rw[fg] at HF;have HJ:Hid (Calls Tryz.prog 103 #[u3,.string ⟨#[44,32]⟩] wr fun e w'=>e=.returned (.string ⟨(Lib.join TS [44,32]).toArray⟩)/\Below wr.heap.size wr w'):=XD HF (by omega) hlen
    have DL:Hid (zP TS=DR++(Lib.join TS [44,32]++[41])):=aa uK.out;generalize Lib.join TS [44,32]=TX at*;have hs1:¬9223372036854775807<14+TX.length:=by omega
    have hs2:¬9223372036854775807<14+TX.length+1:=by omega
    have HB:Hid (Below w.heap.size w wr):=aj;clear HE HH HF aj uK
    go_wp2_with fail
    refine HJ.out.mono ?_;rintro e w7 ⟨rfl,aQ⟩;have DN:Hid (Below w.heap.size w w7):=HB.out.trans (aQ.mono HB.out.size);clear HJ aQ HB
    go_wp2_with fail
    go_ret
    exact⟨by rw[DL.out];simp[ba,DR,ByteArray.mk_append_mk],DN.out⟩
def dR(Xs:List PB)(p:Pg):List UInt8:=xE (dV Xs p.1) (p.2.map (dV Xs))
def Iy(Xs:List PB)(ps:List Pg):List UInt8:=zP (ps.map (dR Xs))
theorem NK:∀l:List (List UInt8),(Lib.join l [44,32]).length<=(l.map fun t=>t.length+2).sum
 |[]=>by simp[Lib.join,List.intercalate]
 |[x]=>by simp[Lib.join_one]
 |x::y::r=>by
  have ih:=NK (y::r);have e:Lib.join (x::y::r) [44,32]=x++([44,32]++Lib.join (y::r) [44,32]):=by simp[Lib.join,List.intercalate]
  rw[e];simp only[aT,iE,Al,cG,gU] at ih⊢;omega
section
variable{Xs:List PB}
theorem XJ(hB:BD Xs){r:List Nat}(h:RG Xs r):∀n∈fr Xs r,cP n.1 n.2.1 n.2.2:=fun n hn=>by
 unfold fr at hn;obtain⟨i,hi,rfl⟩:=bp.1 hn;exact(hB.v _ (fN (h.lt i hi))).f.aF
theorem XK(hB:BD Xs){r:List Nat}(h:RG Xs r):(dV Xs r).length<=208*r.length:=by
 have h0:0<r.length:=il.2 h.ne;have hn:=XJ hB h;have h1:=Pl.Bu Pl.dE 101 ((fr Xs r++(fr Xs r).take 1).map Ge.au) (fun q hq=>by
  obtain⟨n,hm,rfl⟩:=bp.1 hq;refine Gw ?_;rcases bT.1 hm with hn'|hn'
  ·exact hn n hn'
  ·exact hn n (rU hn'))
 have h2:(fr Xs r).length=r.length:=by simp[fr]
 rw[gV,aT,ir,h2] at h1;unfold dV;simp only[cG,aT,gU];omega
theorem NM{α:Type}(f g:α->Nat):∀l:List α,(∀x∈l,f x<=g x)->(l.map f).sum<=(l.map g).sum
 |[],_=>by simp
 |a::l,h=>by
  have h1:=h a (by simp)
  have h2:=NM f g l fun x hx=>h x (by simp[hx])
  simp only[iE,Al];omega
theorem NN{α:Type}(c:Nat)(f:α->Nat):∀l:List α,(l.map fun x=>c*f x).sum=c*(l.map f).sum
 |[]=>by simp
 |a::l=>by simp only[iE,Al,NN c f l,Nat.mul_add]
theorem XL(hB:BD Xs){p:Pg}(h:lX Xs p):(Lib.join (dV Xs p.1::p.2.map (dV Xs)) [44,32]).length<=210*(p.1.length+dw p.2):=by
 have h1:=NK (dV Xs p.1::p.2.map (dV Xs));have h2:=XK hB h.1;have h0:0<p.1.length:=il.2 h.1.ne;rw[iE,Al,jM] at h1;have h3:=NM ((fun t:List UInt8=>t.length+2)∘dV Xs) (fun r=>210*r.length) p.2 (fun r hr=>by
  have h4:=XK hB (h.2 r hr);have h5:0<r.length:=il.2 (h.2 r hr).ne;show(dV Xs r).length+2<=210*r.length;omega)
 rw[NN] at h3;have h6:(p.2.map fun r=>r.length).sum=dw p.2:=rfl
 rw[h6] at h3;omega
theorem aid(hB:BD Xs){p:Pg}(h:lX Xs p):(dR Xs p).length+2<=214*(p.1.length+dw p.2):=by
 have h1:=XL hB h;have h0:0<p.1.length:=il.2 h.1.ne;unfold dR xE;simp only[cG,aT,gU];omega
theorem aie(hB:BD Xs){ps:List Pg}(h:∀p∈ps,lX Xs p):(Lib.join (ps.map (dR Xs)) [44,32]).length<=214*gQ ps:=by
 have h1:=NK (ps.map (dR Xs));rw[jM] at h1;have h3:=NM ((fun t:List UInt8=>t.length+2)∘dR Xs) (fun p=>214*(p.1.length+dw p.2)) ps (fun p hp=>aid hB (h p hp))
 rw[NN] at h3;exact dY h1 h3
theorem XM{β:Type}(cf:β->β->Int)(l:List β)(hO:Sort.SWO (ltOf fun i j:Fin l.length=>cf l[i] l[j])):(iT cf l).Perm l:=by
 unfold iT;by_cases h:0<l.length
 ·rw[ug h];obtain⟨_,p3,_⟩:=ND (fun i j:Fin l.length=>cf l[i] l[j]) hO h
  have k:=p3.map (fun i:Fin l.length=>l[i])
  have e3:(Array.ofFn (id:Fin l.length->Fin l.length)).toList.map (fun i:Fin l.length=>l[i])=l:=by
   apply vK
   ·simp
   ·intro i h1 h2;simp
  rw[e3] at k;exact k
 ·rw[Aj h];have:l=[]:=fK.1 (by omega)
  rw[this]
theorem XN(hB:BD Xs){p:Pg}(h:lX Xs p):(fI Xs p).2.Perm p.2:=
 XM _ _ (xD (fun i:Fin p.2.length=>fr Xs p.2[i]) (fun i=>Iw hB (h.2 _ (gF i.2))))
theorem XO(hB:BD Xs){p:Pg}(h:lX Xs p):lX Xs (fI Xs p):=⟨h.1,fun r hr=>h.2 r ((XN hB h).mem_iff.1 hr)⟩
theorem NQ(hB:BD Xs){ps:List Pg}(h:∀p∈ps,lX Xs p):(rL Xs ps).Perm (ps.map (fI Xs)):=
 XM _ _ (xD (fun i:Fin (ps.map (fI Xs)).length=>fr Xs (ps.map (fI Xs))[i].1) (fun i=>by
  have hm:=gF (l:=ps.map (fI Xs)) i.2;obtain⟨p,hp,e⟩:=bp.1 hm;have hg:=(XO hB (h p hp)).1;rw[e] at hg;exact Iw hB hg))
theorem aif(hB:BD Xs){ps:List Pg}(h:∀p∈ps,lX Xs p):∀p∈rL Xs ps,lX Xs p:=fun p hp=>by
 have:=(NQ hB h).mem_iff.1 hp;obtain⟨q,hq,rfl⟩:=bp.1 this;exact XO hB (h q hq)
theorem aih(hB:BD Xs){ps:List Pg}(h:∀p∈ps,lX Xs p):gQ (rL Xs ps)=gQ ps:=by
 have h1:gQ (rL Xs ps)=gQ (ps.map (fI Xs)):=((NQ hB h).map _).sum_nat;rw[h1];unfold gQ;rw[jM];congr 1;apply Jk;intro p hp;have h2:dw (fI Xs p).2=dw p.2:=((XN hB (h p hp)).map _).sum_nat;show(fI Xs p).1.length+dw (fI Xs p).2=_;rw[h2];rfl
end
theorem XP:∀l:List (List Nat),(∀r∈l,0<r.length)->l.length<=dw l
 |[],_=>iq _
 |a::l,h=>by
  have h1:=h a (by simp)
  have h2:=XP l fun r hr=>h r (by simp[hr])
  have e:dw (a::l)=a.length+dw l:=by simp[dw]
  rw[e,cG];omega
section
variable{bs:List Nat}{Xs:List PB}{g base:Nat}{w:World}
theorem XR(hB:BD Xs)(hR:RB w g bs Xs){v:Value}{r:List Nat}(o:w.ownsRow base 175 1 v r.length (aK (r.map (bx bs))))(h:RG Xs r)(hG:Gl w):
  Calls Tryz.prog 153 #[v] w fun e w'=>e=.returned (.string (ba (dV Xs r)))/\Below w.heap.size w w':=by
 have h0:0<r.length:=il.2 h.ne;obtain⟨g1,c1,rfl,_,_,_,f1⟩:=lW o h0;have hl:=h.len;have hX:=hB.len;refine ah4 bs Xs r g1 c1 w (by omega) h0 hG (fun i a ha=>?_) (XJ hB h)
 have hs:=hR.at (h.lt a (bh ha));exact⟨f1 i _ (by simp[aK,ha]),hs.c2,hs.c3⟩
theorem aii(hB:BD Xs)(hR:RB w g bs Xs){ph:jf}{p:Pg}(o:NF bs base ph p w)(h:lX Xs p)(ht:gQ [p]<=Xs.length)(hG:Gl w):
  Calls Tryz.prog 102 #[.pointer (some ⟨ph.pb,0,none⟩)] w fun e w'=>e=.returned (.string (ba (dR Xs p)))/\Below w.heap.size w w':=by
 have h0:0<p.1.length:=il.2 h.1.ne;have hX:=hB.len;have ht':p.1.length+dw p.2<=Xs.length:=by simpa[gQ] using ht
 have hl:=XL hB h;have xy:p.2.length<=dw p.2:=XP p.2 (fun r hr=>il.2 (h.2 r hr).ne)
 obtain⟨gs,cs,e1,_⟩:=lW o.sh h0;obtain⟨so,c,e2⟩:∃so c,ph.hv=.slice so (p.2.map (dV Xs)).length c:=by
  rw[gV,<-o.hl];rcases o.ho.2 with⟨hv,h0⟩|⟨b,cap,cur,hv,_⟩
  ·exact⟨none,0,by rw[hv,h0]⟩
  ·exact⟨_,cap,hv⟩
 refine aic ph.pb gs p.1.length cs so c (dV Xs p.1) (p.2.map (dV Xs)) w (by rw[gV];omega) (by omega) hG ?_ ?_ (fun w1 hb bz=>?_) (fun k t hk=>?_)
 ·rw[cell_of o.blk 0,<-e1];rfl
 ·rw[cell_of o.blk 1,<-e2];rfl
 ·rw[<-e1];exact XR hB (hR.below hb) (aO o.sh fun k e=>hb.block k (aB o.sh k e).2) h.1 bz
 ·rw[fR] at hk;obtain⟨r,hr,rfl⟩:=nZ.1 hk;have hkl:k<ph.hvs.length:=by rw[o.hl];exact(bU.1 hr).1
  obtain⟨v,hv⟩:∃v,ph.hvs[k]?=some v:=⟨_,aD hkl⟩;have hgr:=h.2 r (bh hr);have ow:=o.hr k v r hv hr;obtain⟨gk,ck,rfl,_⟩:=lW ow (il.2 hgr.ne);obtain⟨b,cT,e3,_,_,_,f⟩:=lW o.ho (by omega)
  rw[e2] at e3;injection e3 with e3;exact⟨b,gk,_,ck,e3,f k _ hv,fun w1 hb bz=>XR hB (hR.below hb) (aO ow fun k e=>hb.block k (aB ow k e).2) hgr bz⟩
theorem aij{ps:List Pg}{p:Pg}(h:p∈ps):gQ [p]<=gQ ps:=by
 induction ps with
 |nil=>simp at h
 |cons a ps ih=>
  rcases aP.1 h with rfl|h
  ·simp[gQ]
  ·have:=ih h;simp only[gQ,iE,Al,OM,List.sum_nil] at this⊢;omega
theorem aik(hB:BD Xs)(hR:RB w g bs Xs){fk:Value}{PS:List Pg}{PH:List jf}(o:PO bs base fk PS PH w)(h:∀p∈PS,lX Xs p)(ht:gQ PS<=Xs.length)(hl:PS.length<=85000000)(hG:Gl w):
  Calls Tryz.prog 67 #[fk] w fun e w'=>e=.returned (.string (ba (Iy Xs PS)))/\Below w.heap.size w w':=by
 have hX:=hB.len;have hJ:=aie hB h;obtain⟨so,c,rfl⟩:∃so c,fk=.slice so (PS.map (dR Xs)).length c:=by
  rw[gV,<-o.len];rcases o.row.2 with⟨hv,h0⟩|⟨b,cap,cur,hv,_⟩
  ·exact⟨none,0,by rw[hv,h0]⟩
  ·exact⟨_,cap,hv⟩
 refine XI so c (PS.map (dR Xs)) w (by rw[gV];exact hl) (by omega) (fun k t hk=>?_)
 rw[fR] at hk;obtain⟨p,hp,rfl⟩:=nZ.1 hk;have hkl:k<PH.length:=by rw[o.len];exact(bU.1 hp).1
 obtain⟨ph,fD⟩:∃ph,PH[k]?=some ph:=⟨_,aD hkl⟩;have hmem:=bh hp;obtain⟨b,cT,e3,_,_,_,f⟩:=lW o.row (by omega)
 injection e3 with e3;refine⟨b,ph.pb,e3,f k _ (by rw[fR,fD];rfl),fun w1 hb=>?_⟩
 have q:=o.pg k ph p fD hp;have q1:NF bs base ph p w1:=⟨(hb.block _ (lt_of_heap q.blk)).trans q.blk,aO q.sh fun k e=>hb.block k (aB q.sh k e).2,aO q.ho fun k e=>hb.block k (aB q.ho k e).2,q.hl,fun i v r h1 h2=>aO (q.hr i v r h1 h2) fun k e=>hb.block k (aB (q.hr i v r h1 h2) k e).2⟩
 exact aii hB (hR.below hb) q1 (h p hmem) (dY (aij hmem) ht) (hG.below hb hG.sz)
end
end Go.Proofs.YtkjhhooecopolaaGreatDoor

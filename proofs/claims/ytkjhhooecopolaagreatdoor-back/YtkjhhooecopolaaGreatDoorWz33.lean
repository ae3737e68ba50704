import Derived.Test.YtkjhhooecopolaaGreatDoorWz32
set_option maxRecDepth 100000
set_option maxHeartbeats 4000000
namespace Go.Proofs.YtkjhhooecopolaaGreatDoor
open Go.RowKit Go.Shelf
section
variable{bs:List Nat}{base:Nat}{PS:List Pg}{PH:List jC}{T:Nat->Tg}{g:Nat}{Xs:List PB}
theorem ajk{fJ:Value}{wr:World}(hB:BD Xs)(hg:g<base)(hbb:∀b∈bs,b<base)(hz0:base<=wr.heap.size)(h:PI bs base fJ PS PH T wr)(hR:RB wr g bs Xs)(hd:∀p∈PS,RG Xs p.1)(hl:PS.length<=85000000):
  Calls Tryz.prog 175 #[fJ,.func (.func 176) #[] #[]] wr fun e w'=>e=.returned (.tuple #[])/\(∃qV,PO bs base fJ (iZ (mD Xs) PS) qV w')/\Below base wr w':=by
 have eg:∀args w,(callFunc 176 args).run Tryz.prog w=.ok (.enter 176 args) w:=enters_of Tryz.func176 (by kernel_rfl) rfl
 have Jv:=hB.len;have hlm:(PH.map jq).length=PS.length:=by rw[iF];exact h.len
 have hone:∀v∈PH.map jq,v.oneCell'=true:=fun v hv=>by
  obtain⟨p,_,rfl⟩:=aN.1 hv;rfl
 have hsw:Sort.SWO (ltOf fun i j:Fin PS.length=>mD Xs PS[i] PS[j]):=uM (fun i:Fin PS.length=>fr Xs PS[i].1) (fun i=>JK hB (hd _ (gw i.2)))
 have hrow:wr.ownsRow base 165 1 fJ (PH.map jq).length (PH.map jq):=by rw[iF];exact h.row
 refine(Yq Tryz.sortPg 176 eg (mD Xs) PS (PH.map jq) hone hrow hlm hl hsw ?_).mono ?_
 ·intro w' hz hk i j u v x y h1 h2 h3 h4;rw[gz] at h1 h2;obtain⟨p,hp,rfl⟩:=pA.1 h1;obtain⟨p',hp',rfl⟩:=pA.1 h2;have hP:=h.pg i p x hp h3;have Bb:=h.pg j p' y hp' h4;have kr:∀b,b<wr.heap.size->T b≠.qU->w'.heap[b]?=wr.heap[b]?:=fun b hb ht=>hk b hb (fun e=>ht (h.tl b e))
  have gx:=hd x (aZ h3);have gy:=hd y (aZ h4);have hR':RB w' g bs Xs:=hR.low hg hbb (fun k hkb=>hk k (by omega) (rN h.row k hkb))
  have o1:w'.ownsRow base 175 1 p.sv x.1.length (aL (x.1.map (bx bs))):=aU hP.sh fun k e=>kr k (aB hP.sh k e).2 (by rw[hP.ts k e];simp)
  have o2:w'.ownsRow base 175 1 p'.sv y.1.length (aL (y.1.map (bx bs))):=aU Bb.sh fun k e=>kr k (aB Bb.sh k e).2 (by rw[Bb.ts k e];simp)
  have b1:w'.heap[p.pb]?=some (.cells #[p.sv,p.hv] 187 (0,0)):=(kr _ (lt_of_heap hP.blk) (by rw[hP.tp];simp)).trans hP.blk
  have b2:w'.heap[p'.pb]?=some (.cells #[p'.sv,p'.hv] 187 (0,0)):=(kr _ (lt_of_heap Bb.blk) (by rw[Bb.tp];simp)).trans Bb.blk
  obtain⟨g1,c1,e1,_⟩:=mZ o1 (iP.2 gx.ne);obtain⟨g2,c2,e2,_⟩:=mZ o2 (iP.2 gy.ne);have hc:∀w'',Gr w' w''->Calls Tryz.prog 174 #[p.sv,p'.sv] w'' fun e w3=>e=.returned (.int .i64 (mD Xs x y))/\Gr w'' w3:=fun w'' hG=>
   Yp hB (hR'.below hG.1) (aU o1 fun k e=>hG.1.block k (aB o1 k e).2) (aU o2 fun k e=>hG.1.block k (aB o2 k e).2) gx.ne gy.ne gx.lt gy.lt (by have:=gx.len;omega) (by have:=gy.len;omega)
  rw[e1,e2] at hc;refine ajf p.pb p'.pb g1 _ c1 g2 _ c2 w' (mD Xs x y) ?_ ?_ hc
  ·rw[cell_of b1 0,<-e1];rfl
  ·rw[cell_of b2 0,<-e2];rfl
 ·rintro e w' ⟨rfl,d,p1,p2,p3,p4,p5,p6⟩;have hin:∀a∈d,a<PH.length:=fun a ha=>by
   have:=p1.mem_iff.1 ha;rw[qi] at this;rw[h.len];exact this
  have f1:∀a∈d,∃b,(fun i=>PH[i]?) a=some b:=fun a ha=>⟨_,aC (hin a ha)⟩
  have yq:d.length=PH.length:=by rw[p1.length_eq,abo,h.len]
  have wm:(d.filterMap (fun i=>PH[i]?)).length=PH.length:=by rw[Yv _ _ f1,yq]
  have hvs:d.filterMap (fun i=>(PH.map jq)[i]?)=(d.filterMap (fun i=>PH[i]?)).map jq:=by
   rw[List.map_filterMap];congr 1;funext i;rw[gz]
  refine⟨rfl,⟨d.filterMap (fun i=>PH[i]?),?_,by rw[wm,p3,h.len],fun q ph ps h1 h2=>?_⟩,p6.os,p6.tape,p6.output,p6.size,fun k hk=>p6.block k (by omega) (JL (rN h.row k hk))⟩
  ·rw[<-hvs,wm,<-iF (f:=jq)];exact p4
  ·have h1':((d.filterMap (fun i=>PH[i]?)).map jq)[q]?=some (jq ph):=by rw[gz,h1];rfl
   rw[<-hvs] at h1';obtain⟨j,_,j1,_,j2⟩:=p5 q _ ps h1' h2;rw[Yu _ _ f1,j1] at h1;have hj:PH[j]?=some ph:=h1;have hP:=h.pg j ph ps hj j2;have kr:∀b,b<wr.heap.size->T b≠.qU->w'.heap[b]?=wr.heap[b]?:=fun b hb ht=>p6.block b hb (JL fun e=>ht (h.tl b e))
   exact⟨(kr _ (lt_of_heap hP.blk) (by rw[hP.tp];simp)).trans hP.blk,aU hP.sh fun k e=>kr k (aB hP.sh k e).2 (by rw[hP.ts k e];simp),aU hP.ho fun k e=>kr k (aB hP.ho k e).2 (by rw[hP.th k e];simp),hP.hl,fun i v r h3 h4=>by
    obtain⟨k1,k2⟩:=hP.hr i v r h3 h4;exact aU k1 fun k e=>kr k (aB k1 k e).2 (by rw[k2 k e];simp)⟩
theorem ajl{fJ:Value}{wr:World}(hB:BD Xs)(hg:g<base)(hbb:∀b∈bs,b<base)(hz0:base<=wr.heap.size)(h:PI bs base fJ PS PH T wr)(hR:RB wr g bs Xs)(hd:∀p∈PS,ni Xs p)(hl:PS.length<=85000000)(hh:∀p∈PS,p.2.length<=85000000):
  Calls Tryz.prog 116 #[fJ] wr fun e w'=>e=.returned (.tuple #[])/\(∃qV,PO bs base fJ (tA Xs PS) qV w')/\RB w' g bs Xs/\Below base wr w':=by
 obtain⟨hlen,ux⟩:=id h.row;rcases ux with⟨rfl,h0⟩|⟨gp,cap,cur,rfl,zR,hblk,hnc,hcm,hcs,htk⟩
 ·have hPH:PH=[]:=gF.1 h0;have Bc:PS=[]:=gF.1 (by rw[<-h.len];exact h0)
  subst hPH;subst Bc;refine(Yr wr).mono ?_;rintro e w' ⟨rfl,rfl⟩;exact⟨rfl,⟨[],⟨h.row,rfl,fun q ph ps hq=>by simp at hq⟩⟩,hR,Below.refl _ _⟩
 ·refine ajg gp PH.length cap (fun k w'=>k<=PH.length/\∃Bd qV,PI bs base (.slice (some ⟨gp,0,none⟩) PH.length cap) Bd qV T w'/\qV.length=PH.length/\(∀i:Nat,Bd[i]?=if i<k then PS[i]?.map (dA Xs) else PS[i]?)/\RB w' g bs Xs/\Below base wr w') _ wr (by rw[h.len];exact hl) (fun k w1 hI hk=>?_) (fun w1 hI=>?_) ⟨iD _,PS,PH,h,rfl,fun i=>by simp,hR,Below.refl _ _⟩
  ·obtain⟨_,Bd,qV,kX,wm,Bc,dL,aw⟩:=hI;have hk':k<qV.length:=by rw[wm];exact hk
   obtain⟨ph,fU⟩:∃ph,qV[k]?=some ph:=⟨_,aC hk'⟩;have uN:k<PS.length:=by rw[<-h.len];exact hk
   have hps:Bd[k]?=some PS[k]:=by rw[Bc k,af (abc _),aC uN]
   have hP:=kX.pg k ph _ fU hps;have hmem:=gw uN;obtain⟨so,m,c,hv⟩:=ER hP.ho;have hcell:w1.cell? ⟨gp,k,none⟩=some (.pointer (some ⟨ph.pb,0,none⟩)):=by
    obtain⟨gT,cT,e1,_,_,_,f1⟩:=mZ kX.row (by omega)
    injection e1 with e1;injection e1 with e1;injection e1 with e1;subst e1;exact f1 k _ (by rw[gz,fU];rfl)
   refine⟨ph.pb,so,m,c,hcell,by rw[cell_of hP.blk 1,<-hv];rfl,?_⟩
   rw[<-hv];refine(ajj hB hg hbb kX dL fU hps (hd _ hmem) (hh _ hmem)).mono ?_;rintro e w' ⟨rfl,⟨sZ,ajn⟩,hb'⟩;refine⟨rfl,by omega,_,_,ajn,by rw[KF];exact wm,fun i=>?_,dL.low hg hbb hb'.block,aw.trans hb'⟩
   rw[List.getElem?_set];by_cases hik:k=i
   ·subst hik;rw[aj rfl,aj (by rw[<-kX.len];exact hk'),aj (by omega),aC uN]
    rfl
   ·rw[af hik,Bc i];by_cases hi:i<k
    ·rw[aj hi,aj (by omega)]
    ·rw[af hi,af (by omega)]
  ·obtain⟨_,Bd,qV,kX,wm,Bc,dL,aw⟩:=hI;have ajo:Bd=PS.map (dA Xs):=by
    apply Bw;intro i;rw[Bc i,gz];split
    ·rfl
    ·rename_i hi
     rw[wX (by rw[<-h.len];omega)]
     rfl
   subst ajo;refine(ajk hB hg hbb (fg hz0 aw.size) kX dL (fun p hp=>?_) (by rw[iF];exact hl)).mono ?_
   ·obtain⟨p0,hp0,rfl⟩:=aN.1 hp;exact(hd p0 hp0).1
   ·rintro e w' ⟨rfl,OU,hb'⟩;exact⟨rfl,OU,dL.low hg hbb hb'.block,aw.trans hb'⟩
end
end Go.Proofs.YtkjhhooecopolaaGreatDoor
namespace Go.Proofs.YtkjhhooecopolaaGreatDoor
open Go.RowKit
theorem Yw{w wr:World}{lv:Value}{xs:List ByteArray}(sep:ByteArray)(h:SI w lv xs wr)(hl:xs.length<=100000000)(hlen:(Lib.join (xs.map (·.data.toList)) sep.data.toList).length<=140737488355328):
  Calls Tryz.prog 103 #[lv,.string sep] wr fun e w'=>e=.returned (.string ⟨(Lib.join (xs.map (·.data.toList)) sep.data.toList).toArray⟩)/\Below wr.heap.size wr w':=by
 rcases h.1.2 with⟨hv,h0⟩|⟨g,cap,cur,hv,_,hb,hc,_,_,ht⟩
 ·have hx:xs=[]:=gF.1 h0;subst hx;rw[hv];exact(Tryz.strings_Join_none none 0 sep wr).mono fun e w'⟨he,hw⟩=>⟨he,hw▸Below.refl _ _⟩
 ·rw[hv];have hlt:g<wr.heap.size:=by
   rcases Ko g wr.heap.size with h1|h1
   ·exact h1
   ·rw[FJ h1] at hb;cases hb
  refine Tryz.strings_Join g 0 cap xs sep wr (fun j x hj=>?_) hlt (by omega) hc hlen
  have hm:(xs.map Value.string)[j]?=some (.string x):=by simp[hj]
  rw[ki,Sm hb j,<-jb];rw[<-ht,kj] at hm;split at hm
  ·exact hm
  ·cases hm
theorem ajp(l:List Ge.Nd)(v:Value)(w:World)(hR:iy w v l)(hG:Gl w)(hn:∀n∈l,dM n.1 n.2.1 n.2.2)(hl:l.length<=90000000):
  Calls Tryz.prog 71 #[v] w fun e w'=>e=.returned (.string ⟨(Pl.bh Pl.gI (l.map Ge.ax)).toArray⟩)/\Below w.heap.size w w':=by
 obtain⟨so,cap,rfl⟩:=Io hR;obtain⟨i0,hi,hz0,hz1,hz2⟩:=info_parts Mh;have HR:Hid (iy w (.slice so l.length cap) l):=hR;have HN:Hid (∀n∈l,∀w1,Gl w1->Calls Tryz.prog 122 #[.agg #[.complex .f64 (floatOfInt .f64 n.1) (floatOfInt .f64 n.2.1),.int .i64 n.2.2]] w1 fun e w'=>e=.returned (.string ⟨(Pl.gI (Ge.ax n)).toArray⟩)/\Below w1.heap.size w1 w'):=fun n h w1 g1=>aeF n (hn n h) w1 g1
 have HJ:Hid (∀lv wr,SI w lv (nN l) wr->Calls Tryz.prog 103 #[lv,.string ⟨#[44,32]⟩] wr fun e w'=>e=.returned (.string ⟨(Pl.bh Pl.gI (l.map Ge.ax)).toArray⟩)/\Below wr.heap.size wr w'):=fun lv wr h=>by
  have e:Lib.join ((nN l).map (·.data.toList)) (⟨#[44,32]⟩:ByteArray).data.toList=Pl.bh Pl.gI (l.map Ge.ax):=by
   rw[aeG];exact Ue Pl.gI _
  have hlen:=Pl.Hx Pl.gI 101 (l.map Ge.ax) (fun q hq=>by
   obtain⟨n,hm,rfl⟩:=aN.1 hq;exact Mi (hn n hm))
  rw[iF] at hlen;have:=Yw ⟨#[44,32]⟩ h (by simp[nN];omega) (by rw[e];omega)
  rw[e] at this;exact this
 clear hR;generalize Pl.bh Pl.gI (l.map Ge.ax)=RT at*
 go_enter Tryz.func71,Tryz.ntmps71
 go_wp2_with fail
 have bW:Hid (SI w (.slice none 0 0) [] w):=⟨World.ownsRow_nil _ _ _ _,Below.refl _ _⟩
 go_loopg [3,8] l.length (fun m lv iv wr=>∃i:Nat,i+m=l.length/\iv=.int .i64 i/\Hid (SI w lv (nN (l.take i)) wr))
 case atStart=>exact⟨0,by omega,rfl,bW⟩
 case round=>
  obtain⟨i,him,rfl,HE⟩:=hrel;have aw:=HE.out.2;clear bW;by_cases hlt:i<l.length
  ·obtain⟨n,hg⟩:∃g,l[i]?=some g:=⟨_,aC hlt⟩;obtain⟨b,rfl,hb,c0,c1⟩:=Ip HR.out hg;have r0:=(aw.cell (p:=⟨b,i*2,none⟩) hb).trans c0;have r1:=(aw.cell (p:=⟨b,i*2+1,none⟩) hb).trans c1;have HT:Hid (nN (l.take (i+1))=nN (l.take i)++[⟨(Pl.gI (Ge.ax n)).toArray⟩]):=by
    have e:=List.take_append_getElem hlt;have hn':l[i]=n:=by
     have:=aC hlt;rw[hg] at this;injection this with this;exact this.symm
    rw[<-e,hn'];show nN (l.take i++[n])=_;simp[nN]
   have HW:=HN.out n (aZ hg);have hxl:(nN (l.take i)).length<=90000000:=by simp[nN];omega
   have fN:(i:Int)<(l.length:Int):=by omega
   have hbr:b<wr.heap.size:=bu hb aw.size;have pL:Gl wr:=hG.below aw hG.sz;have Yx:Hid (∀w1,Gl w1->Calls Tryz.prog 122 #[.agg #[.complex .f64 (floatOfInt .f64 n.1) (floatOfInt .f64 n.2.1),.int .i64 n.2.2]] w1 fun e w'=>e=.returned (.string ⟨(Pl.gI (Ge.ax n)).toArray⟩)/\Below w1.heap.size w1 w'):=HW
   generalize Pl.gI (Ge.ax n)=X at*;generalize floatOfInt .f64 n.1=N1 at*;generalize floatOfInt .f64 n.2.1=N2 at*;generalize nN (l.take i)=A1 at*;clear hg c0 c1 HN HR HW
   go_wp2_with (simp only[fW];go_simp)
   refine(Yx.out _ (pL.alloc _)).mono ?_;rintro e w5 ⟨rfl,az⟩;obtain⟨hx2,_⟩:=HE.out;have C8:=aw.alloc aw.size (.cells #[.complex .f64 N1 N2,.int .i64 n.2.2] 83);have l8:=C8.trans (az.mono C8.size);have dN:w5.ownsRow w.heap.size 9 1 u3 A1.length (A1.map Value.string):=aU hx2 fun k hk=>(az.block k (by have:=(aB hx2 k hk).2;simp;omega)).trans (Below.heap_alloc _ _ _ (aB hx2 k hk).2)
   have hs5:=l8.size;clear hx2 HE
   go_wp2_with (at_builtin;refine wpList_append_lies _ rfl (.tmp 12) (.tmp 15) 164 rfl w.heap.size 9 i0 _ 1 16 Tryz.underlying164 hi hz0 hz1 hz2 rfl (by decide) u3 A1.length (A1.map Value.string) rfl (aU dN (fun k hk=>Below.heap_alloc _ _ _ (aB dN k hk).2)) ⟨w5.heap.size,0,none⟩ 1 1 [.string ⟨X.toArray⟩] rfl rfl (World.news_of_block (cs:= #[.string ⟨X.toArray⟩]) (t:=9) (fr:=(0,0)) (heap_alloc_new w5 _)) (by simp[Value.oneCell']) (by decide) (by unfold maxLen;omega) (by omega) (by simp;omega) (w5.heap.size+1) (by simp) ?_;intro g' cap' w6 fY lC C0 C3)
   have HN:Hid (SI w (.slice (some ⟨g',0,none⟩) (A1.length+1) cap') (nN (l.take (i+1))) w6):=by
    rw[HT.out];refine⟨?_,(l8.alloc l8.size _).grown lC (by simp;omega) (fun k hk=>(aB dN k hk).1)⟩
    rw[aX,ja];exact fY
   clear fY lC dN Yx HT
   go_roundg (gk-1)
   case measure=>omega
   case rel=>exact⟨i+1,by omega,by go_num,HN⟩
  ·have hk:i=l.length:=by omega
   subst hk;have HF:=HE.out;rw[gm] at HF;clear HE HR HN
   go_wp2_with fail
   refine(HJ.out _ _ HF).mono ?_;rintro e w5 ⟨rfl,az⟩
   go_wp2_with fail
   go_ret
   exact⟨rfl,HF.2.trans (az.mono HF.2.size)⟩
def eB(Xs:List PB)(r:List Nat):List UInt8:=40::(Pl.bh Pl.gI ((fr Xs r++(fr Xs r).take 1).map Ge.ax)++[41])
def NJ(w:World)(lv:Value)(l:List Ge.Nd)(wr:World):Prop:=wr.ownsRow w.heap.size 83 2 lv l.length (dF l)/\Below w.heap.size w wr
theorem ajq(bs:List Nat)(Xs:List PB)(r:List Nat)(g1 c1:Nat)(w:World)(hl:r.length<=85000000)(hne:0<r.length)(hG:Gl w)
  (HV:Hid (∀(i:Nat) a,r[i]?=some a->w.cell? ⟨g1,i,none⟩=some (.pointer (some ⟨bx bs a,0,none⟩))/\w.cell? ⟨bx bs a,2,none⟩=some (.complex .f64 (floatOfInt .f64 (xi Xs a).f.1) (floatOfInt .f64 (xi Xs a).f.2.1))/\w.cell? ⟨bx bs a,3,none⟩=some (.int .i64 (xi Xs a).f.2.2)))
  (HN:Hid (∀n∈fr Xs r,dM n.1 n.2.1 n.2.2)):
  Calls Tryz.prog 153 #[.slice (some ⟨g1,0,none⟩) r.length c1] w fun e w'=>e=.returned (.string ⟨(eB Xs r).toArray⟩)/\Below w.heap.size w w':=by
 obtain⟨i0,hi,hz0,hz1,hz2⟩:=info_parts Ug;have bW:Hid (NJ w (.slice none 0 0) (fr Xs (r.take 0)) w):=⟨World.ownsRow_nil _ _ _ _,Below.refl _ _⟩
 go_enter Tryz.func153,Tryz.ntmps153
 go_wp2_with fail
 go_loopg [3,8] r.length (fun m lv iv wr=>∃k:Nat,k+m=r.length/\iv=.int .i64 k/\Hid (NJ w lv (fr Xs (r.take k)) wr))
 case atStart=>exact⟨0,by omega,rfl,bW⟩
 case round=>
  obtain⟨k,hkn,rfl,HE⟩:=hrel;have aw:=HE.out.2;clear bW;by_cases hlt:k<r.length
  ·obtain⟨a,ha⟩:∃a,r[k]?=some a:=⟨_,aC hlt⟩;obtain⟨v0,v2,v3⟩:=HV.out k a ha;have r0:=(aw.cell (p:=⟨g1,k,none⟩) (lt_of_cell v0)).trans v0;have r2:=(aw.cell (p:=⟨bx bs a,2,none⟩) (lt_of_cell v2)).trans v2;have r3:=(aw.cell (p:=⟨bx bs a,3,none⟩) (lt_of_cell v3)).trans v3;have fN:(k:Int)<(r.length:Int):=by omega
   have hT':fr Xs (r.take (k+1))=fr Xs (r.take k)++[(xi Xs a).f]:=by
    unfold fr;rw[jF,ha];simp
   have HT:Hid (fr Xs (r.take (k+1))=fr Xs (r.take k)++[(xi Xs a).f]):=hT';have hxl:(fr Xs (r.take k)).length<=85000000:=by simp[fr];omega
   have HC:Hid (ib (xi Xs a).f=[.complex .f64 (floatOfInt .f64 (xi Xs a).f.1) (floatOfInt .f64 (xi Xs a).f.2.1),.int .i64 (xi Xs a).f.2.2]):=rfl;clear hT' v0 v2 v3 ha;generalize(xi Xs a).f=N at*;generalize floatOfInt .f64 N.1=N1 at*;generalize floatOfInt .f64 N.2.1=N2 at*;generalize N.2.2=N3 at*;generalize fr Xs (r.take k)=A1 at*;obtain⟨ho,_⟩:=HE.out;have hs5:=aw.size;clear HE HV HN
   go_wp2_with (first |(simp only[fW];go_simp)|(at_builtin;refine wpList_append_lies _ rfl (.tmp 12) (.tmp 18) 138 rfl w.heap.size 83 i0 _ 2 24 Tryz.underlying138 hi hz0 hz1 hz2 rfl (by decide) u3 A1.length (dF A1) rfl (aU ho (fun k hk=>Below.heap_alloc _ _ _ (aB ho k hk).2)) ⟨wr.heap.size,0,none⟩ 1 1 [.complex .f64 N1 N2,.int .i64 N3] rfl rfl (World.news_of_block (cs:= #[.complex .f64 N1 N2,.int .i64 N3]) (t:=83) (fr:=(0,0)) (heap_alloc_new wr _)) (by simp[Value.oneCell']) (by decide) (by unfold maxLen;omega) (by omega) (by simp;omega) (wr.heap.size+1) (by simp) ?_;intro g' cap' w6 fY lC C0 C3))
   have HN':Hid (NJ w (.slice (some ⟨g',0,none⟩) (A1.length+1) cap') (fr Xs (r.take (k+1))) w6):=by
    rw[HT.out];refine⟨?_,(aw.alloc aw.size _).grown lC (by simp;omega) (fun k hk=>(aB ho k hk).1)⟩
    rw[aX,Mg,HC.out];exact fY
   clear fY lC ho HT HC
   go_roundg (gk-1)
   case measure=>omega
   case rel=>exact⟨k+1,by omega,by go_num,HN'⟩
  ·have hk:k=r.length:=by omega
   subst hk;have HF:=HE.out;rw[gm] at HF;clear HE HV;obtain⟨a0,ha0⟩:∃a,(fr Xs r)[0]?=some a:=⟨_,aC (by simp[fr];exact hne)⟩
   have hfl:(fr Xs r).length=r.length:=by simp[fr]
   have Yy:(fr Xs r).take 1=[a0]:=by
    have:=jF (l:=fr Xs r) (i:=0);rw[ha0] at this;simpa using this
   have HW:Hid (∀v w1,iy w1 v (fr Xs r++[a0])->Gl w1->Calls Tryz.prog 71 #[v] w1 fun e w'=>e=.returned (.string ⟨(Pl.bh Pl.gI ((fr Xs r++[a0]).map Ge.ax)).toArray⟩)/\Below w1.heap.size w1 w'):=fun v w1 h1 h2=>ajp _ v w1 h1 h2 (fun n hn=>by
    rcases bQ.1 hn with hn|hn
    ·exact HN.out n hn
    ·rw[bY] at hn;rw[hn];exact HN.out a0 (aZ ha0)) (by rw[aX,hfl];simp;omega)
   have Yz:eB Xs r=40::(Pl.bh Pl.gI ((fr Xs r++[a0]).map Ge.ax)++[41]):=by unfold eB;rw[Yy]
   have E1:Hid (eB Xs r=40::(Pl.bh Pl.gI ((fr Xs r++[a0]).map Ge.ax)++[41])):=Yz;have M0:(Pl.bh Pl.gI ((fr Xs r++[a0]).map Ge.ax)).length<=140737488355328:=by
    have:=Pl.Hx Pl.gI 101 ((fr Xs r++[a0]).map Ge.ax) (fun q hq=>by
     obtain⟨n,hm,rfl⟩:=aN.1 hq;refine Mi ?_;rcases bQ.1 hm with hn|hn
     ·exact HN.out n hn
     ·rw[bY] at hn;rw[hn];exact HN.out a0 (aZ ha0))
    rw[iF,aX,hfl,abv] at this;omega
   generalize Pl.bh Pl.gI ((fr Xs r++[a0]).map Ge.ax)=TX at*;have hs1:¬9223372036854775807<1+TX.length:=by omega
   have hs2:¬9223372036854775807<1+TX.length+1:=by omega
   clear Yy HN Yz;generalize fr Xs r=F at*;obtain⟨ho,_⟩:=HF;rw[hfl] at ho;have lZ:iy wr u3 F:=by
    have:=ur ho (iD _);rw[<-hfl] at this;exact this
   obtain⟨so3,ajs,hu3⟩:=Io lZ;subst hu3;obtain⟨g3,hso,hlt',c0,c1'⟩:=Ip lZ ha0;subst hso;rw[hfl] at ho;have HC:Hid (ib a0=[.complex .f64 (floatOfInt .f64 a0.1) (floatOfInt .f64 a0.2.1),.int .i64 a0.2.2]):=rfl;generalize floatOfInt .f64 a0.1=N1 at*;generalize floatOfInt .f64 a0.2.1=N2 at*;generalize Aj:a0.2.2=N3 at*;clear lZ ha0;have hs5:=aw.size;have pL:Gl wr:=hG.below aw hG.sz;rw[hfl]
   go_wp2_with (first |(simp only;go_simp)|(at_builtin;refine wpList_append_lies _ rfl (.tmp 21) (.tmp 25) 138 rfl w.heap.size 83 i0 _ 2 24 Tryz.underlying138 hi hz0 hz1 hz2 rfl (by decide) (.slice (some ⟨g3,0,none⟩) r.length ajs) r.length (dF F) rfl (aU ho (fun k hk=>Below.heap_alloc _ _ _ (aB ho k hk).2)) ⟨wr.heap.size,0,none⟩ 1 1 [.complex .f64 N1 N2,.int .i64 N3] rfl rfl (World.news_of_block (cs:= #[.complex .f64 N1 N2,.int .i64 N3]) (t:=83) (fr:=(0,0)) (heap_alloc_new wr _)) (by simp[Value.oneCell']) (by decide) (by unfold maxLen;omega) (by omega) (by simp;omega) (wr.heap.size+1) (by simp) ?_;intro g' cap' w6 fY lC C0 C3))
   have aF:Below w.heap.size w w6:=(aw.alloc aw.size _).grown lC (by simp;omega) (fun k hk=>(aB ho k hk).1)
   have YA:iy w6 (.slice (some ⟨g',0,none⟩) (r.length+1) cap') (F++[a0]):=by
    unfold iy;rw[aX,Mg,HC.out,hfl];exact ur fY (iD _)
   have lG:Hid (Calls Tryz.prog 71 #[.slice (some ⟨g',0,none⟩) (r.length+1) cap'] w6 fun e w'=>e=.returned (.string ⟨TX.toArray⟩)/\Below w6.heap.size w6 w'):=HW.out _ _ YA (hG.below aF hG.sz)
   have E3:Hid (Below w.heap.size w w6):=aF;clear YA fY lC ho HW HC aF c0 c1' aw pL
   go_wp2_with fail
   refine lG.out.mono ?_;rintro e w7 ⟨rfl,aV⟩;have E4:Hid (Below w.heap.size w w7):=E3.out.trans (aV.mono E3.out.size);clear lG E3 aV
   go_wp2_with fail
   go_ret
   exact⟨by rw[E1.out];simp[ByteArray.mk_append_mk],E4.out⟩
end Go.Proofs.YtkjhhooecopolaaGreatDoor
namespace Go.Proofs.YtkjhhooecopolaaGreatDoor
open Go.RowKit
open Ge
def dO(Rs:List (List Nat)):Nat:=(Rs.map List.length).sum
def iB(ps:List Pg):Nat:=(ps.map fun p=>p.1.length+dO p.2).sum
theorem YB(a b:List (List Nat)):dO (a++b)=dO a+dO b:=by simp[dO]
theorem aju(a b:List Pg):iB (a++b)=iB a+iB b:=by simp[iB]
theorem ajv(Xs:List PB)(A:List Nat):(di Xs A).length<=A.length:=by rw[OA];exact NU Xs A
theorem ajw(Xs:List PB)(A:List Nat):∀k,k<=A.length->(bJ Xs (A.take k)).1.length+dO (bJ Xs (A.take k)).2<=k:=by
 intro k;induction k with
 |zero=>intro _;simp[bJ,dO]
 |succ k ih=>
  intro hk;have ih:=ih (by omega)
  have htk:A.take (k+1)=A.take k++[A[k]]:=by rw[jF,aC (by omega)];rfl
  rw[htk,wJ];generalize bJ Xs (A.take k)=p at*;unfold jo;split
  ·simp only;rw[YB];have h1:=ajv Xs ((p.1++[A[k]]).drop (ie Xs (p.1++[A[k]]) A[k]).toNat);have h2:dO [di Xs ((p.1++[A[k]]).drop (ie Xs (p.1++[A[k]]) A[k]).toNat)]=(di Xs ((p.1++[A[k]]).drop (ie Xs (p.1++[A[k]]) A[k]).toNat)).length:=by simp[dO]
   rw[h2];rw[rp] at h1;rw[iE];simp only[aX,abv] at h1⊢;omega
  ·simp only[aX,abv];omega
theorem ajx(Xs:List PB)(A:List Nat):dO (bp Xs A)<=A.length:=by
 have:=ajw Xs A A.length (ay _);rw[gm] at this;unfold bp;omega
theorem OV(P:List Nat->Bool):∀(Rs:List (List Nat)) acc,(Rs.foldl (fun acc r=>if P r then r else acc) acc).length+dO (Rs.filter fun r=> !P r)<=acc.length+dO Rs
 |[],acc=>by simp[dO]
 |r::Rs,acc=>by
  rw[rq];have e:dO (r::Rs)=r.length+dO Rs:=by simp[dO]
  cases hp:P r
  ·have:=OV P Rs acc;rw[oc (by simp[hp])]
   have e2:dO (r::Rs.filter fun r=> !P r)=r.length+dO (Rs.filter fun r=> !P r):=by simp[dO]
   rw[e2,e];simp only[js,jR];omega
  ·have:=OV P Rs r;rw[pF (by simp[hp])]
   rw[e];simp only[gD];omega
theorem YC:∀(ps:List Pg)(q:Nat)(Rs:List (List Nat)),iB (ps.set q ((ps.getD q ([],[])).1,(ps.getD q ([],[])).2++Rs))<=iB ps+dO Rs
 |[],_,_=>by simp
 |p::ps,0,Rs=>by
  simp only[aI,List.getD_cons_zero,iB,eI,BM,YB];omega
 |p::ps,q+1,Rs=>by
  have:=YC ps q Rs;simp only[aG,List.getD_cons_succ];simp only[iB,eI,BM] at this⊢;omega
section
variable{rg:List (List Pt)}{l:List Nd}{r:Int}{Xs:List PB}
theorem SX.dO(h:SX rg l r Xs)(hB:BD Xs):∀k,k<=Xs.length->iB (aM Xs k).ps+iY Xs.length (aM Xs k).aK []<=Xs.length
 |0,_=>by
  have:=uE Xs.length (aM Xs 0).aK [];have e:iB (aM Xs 0).ps=0:=by simp[aM,iB]
  omega
 |k+1,hk=>by
  have ih:=h.dO hB k (by omega)
  have hP:=h.pv hB k (by omega)
  rw[yD];generalize aM Xs k=st at*;cases hm:st.aK k
  ·have hleft:iY Xs.length st.aK (cM Xs st.aK k)+(cM Xs st.aK k).length<=iY Xs.length st.aK []+0:=wO (mk:=st.aK) (fun j hj=>(h.next hB hj).1) Xs.length [] k (by omega)
   have EP:iY Xs.length (fun j=>st.aK j||(cM Xs st.aK k).contains j) []=iY Xs.length st.aK (cM Xs st.aK k):=by unfold iY;simp
   have hrt:=ajx Xs (cM Xs st.aK k);unfold nX;rw[hm];simp only[js,jR];split
   ·simp only;rw[EP,aju];have h1:=OV (cC Xs) (bp Xs (cM Xs st.aK k)) [];have e:iB [(tz (cC Xs) (bp Xs (cM Xs st.aK k)),(bp Xs (cM Xs st.aK k)).filter fun r=> !cC Xs r)]=(tz (cC Xs) (bp Xs (cM Xs st.aK k))).length+_root_.Go.Proofs.YtkjhhooecopolaaGreatDoor.dO ((bp Xs (cM Xs st.aK k)).filter fun r=> !cC Xs r):=by simp[iB]
    rw[e];unfold tz;simp only[gP] at h1;omega
   ·simp only;rw[EP];have:=YC st.ps (st.ow (ij Xs (xi Xs k).f)) (bp Xs (cM Xs st.aK k));omega
  ·unfold nX;rw[hm];exact ih
end
end Go.Proofs.YtkjhhooecopolaaGreatDoor
namespace Go.Proofs.YtkjhhooecopolaaGreatDoor
open Go.RowKit
def ba(t:List UInt8):ByteArray:=⟨t.toArray⟩
def oZ(ST:List UInt8)(TS:List (List UInt8)):List UInt8:=40::(Lib.join (ST::TS) [44,32]++[41])
theorem YD(l:List (List UInt8)):(l.map ba).map (·.data.toList)=l:=by
 rw[fL]
 conv=>rhs;rw[<-List.map_id l]
 rfl
theorem YE{w wr:World}{lv:Value}{l:List (List UInt8)}(h:SI w lv (l.map ba) wr)(hl:l.length<=90000000)(hlen:(Lib.join l [44,32]).length<=140737488355328):
  Calls Tryz.prog 103 #[lv,.string ⟨#[44,32]⟩] wr fun e w'=>e=.returned (.string ⟨(Lib.join l [44,32]).toArray⟩)/\Below wr.heap.size wr w':=by
 have:=Yw ⟨#[44,32]⟩ h (by rw[iF];omega) (by rw[YD];exact hlen)
 rw[YD] at this;exact this
theorem ajy(pb gs ns cs:Nat)(so:Option Addr)(c:Nat)(ST:List UInt8)(TS:List (List UInt8))(w:World)(hl:TS.length<=85000000)(hlen:(Lib.join (ST::TS) [44,32]).length<=140737488355328)(hG:Gl w)
  (c0:w.cell? ⟨pb,0,none⟩=some (.slice (some ⟨gs,0,none⟩) ns cs))(c1:w.cell? ⟨pb,1,none⟩=some (.slice so TS.length c))
  (HS:Hid (∀w1,Below w.heap.size w w1->Gl w1->Calls Tryz.prog 153 #[.slice (some ⟨gs,0,none⟩) ns cs] w1 fun e w'=>e=.returned (.string (ba ST))/\Below w1.heap.size w1 w'))
  (HH:Hid (∀(k:Nat) t,TS[k]?=some t->∃b gk nk ck,so=some ⟨b,0,none⟩/\w.cell? ⟨b,k,none⟩=some (.slice (some ⟨gk,0,none⟩) nk ck)/\∀w1,Below w.heap.size w w1->Gl w1->Calls Tryz.prog 153 #[.slice (some ⟨gk,0,none⟩) nk ck] w1 fun e w'=>e=.returned (.string (ba t))/\Below w1.heap.size w1 w')):
  Calls Tryz.prog 102 #[.pointer (some ⟨pb,0,none⟩)] w fun e w'=>e=.returned (.string (ba (oZ ST TS)))/\Below w.heap.size w w':=by
 obtain⟨i0,hi,hz0,hz1,hz2⟩:=info_parts Mh;have lH:pb<w.heap.size:=lt_of_cell c0;have YF:Hid (Calls Tryz.prog 153 #[.slice (some ⟨gs,0,none⟩) ns cs] w fun e w'=>e=.returned (.string (ba ST))/\Below w.heap.size w w'):=HS.out w (Below.refl _ _) hG
 go_enter Tryz.func102,Tryz.ntmps102
 go_wp2_with fail
 refine YF.out.mono ?_;rintro e w1 ⟨rfl,hb1⟩;have OW:=hb1.alloc hb1.size (.cells #[.string (ba ST)] 9);have d1:=(OW.cell (p:=⟨pb,1,none⟩) lH).trans c1;have bW:Hid (SI w (.slice (some ⟨w1.heap.size,0,none⟩) 1 1) ((ST::TS.take 0).map ba) (w1.alloc (.cells #[.string (ba ST)] 9))):=⟨⟨rfl,ah ⟨w1.heap.size,1, #[.string (ba ST)],rfl,hb1.size,heap_alloc_new w1 _,ay _,by unfold maxLen;omega,rfl,rfl⟩⟩,OW⟩
 clear hb1 YF
 go_wp2_with fail
 go_loopg [3,17] TS.length (fun m lv iv wr=>∃k:Nat,k+m=TS.length/\iv=.int .i64 k/\Hid (SI w lv ((ST::TS.take k).map ba) wr))
 case atStart=>exact⟨0,by omega,rfl,bW⟩
 case round=>
  obtain⟨k,hkn,rfl,HE⟩:=hrel;have aw:=HE.out.2;clear bW d1 OW;by_cases hlt:k<TS.length
  ·obtain⟨t,ht⟩:∃t,TS[k]?=some t:=⟨_,aC hlt⟩;obtain⟨b,gk',nk,ck,rfl,v0,hc⟩:=HH.out k t ht;have r0:=(aw.cell (p:=⟨b,k,none⟩) (lt_of_cell v0)).trans v0;have fN:(k:Int)<(TS.length:Int):=by omega
   have HC:Hid (Calls Tryz.prog 153 #[.slice (some ⟨gk',0,none⟩) nk ck] wr fun e w'=>e=.returned (.string (ba t))/\Below wr.heap.size wr w'):=hc wr aw (hG.below aw hG.sz)
   have hT':(ST::TS.take (k+1)).map ba=(ST::TS.take k).map ba++[ba t]:=by
    rw[jF,ht];simp
   have HT:Hid ((ST::TS.take (k+1)).map ba=(ST::TS.take k).map ba++[ba t]):=hT';have hxl:((ST::TS.take k).map ba).length<=85000001:=by simp;omega
   obtain⟨ho,_⟩:=HE.out;clear hT' v0 ht hc HE HH HS c0 c1;generalize(ST::TS.take k).map ba=A1 at*;generalize ba t=X at*
   go_wp2_with fail
   refine HC.out.mono ?_;rintro e w5 ⟨rfl,az⟩;have l8:Below w.heap.size w w5:=aw.trans (az.mono aw.size);have dN:w5.ownsRow w.heap.size 9 1 u3 A1.length (A1.map Value.string):=aU ho fun k hk=>az.block k (aB ho k hk).2
   have hs5:=l8.size;clear ho HC az aw
   go_wp2_with (at_builtin;refine wpList_append_lies _ rfl (.tmp 21) (.tmp 24) 164 rfl w.heap.size 9 i0 _ 1 16 Tryz.underlying164 hi hz0 hz1 hz2 rfl (by decide) u3 A1.length (A1.map Value.string) rfl (aU dN (fun k hk=>Below.heap_alloc _ _ _ (aB dN k hk).2)) ⟨w5.heap.size,0,none⟩ 1 1 [.string X] rfl rfl (World.news_of_block (cs:= #[.string X]) (t:=9) (fr:=(0,0)) (heap_alloc_new w5 _)) (by simp[Value.oneCell']) (by decide) (by unfold maxLen;omega) (by omega) (by simp;omega) (w5.heap.size+1) (by simp) ?_;intro g' cap' w6 fY lC C0 C3)
   have HN:Hid (SI w (.slice (some ⟨g',0,none⟩) (A1.length+1) cap') ((ST::TS.take (k+1)).map ba) w6):=by
    rw[HT.out];refine⟨?_,(l8.alloc l8.size _).grown lC (by simp;omega) (fun k hk=>(aB dN k hk).1)⟩
    rw[aX,ja];exact fY
   clear fY lC dN HT
   go_roundg (gk-1)
   case measure=>omega
   case rel=>exact⟨k+1,by omega,by go_num,HN⟩
  ·have hk:k=TS.length:=by omega
   subst hk;have HF:=HE.out;rw[gm] at HF;have HJ:Hid (Calls Tryz.prog 103 #[u3,.string ⟨#[44,32]⟩] wr fun e w'=>e=.returned (.string ⟨(Lib.join (ST::TS) [44,32]).toArray⟩)/\Below wr.heap.size wr w'):=YE HF (by simp;omega) hlen
   have E1:Hid (oZ ST TS=40::(Lib.join (ST::TS) [44,32]++[41])):=rfl;generalize Lib.join (ST::TS) [44,32]=TX at*;have hs1:¬9223372036854775807<1+TX.length:=by omega
   have hs2:¬9223372036854775807<1+TX.length+1:=by omega
   have HB:Hid (Below w.heap.size w wr):=aw;clear HE HH HS c0 c1 HF aw
   go_wp2_with fail
   refine HJ.out.mono ?_;rintro e w7 ⟨rfl,aV⟩;have E4:Hid (Below w.heap.size w w7):=HB.out.trans (aV.mono HB.out.size);clear HJ aV HB
   go_wp2_with fail
   go_ret
   exact⟨by rw[E1.out];simp[ba,ByteArray.mk_append_mk],E4.out⟩
def yI:List UInt8:=[77,85,76,84,73,80,79,76,89,71,79,78,32,40]
def JM:List UInt8:=[77,85,76,84,73,80,79,76,89,71,79,78,32,69,77,80,84,89]
def uO(TS:List (List UInt8)):List UInt8:=if TS=[] then JM else yI++(Lib.join TS [44,32]++[41])
theorem YG(so:Option Addr)(c:Nat)(TS:List (List UInt8))(w:World)(hl:TS.length<=85000000)(hlen:(Lib.join TS [44,32]).length<=140737488355328)
  (HH:Hid (∀(k:Nat) t,TS[k]?=some t->∃b pb,so=some ⟨b,0,none⟩/\w.cell? ⟨b,k,none⟩=some (.pointer (some ⟨pb,0,none⟩))/\∀w1,Below w.heap.size w w1->Calls Tryz.prog 102 #[.pointer (some ⟨pb,0,none⟩)] w1 fun e w'=>e=.returned (.string (ba t))/\Below w1.heap.size w1 w')):
  Calls Tryz.prog 67 #[.slice so TS.length c] w fun e w'=>e=.returned (.string (ba (uO TS)))/\Below w.heap.size w w':=by
 obtain⟨i0,hi,hz0,hz1,hz2⟩:=info_parts Mh;by_cases hT0:TS=[]
 ·subst hT0;clear HH
  go_enter Tryz.func67,Tryz.ntmps67
  go_wp2_with fail
  go_ret
  exact⟨rfl,Below.refl _ _⟩
 ·have vP:Hid (TS≠[]):=hT0;have hne:¬TS.length=0:=fun e=>hT0 (gF.1 e)
  have an7:((TS.length:Int) == 0)=false:=by rw[yU];omega
  clear hT0;have bW:Hid (SI w (.slice none 0 0) ((TS.take 0).map ba) w):=⟨World.ownsRow_nil _ _ _ _,Below.refl _ _⟩
  go_enter Tryz.func67,Tryz.ntmps67
  go_wp2_with fail
  go_loopg [3,11] TS.length (fun m lv iv wr=>∃k:Nat,k+m=TS.length/\iv=.int .i64 k/\Hid (SI w lv ((TS.take k).map ba) wr))
  case atStart=>exact⟨0,by omega,rfl,bW⟩
  case round=>
   obtain⟨k,hkn,rfl,HE⟩:=hrel;have aw:=HE.out.2;clear bW;by_cases hlt:k<TS.length
   ·obtain⟨t,ht⟩:∃t,TS[k]?=some t:=⟨_,aC hlt⟩;obtain⟨b,pb,rfl,v0,hc⟩:=HH.out k t ht;have r0:=(aw.cell (p:=⟨b,k,none⟩) (lt_of_cell v0)).trans v0;have fN:(k:Int)<(TS.length:Int):=by omega
    have HC:Hid (Calls Tryz.prog 102 #[.pointer (some ⟨pb,0,none⟩)] wr fun e w'=>e=.returned (.string (ba t))/\Below wr.heap.size wr w'):=hc wr aw
    have hT':(TS.take (k+1)).map ba=(TS.take k).map ba++[ba t]:=by
     rw[jF,ht];simp
    have HT:Hid ((TS.take (k+1)).map ba=(TS.take k).map ba++[ba t]):=hT';have hxl:((TS.take k).map ba).length<=85000001:=by simp;omega
    obtain⟨ho,_⟩:=HE.out;clear hT' v0 ht hc HE HH vP;generalize(TS.take k).map ba=A1 at*;generalize ba t=X at*
    go_wp2_with fail
    refine HC.out.mono ?_;rintro e w5 ⟨rfl,az⟩;have l8:Below w.heap.size w w5:=aw.trans (az.mono aw.size);have dN:w5.ownsRow w.heap.size 9 1 u3 A1.length (A1.map Value.string):=aU ho fun k hk=>az.block k (aB ho k hk).2
    have hs5:=l8.size;clear ho HC az aw
    go_wp2_with (at_builtin;refine wpList_append_lies _ rfl (.tmp 15) (.tmp 18) 164 rfl w.heap.size 9 i0 _ 1 16 Tryz.underlying164 hi hz0 hz1 hz2 rfl (by decide) u3 A1.length (A1.map Value.string) rfl (aU dN (fun k hk=>Below.heap_alloc _ _ _ (aB dN k hk).2)) ⟨w5.heap.size,0,none⟩ 1 1 [.string X] rfl rfl (World.news_of_block (cs:= #[.string X]) (t:=9) (fr:=(0,0)) (heap_alloc_new w5 _)) (by simp[Value.oneCell']) (by decide) (by unfold maxLen;omega) (by omega) (by simp;omega) (w5.heap.size+1) (by simp) ?_;intro g' cap' w6 fY lC C0 C3)
    have HN:Hid (SI w (.slice (some ⟨g',0,none⟩) (A1.length+1) cap') ((TS.take (k+1)).map ba) w6):=by
     rw[HT.out];refine⟨?_,(l8.alloc l8.size _).grown lC (by simp;omega) (fun k hk=>(aB dN k hk).1)⟩
     rw[aX,ja];exact fY
    clear fY lC dN HT
    go_roundg (gk-1)
    case measure=>omega
    case rel=>exact⟨k+1,by omega,by go_num,HN⟩
   ·have hk:k=TS.length:=by omega
    subst hk;have HF:=HE.out;rw[gm] at HF;have HJ:Hid (Calls Tryz.prog 103 #[u3,.string ⟨#[44,32]⟩] wr fun e w'=>e=.returned (.string ⟨(Lib.join TS [44,32]).toArray⟩)/\Below wr.heap.size wr w'):=YE HF (by omega) hlen
    have E1:Hid (uO TS=yI++(Lib.join TS [44,32]++[41])):=af vP.out;generalize Lib.join TS [44,32]=TX at*;have hs1:¬9223372036854775807<14+TX.length:=by omega
    have hs2:¬9223372036854775807<14+TX.length+1:=by omega
    have HB:Hid (Below w.heap.size w wr):=aw;clear HE HH HF aw vP
    go_wp2_with fail
    refine HJ.out.mono ?_;rintro e w7 ⟨rfl,aV⟩;have E4:Hid (Below w.heap.size w w7):=HB.out.trans (aV.mono HB.out.size);clear HJ aV HB
    go_wp2_with fail
    go_ret
    exact⟨by rw[E1.out];simp[ba,yI,ByteArray.mk_append_mk],E4.out⟩
def fI(Xs:List PB)(p:Pg):List UInt8:=oZ (eB Xs p.1) (p.2.map (eB Xs))
def E5(Xs:List PB)(ps:List Pg):List UInt8:=uO (ps.map (fI Xs))
theorem OX:∀l:List (List UInt8),(Lib.join l [44,32]).length<=(l.map fun t=>t.length+2).sum
 |[]=>by simp[Lib.join,List.intercalate]
 |[x]=>by simp[Lib.join_one]
 |x::y::r=>by
  have ih:=OX (y::r);have e:Lib.join (x::y::r) [44,32]=x++([44,32]++Lib.join (y::r) [44,32]):=by simp[Lib.join,List.intercalate]
  rw[e];simp only[aX,eI,BM,cN,gP] at ih⊢;omega
section
variable{Xs:List PB}
theorem YH(hB:BD Xs){r:List Nat}(h:RG Xs r):∀n∈fr Xs r,dM n.1 n.2.1 n.2.2:=fun n hn=>by
 unfold fr at hn;obtain⟨i,hi,rfl⟩:=aN.1 hn;exact(hB.v _ (gu (h.lt i hi))).f.inn
theorem YI(hB:BD Xs){r:List Nat}(h:RG Xs r):(eB Xs r).length<=208*r.length:=by
 have h0:0<r.length:=iP.2 h.ne;have hn:=YH hB h;have h1:=Pl.Hx Pl.gI 101 ((fr Xs r++(fr Xs r).take 1).map Ge.ax) (fun q hq=>by
  obtain⟨n,hm,rfl⟩:=aN.1 hq;refine Mi ?_;rcases bQ.1 hm with hn'|hn'
  ·exact hn n hn'
  ·exact hn n (qh hn'))
 have h2:(fr Xs r).length=r.length:=by simp[fr]
 rw[iF,aX,iE,h2] at h1;unfold eB;simp only[cN,aX,gP];omega
theorem OY{α:Type}(f g:α->Nat):∀l:List α,(∀x∈l,f x<=g x)->(l.map f).sum<=(l.map g).sum
 |[],_=>by simp
 |a::l,h=>by
  have h1:=h a (by simp)
  have h2:=OY f g l fun x hx=>h x (by simp[hx])
  simp only[eI,BM];omega
theorem OZ{α:Type}(c:Nat)(f:α->Nat):∀l:List α,(l.map fun x=>c*f x).sum=c*(l.map f).sum
 |[]=>by simp
 |a::l=>by simp only[eI,BM,OZ c f l,Nat.mul_add]
theorem YJ(hB:BD Xs){p:Pg}(h:ni Xs p):(Lib.join (eB Xs p.1::p.2.map (eB Xs)) [44,32]).length<=210*(p.1.length+dO p.2):=by
 have h1:=OX (eB Xs p.1::p.2.map (eB Xs));have h2:=YI hB h.1;have h0:0<p.1.length:=iP.2 h.1.ne;rw[eI,BM,fL] at h1;have h3:=OY ((fun t:List UInt8=>t.length+2)∘eB Xs) (fun r=>210*r.length) p.2 (fun r hr=>by
  have h4:=YI hB (h.2 r hr);have h5:0<r.length:=iP.2 (h.2 r hr).ne;show(eB Xs r).length+2<=210*r.length;omega)
 rw[OZ] at h3;have h6:(p.2.map fun r=>r.length).sum=dO p.2:=rfl
 rw[h6] at h3;omega
theorem ajz(hB:BD Xs){p:Pg}(h:ni Xs p):(fI Xs p).length+2<=214*(p.1.length+dO p.2):=by
 have h1:=YJ hB h;have h0:0<p.1.length:=iP.2 h.1.ne;unfold fI oZ;simp only[cN,aX,gP];omega
theorem YK(hB:BD Xs){ps:List Pg}(h:∀p∈ps,ni Xs p):(Lib.join (ps.map (fI Xs)) [44,32]).length<=214*iB ps:=by
 have h1:=OX (ps.map (fI Xs));rw[fL] at h1;have h3:=OY ((fun t:List UInt8=>t.length+2)∘fI Xs) (fun p=>214*(p.1.length+dO p.2)) ps (fun p hp=>ajz hB (h p hp))
 rw[OZ] at h3;exact fg h1 h3
theorem YL{β:Type}(cf:β->β->Int)(l:List β)(hO:Sort.SWO (ltOf fun i j:Fin l.length=>cf l[i] l[j])):(iZ cf l).Perm l:=by
 unfold iZ;by_cases h:0<l.length
 ·rw[u7 h];obtain⟨_,p3,_⟩:=OS (fun i j:Fin l.length=>cf l[i] l[j]) hO h
  have k:=p3.map (fun i:Fin l.length=>l[i])
  have e3:(Array.ofFn (id:Fin l.length->Fin l.length)).toList.map (fun i:Fin l.length=>l[i])=l:=by
   apply xg
   ·simp
   ·intro i h1 h2;simp
  rw[e3] at k;exact k
 ·rw[BJ h];have:l=[]:=gF.1 (by omega)
  rw[this]
theorem YM(hB:BD Xs){p:Pg}(h:ni Xs p):(dA Xs p).2.Perm p.2:=
 YL _ _ (uM (fun i:Fin p.2.length=>fr Xs p.2[i]) (fun i=>JK hB (h.2 _ (gw i.2))))
theorem YN(hB:BD Xs){p:Pg}(h:ni Xs p):ni Xs (dA Xs p):=⟨h.1,fun r hr=>h.2 r ((YM hB h).mem_iff.1 hr)⟩
theorem O0(hB:BD Xs){ps:List Pg}(h:∀p∈ps,ni Xs p):(tA Xs ps).Perm (ps.map (dA Xs)):=
 YL _ _ (uM (fun i:Fin (ps.map (dA Xs)).length=>fr Xs (ps.map (dA Xs))[i].1) (fun i=>by
  have hm:=gw (l:=ps.map (dA Xs)) i.2;obtain⟨p,hp,e⟩:=aN.1 hm;have hg:=(YN hB (h p hp)).1;rw[e] at hg;exact JK hB hg))
theorem YO(hB:BD Xs){ps:List Pg}(h:∀p∈ps,ni Xs p):∀p∈tA Xs ps,ni Xs p:=fun p hp=>by
 have:=(O0 hB h).mem_iff.1 hp;obtain⟨q,hq,rfl⟩:=aN.1 this;exact YN hB (h q hq)
theorem YP(hB:BD Xs){ps:List Pg}(h:∀p∈ps,ni Xs p):iB (tA Xs ps)=iB ps:=by
 have h1:iB (tA Xs ps)=iB (ps.map (dA Xs)):=((O0 hB h).map _).sum_nat;rw[h1];unfold iB;rw[fL];congr 1;apply rB;intro p hp;have h2:dO (dA Xs p).2=dO p.2:=((YM hB (h p hp)).map _).sum_nat;show(dA Xs p).1.length+dO (dA Xs p).2=_;rw[h2];rfl
end
theorem YR:∀l:List (List Nat),(∀r∈l,0<r.length)->l.length<=dO l
 |[],_=>iD _
 |a::l,h=>by
  have h1:=h a (by simp)
  have h2:=YR l fun r hr=>h r (by simp[hr])
  have e:dO (a::l)=a.length+dO l:=by simp[dO]
  rw[e,cN];omega
section
variable{bs:List Nat}{Xs:List PB}{g base:Nat}{w:World}
theorem YS(hB:BD Xs)(hR:RB w g bs Xs){v:Value}{r:List Nat}(o:w.ownsRow base 175 1 v r.length (aL (r.map (bx bs))))(h:RG Xs r)(hG:Gl w):
  Calls Tryz.prog 153 #[v] w fun e w'=>e=.returned (.string (ba (eB Xs r)))/\Below w.heap.size w w':=by
 have h0:0<r.length:=iP.2 h.ne;obtain⟨g1,c1,rfl,_,_,_,f1⟩:=mZ o h0;have hl:=h.len;have hX:=hB.len;refine ajq bs Xs r g1 c1 w (by omega) h0 hG (fun i a ha=>?_) (YH hB h)
 have hs:=hR.at (h.lt a (aZ ha));exact⟨f1 i _ (by simp[aL,ha]),hs.c2,hs.c3⟩
theorem ajA(hB:BD Xs)(hR:RB w g bs Xs){ph:jC}{p:Pg}(o:OT bs base ph p w)(h:ni Xs p)(ht:iB [p]<=Xs.length)(hG:Gl w):
  Calls Tryz.prog 102 #[.pointer (some ⟨ph.pb,0,none⟩)] w fun e w'=>e=.returned (.string (ba (fI Xs p)))/\Below w.heap.size w w':=by
 have h0:0<p.1.length:=iP.2 h.1.ne;have hX:=hB.len;have ht':p.1.length+dO p.2<=Xs.length:=by simpa[iB] using ht
 have hl:=YJ hB h;have yC:p.2.length<=dO p.2:=YR p.2 (fun r hr=>iP.2 (h.2 r hr).ne)
 obtain⟨gs,cs,e1,_⟩:=mZ o.sh h0;obtain⟨so,c,e2⟩:∃so c,ph.hv=.slice so (p.2.map (eB Xs)).length c:=by
  rw[iF,<-o.hl];rcases o.ho.2 with⟨hv,h0⟩|⟨b,cap,cur,hv,_⟩
  ·exact⟨none,0,by rw[hv,h0]⟩
  ·exact⟨_,cap,hv⟩
 refine ajy ph.pb gs p.1.length cs so c (eB Xs p.1) (p.2.map (eB Xs)) w (by rw[iF];omega) (by omega) hG ?_ ?_ (fun w1 hb bO=>?_) (fun k t hk=>?_)
 ·rw[cell_of o.blk 0,<-e1];rfl
 ·rw[cell_of o.blk 1,<-e2];rfl
 ·rw[<-e1];exact YS hB (hR.below hb) (aU o.sh fun k e=>hb.block k (aB o.sh k e).2) h.1 bO
 ·rw[gz] at hk;obtain⟨r,hr,rfl⟩:=pA.1 hk;have hkl:k<ph.hvs.length:=by rw[o.hl];exact(bZ.1 hr).1
  obtain⟨v,hv⟩:∃v,ph.hvs[k]?=some v:=⟨_,aC hkl⟩;have hgr:=h.2 r (aZ hr);have ow:=o.hr k v r hv hr;obtain⟨gk,ck,rfl,_⟩:=mZ ow (iP.2 hgr.ne);obtain⟨b,cT,e3,_,_,_,f⟩:=mZ o.ho (by omega)
  rw[e2] at e3;injection e3 with e3;exact⟨b,gk,_,ck,e3,f k _ hv,fun w1 hb bO=>YS hB (hR.below hb) (aU ow fun k e=>hb.block k (aB ow k e).2) hgr bO⟩
theorem ajB{ps:List Pg}{p:Pg}(h:p∈ps):iB [p]<=iB ps:=by
 induction ps with
 |nil=>simp at h
 |cons a ps ih=>
  rcases aP.1 h with rfl|h
  ·simp[iB]
  ·have:=ih h;simp only[iB,eI,BM,Qj,List.sum_nil] at this⊢;omega
theorem ajC(hB:BD Xs)(hR:RB w g bs Xs){fJ:Value}{PS:List Pg}{PH:List jC}(o:PO bs base fJ PS PH w)(h:∀p∈PS,ni Xs p)(ht:iB PS<=Xs.length)(hl:PS.length<=85000000)(hG:Gl w):
  Calls Tryz.prog 67 #[fJ] w fun e w'=>e=.returned (.string (ba (E5 Xs PS)))/\Below w.heap.size w w':=by
 have hX:=hB.len;have hJ:=YK hB h;obtain⟨so,c,rfl⟩:∃so c,fJ=.slice so (PS.map (fI Xs)).length c:=by
  rw[iF,<-o.len];rcases o.row.2 with⟨hv,h0⟩|⟨b,cap,cur,hv,_⟩
  ·exact⟨none,0,by rw[hv,h0]⟩
  ·exact⟨_,cap,hv⟩
 refine YG so c (PS.map (fI Xs)) w (by rw[iF];exact hl) (by omega) (fun k t hk=>?_)
 rw[gz] at hk;obtain⟨p,hp,rfl⟩:=pA.1 hk;have hkl:k<PH.length:=by rw[o.len];exact(bZ.1 hp).1
 obtain⟨ph,fU⟩:∃ph,PH[k]?=some ph:=⟨_,aC hkl⟩;have hmem:=aZ hp;obtain⟨b,cT,e3,_,_,_,f⟩:=mZ o.row (by omega)
 injection e3 with e3;refine⟨b,ph.pb,e3,f k _ (by rw[gz,fU];rfl),fun w1 hb=>?_⟩
 have q:=o.pg k ph p fU hp;have q1:OT bs base ph p w1:=⟨(hb.block _ (lt_of_heap q.blk)).trans q.blk,aU q.sh fun k e=>hb.block k (aB q.sh k e).2,aU q.ho fun k e=>hb.block k (aB q.ho k e).2,q.hl,fun i v r h1 h2=>aU (q.hr i v r h1 h2) fun k e=>hb.block k (aB (q.hr i v r h1 h2) k e).2⟩
 exact ajA hB (hR.below hb) q1 (h p hmem) (fg (ajB hmem) ht) (hG.below hb hG.sz)
end
end Go.Proofs.YtkjhhooecopolaaGreatDoor

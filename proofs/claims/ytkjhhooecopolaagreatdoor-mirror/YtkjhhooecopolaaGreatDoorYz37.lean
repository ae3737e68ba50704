import Derived.Test.YtkjhhooecopolaaGreatDoorYz36
set_option maxRecDepth 100000
set_option maxHeartbeats 4000000
namespace Go.Proofs.YtkjhhooecopolaaGreatDoor
open Go.RowKit Go.Shelf
section
variable{bs:List Nat}{base:Nat}{PS:List Pg}{PH:List jE}{T:Nat->Tg}{g:Nat}{Xs:List PB}
theorem alj{fM:Value}{wr:World}(hB:BD Xs)(hg:g<base)(hbb:∀b∈bs,b<base)(hz0:base<=wr.heap.size)(h:PI bs base fM PS PH T wr)(hR:RB wr g bs Xs)(hd:∀p∈PS,RG Xs p.1)(hl:PS.length<=85000000):
  Calls Tryz.prog 175 #[fM,.func (.func 176) #[] #[]] wr fun e w'=>e=.returned (.tuple #[])/\(∃rL,PO bs base fM (kq (ue Xs) PS) rL w')/\Below base wr w':=by
 have eg:∀args w,(callFunc 176 args).run Tryz.prog w=.ok (.enter 176 args) w:=enters_of Tryz.func176 (by kernel_rfl) rfl
 have JY:=hB.len;have hlm:(PH.map jm).length=PS.length:=by rw[iQ];exact h.len
 have hone:∀v∈PH.map jm,v.oneCell'=true:=fun v hv=>by
  obtain⟨p,_,rfl⟩:=bh.1 hv;rfl
 have hsw:Sort.SWO (ltOf fun i j:Fin PS.length=>ue Xs PS[i] PS[j]):=Cb (fun i:Fin PS.length=>fr Xs PS[i].1) (fun i=>Ke hB (hd _ (iw i.2)))
 have hrow:wr.ownsRow base 165 1 fM (PH.map jm).length (PH.map jm):=by rw[iQ];exact h.row
 refine(aah Tryz.sortPg 176 eg (ue Xs) PS (PH.map jm) hone hrow hlm hl hsw ?_).mono ?_
 ·intro w' hz hk i j u v x y h1 h2 h3 h4;rw[gD] at h1 h2;obtain⟨p,hp,rfl⟩:=rO.1 h1;obtain⟨p',hp',rfl⟩:=rO.1 h2;have hP:=h.pg i p x hp h3;have Cc:=h.pg j p' y hp' h4;have kr:∀b,b<wr.heap.size->T b≠.xD->w'.heap[b]?=wr.heap[b]?:=fun b hb ht=>hk b hb (fun e=>ht (h.tl b e))
  have gx:=hd x (bn h3);have gy:=hd y (bn h4);have hR':RB w' g bs Xs:=hR.low hg hbb (fun k hkb=>hk k (by omega) (sy h.row k hkb))
  have o1:w'.ownsRow base 175 1 p.sv x.1.length (aL (x.1.map (bx bs))):=aO hP.sh fun k e=>kr k (aA hP.sh k e).2 (by rw[hP.ts k e];simp)
  have o2:w'.ownsRow base 175 1 p'.sv y.1.length (aL (y.1.map (bx bs))):=aO Cc.sh fun k e=>kr k (aA Cc.sh k e).2 (by rw[Cc.ts k e];simp)
  have b1:w'.heap[p.pb]?=some (.cells #[p.sv,p.hv] 187 (0,0)):=(kr _ (lt_of_heap hP.blk) (by rw[hP.tp];simp)).trans hP.blk
  have b2:w'.heap[p'.pb]?=some (.cells #[p'.sv,p'.hv] 187 (0,0)):=(kr _ (lt_of_heap Cc.blk) (by rw[Cc.tp];simp)).trans Cc.blk
  obtain⟨g1,c1,e1,_⟩:=nP o1 (gV.2 gx.ne);obtain⟨g2,c2,e2,_⟩:=nP o2 (gV.2 gy.ne);have hc:∀w'',Gr w' w''->Calls Tryz.prog 174 #[p.sv,p'.sv] w'' fun e w3=>e=.returned (.int .i64 (ue Xs x y))/\Gr w'' w3:=fun w'' hG=>
   aag hB (hR'.below hG.1) (aO o1 fun k e=>hG.1.block k (aA o1 k e).2) (aO o2 fun k e=>hG.1.block k (aA o2 k e).2) gx.ne gy.ne gx.lt gy.lt (by have:=gx.len;omega) (by have:=gy.len;omega)
  rw[e1,e2] at hc;refine ale p.pb p'.pb g1 _ c1 g2 _ c2 w' (ue Xs x y) ?_ ?_ hc
  ·rw[cell_of b1 0,<-e1];rfl
  ·rw[cell_of b2 0,<-e2];rfl
 ·rintro e w' ⟨rfl,d,p1,p2,p3,p4,p5,p6⟩;have hin:∀a∈d,a<PH.length:=fun a ha=>by
   have:=p1.mem_iff.1 ha;rw[qH] at this;rw[h.len];exact this
  have f1:∀a∈d,∃b,(fun i=>PH[i]?) a=some b:=fun a ha=>⟨_,aD (hin a ha)⟩
  have sM:d.length=PH.length:=by rw[p1.length_eq,acQ,h.len]
  have xn:(d.filterMap (fun i=>PH[i]?)).length=PH.length:=by rw[aal _ _ f1,sM]
  have hvs:d.filterMap (fun i=>(PH.map jm)[i]?)=(d.filterMap (fun i=>PH[i]?)).map jm:=by
   rw[List.map_filterMap];congr 1;funext i;rw[gD]
  refine⟨rfl,⟨d.filterMap (fun i=>PH[i]?),?_,by rw[xn,p3,h.len],fun q ph ps h1 h2=>?_⟩,p6.os,p6.tape,p6.output,p6.size,fun k hk=>p6.block k (by omega) (Kf (sy h.row k hk))⟩
  ·rw[<-hvs,xn,<-iQ (f:=jm)];exact p4
  ·have h1':((d.filterMap (fun i=>PH[i]?)).map jm)[q]?=some (jm ph):=by rw[gD,h1];rfl
   rw[<-hvs] at h1';obtain⟨j,_,j1,_,j2⟩:=p5 q _ ps h1' h2;rw[aak _ _ f1,j1] at h1;have hj:PH[j]?=some ph:=h1;have hP:=h.pg j ph ps hj j2;have kr:∀b,b<wr.heap.size->T b≠.xD->w'.heap[b]?=wr.heap[b]?:=fun b hb ht=>p6.block b hb (Kf fun e=>ht (h.tl b e))
   exact⟨(kr _ (lt_of_heap hP.blk) (by rw[hP.tp];simp)).trans hP.blk,aO hP.sh fun k e=>kr k (aA hP.sh k e).2 (by rw[hP.ts k e];simp),aO hP.ho fun k e=>kr k (aA hP.ho k e).2 (by rw[hP.th k e];simp),hP.hl,fun i v r h3 h4=>by
    obtain⟨k1,k2⟩:=hP.hr i v r h3 h4;exact aO k1 fun k e=>kr k (aA k1 k e).2 (by rw[k2 k e];simp)⟩
theorem alk{fM:Value}{wr:World}(hB:BD Xs)(hg:g<base)(hbb:∀b∈bs,b<base)(hz0:base<=wr.heap.size)(h:PI bs base fM PS PH T wr)(hR:RB wr g bs Xs)(hd:∀p∈PS,nQ Xs p)(hl:PS.length<=85000000)(hh:∀p∈PS,p.2.length<=85000000):
  Calls Tryz.prog 116 #[fM] wr fun e w'=>e=.returned (.tuple #[])/\(∃rL,PO bs base fM (vP Xs PS) rL w')/\RB w' g bs Xs/\Below base wr w':=by
 obtain⟨hlen,jM⟩:=id h.row;rcases jM with⟨rfl,h0⟩|⟨gp,cap,cur,rfl,IE,hblk,hnc,hcm,hcs,htk⟩
 ·have hPH:PH=[]:=gF.1 h0;have Ce:PS=[]:=gF.1 (by rw[<-h.len];exact h0)
  subst hPH;subst Ce;refine(aai wr).mono ?_;rintro e w' ⟨rfl,rfl⟩;exact⟨rfl,⟨[],⟨h.row,rfl,fun q ph ps hq=>by simp at hq⟩⟩,hR,Below.refl _ _⟩
 ·refine alf gp PH.length cap (fun k w'=>k<=PH.length/\∃Cf rL,PI bs base (.slice (some ⟨gp,0,none⟩) PH.length cap) Cf rL T w'/\rL.length=PH.length/\(∀i:Nat,Cf[i]?=if i<k then PS[i]?.map (gS Xs) else PS[i]?)/\RB w' g bs Xs/\Below base wr w') _ wr (by rw[h.len];exact hl) (fun k w1 hI hk=>?_) (fun w1 hI=>?_) ⟨iI _,PS,PH,h,rfl,fun i=>by simp,hR,Below.refl _ _⟩
  ·obtain⟨_,Cf,rL,lC,xn,Ce,dO,ak⟩:=hI;have hk':k<rL.length:=by rw[xn];exact hk
   obtain⟨ph,fX⟩:∃ph,rL[k]?=some ph:=⟨_,aD hk'⟩;have vQ:k<PS.length:=by rw[<-h.len];exact hk
   have hps:Cf[k]?=some PS[k]:=by rw[Ce k,aa (acE _),aD vQ]
   have hP:=lC.pg k ph _ fX hps;have hmem:=iw vQ;obtain⟨so,m,c,hv⟩:=FL hP.ho;have hcell:w1.cell? ⟨gp,k,none⟩=some (.pointer (some ⟨ph.pb,0,none⟩)):=by
    obtain⟨gT,cT,e1,_,_,_,f1⟩:=nP lC.row (by omega)
    injection e1 with e1;injection e1 with e1;injection e1 with e1;subst e1;exact f1 k _ (by rw[gD,fX];rfl)
   refine⟨ph.pb,so,m,c,hcell,by rw[cell_of hP.blk 1,<-hv];rfl,?_⟩
   rw[<-hv];refine(ali hB hg hbb lC dO fX hps (hd _ hmem) (hh _ hmem)).mono ?_;rintro e w' ⟨rfl,⟨ua,aln⟩,hb'⟩;refine⟨rfl,by omega,_,_,aln,by rw[Lg];exact xn,fun i=>?_,dO.low hg hbb hb'.block,ak.trans hb'⟩
   rw[List.getElem?_set];by_cases hik:k=i
   ·subst hik;rw[ah rfl,ah (by rw[<-lC.len];exact hk'),ah (by omega),aD vQ]
    rfl
   ·rw[aa hik,Ce i];by_cases hi:i<k
    ·rw[ah hi,ah (by omega)]
    ·rw[aa hi,aa (by omega)]
  ·obtain⟨_,Cf,rL,lC,xn,Ce,dO,ak⟩:=hI;have alo:Cf=PS.map (gS Xs):=by
    apply Ct;intro i;rw[Ce i,gD];split
    ·rfl
    ·rename_i hi
     rw[xO (by rw[<-h.len];omega)]
     rfl
   subst alo;refine(alj hB hg hbb (dY hz0 ak.size) lC dO (fun p hp=>?_) (by rw[iQ];exact hl)).mono ?_
   ·obtain⟨p0,hp0,rfl⟩:=bh.1 hp;exact(hd p0 hp0).1
   ·rintro e w' ⟨rfl,Qq,hb'⟩;exact⟨rfl,Qq,dO.low hg hbb hb'.block,ak.trans hb'⟩
end
end Go.Proofs.YtkjhhooecopolaaGreatDoor
namespace Go.Proofs.YtkjhhooecopolaaGreatDoor
open Go.RowKit
theorem aam{w wr:World}{lv:Value}{xs:List ByteArray}(sep:ByteArray)(h:SI w lv xs wr)(hl:xs.length<=100000000)(hlen:(Lib.join (xs.map (·.data.toList)) sep.data.toList).length<=140737488355328):
  Calls Tryz.prog 103 #[lv,.string sep] wr fun e w'=>e=.returned (.string ⟨(Lib.join (xs.map (·.data.toList)) sep.data.toList).toArray⟩)/\Below wr.heap.size wr w':=by
 rcases h.1.2 with⟨hv,h0⟩|⟨g,cap,cur,hv,_,hb,hc,_,_,ht⟩
 ·have hx:xs=[]:=gF.1 h0;subst hx;rw[hv];exact(Tryz.strings_Join_none none 0 sep wr).mono fun e w'⟨he,hw⟩=>⟨he,hw▸Below.refl _ _⟩
 ·rw[hv];have hlt:g<wr.heap.size:=by
   rcases KZ g wr.heap.size with h1|h1
   ·exact h1
   ·rw[Gz h1] at hb;cases hb
  refine Tryz.strings_Join g 0 cap xs sep wr (fun j x hj=>?_) hlt (by omega) hc hlen
  have hm:(xs.map Value.string)[j]?=some (.string x):=by simp[hj]
  rw[jn,uM hb j,<-ja];rw[<-ht,kC] at hm;split at hm
  ·exact hm
  ·cases hm
theorem alp(l:List Ge.Nd)(v:Value)(w:World)(hR:iD w v l)(hG:Gl w)(hn:∀n∈l,dC n.1 n.2.1 n.2.2)(hl:l.length<=90000000):
  Calls Tryz.prog 71 #[v] w fun e w'=>e=.returned (.string ⟨(Pl.aN Pl.jd (l.map Ge.ay)).toArray⟩)/\Below w.heap.size w w':=by
 obtain⟨so,cap,rfl⟩:=I3 hR;obtain⟨i0,hi,hz0,hz1,hz2⟩:=info_parts Nl;have HR:Hid (iD w (.slice so l.length cap) l):=hR;have HN:Hid (∀n∈l,∀w1,Gl w1->Calls Tryz.prog 122 #[.agg #[.complex .f64 (floatOfInt .f64 n.1) (floatOfInt .f64 n.2.1),.int .i64 n.2.2]] w1 fun e w'=>e=.returned (.string ⟨(Pl.jd (Ge.ay n)).toArray⟩)/\Below w1.heap.size w1 w'):=fun n h w1 g1=>agE n (hn n h) w1 g1
 have HJ:Hid (∀lv wr,SI w lv (oG l) wr->Calls Tryz.prog 103 #[lv,.string ⟨#[44,32]⟩] wr fun e w'=>e=.returned (.string ⟨(Pl.aN Pl.jd (l.map Ge.ay)).toArray⟩)/\Below wr.heap.size wr w'):=fun lv wr h=>by
  have e:Lib.join ((oG l).map (·.data.toList)) (⟨#[44,32]⟩:ByteArray).data.toList=Pl.aN Pl.jd (l.map Ge.ay):=by
   rw[agF];exact VV Pl.jd _
  have hlen:=Pl.yH Pl.jd 101 (l.map Ge.ay) (fun q hq=>by
   obtain⟨n,hm,rfl⟩:=bh.1 hq;exact Nn (hn n hm))
  rw[iQ] at hlen;have:=aam ⟨#[44,32]⟩ h (by simp[oG];omega) (by rw[e];omega)
  rw[e] at this;exact this
 clear hR;generalize Pl.aN Pl.jd (l.map Ge.ay)=RT at*
 go_enter Tryz.func71,Tryz.ntmps71
 go_wp2_with fail
 have bw:Hid (SI w (.slice none 0 0) [] w):=⟨World.ownsRow_nil _ _ _ _,Below.refl _ _⟩
 go_loopg [3,8] l.length (fun m lv iv wr=>∃i:Nat,i+m=l.length/\iv=.int .i64 i/\Hid (SI w lv (oG (l.take i)) wr))
 case atStart=>exact⟨0,by omega,rfl,bw⟩
 case round=>
  obtain⟨i,him,rfl,HE⟩:=hrel;have ak:=HE.out.2;clear bw;by_cases hlt:i<l.length
  ·obtain⟨n,hg⟩:∃g,l[i]?=some g:=⟨_,aD hlt⟩;obtain⟨b,rfl,hb,c0,c1⟩:=I4 HR.out hg;have r0:=(ak.cell (p:=⟨b,i*2,none⟩) hb).trans c0;have r1:=(ak.cell (p:=⟨b,i*2+1,none⟩) hb).trans c1;have HT:Hid (oG (l.take (i+1))=oG (l.take i)++[⟨(Pl.jd (Ge.ay n)).toArray⟩]):=by
    have e:=List.take_append_getElem hlt;have hn':l[i]=n:=by
     have:=aD hlt;rw[hg] at this;injection this with this;exact this.symm
    rw[<-e,hn'];show oG (l.take i++[n])=_;simp[oG]
   have HW:=HN.out n (bn hg);have hxl:(oG (l.take i)).length<=90000000:=by simp[oG];omega
   have eK:(i:Int)<(l.length:Int):=by omega
   have hbr:b<wr.heap.size:=aQ hb ak.size;have iC:Gl wr:=hG.below ak hG.sz;have tL:Hid (∀w1,Gl w1->Calls Tryz.prog 122 #[.agg #[.complex .f64 (floatOfInt .f64 n.1) (floatOfInt .f64 n.2.1),.int .i64 n.2.2]] w1 fun e w'=>e=.returned (.string ⟨(Pl.jd (Ge.ay n)).toArray⟩)/\Below w1.heap.size w1 w'):=HW
   generalize Pl.jd (Ge.ay n)=X at*;generalize floatOfInt .f64 n.1=N1 at*;generalize floatOfInt .f64 n.2.1=N2 at*;generalize oG (l.take i)=A1 at*;clear hg c0 c1 HN HR HW
   go_wp2_with (simp only[fL];go_simp)
   refine(tL.out _ (iC.alloc _)).mono ?_;rintro e w5 ⟨rfl,ax⟩;obtain⟨hx2,_⟩:=HE.out;have pO:=ak.alloc ak.size (.cells #[.complex .f64 N1 N2,.int .i64 n.2.2] 83);have kK:=pO.trans (ax.mono pO.size);have dG:w5.ownsRow w.heap.size 9 1 u3 A1.length (A1.map Value.string):=aO hx2 fun k hk=>(ax.block k (by have:=(aA hx2 k hk).2;simp;omega)).trans (Below.heap_alloc _ _ _ (aA hx2 k hk).2)
   have hs5:=kK.size;clear hx2 HE
   go_wp2_with (at_builtin;refine wpList_append_lies _ rfl (.tmp 12) (.tmp 15) 164 rfl w.heap.size 9 i0 _ 1 16 Tryz.underlying164 hi hz0 hz1 hz2 rfl (by decide) u3 A1.length (A1.map Value.string) rfl (aO dG (fun k hk=>Below.heap_alloc _ _ _ (aA dG k hk).2)) ⟨w5.heap.size,0,none⟩ 1 1 [.string ⟨X.toArray⟩] rfl rfl (World.news_of_block (cs:= #[.string ⟨X.toArray⟩]) (t:=9) (fr:=(0,0)) (heap_alloc_new w5 _)) (by simp[Value.oneCell']) (by decide) (by unfold maxLen;omega) (by omega) (by simp;omega) (w5.heap.size+1) (by simp) ?_;intro g' cap' w6 gm lN DX DY)
   have HN:Hid (SI w (.slice (some ⟨g',0,none⟩) (A1.length+1) cap') (oG (l.take (i+1))) w6):=by
    rw[HT.out];refine⟨?_,(kK.alloc kK.size _).grown lN (by simp;omega) (fun k hk=>(aA dG k hk).1)⟩
    rw[aX,iH];exact gm
   clear gm lN dG tL HT
   go_roundg (gk-1)
   case measure=>omega
   case rel=>exact⟨i+1,by omega,by go_num,HN⟩
  ·have hk:i=l.length:=by omega
   subst hk;have HF:=HE.out;rw[dN] at HF;clear HE HR HN
   go_wp2_with fail
   refine(HJ.out _ _ HF).mono ?_;rintro e w5 ⟨rfl,ax⟩
   go_wp2_with fail
   go_ret
   exact⟨rfl,HF.2.trans (ax.mono HF.2.size)⟩
def cD(Xs:List PB)(r:List Nat):List UInt8:=40::(Pl.aN Pl.jd ((fr Xs r++(fr Xs r).take 1).map Ge.ay)++[41])
def NJ(w:World)(lv:Value)(l:List Ge.Nd)(wr:World):Prop:=wr.ownsRow w.heap.size 83 2 lv l.length (dv l)/\Below w.heap.size w wr
theorem alq(bs:List Nat)(Xs:List PB)(r:List Nat)(g1 c1:Nat)(w:World)(hl:r.length<=85000000)(hne:0<r.length)(hG:Gl w)
  (HV:Hid (∀(i:Nat) a,r[i]?=some a->w.cell? ⟨g1,i,none⟩=some (.pointer (some ⟨bx bs a,0,none⟩))/\w.cell? ⟨bx bs a,2,none⟩=some (.complex .f64 (floatOfInt .f64 (xi Xs a).f.1) (floatOfInt .f64 (xi Xs a).f.2.1))/\w.cell? ⟨bx bs a,3,none⟩=some (.int .i64 (xi Xs a).f.2.2)))
  (HN:Hid (∀n∈fr Xs r,dC n.1 n.2.1 n.2.2)):
  Calls Tryz.prog 153 #[.slice (some ⟨g1,0,none⟩) r.length c1] w fun e w'=>e=.returned (.string ⟨(cD Xs r).toArray⟩)/\Below w.heap.size w w':=by
 obtain⟨i0,hi,hz0,hz1,hz2⟩:=info_parts VX;have bw:Hid (NJ w (.slice none 0 0) (fr Xs (r.take 0)) w):=⟨World.ownsRow_nil _ _ _ _,Below.refl _ _⟩
 go_enter Tryz.func153,Tryz.ntmps153
 go_wp2_with fail
 go_loopg [3,8] r.length (fun m lv iv wr=>∃k:Nat,k+m=r.length/\iv=.int .i64 k/\Hid (NJ w lv (fr Xs (r.take k)) wr))
 case atStart=>exact⟨0,by omega,rfl,bw⟩
 case round=>
  obtain⟨k,hkn,rfl,HE⟩:=hrel;have ak:=HE.out.2;clear bw;by_cases hlt:k<r.length
  ·obtain⟨a,ha⟩:∃a,r[k]?=some a:=⟨_,aD hlt⟩;obtain⟨v0,v2,v3⟩:=HV.out k a ha;have r0:=(ak.cell (p:=⟨g1,k,none⟩) (lt_of_cell v0)).trans v0;have r2:=(ak.cell (p:=⟨bx bs a,2,none⟩) (lt_of_cell v2)).trans v2;have r3:=(ak.cell (p:=⟨bx bs a,3,none⟩) (lt_of_cell v3)).trans v3;have eK:(k:Int)<(r.length:Int):=by omega
   have hT':fr Xs (r.take (k+1))=fr Xs (r.take k)++[(xi Xs a).f]:=by
    unfold fr;rw[jH,ha];simp
   have HT:Hid (fr Xs (r.take (k+1))=fr Xs (r.take k)++[(xi Xs a).f]):=hT';have hxl:(fr Xs (r.take k)).length<=85000000:=by simp[fr];omega
   have HC:Hid (ij (xi Xs a).f=[.complex .f64 (floatOfInt .f64 (xi Xs a).f.1) (floatOfInt .f64 (xi Xs a).f.2.1),.int .i64 (xi Xs a).f.2.2]):=rfl;clear hT' v0 v2 v3 ha;generalize(xi Xs a).f=N at*;generalize floatOfInt .f64 N.1=N1 at*;generalize floatOfInt .f64 N.2.1=N2 at*;generalize N.2.2=N3 at*;generalize fr Xs (r.take k)=A1 at*;obtain⟨ho,_⟩:=HE.out;have hs5:=ak.size;clear HE HV HN
   go_wp2_with (first |(simp only[fL];go_simp)|(at_builtin;refine wpList_append_lies _ rfl (.tmp 12) (.tmp 18) 138 rfl w.heap.size 83 i0 _ 2 24 Tryz.underlying138 hi hz0 hz1 hz2 rfl (by decide) u3 A1.length (dv A1) rfl (aO ho (fun k hk=>Below.heap_alloc _ _ _ (aA ho k hk).2)) ⟨wr.heap.size,0,none⟩ 1 1 [.complex .f64 N1 N2,.int .i64 N3] rfl rfl (World.news_of_block (cs:= #[.complex .f64 N1 N2,.int .i64 N3]) (t:=83) (fr:=(0,0)) (heap_alloc_new wr _)) (by simp[Value.oneCell']) (by decide) (by unfold maxLen;omega) (by omega) (by simp;omega) (wr.heap.size+1) (by simp) ?_;intro g' cap' w6 gm lN DX DY))
   have Qr:Hid (NJ w (.slice (some ⟨g',0,none⟩) (A1.length+1) cap') (fr Xs (r.take (k+1))) w6):=by
    rw[HT.out];refine⟨?_,(ak.alloc ak.size _).grown lN (by simp;omega) (fun k hk=>(aA ho k hk).1)⟩
    rw[aX,Nk,HC.out];exact gm
   clear gm lN ho HT HC
   go_roundg (gk-1)
   case measure=>omega
   case rel=>exact⟨k+1,by omega,by go_num,Qr⟩
  ·have hk:k=r.length:=by omega
   subst hk;have HF:=HE.out;rw[dN] at HF;clear HE HV;obtain⟨a0,ha0⟩:∃a,(fr Xs r)[0]?=some a:=⟨_,aD (by simp[fr];exact hne)⟩
   have hfl:(fr Xs r).length=r.length:=by simp[fr]
   have aan:(fr Xs r).take 1=[a0]:=by
    have:=jH (l:=fr Xs r) (i:=0);rw[ha0] at this;simpa using this
   have HW:Hid (∀v w1,iD w1 v (fr Xs r++[a0])->Gl w1->Calls Tryz.prog 71 #[v] w1 fun e w'=>e=.returned (.string ⟨(Pl.aN Pl.jd ((fr Xs r++[a0]).map Ge.ay)).toArray⟩)/\Below w1.heap.size w1 w'):=fun v w1 h1 h2=>alp _ v w1 h1 h2 (fun n hn=>by
    rcases cu.1 hn with hn|hn
    ·exact HN.out n hn
    ·rw[bU] at hn;rw[hn];exact HN.out a0 (bn ha0)) (by rw[aX,hfl];simp;omega)
   have hRT:cD Xs r=40::(Pl.aN Pl.jd ((fr Xs r++[a0]).map Ge.ay)++[41]):=by unfold cD;rw[aan]
   have lK:Hid (cD Xs r=40::(Pl.aN Pl.jd ((fr Xs r++[a0]).map Ge.ay)++[41])):=hRT;have Oo:(Pl.aN Pl.jd ((fr Xs r++[a0]).map Ge.ay)).length<=140737488355328:=by
    have:=Pl.yH Pl.jd 101 ((fr Xs r++[a0]).map Ge.ay) (fun q hq=>by
     obtain⟨n,hm,rfl⟩:=bh.1 hq;refine Nn ?_;rcases cu.1 hm with hn|hn
     ·exact HN.out n hn
     ·rw[bU] at hn;rw[hn];exact HN.out a0 (bn ha0))
    rw[iQ,aX,hfl,acW] at this;omega
   generalize Pl.aN Pl.jd ((fr Xs r++[a0]).map Ge.ay)=TX at*;have hs1:¬9223372036854775807<1+TX.length:=by omega
   have hs2:¬9223372036854775807<1+TX.length+1:=by omega
   clear aan HN hRT;generalize fr Xs r=F at*;obtain⟨ho,_⟩:=HF;rw[hfl] at ho;have fT:iD wr u3 F:=by
    have:=vt ho (iI _);rw[<-hfl] at this;exact this
   obtain⟨so3,alr,hu3⟩:=I3 fT;subst hu3;obtain⟨g3,hso,hlt',c0,c1'⟩:=I4 fT ha0;subst hso;rw[hfl] at ho;have HC:Hid (ij a0=[.complex .f64 (floatOfInt .f64 a0.1) (floatOfInt .f64 a0.2.1),.int .i64 a0.2.2]):=rfl;generalize floatOfInt .f64 a0.1=N1 at*;generalize floatOfInt .f64 a0.2.1=N2 at*;generalize Bt:a0.2.2=N3 at*;clear fT ha0;have hs5:=ak.size;have iC:Gl wr:=hG.below ak hG.sz;rw[hfl]
   go_wp2_with (first |(simp only;go_simp)|(at_builtin;refine wpList_append_lies _ rfl (.tmp 21) (.tmp 25) 138 rfl w.heap.size 83 i0 _ 2 24 Tryz.underlying138 hi hz0 hz1 hz2 rfl (by decide) (.slice (some ⟨g3,0,none⟩) r.length alr) r.length (dv F) rfl (aO ho (fun k hk=>Below.heap_alloc _ _ _ (aA ho k hk).2)) ⟨wr.heap.size,0,none⟩ 1 1 [.complex .f64 N1 N2,.int .i64 N3] rfl rfl (World.news_of_block (cs:= #[.complex .f64 N1 N2,.int .i64 N3]) (t:=83) (fr:=(0,0)) (heap_alloc_new wr _)) (by simp[Value.oneCell']) (by decide) (by unfold maxLen;omega) (by omega) (by simp;omega) (wr.heap.size+1) (by simp) ?_;intro g' cap' w6 gm lN DX DY))
   have aC:Below w.heap.size w w6:=(ak.alloc ak.size _).grown lN (by simp;omega) (fun k hk=>(aA ho k hk).1)
   have hr6:iD w6 (.slice (some ⟨g',0,none⟩) (r.length+1) cap') (F++[a0]):=by
    unfold iD;rw[aX,Nk,HC.out,hfl];exact vt gm (iI _)
   have lR:Hid (Calls Tryz.prog 71 #[.slice (some ⟨g',0,none⟩) (r.length+1) cap'] w6 fun e w'=>e=.returned (.string ⟨TX.toArray⟩)/\Below w6.heap.size w6 w'):=HW.out _ _ hr6 (hG.below aC hG.sz)
   have FW:Hid (Below w.heap.size w w6):=aC;clear hr6 gm lN ho HW HC aC c0 c1' ak iC
   go_wp2_with fail
   refine lR.out.mono ?_;rintro e w7 ⟨rfl,aY⟩;have FX:Hid (Below w.heap.size w w7):=FW.out.trans (aY.mono FW.out.size);clear lR FW aY
   go_wp2_with fail
   go_ret
   exact⟨by rw[lK.out];simp[ByteArray.mk_append_mk],FX.out⟩
end Go.Proofs.YtkjhhooecopolaaGreatDoor
namespace Go.Proofs.YtkjhhooecopolaaGreatDoor
open Go.RowKit
open Ge
def dK(Rs:List (List Nat)):Nat:=(Rs.map List.length).sum
def iF(ps:List Pg):Nat:=(ps.map fun p=>p.1.length+dK p.2).sum
theorem aaq(a b:List (List Nat)):dK (a++b)=dK a+dK b:=by simp[dK]
theorem alu(a b:List Pg):iF (a++b)=iF a+iF b:=by simp[iF]
theorem alv(Xs:List PB)(A:List Nat):(cV Xs A).length<=A.length:=by rw[Qc];exact O8 Xs A
theorem alx(Xs:List PB)(A:List Nat):∀k,k<=A.length->(bI Xs (A.take k)).1.length+dK (bI Xs (A.take k)).2<=k:=by
 intro k;induction k with
 |zero=>intro _;simp[bI,dK]
 |succ k ih=>
  intro hk;have ih:=ih (by omega)
  have htk:A.take (k+1)=A.take k++[A[k]]:=by rw[jH,aD (by omega)];rfl
  rw[htk,xB];generalize bI Xs (A.take k)=p at*;unfold jl;split
  ·simp only;rw[aaq];have h1:=alv Xs ((p.1++[A[k]]).drop (il Xs (p.1++[A[k]]) A[k]).toNat);have h2:dK [cV Xs ((p.1++[A[k]]).drop (il Xs (p.1++[A[k]]) A[k]).toNat)]=(cV Xs ((p.1++[A[k]]).drop (il Xs (p.1++[A[k]]) A[k]).toNat)).length:=by simp[dK]
   rw[h2];rw[rP] at h1;rw[iy];simp only[aX,acW] at h1⊢;omega
  ·simp only[aX,acW];omega
theorem aly(Xs:List PB)(A:List Nat):dK (bp Xs A)<=A.length:=by
 have:=alx Xs A A.length (ai _);rw[dN] at this;unfold bp;omega
theorem Qs(P:List Nat->Bool):∀(Rs:List (List Nat)) acc,(Rs.foldl (fun acc r=>if P r then r else acc) acc).length+dK (Rs.filter fun r=> !P r)<=acc.length+dK Rs
 |[],acc=>by simp[dK]
 |r::Rs,acc=>by
  rw[rQ];have e:dK (r::Rs)=r.length+dK Rs:=by simp[dK]
  cases hp:P r
  ·have:=Qs P Rs acc;rw[CG (by simp[hp])]
   have e2:dK (r::Rs.filter fun r=> !P r)=r.length+dK (Rs.filter fun r=> !P r):=by simp[dK]
   rw[e2,e];simp only[iZ,jG];omega
  ·have:=Qs P Rs r;rw[xZ (by simp[hp])]
   rw[e];simp only[fZ];omega
theorem aar:∀(ps:List Pg)(q:Nat)(Rs:List (List Nat)),iF (ps.set q ((ps.getD q ([],[])).1,(ps.getD q ([],[])).2++Rs))<=iF ps+dK Rs
 |[],_,_=>by simp
 |p::ps,0,Rs=>by
  simp only[aJ,List.getD_cons_zero,iF,gU,CH,aaq];omega
 |p::ps,q+1,Rs=>by
  have:=aar ps q Rs;simp only[aG,List.getD_cons_succ];simp only[iF,gU,CH] at this⊢;omega
section
variable{rg:List (List Pt)}{l:List Nd}{r:Int}{Xs:List PB}
theorem SX.dK(h:SX rg l r Xs)(hB:BD Xs):∀k,k<=Xs.length->iF (aP Xs k).ps+iX Xs.length (aP Xs k).aK []<=Xs.length
 |0,_=>by
  have:=vG Xs.length (aP Xs 0).aK [];have e:iF (aP Xs 0).ps=0:=by simp[aP,iF]
  omega
 |k+1,hk=>by
  have ih:=h.dK hB k (by omega)
  have hP:=h.pv hB k (by omega)
  rw[zz];generalize aP Xs k=st at*;cases hm:st.aK k
  ·have hleft:iX Xs.length st.aK (cJ Xs st.aK k)+(cJ Xs st.aK k).length<=iX Xs.length st.aK []+0:=xG (mk:=st.aK) (fun j hj=>(h.next hB hj).1) Xs.length [] k (by omega)
   have FK:iX Xs.length (fun j=>st.aK j||(cJ Xs st.aK k).contains j) []=iX Xs.length st.aK (cJ Xs st.aK k):=by unfold iX;simp
   have hrt:=aly Xs (cJ Xs st.aK k);unfold oU;rw[hm];simp only[iZ,jG];split
   ·simp only;rw[FK,alu];have h1:=Qs (cd Xs) (bp Xs (cJ Xs st.aK k)) [];have e:iF [(ub (cd Xs) (bp Xs (cJ Xs st.aK k)),(bp Xs (cJ Xs st.aK k)).filter fun r=> !cd Xs r)]=(ub (cd Xs) (bp Xs (cJ Xs st.aK k))).length+_root_.Go.Proofs.YtkjhhooecopolaaGreatDoor.dK ((bp Xs (cJ Xs st.aK k)).filter fun r=> !cd Xs r):=by simp[iF]
    rw[e];unfold ub;simp only[fJ] at h1;omega
   ·simp only;rw[FK];have:=aar st.ps (st.ow (ir Xs (xi Xs k).f)) (bp Xs (cJ Xs st.aK k));omega
  ·unfold oU;rw[hm];exact ih
end
end Go.Proofs.YtkjhhooecopolaaGreatDoor
namespace Go.Proofs.YtkjhhooecopolaaGreatDoor
open Go.RowKit
def ba(t:List UInt8):ByteArray:=⟨t.toArray⟩
def Cg(ST:List UInt8)(TS:List (List UInt8)):List UInt8:=40::(Lib.join (ST::TS) [44,32]++[41])
theorem aas(l:List (List UInt8)):(l.map ba).map (·.data.toList)=l:=by
 rw[kD]
 conv=>rhs;rw[<-List.map_id l]
 rfl
theorem aat{w wr:World}{lv:Value}{l:List (List UInt8)}(h:SI w lv (l.map ba) wr)(hl:l.length<=90000000)(hlen:(Lib.join l [44,32]).length<=140737488355328):
  Calls Tryz.prog 103 #[lv,.string ⟨#[44,32]⟩] wr fun e w'=>e=.returned (.string ⟨(Lib.join l [44,32]).toArray⟩)/\Below wr.heap.size wr w':=by
 have:=aam ⟨#[44,32]⟩ h (by rw[iQ];omega) (by rw[aas];exact hlen)
 rw[aas] at this;exact this
theorem alz(pb gs ns cs:Nat)(so:Option Addr)(c:Nat)(ST:List UInt8)(TS:List (List UInt8))(w:World)(hl:TS.length<=85000000)(hlen:(Lib.join (ST::TS) [44,32]).length<=140737488355328)(hG:Gl w)
  (c0:w.cell? ⟨pb,0,none⟩=some (.slice (some ⟨gs,0,none⟩) ns cs))(c1:w.cell? ⟨pb,1,none⟩=some (.slice so TS.length c))
  (HS:Hid (∀w1,Below w.heap.size w w1->Gl w1->Calls Tryz.prog 153 #[.slice (some ⟨gs,0,none⟩) ns cs] w1 fun e w'=>e=.returned (.string (ba ST))/\Below w1.heap.size w1 w'))
  (HH:Hid (∀(k:Nat) t,TS[k]?=some t->∃b gk nk ck,so=some ⟨b,0,none⟩/\w.cell? ⟨b,k,none⟩=some (.slice (some ⟨gk,0,none⟩) nk ck)/\∀w1,Below w.heap.size w w1->Gl w1->Calls Tryz.prog 153 #[.slice (some ⟨gk,0,none⟩) nk ck] w1 fun e w'=>e=.returned (.string (ba t))/\Below w1.heap.size w1 w')):
  Calls Tryz.prog 102 #[.pointer (some ⟨pb,0,none⟩)] w fun e w'=>e=.returned (.string (ba (Cg ST TS)))/\Below w.heap.size w w':=by
 obtain⟨i0,hi,hz0,hz1,hz2⟩:=info_parts Nl;have lS:pb<w.heap.size:=lt_of_cell c0;have HS0:Hid (Calls Tryz.prog 153 #[.slice (some ⟨gs,0,none⟩) ns cs] w fun e w'=>e=.returned (.string (ba ST))/\Below w.heap.size w w'):=HS.out w (Below.refl _ _) hG
 go_enter Tryz.func102,Tryz.ntmps102
 go_wp2_with fail
 refine HS0.out.mono ?_;rintro e w1 ⟨rfl,hb1⟩;have Qu:=hb1.alloc hb1.size (.cells #[.string (ba ST)] 9);have d1:=(Qu.cell (p:=⟨pb,1,none⟩) lS).trans c1;have bw:Hid (SI w (.slice (some ⟨w1.heap.size,0,none⟩) 1 1) ((ST::TS.take 0).map ba) (w1.alloc (.cells #[.string (ba ST)] 9))):=⟨⟨rfl,af ⟨w1.heap.size,1, #[.string (ba ST)],rfl,hb1.size,heap_alloc_new w1 _,ai _,by unfold maxLen;omega,rfl,rfl⟩⟩,Qu⟩
 clear hb1 HS0
 go_wp2_with fail
 go_loopg [3,17] TS.length (fun m lv iv wr=>∃k:Nat,k+m=TS.length/\iv=.int .i64 k/\Hid (SI w lv ((ST::TS.take k).map ba) wr))
 case atStart=>exact⟨0,by omega,rfl,bw⟩
 case round=>
  obtain⟨k,hkn,rfl,HE⟩:=hrel;have ak:=HE.out.2;clear bw d1 Qu;by_cases hlt:k<TS.length
  ·obtain⟨t,ht⟩:∃t,TS[k]?=some t:=⟨_,aD hlt⟩;obtain⟨b,gk',nk,ck,rfl,v0,hc⟩:=HH.out k t ht;have r0:=(ak.cell (p:=⟨b,k,none⟩) (lt_of_cell v0)).trans v0;have eK:(k:Int)<(TS.length:Int):=by omega
   have HC:Hid (Calls Tryz.prog 153 #[.slice (some ⟨gk',0,none⟩) nk ck] wr fun e w'=>e=.returned (.string (ba t))/\Below wr.heap.size wr w'):=hc wr ak (hG.below ak hG.sz)
   have hT':(ST::TS.take (k+1)).map ba=(ST::TS.take k).map ba++[ba t]:=by
    rw[jH,ht];simp
   have HT:Hid ((ST::TS.take (k+1)).map ba=(ST::TS.take k).map ba++[ba t]):=hT';have hxl:((ST::TS.take k).map ba).length<=85000001:=by simp;omega
   obtain⟨ho,_⟩:=HE.out;clear hT' v0 ht hc HE HH HS c0 c1;generalize(ST::TS.take k).map ba=A1 at*;generalize ba t=X at*
   go_wp2_with fail
   refine HC.out.mono ?_;rintro e w5 ⟨rfl,ax⟩;have kK:Below w.heap.size w w5:=ak.trans (ax.mono ak.size);have dG:w5.ownsRow w.heap.size 9 1 u3 A1.length (A1.map Value.string):=aO ho fun k hk=>ax.block k (aA ho k hk).2
   have hs5:=kK.size;clear ho HC ax ak
   go_wp2_with (at_builtin;refine wpList_append_lies _ rfl (.tmp 21) (.tmp 24) 164 rfl w.heap.size 9 i0 _ 1 16 Tryz.underlying164 hi hz0 hz1 hz2 rfl (by decide) u3 A1.length (A1.map Value.string) rfl (aO dG (fun k hk=>Below.heap_alloc _ _ _ (aA dG k hk).2)) ⟨w5.heap.size,0,none⟩ 1 1 [.string X] rfl rfl (World.news_of_block (cs:= #[.string X]) (t:=9) (fr:=(0,0)) (heap_alloc_new w5 _)) (by simp[Value.oneCell']) (by decide) (by unfold maxLen;omega) (by omega) (by simp;omega) (w5.heap.size+1) (by simp) ?_;intro g' cap' w6 gm lN DX DY)
   have HN:Hid (SI w (.slice (some ⟨g',0,none⟩) (A1.length+1) cap') ((ST::TS.take (k+1)).map ba) w6):=by
    rw[HT.out];refine⟨?_,(kK.alloc kK.size _).grown lN (by simp;omega) (fun k hk=>(aA dG k hk).1)⟩
    rw[aX,iH];exact gm
   clear gm lN dG HT
   go_roundg (gk-1)
   case measure=>omega
   case rel=>exact⟨k+1,by omega,by go_num,HN⟩
  ·have hk:k=TS.length:=by omega
   subst hk;have HF:=HE.out;rw[dN] at HF;have HJ:Hid (Calls Tryz.prog 103 #[u3,.string ⟨#[44,32]⟩] wr fun e w'=>e=.returned (.string ⟨(Lib.join (ST::TS) [44,32]).toArray⟩)/\Below wr.heap.size wr w'):=aat HF (by simp;omega) hlen
   have lK:Hid (Cg ST TS=40::(Lib.join (ST::TS) [44,32]++[41])):=rfl;generalize Lib.join (ST::TS) [44,32]=TX at*;have hs1:¬9223372036854775807<1+TX.length:=by omega
   have hs2:¬9223372036854775807<1+TX.length+1:=by omega
   have HB:Hid (Below w.heap.size w wr):=ak;clear HE HH HS c0 c1 HF ak
   go_wp2_with fail
   refine HJ.out.mono ?_;rintro e w7 ⟨rfl,aY⟩;have FX:Hid (Below w.heap.size w w7):=HB.out.trans (aY.mono HB.out.size);clear HJ aY HB
   go_wp2_with fail
   go_ret
   exact⟨by rw[lK.out];simp[ba,ByteArray.mk_append_mk],FX.out⟩
def Kg:List UInt8:=[77,85,76,84,73,80,79,76,89,71,79,78,32,40]
def emT:List UInt8:=[77,85,76,84,73,80,79,76,89,71,79,78,32,69,77,80,84,89]
def FY(TS:List (List UInt8)):List UInt8:=if TS=[] then emT else Kg++(Lib.join TS [44,32]++[41])
theorem aaw(so:Option Addr)(c:Nat)(TS:List (List UInt8))(w:World)(hl:TS.length<=85000000)(hlen:(Lib.join TS [44,32]).length<=140737488355328)
  (HH:Hid (∀(k:Nat) t,TS[k]?=some t->∃b pb,so=some ⟨b,0,none⟩/\w.cell? ⟨b,k,none⟩=some (.pointer (some ⟨pb,0,none⟩))/\∀w1,Below w.heap.size w w1->Calls Tryz.prog 102 #[.pointer (some ⟨pb,0,none⟩)] w1 fun e w'=>e=.returned (.string (ba t))/\Below w1.heap.size w1 w')):
  Calls Tryz.prog 67 #[.slice so TS.length c] w fun e w'=>e=.returned (.string (ba (FY TS)))/\Below w.heap.size w w':=by
 obtain⟨i0,hi,hz0,hz1,hz2⟩:=info_parts Nl;by_cases hT0:TS=[]
 ·subst hT0;clear HH
  go_enter Tryz.func67,Tryz.ntmps67
  go_wp2_with fail
  go_ret
  exact⟨rfl,Below.refl _ _⟩
 ·have tB:Hid (TS≠[]):=hT0;have hne:¬TS.length=0:=fun e=>hT0 (gF.1 e)
  have apl:((TS.length:Int) == 0)=false:=by rw[uv];omega
  clear hT0;have bw:Hid (SI w (.slice none 0 0) ((TS.take 0).map ba) w):=⟨World.ownsRow_nil _ _ _ _,Below.refl _ _⟩
  go_enter Tryz.func67,Tryz.ntmps67
  go_wp2_with fail
  go_loopg [3,11] TS.length (fun m lv iv wr=>∃k:Nat,k+m=TS.length/\iv=.int .i64 k/\Hid (SI w lv ((TS.take k).map ba) wr))
  case atStart=>exact⟨0,by omega,rfl,bw⟩
  case round=>
   obtain⟨k,hkn,rfl,HE⟩:=hrel;have ak:=HE.out.2;clear bw;by_cases hlt:k<TS.length
   ·obtain⟨t,ht⟩:∃t,TS[k]?=some t:=⟨_,aD hlt⟩;obtain⟨b,pb,rfl,v0,hc⟩:=HH.out k t ht;have r0:=(ak.cell (p:=⟨b,k,none⟩) (lt_of_cell v0)).trans v0;have eK:(k:Int)<(TS.length:Int):=by omega
    have HC:Hid (Calls Tryz.prog 102 #[.pointer (some ⟨pb,0,none⟩)] wr fun e w'=>e=.returned (.string (ba t))/\Below wr.heap.size wr w'):=hc wr ak
    have hT':(TS.take (k+1)).map ba=(TS.take k).map ba++[ba t]:=by
     rw[jH,ht];simp
    have HT:Hid ((TS.take (k+1)).map ba=(TS.take k).map ba++[ba t]):=hT';have hxl:((TS.take k).map ba).length<=85000001:=by simp;omega
    obtain⟨ho,_⟩:=HE.out;clear hT' v0 ht hc HE HH tB;generalize(TS.take k).map ba=A1 at*;generalize ba t=X at*
    go_wp2_with fail
    refine HC.out.mono ?_;rintro e w5 ⟨rfl,ax⟩;have kK:Below w.heap.size w w5:=ak.trans (ax.mono ak.size);have dG:w5.ownsRow w.heap.size 9 1 u3 A1.length (A1.map Value.string):=aO ho fun k hk=>ax.block k (aA ho k hk).2
    have hs5:=kK.size;clear ho HC ax ak
    go_wp2_with (at_builtin;refine wpList_append_lies _ rfl (.tmp 15) (.tmp 18) 164 rfl w.heap.size 9 i0 _ 1 16 Tryz.underlying164 hi hz0 hz1 hz2 rfl (by decide) u3 A1.length (A1.map Value.string) rfl (aO dG (fun k hk=>Below.heap_alloc _ _ _ (aA dG k hk).2)) ⟨w5.heap.size,0,none⟩ 1 1 [.string X] rfl rfl (World.news_of_block (cs:= #[.string X]) (t:=9) (fr:=(0,0)) (heap_alloc_new w5 _)) (by simp[Value.oneCell']) (by decide) (by unfold maxLen;omega) (by omega) (by simp;omega) (w5.heap.size+1) (by simp) ?_;intro g' cap' w6 gm lN DX DY)
    have HN:Hid (SI w (.slice (some ⟨g',0,none⟩) (A1.length+1) cap') ((TS.take (k+1)).map ba) w6):=by
     rw[HT.out];refine⟨?_,(kK.alloc kK.size _).grown lN (by simp;omega) (fun k hk=>(aA dG k hk).1)⟩
     rw[aX,iH];exact gm
    clear gm lN dG HT
    go_roundg (gk-1)
    case measure=>omega
    case rel=>exact⟨k+1,by omega,by go_num,HN⟩
   ·have hk:k=TS.length:=by omega
    subst hk;have HF:=HE.out;rw[dN] at HF;have HJ:Hid (Calls Tryz.prog 103 #[u3,.string ⟨#[44,32]⟩] wr fun e w'=>e=.returned (.string ⟨(Lib.join TS [44,32]).toArray⟩)/\Below wr.heap.size wr w'):=aat HF (by omega) hlen
    have lK:Hid (FY TS=Kg++(Lib.join TS [44,32]++[41])):=aa tB.out;generalize Lib.join TS [44,32]=TX at*;have hs1:¬9223372036854775807<14+TX.length:=by omega
    have hs2:¬9223372036854775807<14+TX.length+1:=by omega
    have HB:Hid (Below w.heap.size w wr):=ak;clear HE HH HF ak tB
    go_wp2_with fail
    refine HJ.out.mono ?_;rintro e w7 ⟨rfl,aY⟩;have FX:Hid (Below w.heap.size w w7):=HB.out.trans (aY.mono HB.out.size);clear HJ aY HB
    go_wp2_with fail
    go_ret
    exact⟨by rw[lK.out];simp[ba,Kg,ByteArray.mk_append_mk],FX.out⟩
def bQ(Xs:List PB)(p:Pg):List UInt8:=Cg (cD Xs p.1) (p.2.map (cD Xs))
def Kh(Xs:List PB)(ps:List Pg):List UInt8:=FY (ps.map (bQ Xs))
theorem Qv:∀l:List (List UInt8),(Lib.join l [44,32]).length<=(l.map fun t=>t.length+2).sum
 |[]=>by simp[Lib.join,List.intercalate]
 |[x]=>by simp[Lib.join_one]
 |x::y::r=>by
  have ih:=Qv (y::r);have e:Lib.join (x::y::r) [44,32]=x++([44,32]++Lib.join (y::r) [44,32]):=by simp[Lib.join,List.intercalate]
  rw[e];simp only[aX,gU,CH,bW,fJ] at ih⊢;omega
section
variable{Xs:List PB}
theorem aax(hB:BD Xs){r:List Nat}(h:RG Xs r):∀n∈fr Xs r,dC n.1 n.2.1 n.2.2:=fun n hn=>by
 unfold fr at hn;obtain⟨i,hi,rfl⟩:=bh.1 hn;exact(hB.v _ (gA (h.lt i hi))).f.aF
theorem aay(hB:BD Xs){r:List Nat}(h:RG Xs r):(cD Xs r).length<=208*r.length:=by
 have h0:0<r.length:=gV.2 h.ne;have hn:=aax hB h;have h1:=Pl.yH Pl.jd 101 ((fr Xs r++(fr Xs r).take 1).map Ge.ay) (fun q hq=>by
  obtain⟨n,hm,rfl⟩:=bh.1 hq;refine Nn ?_;rcases cu.1 hm with hn'|hn'
  ·exact hn n hn'
  ·exact hn n (nW hn'))
 have h2:(fr Xs r).length=r.length:=by simp[fr]
 rw[iQ,aX,iy,h2] at h1;unfold cD;simp only[bW,aX,fJ];omega
theorem Qw{α:Type}(f g:α->Nat):∀l:List α,(∀x∈l,f x<=g x)->(l.map f).sum<=(l.map g).sum
 |[],_=>by simp
 |a::l,h=>by
  have h1:=h a (by simp)
  have h2:=Qw f g l fun x hx=>h x (by simp[hx])
  simp only[gU,CH];omega
theorem Qx{α:Type}(c:Nat)(f:α->Nat):∀l:List α,(l.map fun x=>c*f x).sum=c*(l.map f).sum
 |[]=>by simp
 |a::l=>by simp only[gU,CH,Qx c f l,Nat.mul_add]
theorem aaz(hB:BD Xs){p:Pg}(h:nQ Xs p):(Lib.join (cD Xs p.1::p.2.map (cD Xs)) [44,32]).length<=210*(p.1.length+dK p.2):=by
 have h1:=Qv (cD Xs p.1::p.2.map (cD Xs));have h2:=aay hB h.1;have h0:0<p.1.length:=gV.2 h.1.ne;rw[gU,CH,kD] at h1;have h3:=Qw ((fun t:List UInt8=>t.length+2)∘cD Xs) (fun r=>210*r.length) p.2 (fun r hr=>by
  have h4:=aay hB (h.2 r hr);have h5:0<r.length:=gV.2 (h.2 r hr).ne;show(cD Xs r).length+2<=210*r.length;omega)
 rw[Qx] at h3;have h6:(p.2.map fun r=>r.length).sum=dK p.2:=rfl
 rw[h6] at h3;omega
theorem alA(hB:BD Xs){p:Pg}(h:nQ Xs p):(bQ Xs p).length+2<=214*(p.1.length+dK p.2):=by
 have h1:=aaz hB h;have h0:0<p.1.length:=gV.2 h.1.ne;unfold bQ Cg;simp only[bW,aX,fJ];omega
theorem alB(hB:BD Xs){ps:List Pg}(h:∀p∈ps,nQ Xs p):(Lib.join (ps.map (bQ Xs)) [44,32]).length<=214*iF ps:=by
 have h1:=Qv (ps.map (bQ Xs));rw[kD] at h1;have h3:=Qw ((fun t:List UInt8=>t.length+2)∘bQ Xs) (fun p=>214*(p.1.length+dK p.2)) ps (fun p hp=>alA hB (h p hp))
 rw[Qx] at h3;exact dY h1 h3
theorem aaA{β:Type}(cf:β->β->Int)(l:List β)(hO:Sort.SWO (ltOf fun i j:Fin l.length=>cf l[i] l[j])):(kq cf l).Perm l:=by
 unfold kq;by_cases h:0<l.length
 ·rw[wj h];obtain⟨_,p3,_⟩:=Qo (fun i j:Fin l.length=>cf l[i] l[j]) hO h
  have k:=p3.map (fun i:Fin l.length=>l[i])
  have e3:(Array.ofFn (id:Fin l.length->Fin l.length)).toList.map (fun i:Fin l.length=>l[i])=l:=by
   apply xY
   ·simp
   ·intro i h1 h2;simp
  rw[e3] at k;exact k
 ·rw[CF h];have:l=[]:=gF.1 (by omega)
  rw[this]
theorem aaB(hB:BD Xs){p:Pg}(h:nQ Xs p):(gS Xs p).2.Perm p.2:=
 aaA _ _ (Cb (fun i:Fin p.2.length=>fr Xs p.2[i]) (fun i=>Ke hB (h.2 _ (iw i.2))))
theorem aaC(hB:BD Xs){p:Pg}(h:nQ Xs p):nQ Xs (gS Xs p):=⟨h.1,fun r hr=>h.2 r ((aaB hB h).mem_iff.1 hr)⟩
theorem Qy(hB:BD Xs){ps:List Pg}(h:∀p∈ps,nQ Xs p):(vP Xs ps).Perm (ps.map (gS Xs)):=
 aaA _ _ (Cb (fun i:Fin (ps.map (gS Xs)).length=>fr Xs (ps.map (gS Xs))[i].1) (fun i=>by
  have hm:=iw (l:=ps.map (gS Xs)) i.2;obtain⟨p,hp,e⟩:=bh.1 hm;have hg:=(aaC hB (h p hp)).1;rw[e] at hg;exact Ke hB hg))
theorem alC(hB:BD Xs){ps:List Pg}(h:∀p∈ps,nQ Xs p):∀p∈vP Xs ps,nQ Xs p:=fun p hp=>by
 have:=(Qy hB h).mem_iff.1 hp;obtain⟨q,hq,rfl⟩:=bh.1 this;exact aaC hB (h q hq)
theorem alD(hB:BD Xs){ps:List Pg}(h:∀p∈ps,nQ Xs p):iF (vP Xs ps)=iF ps:=by
 have h1:iF (vP Xs ps)=iF (ps.map (gS Xs)):=((Qy hB h).map _).sum_nat;rw[h1];unfold iF;rw[kD];congr 1;apply La;intro p hp;have h2:dK (gS Xs p).2=dK p.2:=((aaB hB (h p hp)).map _).sum_nat;show(gS Xs p).1.length+dK (gS Xs p).2=_;rw[h2];rfl
end
theorem aaD:∀l:List (List Nat),(∀r∈l,0<r.length)->l.length<=dK l
 |[],_=>iI _
 |a::l,h=>by
  have h1:=h a (by simp)
  have h2:=aaD l fun r hr=>h r (by simp[hr])
  have e:dK (a::l)=a.length+dK l:=by simp[dK]
  rw[e,bW];omega
section
variable{bs:List Nat}{Xs:List PB}{g base:Nat}{w:World}
theorem aaE(hB:BD Xs)(hR:RB w g bs Xs){v:Value}{r:List Nat}(o:w.ownsRow base 175 1 v r.length (aL (r.map (bx bs))))(h:RG Xs r)(hG:Gl w):
  Calls Tryz.prog 153 #[v] w fun e w'=>e=.returned (.string (ba (cD Xs r)))/\Below w.heap.size w w':=by
 have h0:0<r.length:=gV.2 h.ne;obtain⟨g1,c1,rfl,_,_,_,f1⟩:=nP o h0;have hl:=h.len;have hX:=hB.len;refine alq bs Xs r g1 c1 w (by omega) h0 hG (fun i a ha=>?_) (aax hB h)
 have hs:=hR.at (h.lt a (bn ha));exact⟨f1 i _ (by simp[aL,ha]),hs.c2,hs.c3⟩
theorem alE(hB:BD Xs)(hR:RB w g bs Xs){ph:jE}{p:Pg}(o:Qp bs base ph p w)(h:nQ Xs p)(ht:iF [p]<=Xs.length)(hG:Gl w):
  Calls Tryz.prog 102 #[.pointer (some ⟨ph.pb,0,none⟩)] w fun e w'=>e=.returned (.string (ba (bQ Xs p)))/\Below w.heap.size w w':=by
 have h0:0<p.1.length:=gV.2 h.1.ne;have hX:=hB.len;have ht':p.1.length+dK p.2<=Xs.length:=by simpa[iF] using ht
 have hl:=aaz hB h;have zy:p.2.length<=dK p.2:=aaD p.2 (fun r hr=>gV.2 (h.2 r hr).ne)
 obtain⟨gs,cs,e1,_⟩:=nP o.sh h0;obtain⟨so,c,e2⟩:∃so c,ph.hv=.slice so (p.2.map (cD Xs)).length c:=by
  rw[iQ,<-o.hl];rcases o.ho.2 with⟨hv,h0⟩|⟨b,cap,cur,hv,_⟩
  ·exact⟨none,0,by rw[hv,h0]⟩
  ·exact⟨_,cap,hv⟩
 refine alz ph.pb gs p.1.length cs so c (cD Xs p.1) (p.2.map (cD Xs)) w (by rw[iQ];omega) (by omega) hG ?_ ?_ (fun w1 hb cH=>?_) (fun k t hk=>?_)
 ·rw[cell_of o.blk 0,<-e1];rfl
 ·rw[cell_of o.blk 1,<-e2];rfl
 ·rw[<-e1];exact aaE hB (hR.below hb) (aO o.sh fun k e=>hb.block k (aA o.sh k e).2) h.1 cH
 ·rw[gD] at hk;obtain⟨r,hr,rfl⟩:=rO.1 hk;have hkl:k<ph.hvs.length:=by rw[o.hl];exact(bY.1 hr).1
  obtain⟨v,hv⟩:∃v,ph.hvs[k]?=some v:=⟨_,aD hkl⟩;have hgr:=h.2 r (bn hr);have ow:=o.hr k v r hv hr;obtain⟨gk,ck,rfl,_⟩:=nP ow (gV.2 hgr.ne);obtain⟨b,cT,e3,_,_,_,f⟩:=nP o.ho (by omega)
  rw[e2] at e3;injection e3 with e3;exact⟨b,gk,_,ck,e3,f k _ hv,fun w1 hb cH=>aaE hB (hR.below hb) (aO ow fun k e=>hb.block k (aA ow k e).2) hgr cH⟩
theorem alF{ps:List Pg}{p:Pg}(h:p∈ps):iF [p]<=iF ps:=by
 induction ps with
 |nil=>simp at h
 |cons a ps ih=>
  rcases aV.1 h with rfl|h
  ·simp[iF]
  ·have:=ih h;simp only[iF,gU,CH,Rx,List.sum_nil] at this⊢;omega
theorem alG(hB:BD Xs)(hR:RB w g bs Xs){fM:Value}{PS:List Pg}{PH:List jE}(o:PO bs base fM PS PH w)(h:∀p∈PS,nQ Xs p)(ht:iF PS<=Xs.length)(hl:PS.length<=85000000)(hG:Gl w):
  Calls Tryz.prog 67 #[fM] w fun e w'=>e=.returned (.string (ba (Kh Xs PS)))/\Below w.heap.size w w':=by
 have hX:=hB.len;have hJ:=alB hB h;obtain⟨so,c,rfl⟩:∃so c,fM=.slice so (PS.map (bQ Xs)).length c:=by
  rw[iQ,<-o.len];rcases o.row.2 with⟨hv,h0⟩|⟨b,cap,cur,hv,_⟩
  ·exact⟨none,0,by rw[hv,h0]⟩
  ·exact⟨_,cap,hv⟩
 refine aaw so c (PS.map (bQ Xs)) w (by rw[iQ];exact hl) (by omega) (fun k t hk=>?_)
 rw[gD] at hk;obtain⟨p,hp,rfl⟩:=rO.1 hk;have hkl:k<PH.length:=by rw[o.len];exact(bY.1 hp).1
 obtain⟨ph,fX⟩:∃ph,PH[k]?=some ph:=⟨_,aD hkl⟩;have hmem:=bn hp;obtain⟨b,cT,e3,_,_,_,f⟩:=nP o.row (by omega)
 injection e3 with e3;refine⟨b,ph.pb,e3,f k _ (by rw[gD,fX];rfl),fun w1 hb=>?_⟩
 have q:=o.pg k ph p fX hp;have q1:Qp bs base ph p w1:=⟨(hb.block _ (lt_of_heap q.blk)).trans q.blk,aO q.sh fun k e=>hb.block k (aA q.sh k e).2,aO q.ho fun k e=>hb.block k (aA q.ho k e).2,q.hl,fun i v r h1 h2=>aO (q.hr i v r h1 h2) fun k e=>hb.block k (aA (q.hr i v r h1 h2) k e).2⟩
 exact alE hB (hR.below hb) q1 (h p hmem) (dY (alF hmem) ht) (hG.below hb hG.sz)
end
end Go.Proofs.YtkjhhooecopolaaGreatDoor

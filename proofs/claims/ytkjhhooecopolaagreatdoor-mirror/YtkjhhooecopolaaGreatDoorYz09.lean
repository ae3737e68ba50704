import Derived.Test.YtkjhhooecopolaaGreatDoorYz08
set_option maxRecDepth 100000
set_option maxHeartbeats 4000000
namespace Go.Proofs.YtkjhhooecopolaaGreatDoor
open Go.RowKit
def aeO(t:Pl.Tk)(w:World)(e:Ending)(w':World):Prop:=
 Below w.heap.size w w'/\∃j:Nat,e=.returned (.tuple #[.agg (sL t),.int .i64 j])/\j<=1000/\(¬(t.k=101\/t.k=120)->j=t.pl+t.raw.length)
theorem aeP(s:ByteArray)(i:Nat)(w:World)(hi:i<=s.size)(hs:s.size<=400):
  Calls Tryz.prog 57 #[.string s,.int .i64 i] w (aeO (Pl.cz (s.data.toList.drop i) i) w):=by
 by_cases hlt:i<s.size
 ·rw[Pl.drop_cons s i hlt];by_cases qj:s[i].toNat=40\/s[i].toNat=41\/s[i].toNat=44\/s[i].toNat=47
  ·refine(aeI s i w hlt hs qj).mono ?_;rintro e w' ⟨rfl,hb⟩;have e1:Pl.cz (s[i]::s.data.toList.drop (i+1)) i=⟨s[i].toNat,[s[i]],0,i⟩:=by simp only[Pl.cz];rw[ah qj]
   rw[e1];refine⟨hb,i+1,?_,by omega,fun _=>rfl⟩
   have e2:s.extract i (i+1)=⟨#[s[i]]⟩:=by
    rw[Pl.extract_eq,Gy,Pl.drop_cons s i hlt];rfl
   rw[e2];have e3:Pl.rS ⟨s[i].toNat,[s[i]],0,i⟩=[s[i]]:=by unfold Pl.rS;rw[aa (by show ¬s[i].toNat=110;omega)]
   unfold sL;rw[e3]
  ·by_cases hl:Pl.isLet s[i]=true
   ·refine(aeK s i _ w hlt hs hl rfl).mono ?_;rintro e w' ⟨rfl,hb⟩;have e1:Pl.cz (s[i]::s.data.toList.drop (i+1)) i=⟨119,(s[i]::s.data.toList.drop (i+1)).takeWhile Pl.isLet,0,i⟩:=by simp only[Pl.cz];rw[aa qj,ah hl]
    rw[e1,<-Pl.drop_cons s i hlt];have hle:=(qc Pl.isLet (l:=s.data.toList.drop i)).length_le;simp at hle;refine⟨hb,i+((s.data.toList.drop i).takeWhile Pl.isLet).length,?_,by omega,fun _=>rfl⟩
    rw[Pl.extract_eq,Gy,Pl.take_takeWhile];rfl
   ·have hl':Pl.isLet s[i]=false:=by simpa using hl
    have sM:∀d,(cZ s d).length<=s.size-d:=fun d=>by
     have:=(qc Pl.aR (l:=s.data.toList.drop d)).length_le;simp at this;unfold cZ;omega
    by_cases hm:s[i].toNat=45
    ·refine(aeN s i w hlt hs hl' qj (by simp;omega)).mono ?_
     rintro e w' ⟨hb,h⟩;have e1:Pl.cz (s[i]::s.data.toList.drop (i+1)) i=(if cZ s (i+1)=[]\/9<(cZ s (i+1)).length then⟨120,[],0,i⟩ else⟨110,s[i]::cZ s (i+1), -(Pl.dI (cZ s (i+1)):Int),i⟩):=by
      simp only[Pl.cz];rw[aa qj,aa hl,ah hm];rfl
     rw[e1];rcases h with⟨h1,j,hj,rfl⟩|⟨h1,rfl⟩
     ·rw[ah h1];exact⟨hb,j,rfl,hj,fun h=>absurd (af rfl) h⟩
     ·rw[aa h1];have:=sM (i+1);exact⟨hb,_,rfl,by omega,fun _=>by simp only[bW];omega⟩
    ·refine(aeL s i w hlt hs hl' qj (by simp;omega)).mono ?_
     rintro e w' ⟨hb,h⟩;have e1:Pl.cz (s[i]::s.data.toList.drop (i+1)) i=(if cZ s i=[]\/9<(cZ s i).length then⟨120,[],0,i⟩ else⟨110,cZ s i,(Pl.dI (cZ s i):Int),i⟩):=by
      simp only[Pl.cz];rw[aa qj,aa hl,aa hm];unfold cZ;rw[Pl.drop_cons s i hlt]
     rw[e1];rcases h with⟨h1,j,hj,rfl⟩|⟨h1,rfl⟩
     ·rw[ah h1];exact⟨hb,j,rfl,hj,fun h=>absurd (af rfl) h⟩
     ·rw[aa h1];have:=sM i;exact⟨hb,_,rfl,by omega,fun _=>rfl⟩
 ·have he:i=s.size:=by omega
  refine(aeH s i w (by omega) (by omega) hs).mono ?_
  rintro e w' ⟨rfl,hb⟩;have e1:Pl.cz (s.data.toList.drop i) i=⟨101,[],0,i⟩:=by
   rw[zL (by simp;omega)];rfl
  rw[e1];exact⟨hb,i,rfl,by omega,fun h=>absurd (ae rfl) h⟩
def ql(c:List Pl.Tk):List Value:=c.flatMap fun t=>(sL t).toList
theorem Us(c:List Pl.Tk)(t:Pl.Tk):ql (c++[t])=ql c++(sL t).toList:=by simp[ql]
theorem aeQ:(Tryz.prog.info? 61).map (fun i=>(i.zero,i.size,i.bytes))=some (some (.agg #[.int .u8 0,.string ⟨#[]⟩,.int .i64 0,.int .i64 0]),4,40):=by kernel_rfl
theorem H8{w1 w2:World}{o1 o2:Obj}{row:Option Nat}(hg:((w1.alloc o1).alloc o2).grownBy w2 row)(hne:row≠some w1.heap.size):
  w2.heap[w1.heap.size]?=some o1/\∀k,k<w1.heap.size->row≠some k->w2.heap[k]?=w1.heap[k]?:=by
 refine⟨?_,fun k hk hr=>?_⟩
 ·rw[hg.block w1.heap.size (by simp;omega) (fun e=>hne e.symm),Below.heap_alloc _ _ _ (by simp)]
  exact heap_alloc_new w1 o1
 ·rw[hg.block k (by simp;omega) (fun e=>hr e.symm),Below.heap_alloc _ _ _ (by simp;omega),Below.heap_alloc _ _ _ hk]
def MI(_s:ByteArray)(w:World)(c:List Pl.Tk)(lv:Value)(wr:World):Prop:=
 wr.ownsRow w.heap.size 61 4 lv c.length (ql c)/\Below w.heap.size w wr/\w.heap.size<=wr.heap.size
theorem MJ(s:ByteArray)(w:World)(hs:s.size<=400):
  Calls Tryz.prog 28 #[.string s] w fun e w'=>∃v,e=.returned v/\w'.ownsRow w.heap.size 61 4 v (Pl.all s.data.toList).length (ql (Pl.all s.data.toList))/\Below w.heap.size w w':=by
 obtain⟨i0,hi,hz0,hz1,hz2⟩:=info_parts aeQ
 go_enter Tryz.func28,Tryz.ntmps28
 go_wp2_with fail
 go_loopg [3,4,5] (s.size+2) (fun g lv iv kv wr=>∃(c:List Pl.Tk)(i:Nat)(k:Nat),iv=.int .i64 i/\kv=.int .u8 k/\c.length<=402/\i<=1000/\Hid (MI s w c lv wr)/\
   Hid ((k≠101/\k≠120/\i<=s.size/\s.size<g+i/\1<=g/\c.length<=i/\∃f,s.size<f+i/\c++Pl.ib s.data.toList f i=Pl.all s.data.toList)\/((k=101\/k=120)/\c=Pl.all s.data.toList)))
 case atStart=>
  refine⟨[],0,32,rfl,rfl,by simp,by omega,⟨World.ownsRow_nil _ _ _ _,Below.refl _ _,ai _⟩,ae ⟨by omega,by omega,by omega,by omega,by omega,by simp,s.size+1,by omega,?_⟩⟩
  unfold Pl.all;simp
 case round=>
  obtain⟨c,i,k,rfl,rfl,hc,hi1,HT,HR⟩:=hrel;rcases HR.out with⟨hk1,hk2,hi2,hg,hg1,hci,f,hf,pE⟩|⟨hk,rfl⟩
  ·obtain⟨hown,ak,hsz⟩:=HT.out;have q1:((k:Int) != 101)=true:=by rw[vX];omega
   have q2:((k:Int) != 120)=true:=by rw[vX];omega
   obtain⟨f1,rfl⟩:∃f1,f=f1+1:=⟨f-1,by omega⟩
   have hbl:=Pl.L9 s.data.toList i (by simpa using hi2)
   have hnx:=Pl.C6 s.data.toList i (by simpa using hi2)
   have C9:Pl.bl s.data.toList i<=s.size:=by simpa using hbl.2
   have mh:(Pl.tk s.data.toList i).pl+(Pl.tk s.data.toList i).raw.length<=s.size:=by simpa using hnx.1
   have HC:Hid (∀w1,Calls Tryz.prog 57 #[.string s,.int .i64 (Pl.bl s.data.toList i)] w1 fun e w'=>Below w1.heap.size w1 w'/\∃j:Nat,e=.returned (.tuple #[.agg #[.int .u8 (Pl.tk s.data.toList i).k,.string ⟨(Pl.rS (Pl.tk s.data.toList i)).toArray⟩,.int .i64 (Pl.tk s.data.toList i).n,.int .i64 (Pl.tk s.data.toList i).pl],.int .i64 j])/\j<=1000/\(¬((Pl.tk s.data.toList i).k=101\/(Pl.tk s.data.toList i).k=120)->j=(Pl.tk s.data.toList i).pl+(Pl.tk s.data.toList i).raw.length)):=fun w1=>aeP s _ w1 C9 hs
   have HA:Hid (c++Pl.ib s.data.toList (f1+1) i=Pl.all s.data.toList):=pE;have HJ:Hid (Pl.bl s.data.toList i=i+((s.data.toList.drop i).takeWhile Pl.dH).length):=rfl;have HN:Hid ((Pl.tk s.data.toList i).pl+(Pl.tk s.data.toList i).raw.length<=s.size/\((Pl.tk s.data.toList i).k=101\/(Pl.tk s.data.toList i).k=120\/i+1<=(Pl.tk s.data.toList i).pl+(Pl.tk s.data.toList i).raw.length)):=⟨mh,hnx.2⟩;have uQ:Hid (Pl.ib s.data.toList (f1+1) i=if(Pl.tk s.data.toList i).k=101\/(Pl.tk s.data.toList i).k=120 then[Pl.tk s.data.toList i] else Pl.tk s.data.toList i::Pl.ib s.data.toList f1 ((Pl.tk s.data.toList i).pl+(Pl.tk s.data.toList i).raw.length)):=by
    show _=_;rw[Pl.ib]
   clear pE hnx hbl mh;generalize Pl.bl s.data.toList i=b at*;generalize Pl.tk s.data.toList i=t at*;generalize hrs:(Pl.rS t)=rs at*;have Ut:Hid (Pl.rS t=rs):=hrs;clear hrs;clear HR HT
   go_wp2_with fail
   obtain⟨wo,rfl⟩:∃wo:World,wo=wr:=⟨_,rfl⟩
   go_loop [4] (fun t=>∃j:Nat,j<=s.size/\t=.int .i64 j/\Hid (j+((s.data.toList.drop j).takeWhile Pl.dH).length=b)) (fun t=>s.size-(intOf t).toNat)
   case atStart=>exact⟨i,hi2,rfl,HJ.out.symm⟩
   case round=>
    obtain⟨j,hj,rfl,HE⟩:=hrel;have Uu:(¬∃h:j<s.size,Pl.dH s[j]=true)->j=b:=by
     intro h;have h2:=HE.out;by_cases hlt:j<s.size
     ·have hp':Pl.dH s[j]=false:=by
       cases hp:Pl.dH s[j]
       ·rfl
       ·exact absurd ⟨hlt,hp⟩ h
      have h1:=C8 Pl.dH s.data.toList j (by simpa using hlt) hp'
      omega
     ·rw[zL (by simp;omega:s.data.toList.length<=j)] at h2
      simpa using h2
    have HST:Hid ((¬∃h:j<s.size,Pl.dH s[j]=true)->j=b):=Uu;clear Uu;by_cases hgo:∃h:j<s.size,Pl.dH s[j]=true
    ·obtain⟨hlt,hp⟩:=hgo;have HS:Hid (j+1+((s.data.toList.drop (j+1)).takeWhile Pl.dH).length=b):=by
      have h1:=C7 Pl.dH s.data.toList j (by simpa using hlt) hp
      have h2:=HE.out;show _=_;omega
     have aeR:((s[j].toNat:Int) == 32)=true:=by have:=eW hp;simp;omega
     clear HE HST hp
     go_wp2_with fail
     go_round
     case rel=>exact⟨j+1,by omega,by go_num,HS⟩
     case measure=>simp[intOf];omega
    ·have hjb:=HST.out hgo;subst hjb;clear HE HST;by_cases hlt:j<s.size
     ·have aeR:((s[j].toNat:Int) == 32)=false:=by
       have:¬Pl.dH s[j]=true:=fun h=>hgo ⟨hlt,h⟩
       unfold Pl.dH at this;simp at this⊢;omega
      clear hgo
      go_wp2_with fail
      refine(HC.out _).mono ?_;rintro e w1 ⟨hb1,j1,rfl,MK,wQ⟩;have cI:Hid (¬(t.k=101\/t.k=120)->j1=t.pl+t.raw.length):=wQ;clear wQ;have hown1:=aO hown (fun k hk=>hb1.block k (aA hown k hk).2)
      have hs1:=hb1.size
      go_wp2_with (at_builtin;refine wpList_append_lies _ rfl (.tmp 32) (.tmp 34) 52 rfl w.heap.size 61 i0 _ 4 40 Tryz.underlying52 hi hz0 hz1 hz2 rfl (by decide) u3 c.length (ql c) rfl (aO hown1 (fun k hk=>(Below.heap_alloc _ _ _ (by have:=(aA hown1 k hk).2;simp;omega)).trans (Below.heap_alloc _ _ _ (aA hown1 k hk).2))) ⟨w1.heap.size+1,0,none⟩ 1 1 [.int .u8 t.k,.string ⟨rs.toArray⟩,.int .i64 t.n,.int .i64 t.pl] rfl rfl (World.news_of_block (cs:= #[.int .u8 t.k,.string ⟨rs.toArray⟩,.int .i64 t.n,.int .i64 t.pl]) (t:=61) (fr:=(0,0)) (by have:=heap_alloc_new (w1.alloc (.cells #[.int .u8 t.k,.string ⟨rs.toArray⟩,.int .i64 t.n,.int .i64 t.pl] 61)) (.cells #[.int .u8 t.k,.string ⟨rs.toArray⟩,.int .i64 t.n,.int .i64 t.pl] 61);simpa using this)) (by simp[Value.oneCell']) (by decide) (by unfold maxLen;omega) (by omega) (by simp;omega) (w1.heap.size+2) (by simp) ?_;intro g cap w2 ho hgrow hat od;have dP:=(H8 hgrow (fun e=>by have:=(aA hown1 _ e).2;omega)).1;have x0:w2.cell? ⟨w1.heap.size,0,none⟩=some (.int .u8 t.k):=cell_of dP 0)
      have hk2:=(H8 hgrow (fun e=>by have:=(aA hown1 _ e).2;omega)).2
      have iK:MI s w (c++[t]) (.slice (some ⟨g,0,none⟩) (c.length+1) cap) w2:=by
       refine⟨?_,?_,?_⟩
       ·rw[Us];simp only[aX,bW,fJ,jn];rw[<-Ut.out] at ho;exact ho
       ·exact(((ak.trans (hb1.mono hsz)).alloc (by omega) _).alloc (by simp;omega) _).grown hgrow (by simp;omega) (fun k hk=>(aA hown1 k hk).1)
       ·have:=hgrow.size;simp at this;omega
      obtain⟨n1,n2⟩:=HN.out;have htk:=uQ.out;have hap:=HA.out
      go_roundg (gk-1)
      case measure=>omega
      case rel=>
       refine⟨c++[t],j1,t.k,rfl,rfl,?_,MK,iK,?_⟩
       ·simp;omega
       ·by_cases hst:t.k=101\/t.k=120
        ·refine af ⟨hst,?_⟩;rw[htk,ah hst] at hap;exact hap
        ·have hj:=cI.out hst;have hge:i+1<=t.pl+t.raw.length:=by
          rcases n2 with h|h|h
          ·exact absurd (ae h) hst
          ·exact absurd (af h) hst
          ·exact h
         rw[htk,aa hst] at hap;refine ae ⟨fun h=>hst (ae h),fun h=>hst (af h),by omega,by omega,by omega,by simp;omega,f1,by omega,?_⟩
         rw[hj,fI];exact hap
     ·clear hgo
      go_wp2_with fail
      refine(HC.out _).mono ?_;rintro e w1 ⟨hb1,j1,rfl,MK,wQ⟩;have cI:Hid (¬(t.k=101\/t.k=120)->j1=t.pl+t.raw.length):=wQ;clear wQ;have hown1:=aO hown (fun k hk=>hb1.block k (aA hown k hk).2)
      have hs1:=hb1.size
      go_wp2_with (at_builtin;refine wpList_append_lies _ rfl (.tmp 32) (.tmp 34) 52 rfl w.heap.size 61 i0 _ 4 40 Tryz.underlying52 hi hz0 hz1 hz2 rfl (by decide) u3 c.length (ql c) rfl (aO hown1 (fun k hk=>(Below.heap_alloc _ _ _ (by have:=(aA hown1 k hk).2;simp;omega)).trans (Below.heap_alloc _ _ _ (aA hown1 k hk).2))) ⟨w1.heap.size+1,0,none⟩ 1 1 [.int .u8 t.k,.string ⟨rs.toArray⟩,.int .i64 t.n,.int .i64 t.pl] rfl rfl (World.news_of_block (cs:= #[.int .u8 t.k,.string ⟨rs.toArray⟩,.int .i64 t.n,.int .i64 t.pl]) (t:=61) (fr:=(0,0)) (by have:=heap_alloc_new (w1.alloc (.cells #[.int .u8 t.k,.string ⟨rs.toArray⟩,.int .i64 t.n,.int .i64 t.pl] 61)) (.cells #[.int .u8 t.k,.string ⟨rs.toArray⟩,.int .i64 t.n,.int .i64 t.pl] 61);simpa using this)) (by simp[Value.oneCell']) (by decide) (by unfold maxLen;omega) (by omega) (by simp;omega) (w1.heap.size+2) (by simp) ?_;intro g cap w2 ho hgrow hat od;have dP:=(H8 hgrow (fun e=>by have:=(aA hown1 _ e).2;omega)).1;have x0:w2.cell? ⟨w1.heap.size,0,none⟩=some (.int .u8 t.k):=cell_of dP 0)
      have hk2:=(H8 hgrow (fun e=>by have:=(aA hown1 _ e).2;omega)).2
      have iK:MI s w (c++[t]) (.slice (some ⟨g,0,none⟩) (c.length+1) cap) w2:=by
       refine⟨?_,?_,?_⟩
       ·rw[Us];simp only[aX,bW,fJ,jn];rw[<-Ut.out] at ho;exact ho
       ·exact(((ak.trans (hb1.mono hsz)).alloc (by omega) _).alloc (by simp;omega) _).grown hgrow (by simp;omega) (fun k hk=>(aA hown1 k hk).1)
       ·have:=hgrow.size;simp at this;omega
      obtain⟨n1,n2⟩:=HN.out;have htk:=uQ.out;have hap:=HA.out
      go_roundg (gk-1)
      case measure=>omega
      case rel=>
       refine⟨c++[t],j1,t.k,rfl,rfl,?_,MK,iK,?_⟩
       ·simp;omega
       ·by_cases hst:t.k=101\/t.k=120
        ·refine af ⟨hst,?_⟩;rw[htk,ah hst] at hap;exact hap
        ·have hj:=cI.out hst;have hge:i+1<=t.pl+t.raw.length:=by
          rcases n2 with h|h|h
          ·exact absurd (ae h) hst
          ·exact absurd (af h) hst
          ·exact h
         rw[htk,aa hst] at hap;refine ae ⟨fun h=>hst (ae h),fun h=>hst (af h),by omega,by omega,by omega,by simp;omega,f1,by omega,?_⟩
         rw[hj,fI];exact hap
  ·obtain⟨hown,ak,_⟩:=HT.out;rcases hk with rfl|rfl
   ·clear HR HT
    go_wp2_with fail
    go_ret
    exact⟨_,rfl,hown,ak⟩
   ·clear HR HT
    go_wp2_with fail
    go_ret
    exact⟨_,rfl,hown,ak⟩
theorem Uv(rb:Nat)(s:ByteArray)(A r:List Pl.Tk)(x:Pl.Tk)(rg:List (List (Int×Int)))(w:World)(hR:RD rb s A (x::r) rg w)(hx:x.k≠110):
  Calls Tryz.prog 196 #[.pointer (some ⟨rb,0,none⟩)] w fun e w'=>e=.returned (.bool false)/\RD rb s A (x::r) rg w'/\Below rb w w':=by
 have hlt:=hR.lt;obtain⟨t',r',hl,c0,c1,c2,c3,c4⟩:=hR.cells;injection hl with h1 h2;subst h1 h2
 go_enter Tryz.func196,Tryz.ntmps196
 go_wp2_with fail
 refine(Tu rb s A r x _ _ (hR.alloc _) hx).mono ?_;rintro e w1 ⟨rfl,rfl⟩
 go_wp2_with fail
 go_ret
 exact⟨rfl,hR.alloc _,(Below.refl rb w).alloc (by omega) _⟩
theorem aeS(hO:nG)(rb:Nat)(s:ByteArray)(A r:List Pl.Tk)(x y:Pl.Tk)(rg:List (List (Int×Int)))(w:World)(cx:Cx rb s A)(hR:RD rb s A (x::y::r) rg w)(hG:Gl w)(hx:x.k=110)(hy:y.k≠110):
  Calls Tryz.prog 196 #[.pointer (some ⟨rb,0,none⟩)] w fun e w'=>e=.returned (.bool false)/\RD rb s A (y::r) rg w'/\Below rb w w':=by
 have hlt:=hR.lt;obtain⟨t',r',hl,c0,c1,c2,c3,c4⟩:=hR.cells;injection hl with h1 h2;subst h1 h2
 go_enter Tryz.func196,Tryz.ntmps196
 go_wp2_with fail
 refine(Mg hO rb s A (y::r) x _ _ cx (hR.alloc _) (hG.alloc _) hx).mono ?_;rintro e w1 ⟨rfl,dO,hb1,hk1⟩;clear c0 c1 c2 c3 c4;obtain⟨t',r',hl,c0,c1,c2,c3,c4⟩:=dO.cells;injection hl with h1 h2;subst h1 h2;have wH:=dO.lt
 go_wp2_with fail
 refine(Tu rb s A r y _ _ (dO.alloc _) hy).mono ?_;rintro e w2 ⟨rfl,rfl⟩
 go_wp2_with fail
 go_ret
 exact⟨rfl,dO.alloc _,(((Below.refl rb w).alloc (by omega) _).trans hb1).alloc (by omega) _⟩
theorem RD.chain{rb:Nat}{s:ByteArray}{A l:List Pl.Tk}{rg:List (List (Int×Int))}{w:World}(cx:Cx rb s A)(h:RD rb s A l rg w):Pl.eJ s.data.toList l:=by
 obtain⟨c,t,r,hc,hl⟩:=h.suffix;exact Pl.Mb _ c l (by rw[hc];exact cx.ch) (by rw[hl];simp)
theorem RD.le{rb:Nat}{s:ByteArray}{A l:List Pl.Tk}{rg:List (List (Int×Int))}{w:World}(h:RD rb s A l rg w):l.length<=A.length:=by
 obtain⟨c,t,r,hc,hl⟩:=h.suffix;rw[<-hc];simp
def ou(rb:Nat)(s:ByteArray)(A:List Pl.Tk)(b:Bool)(l':List Pl.Tk)(ov:List (List (Int×Int)))(w:World)(e:Ending)(w':World):Prop:=
 e=.returned (.bool b)/\(∃rg,RD rb s A l' rg w'/\(b=true->rg=ov))/\Below rb w w'
theorem aeT(hO:nG)(rb:Nat)(s:ByteArray)(A l:List Pl.Tk)(rg:List (List (Int×Int)))(q:List (Int×Int))(w:World)(cx:Cx rb s A)(hR:RD rb s A l (rg++[q]) w)(hG:Gl w)(hq:q.length<=1000)(hrg:rg.length<=1000):
  Calls Tryz.prog 196 #[.pointer (some ⟨rb,0,none⟩)] w (ou rb s A (Pl.cK l).1 (Pl.cK l).2.1 (rg++[q++[(Pl.cK l).2.2]]) w):=by
 have hch:=hR.chain cx
 match l,hR,hch with
 |[],hR,hch=>exact hch.elim
 |[x],hR,hch=>
  have hx:x.k≠110:=by
   have:x.k=101\/x.k=120:=hch;omega
  refine(Uv rb s A [] x _ w hR hx).mono ?_;rintro e w' ⟨rfl,h1,h2⟩;exact⟨rfl,⟨_,h1,fun h=>(by cases h)⟩,h2⟩
 |x::y::r,hR,hch=>
  by_cases hx:x.k=110
  ·by_cases hy:y.k=110
   ·have e:Pl.cK (x::y::r)=(true,r,(x.n,y.n)):=by simp[Pl.cK,hx,hy]
    rw[e];refine(ad4 hO rb s A r x y rg q w cx hR hG hx hy hq hrg).mono ?_;rintro e w' ⟨rfl,h1,h2⟩;exact⟨rfl,⟨_,h1,fun _=>rfl⟩,h2⟩
   ·have e:Pl.cK (x::y::r)=(false,y::r,(0,0)):=by simp[Pl.cK,hx,hy]
    rw[e];refine(aeS hO rb s A r x y _ w cx hR hG hx hy).mono ?_;rintro e w' ⟨rfl,h1,h2⟩;exact⟨rfl,⟨_,h1,fun h=>(by cases h)⟩,h2⟩
  ·have e:Pl.cK (x::y::r)=(false,x::y::r,(0,0)):=by simp[Pl.cK,hx]
   rw[e];refine(Uv rb s A _ x _ w hR hx).mono ?_;rintro e w' ⟨rfl,h1,h2⟩;exact⟨rfl,⟨_,h1,fun h=>(by cases h)⟩,h2⟩
theorem qT{c:Nat}{l:List Pl.Tk}(h:(Pl.mk c l).1=true):(Pl.mk c l).2.length+1=l.length:=by
 cases l with
 |nil=>simp[Pl.mk] at h
 |cons t r=>
  by_cases hk:t.k=c
  ·simp[Pl.mk,hk]
  ·simp[Pl.mk,hk] at h
theorem yC{c:Nat}{l:List Pl.Tk}(h:(Pl.mk c l).1=false):(Pl.mk c l).2=l:=by
 cases l with
 |nil=>rfl
 |cons t r=>
  by_cases hk:t.k=c
  ·simp[Pl.mk,hk] at h
  ·simp[Pl.mk,hk]
theorem wR{α:Type}{item:List Pl.Tk->Bool×List Pl.Tk×α}{g:Nat}{l:List Pl.Tk}{acc:List α}(h:(item l).1=false):Pl.bV item (g+1) l acc=(false,(item l).2.1,acc):=by
 rw[Pl.bV,aa (by rw[h];simp)]
theorem wS{α:Type}{item:List Pl.Tk->Bool×List Pl.Tk×α}{g:Nat}{l:List Pl.Tk}{acc:List α}(h:(item l).1=true)(h2:(Pl.mk 44 (item l).2.1).1=true):
  Pl.bV item (g+1) l acc=Pl.bV item g (Pl.mk 44 (item l).2.1).2 (acc++[(item l).2.2]):=by
 rw[Pl.bV,ah h,ah h2]
theorem wT{α:Type}{item:List Pl.Tk->Bool×List Pl.Tk×α}{g:Nat}{l:List Pl.Tk}{acc:List α}(h:(item l).1=true)(h2:(Pl.mk 44 (item l).2.1).1=false):
  Pl.bV item (g+1) l acc=((Pl.mk 41 (item l).2.1).1,(Pl.mk 41 (item l).2.1).2,acc++[(item l).2.2]):=by
 rw[Pl.bV,ah h,aa (by rw[h2];simp)]
theorem aeU{α:Type}(item:List Pl.Tk->Bool×List Pl.Tk×α)(E:List α->List (List (Int×Int)))(B:List Pl.Tk->List α->Prop)(hO:nG)(rb:Nat)(s:ByteArray)(A:List Pl.Tk)(cx:Cx rb s A)
  (hI:∀l acc w,RD rb s A l (E acc) w->Gl w->B l acc->Calls Tryz.prog 196 #[.pointer (some ⟨rb,0,none⟩)] w (ou rb s A (item l).1 (item l).2.1 (E (acc++[(item l).2.2])) w))
  (hd:∀l,(item l).1=true->(item l).2.1.length<l.length)
  (hB:∀l acc,B l acc->(item l).1=true->B (Pl.mk 44 (item l).2.1).2 (acc++[(item l).2.2]))
  (f:Nat)(l:List Pl.Tk)(acc:List α)(w:World)(hR:RD rb s A l (E acc) w)(hG:Gl w)(hBl:B l acc)(hf:l.length<=f):
  Calls Tryz.prog 149 #[.pointer (some ⟨rb,0,none⟩),.func (.func 196) #[.pointer (some ⟨rb,0,none⟩)] #[]] w (ou rb s A (Pl.bV item f l acc).1 (Pl.bV item f l acc).2.1 (E (Pl.bV item f l acc).2.2) w):=by
 generalize hT:Pl.bV item f l acc=T;have HI:Hid (∀l acc w,RD rb s A l (E acc) w->Gl w->B l acc->Calls Tryz.prog 196 #[.pointer (some ⟨rb,0,none⟩)] w (ou rb s A (item l).1 (item l).2.1 (E (acc++[(item l).2.2])) w)):=hI;have HD:Hid (∀l,(item l).1=true->(item l).2.1.length<l.length):=hd;have HB:Hid (∀l acc,B l acc->(item l).1=true->B (Pl.mk 44 (item l).2.1).2 (acc++[(item l).2.2])):=hB;have HS:Hid (∃l acc,l.length<=f/\RD rb s A l (E acc) w/\Gl w/\B l acc/\Below rb w w/\Pl.bV item f l acc=T):=⟨l,acc,hf,hR,hG,hBl,Below.refl _ _,hT⟩;clear hI hd hB hT hR hG hBl hf
 go_enter Tryz.func149,Tryz.ntmps149
 go_wp2_with fail
 go_loopg [6] f (fun g s6 wr=>Hid (∃l acc,l.length<=g/\RD rb s A l (E acc) wr/\Gl wr/\B l acc/\Below rb w wr/\Pl.bV item g l acc=T))
 case atStart=>exact HS
 case round=>
  obtain⟨l,acc,hlen,hR,hG,hBl,ak,hT⟩:=hrel.out;have hne:l≠[]:=by
   obtain⟨_,_,_,_,h⟩:=hR.suffix;rw[h];simp
  obtain⟨g1,rfl⟩:∃g1,gk=g1+1:=⟨gk-1,by have:=gV.2 hne;omega⟩
  clear hne;have HR:Hid (Pl.bV item (g1+1) l acc=T):=hT;have HL:Hid (l.length<=g1+1):=hlen;clear hT hlen
  go_wp2_with fail
  refine(HI.out l acc wr hR hG hBl).mono ?_;rintro e w1 ⟨rfl,⟨qU,dO,hrg1⟩,hb1⟩;have cH:Gl w1:=hG.below hb1 cx.rb;have HE:Hid ((item l).1=true->qU=E (acc++[(item l).2.2])):=hrg1;clear hrg1;cases hi:(item l).1
  ·have hT:=HR.out;rw[wR hi] at hT;subst hT;clear HR HE HB HD HI HS hrel
   go_wp2_with fail
   go_ret
   exact⟨rfl,⟨qU,dO,fun h=>(by cases h)⟩,ak.trans hb1⟩
  ·have hrg:=HE.out hi;subst hrg;clear HE
   go_wp2_with fail
   refine(sB hO 44 (by decide) rb s A _ _ w1 cx dO cH).mono ?_
   rintro e w2 ⟨rfl,cG,hb2⟩;have jL:Gl w2:=cH.below hb2 cx.rb;simp only[show(44:UInt8).toNat=44 from rfl] at cG⊢
   cases hm:(Pl.mk 44 (item l).2.1).1
   ·have hT:=HR.out;rw[wT hi hm] at hT;subst hT;rw[yC hm] at cG;clear HR HB HD HI HS hrel
    go_wp2_with fail
    refine(sB hO 41 (by decide) rb s A _ _ w2 cx cG jL).mono ?_
    rintro e w3 ⟨rfl,mr,hb3⟩;simp only[show(41:UInt8).toNat=41 from rfl] at mr⊢
    go_wp2_with fail
    go_ret
    exact⟨rfl,⟨_,mr,fun _=>rfl⟩,((ak.trans hb1).trans hb2).trans hb3⟩
   ·have hT:=HR.out;rw[wS hi hm] at hT;have HN:Hid (∃l acc,l.length<=g1/\RD rb s A l (E acc) w2/\Gl w2/\B l acc/\Below rb w w2/\Pl.bV item g1 l acc=T):=by
     refine⟨_,_,?_,cG,jL,HB.out l acc hBl hi,(ak.trans hb1).trans hb2,hT⟩;have q1:=HD.out l hi;have q2:=qT hm;have q3:=HL.out;omega
    clear hT HR
    go_wp2_with fail
    go_roundg g1
    case measure=>omega
    case rel=>exact HN
theorem aeV{α:Type}(item:List Pl.Tk->Bool×List Pl.Tk×α)(E:List α->List (List (Int×Int)))(B:List Pl.Tk->List α->Prop)(hO:nG)(rb:Nat)(s:ByteArray)(A:List Pl.Tk)(cx:Cx rb s A)
  (hI:∀l acc w,RD rb s A l (E acc) w->Gl w->B l acc->Calls Tryz.prog 150 #[.pointer (some ⟨rb,0,none⟩)] w (ou rb s A (item l).1 (item l).2.1 (E (acc++[(item l).2.2])) w))
  (hd:∀l,(item l).1=true->(item l).2.1.length<l.length)
  (hB:∀l acc,B l acc->(item l).1=true->B (Pl.mk 44 (item l).2.1).2 (acc++[(item l).2.2]))
  (f:Nat)(l:List Pl.Tk)(acc:List α)(w:World)(hR:RD rb s A l (E acc) w)(hG:Gl w)(hBl:B l acc)(hf:l.length<=f):
  Calls Tryz.prog 149 #[.pointer (some ⟨rb,0,none⟩),.func (.func 150) #[.pointer (some ⟨rb,0,none⟩)] #[]] w (ou rb s A (Pl.bV item f l acc).1 (Pl.bV item f l acc).2.1 (E (Pl.bV item f l acc).2.2) w):=by
 generalize hT:Pl.bV item f l acc=T;have HI:Hid (∀l acc w,RD rb s A l (E acc) w->Gl w->B l acc->Calls Tryz.prog 150 #[.pointer (some ⟨rb,0,none⟩)] w (ou rb s A (item l).1 (item l).2.1 (E (acc++[(item l).2.2])) w)):=hI;have HD:Hid (∀l,(item l).1=true->(item l).2.1.length<l.length):=hd;have HB:Hid (∀l acc,B l acc->(item l).1=true->B (Pl.mk 44 (item l).2.1).2 (acc++[(item l).2.2])):=hB;have HS:Hid (∃l acc,l.length<=f/\RD rb s A l (E acc) w/\Gl w/\B l acc/\Below rb w w/\Pl.bV item f l acc=T):=⟨l,acc,hf,hR,hG,hBl,Below.refl _ _,hT⟩;clear hI hd hB hT hR hG hBl hf
 go_enter Tryz.func149,Tryz.ntmps149
 go_wp2_with fail
 go_loopg [6] f (fun g s6 wr=>Hid (∃l acc,l.length<=g/\RD rb s A l (E acc) wr/\Gl wr/\B l acc/\Below rb w wr/\Pl.bV item g l acc=T))
 case atStart=>exact HS
 case round=>
  obtain⟨l,acc,hlen,hR,hG,hBl,ak,hT⟩:=hrel.out;have hne:l≠[]:=by
   obtain⟨_,_,_,_,h⟩:=hR.suffix;rw[h];simp
  obtain⟨g1,rfl⟩:∃g1,gk=g1+1:=⟨gk-1,by have:=gV.2 hne;omega⟩
  clear hne;have HR:Hid (Pl.bV item (g1+1) l acc=T):=hT;have HL:Hid (l.length<=g1+1):=hlen;clear hT hlen
  go_wp2_with fail
  refine(HI.out l acc wr hR hG hBl).mono ?_;rintro e w1 ⟨rfl,⟨qU,dO,hrg1⟩,hb1⟩;have cH:Gl w1:=hG.below hb1 cx.rb;have HE:Hid ((item l).1=true->qU=E (acc++[(item l).2.2])):=hrg1;clear hrg1;cases hi:(item l).1
  ·have hT:=HR.out;rw[wR hi] at hT;subst hT;clear HR HE HB HD HI HS hrel
   go_wp2_with fail
   go_ret
   exact⟨rfl,⟨qU,dO,fun h=>(by cases h)⟩,ak.trans hb1⟩
  ·have hrg:=HE.out hi;subst hrg;clear HE
   go_wp2_with fail
   refine(sB hO 44 (by decide) rb s A _ _ w1 cx dO cH).mono ?_
   rintro e w2 ⟨rfl,cG,hb2⟩;have jL:Gl w2:=cH.below hb2 cx.rb;simp only[show(44:UInt8).toNat=44 from rfl] at cG⊢
   cases hm:(Pl.mk 44 (item l).2.1).1
   ·have hT:=HR.out;rw[wT hi hm] at hT;subst hT;rw[yC hm] at cG;clear HR HB HD HI HS hrel
    go_wp2_with fail
    refine(sB hO 41 (by decide) rb s A _ _ w2 cx cG jL).mono ?_
    rintro e w3 ⟨rfl,mr,hb3⟩;simp only[show(41:UInt8).toNat=41 from rfl] at mr⊢
    go_wp2_with fail
    go_ret
    exact⟨rfl,⟨_,mr,fun _=>rfl⟩,((ak.trans hb1).trans hb2).trans hb3⟩
   ·have hT:=HR.out;rw[wS hi hm] at hT;have HN:Hid (∃l acc,l.length<=g1/\RD rb s A l (E acc) w2/\Gl w2/\B l acc/\Below rb w w2/\Pl.bV item g1 l acc=T):=by
     refine⟨_,_,?_,cG,jL,HB.out l acc hBl hi,(ak.trans hb1).trans hb2,hT⟩;have q1:=HD.out l hi;have q2:=qT hm;have q3:=HL.out;omega
    clear hT HR
    go_wp2_with fail
    go_roundg g1
    case measure=>omega
    case rel=>exact HN
theorem aeW{α:Type}(item:List Pl.Tk->Bool×List Pl.Tk×α)(E:List α->List (List (Int×Int)))(B:List Pl.Tk->List α->Prop)(hO:nG)(rb:Nat)(s:ByteArray)(A:List Pl.Tk)(cx:Cx rb s A)
  (hI:∀l acc w,RD rb s A l (E acc) w->Gl w->B l acc->Calls Tryz.prog 95 #[.pointer (some ⟨rb,0,none⟩)] w (ou rb s A (item l).1 (item l).2.1 (E (acc++[(item l).2.2])) w))
  (hd:∀l,(item l).1=true->(item l).2.1.length<l.length)
  (hB:∀l acc,B l acc->(item l).1=true->B (Pl.mk 44 (item l).2.1).2 (acc++[(item l).2.2]))
  (f:Nat)(l:List Pl.Tk)(acc:List α)(w:World)(hR:RD rb s A l (E acc) w)(hG:Gl w)(hBl:B l acc)(hf:l.length<=f):
  Calls Tryz.prog 149 #[.pointer (some ⟨rb,0,none⟩),.func (.func 95) #[.pointer (some ⟨rb,0,none⟩)] #[]] w (ou rb s A (Pl.bV item f l acc).1 (Pl.bV item f l acc).2.1 (E (Pl.bV item f l acc).2.2) w):=by
 generalize hT:Pl.bV item f l acc=T;have HI:Hid (∀l acc w,RD rb s A l (E acc) w->Gl w->B l acc->Calls Tryz.prog 95 #[.pointer (some ⟨rb,0,none⟩)] w (ou rb s A (item l).1 (item l).2.1 (E (acc++[(item l).2.2])) w)):=hI;have HD:Hid (∀l,(item l).1=true->(item l).2.1.length<l.length):=hd;have HB:Hid (∀l acc,B l acc->(item l).1=true->B (Pl.mk 44 (item l).2.1).2 (acc++[(item l).2.2])):=hB;have HS:Hid (∃l acc,l.length<=f/\RD rb s A l (E acc) w/\Gl w/\B l acc/\Below rb w w/\Pl.bV item f l acc=T):=⟨l,acc,hf,hR,hG,hBl,Below.refl _ _,hT⟩;clear hI hd hB hT hR hG hBl hf
 go_enter Tryz.func149,Tryz.ntmps149
 go_wp2_with fail
 go_loopg [6] f (fun g s6 wr=>Hid (∃l acc,l.length<=g/\RD rb s A l (E acc) wr/\Gl wr/\B l acc/\Below rb w wr/\Pl.bV item g l acc=T))
 case atStart=>exact HS
 case round=>
  obtain⟨l,acc,hlen,hR,hG,hBl,ak,hT⟩:=hrel.out;have hne:l≠[]:=by
   obtain⟨_,_,_,_,h⟩:=hR.suffix;rw[h];simp
  obtain⟨g1,rfl⟩:∃g1,gk=g1+1:=⟨gk-1,by have:=gV.2 hne;omega⟩
  clear hne;have HR:Hid (Pl.bV item (g1+1) l acc=T):=hT;have HL:Hid (l.length<=g1+1):=hlen;clear hT hlen
  go_wp2_with fail
  refine(HI.out l acc wr hR hG hBl).mono ?_;rintro e w1 ⟨rfl,⟨qU,dO,hrg1⟩,hb1⟩;have cH:Gl w1:=hG.below hb1 cx.rb;have HE:Hid ((item l).1=true->qU=E (acc++[(item l).2.2])):=hrg1;clear hrg1;cases hi:(item l).1
  ·have hT:=HR.out;rw[wR hi] at hT;subst hT;clear HR HE HB HD HI HS hrel
   go_wp2_with fail
   go_ret
   exact⟨rfl,⟨qU,dO,fun h=>(by cases h)⟩,ak.trans hb1⟩
  ·have hrg:=HE.out hi;subst hrg;clear HE
   go_wp2_with fail
   refine(sB hO 44 (by decide) rb s A _ _ w1 cx dO cH).mono ?_
   rintro e w2 ⟨rfl,cG,hb2⟩;have jL:Gl w2:=cH.below hb2 cx.rb;simp only[show(44:UInt8).toNat=44 from rfl] at cG⊢
   cases hm:(Pl.mk 44 (item l).2.1).1
   ·have hT:=HR.out;rw[wT hi hm] at hT;subst hT;rw[yC hm] at cG;clear HR HB HD HI HS hrel
    go_wp2_with fail
    refine(sB hO 41 (by decide) rb s A _ _ w2 cx cG jL).mono ?_
    rintro e w3 ⟨rfl,mr,hb3⟩;simp only[show(41:UInt8).toNat=41 from rfl] at mr⊢
    go_wp2_with fail
    go_ret
    exact⟨rfl,⟨_,mr,fun _=>rfl⟩,((ak.trans hb1).trans hb2).trans hb3⟩
   ·have hT:=HR.out;rw[wS hi hm] at hT;have HN:Hid (∃l acc,l.length<=g1/\RD rb s A l (E acc) w2/\Gl w2/\B l acc/\Below rb w w2/\Pl.bV item g1 l acc=T):=by
     refine⟨_,_,?_,cG,jL,HB.out l acc hBl hi,(ak.trans hb1).trans hb2,hT⟩;have q1:=HD.out l hi;have q2:=qT hm;have q3:=HL.out;omega
    clear hT HR
    go_wp2_with fail
    go_roundg g1
    case measure=>omega
    case rel=>exact HN
namespace Pl
theorem AB(c:Nat)(l:List Tk):(mk c l).2.length<=l.length:=by
 cases l with
 |nil=>simp[mk]
 |cons t r=>by_cases hk:t.k=c<;>simp[mk,hk]
theorem AE{c:Nat}{l:List Tk}(h:(mk c l).1=true):(mk c l).2.length<l.length:=by
 have:=qT h;omega
theorem wU{q:List UInt8}{l:List Tk}(h:(wd q l).1=true):(wd q l).2.length<l.length:=by
 cases l with
 |nil=>simp[wd] at h
 |cons t r=>
  by_cases hk:t.k=119/\t.raw=q
  ·simp only[wd];rw[ah hk];simp
  ·simp only[wd] at h;rw[aa hk] at h;cases h
theorem H9(l:List Tk)(h:(cK l).1=true):(cK l).2.1.length<l.length:=by
 match l,h with
 |[],h=>cases h
 |[x],h=>cases h
 |x::y::r,h=>
  by_cases hx:x.k=110
  ·by_cases hy:y.k=110
   ·simp[cK,hx,hy];omega
   ·simp[cK,hx,hy] at h
  ·simp[cK,hx] at h
theorem Ia{α:Type}(item:List Tk->Bool×List Tk×α)(hd:∀l,(item l).1=true->(item l).2.1.length<l.length):
  ∀(f:Nat)(l:List Tk)(acc:List α),(bV item f l acc).1=true->(bV item f l acc).2.1.length<l.length/\(bV item f l acc).2.2.length+(bV item f l acc).2.1.length<=acc.length+l.length
 |0,l,acc,h=>by cases h
 |f+1,l,acc,h=>by
  cases hi:(item l).1
  ·rw[wR hi] at h;cases h
  ·have h1:=hd l hi;cases hm:(mk 44 (item l).2.1).1
   ·rw[wT hi hm] at h⊢;have h2:=AE h;simp only[aX,bW,fJ];omega
   ·rw[wS hi hm] at h⊢;have ih:=Ia item hd f _ _ h;have h2:=AE hm;simp only[aX,bW,fJ] at ih;omega
theorem Ib(l:List Tk)(h:(dB l).1=true):(dB l).2.1.length<l.length:=by
 unfold dB at h⊢;by_cases h1:(mk 40 l).1=true
 ·have q:=AE h1;rw[ah h1] at h⊢;by_cases h2:(mk 41 (mk 40 l).2).1=true
  ·rw[ah h2] at h⊢;have:=AE h2;simp only;omega
  ·rw[aa h2] at h⊢;have:=(Ia cK H9 _ _ _ h).1;omega
 ·rw[aa h1] at h;cases h
theorem Dx(l:List Tk)(h:(bA l).1=true):(bA l).2.1.length<l.length/\(bA l).2.2.length+(bA l).2.1.length<=l.length:=by
 unfold bA at h⊢;by_cases h0:(wd EMPTY l).1=true
 ·rw[ah h0];have:=wU h0;simp only[fJ];omega
 ·rw[aa h0] at h⊢;by_cases h1:(mk 40 l).1=true
  ·have q:=AE h1;rw[ah h1] at h⊢;have:=Ia dB Ib _ _ _ h;simp only[fJ] at this;omega
  ·rw[aa h1] at h;cases h
theorem aeX(l:List Tk)(h:(eY l).1=true):(eY l).2.1.length<l.length:=by
 unfold eY at h⊢;by_cases h0:(wd EMPTY l).1=true
 ·rw[ah h0];exact wU h0
 ·rw[aa h0] at h⊢;by_cases h1:(mk 40 l).1=true
  ·have q:=AE h1;rw[ah h1] at h⊢;have:=(Ia bA (fun l h=>(Dx l h).1) _ _ _ h).1
   omega
  ·rw[aa h1] at h;cases h
end Pl
theorem qM.snoc{rb:Nat}{rv:Value}{rg:List (List (Int×Int))}{w w1:World}{o:Obj}{g cap:Nat}{vs:List Value}
  (h1:vs.length=rg.length)(h2:w.ownsRow (rb+1) 127 1 rv rg.length vs)
  (h3:∀(i:Nat) v g,vs[i]?=some v->rg[i]?=some g->w.ownsRow (rb+1) 81 1 v g.length (qg g))
  (h4:∀(i j:Nat) v u k,vs[i]?=some v->vs[j]?=some u->v.ownBlock=some k->u.ownBlock=some k->i=j)
  (hgrow:(w.alloc o).grownBy w1 rv.ownBlock)(ho:w1.ownsRow (rb+1) 127 1 (.slice (some ⟨g,0,none⟩) (rg.length+1) cap) (rg.length+1) (vs++[.slice none 0 0])):
  qM rb (.slice (some ⟨g,0,none⟩) (rg.length+1) cap) (rg++[[]]) (w1.setCell ⟨rb,6,none⟩ (.slice (some ⟨g,0,none⟩) (rg.length+1) cap)):=by
 refine⟨vs++[.slice none 0 0],by simp[h1],?_,?_,?_⟩
 ·simp only[aX,bW,fJ,jn];refine aO ho fun k hk=>bu ?_ _
  have:=(aA ho k hk).1;omega
 ·intro i v g' hi hg';by_cases hin:i<vs.length
  ·rw[eD hin] at hi;rw[eD (by omega)] at hg'
   have hq:=h3 i v g' hi hg';refine aO hq fun k hk=>?_
   have:=(aA hq k hk);obtain⟨c,hc⟩:=oa hq hk;rw[bu (by omega)]
   exact Dc hgrow k this.2 (n9 h2 hc (by decide))
  ·have hi2:i=vs.length:=by
    have:=(bY.1 hi).1;simp at this;omega
   subst hi2;have e1:v=.slice none 0 0:=by simpa using hi.symm
   have e2:g'=[]:=by rw[h1] at hg';simpa using hg'.symm
   subst e1 e2;exact World.ownsRow_nil _ _ _ _
 ·intro i j v u k hi hj hv hu;have key:∀(i:Nat) v,(vs++[Value.slice none 0 0])[i]?=some v->v.ownBlock=some k->vs[i]?=some v:=fun i v hi hv=>by
   by_cases hin:i<vs.length
   ·rwa[eD hin] at hi
   ·have hi2:i=vs.length:=by
     have:=(bY.1 hi).1;simp at this;omega
    subst hi2;have e1:v=.slice none 0 0:=by simpa using hi.symm
    subst e1;cases hv
  exact h4 i j v u k (key i v hi hv) (key j u hj hu) hv hu
theorem aeY:(Tryz.prog.info? 127).map (fun i=>(i.zero,i.size,i.bytes))=some (some (.slice none 0 0),1,24):=by kernel_rfl
theorem aeZ(hO:nG)(rb:Nat)(s:ByteArray)(A l:List Pl.Tk)(rg:List (List (Int×Int)))(w:World)(cx:Cx rb s A)(hR:RD rb s A l rg w)(hG:Gl w)(hrg:rg.length<=1000):
  Calls Tryz.prog 150 #[.pointer (some ⟨rb,0,none⟩)] w (ou rb s A (Pl.dB l).1 (Pl.dB l).2.1 (rg++[(Pl.dB l).2.2]) w):=by
 generalize hT:Pl.dB l=T;have HT:Hid (Pl.dB l=T):=hT;clear hT;obtain⟨i0,hi,hz0,hz1,hz2⟩:=info_parts aeY;have hlt:=hR.lt;obtain⟨c,t,r0,tv,rv,hc,hl,hbk,hown,vs,h1,h2,h3,h4⟩:=id hR;have c6:w.cell? ⟨rb,6,none⟩=some rv:=cell_of hbk 6;have HH:Hid (∀w1 g cap o,(w.alloc o).grownBy w1 rv.ownBlock->w1.ownsRow (rb+1) 127 1 (.slice (some ⟨g,0,none⟩) (rg.length+1) cap) (rg.length+1) (vs++[.slice none 0 0])->
   RD rb s A l (rg++[[]]) (w1.setCell ⟨rb,6,none⟩ (.slice (some ⟨g,0,none⟩) (rg.length+1) cap))/\Below rb w (w1.setCell ⟨rb,6,none⟩ (.slice (some ⟨g,0,none⟩) (rg.length+1) cap))):=by
  intro w1 g cap o hgrow ho;have k6:=(Dc hgrow rb hlt (sy h2 rb (by omega))).trans hbk
  refine⟨⟨c,t,r0,tv,_,hc,hl,heap_set k6 _,aO hown fun k hk=>?_,qM.snoc h1 h2 h3 h4 hgrow ho⟩,?_⟩
  ·obtain⟨c9,uL⟩:=oa hown hk;have:=(aA hown k hk);rw[bu (by omega)]
   exact Dc hgrow k this.2 (n9 h2 uL (by decide))
  ·exact(((Below.refl rb w).alloc (eF hlt) _).grown hgrow (by simp;omega) (fun k hk=>by have:=(aA h2 k hk).1;omega)).setCell (ai _) _
 clear h1 h3 h4
 go_enter Tryz.func150,Tryz.ntmps150
 go_wp2_with (at_builtin;refine wpList_append_lies _ rfl (.tmp 7) (.tmp 8) 78 rfl (rb+1) 127 i0 _ 1 24 Tryz.underlying78 hi hz0 hz1 hz2 rfl (by decide) rv rg.length vs rfl (aO h2 (fun k hk=>Below.heap_alloc _ _ _ (aA h2 k hk).2)) ⟨w.heap.size,0,none⟩ 1 1 [.slice none 0 0] rfl rfl (World.news_of_block (cs:= #[.slice none 0 0]) (t:=127) (fr:=(0,0)) (heap_alloc_new w _)) (by simp[Value.oneCell']) (by decide) (by unfold maxLen;omega) (by omega) (by simp;omega) (w.heap.size+1) (by simp) ?_;intro g cap w1 ho hgrow hat wH;have hb1:=(Dc hgrow rb hlt (sy h2 rb (by omega))).trans hbk;have d6:w1.cell? ⟨rb,6,none⟩=some rv:=cell_of hb1 6;have f6:w1.frozen? ⟨rb,6,none⟩=false:=aH hb1 6)
 obtain⟨dO,ak⟩:=HH.out w1 g cap _ hgrow ho;have cH:=hG.below ak cx.rb;have hlA:=dO.le;have hcl:=cx.len;clear HH hgrow ho hat wH hb1 d6 f6 c6 h2 hown hbk hl hc hi hz0 hz1 hz2;refine(sB hO 40 (by decide) rb s A l _ _ cx dO cH).mono ?_
 rintro e w2 ⟨rfl,cG,hb2⟩;simp only[show(40:UInt8).toNat=40 from rfl] at cG⊢
 have jL:Gl w2:=cH.below hb2 cx.rb;cases hm:(Pl.mk 40 l).1
 ·have hT:=HT.out;rw[Pl.dB,aa (by rw[hm];simp)] at hT
  subst hT;rw[yC hm] at cG;clear HT
  go_wp2_with fail
  go_ret
  exact⟨rfl,⟨_,cG,fun h=>(by cases h)⟩,ak.trans hb2⟩
 ·go_wp2_with fail
  refine(sB hO 41 (by decide) rb s A _ _ _ cx cG jL).mono ?_
  rintro e w3 ⟨rfl,mr,hb3⟩;simp only[show(41:UInt8).toNat=41 from rfl] at mr⊢
  have yD:Gl w3:=jL.below hb3 cx.rb;cases hm2:(Pl.mk 41 (Pl.mk 40 l).2).1
  ·have hT:=HT.out;rw[Pl.dB,ah hm,aa (by rw[hm2];simp)] at hT
   subst hT;rw[yC hm2] at mr;have hlm:=Pl.AB 40 l;clear HT
   go_wp2_with fail
   refine(aeU Pl.cK (fun acc=>rg++[acc]) (fun l acc=>acc.length+l.length<=1000) hO rb s A cx
    (fun l' acc w' hR' Dy hB'=>aeT hO rb s A l' rg acc w' cx hR' Dy (by omega) hrg) Pl.H9
    (fun l' acc hB' hi'=>by
     have q1:=Pl.H9 l' hi';have q2:=Pl.AB 44 (Pl.cK l').2.1;simp only[aX,bW,fJ];omega)
    l.length (Pl.mk 40 l).2 [] w3 mr yD (by simp;omega) hlm).mono ?_
   rintro e w4 ⟨rfl,⟨uR,uS,uT⟩,hb4⟩
   go_wp2_with fail
   go_ret
   exact⟨rfl,⟨uR,uS,uT⟩,((ak.trans hb2).trans hb3).trans hb4⟩
  ·have hT:=HT.out;rw[Pl.dB,ah hm,ah hm2] at hT;subst hT;clear HT
   go_wp2_with fail
   go_ret
   exact⟨rfl,⟨_,mr,fun _=>rfl⟩,(ak.trans hb2).trans hb3⟩
end Go.Proofs.YtkjhhooecopolaaGreatDoor

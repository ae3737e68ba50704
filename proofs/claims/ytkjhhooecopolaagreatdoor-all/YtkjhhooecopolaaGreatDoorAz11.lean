import Derived.Test.YtkjhhooecopolaaGreatDoorAz08
set_option maxRecDepth 100000
set_option maxHeartbeats 4000000
namespace Go.Proofs.YtkjhhooecopolaaGreatDoor
open Go.Proofs.Tryz
open Value renaming int->I,complex->A,agg->u,bool->aC,string->aD,slice->D
open IntKind renaming i64->J
open Ending renaming returned->aJ
open Go renaming World->G,Value->Y
open Option renaming some->K,none->Z
open Bool renaming true->aP,false->aQ
section
open Go.RowKit
variable{sh pv:Array Y}{w wr W5 w6:G}{k n cap:Nat}{lv ov:Y}
def jf(w:G)(sh:Array Y)(b:Y)(a:V Ed)(wr:G):Prop:=
 wr.ownsRow w.heap.size 151 4 b a.length (lH a)/\ag w wr/\w.heap.size<wr.heap.size/\wr.heap[w.heap.size]?=K (.cells sh 29 (0,0))
theorem XF(l:V Ed)(e:Ed):lH (l++[e])=lH l++(jq e).toList:=by simp[lH]
theorem jf.alloc{acc:V Ed}(h:jf w sh lv acc wr)(o:Obj):jf w sh lv acc (wr.alloc o):=by obtain⟨a,b,c,d⟩:=h;refine⟨bH a λk e=>ad _ _ _ (bn a k e).2,b.alloc b.size _,aq,?_⟩;rw[ad _ _ _ c];exact d
theorem jf.drew{acc:V Ed}(h:jf w sh lv acc wr):jf w sh lv acc wr.drew:=
 ⟨bH h.1 λ_ _=>rfl,h.2.1.drew,h.2.2.1,h.2.2.2⟩
theorem jf.grown{nP:Y}{acc acc':V Ed}{o:Obj}(h:jf w sh lv acc W5)(b:(W5.alloc o).drew.grownBy w6 lv.ownBlock)
  (m:w6.ownsRow w.heap.size 151 4 nP acc'.length (lH acc')):jf w sh nP acc' w6:=by obtain⟨d,a,l,f⟩:=h;have:=b.size;have:W5.heap.size+1<=w6.heap.size:=(by simp_all);have c:=lE d f ae;refine⟨m,⟨b.os.trans a.os,b.tape.trans a.tape,b.output.trans a.output,?_,λk g=>?_⟩,U,?_⟩;omega;have:=a.size;exact(lD b k U<|jo d k g).trans<|a.block k g;exact(lD b _ l c).trans f
theorem gw(w:G)(o:Obj){b:Nat}(h:b<w.heap.size):(w.alloc o).cell? ⟨b,k,Z⟩=w.cell? ⟨b,k,Z⟩:=by simp only[World.cell?];rw[ad _ _ _ h]
theorem XG:(Tryz.prog.info? 151).map (λi=>(i.zero,i.size,i.bytes))=K (K<|u #[I J 0,I J 0,I J 0,I J 0],4,32):=z
theorem F6{so:Option Addr}{g:V (Int×Int)}(h:me w (D so n cap) g){p:Int×Int}(m:g[k]?=K p):
  ∃b,so=K ⟨b,0,Z⟩/\b<w.heap.size/\w.cell? ⟨b,k*2,Z⟩=K (I J p.1)/\w.cell? ⟨b,k*2+1,Z⟩=K (I J p.2):=by obtain⟨d,f⟩:=Lv g k p m;obtain⟨b,c,a,l,e⟩:=rf h d;grind
theorem XH(ps:V (V<|V (Int×Int)))(W:ByteArray)(pv:Y)(w:G)(hR:kD w pv ps)(hok:mg ps):
    M 79 #[u #[aD W,pv,I J 0]] w λe w'=>∃v,e=aJ v/\je w' v (N.o ps.flatten)/\Below w.heap.size w w':=by
 obtain⟨so,cap,rfl⟩:=oH hR;obtain⟨i0,hi,hz0,hz1,hz2⟩:=aH XG;have HR:H (kD w (D so ps.length cap) ps):=hR;have R:H (mg ps):=hok;have hl:ps.length<=402:=hok.1;clear hR hok;have gh:H (jf w #[aD W,D so ps.length cap,I J 0] (D Z 0 0) [] (w.alloc<|.cells #[aD W,D so ps.length cap,I J 0] 29)):=
   ⟨ak _ _ _ _,(Below.refl _ _).alloc (aX _) _,E,aa _ _⟩
 have HLEN:H (∀i,(N.o (ps.take i).flatten).length<=65000000):=λi=>(by have h:=N.ti 402 402 (ps.take i)<|λp hp=>⟨(R.o.2 p<|kP hp).1,λg hg=>((R.o.2 p<|kP hp).2 g hg).2⟩;have h2:(ps.take i).length<=402:=aq;omega);go_enter func79,ntmps79;go_wp2_with fail;go_loopg [3,4] ps.length (λm lv iv wr=>∃i:Nat,i+m=ps.length/\iv=I J i/\H (jf w #[aD W,D so ps.length cap,I J 0] lv (N.o (ps.take i).flatten) wr));case atStart=>exact⟨0,U,rfl,gh⟩
 case round=>
  obtain⟨i,him,rfl,HE⟩:=hrel;obtain⟨hown,F7,hwz,F8⟩:=HE.o;have c1:=bw F8;clear gh;by_cases hlt:i<ps.length
  .obtain⟨p,hp⟩:∃p,ps[i]?=K p:=⟨_,be hlt⟩;obtain⟨b,c,rfl,hb,e0,acT⟩:=lF HR.o hp;obtain⟨us,uc,rfl⟩:=oH acT;have S:H (uM p):=R.o.2 p<|bB hp;have xJ:H (nK w (D us p.length uc) p):=acT;have XI:H (w.cell? ⟨b,i,Z⟩=K (D us p.length uc)):=e0;have hpl:p.length<=402:=S.o.1;have HT:H (N.o (ps.take<|i+1).flatten=N.o (ps.take i).flatten++N.o p):=N.Xv hp;have XJ:=HLEN.o i;have F9:H (∀k,(N.o<|p.take k).length<=162000):=λk=>(by have h:=N.Br 402 (p.take k)<|λg hg=>(S.o.2 g<|kP hg).2;have h2:(p.take k).length<=402:=aq;omega);generalize N.o (ps.take i).flatten=A1 at*;have iH:(i:Int)<(ps.length:Int):=U;obtain⟨m1,jG⟩:=am gk;clear hp e0 acT R HR hown F8;go_wp2_with fail;go_loopg [3,5] p.length (λm lv kv wr=>∃k:Nat,k+m=p.length/\kv=I J k/\H (jf w #[aD W,D (K ⟨b,0,Z⟩) ps.length cap,I J 0] lv (A1++N.o (p.take k)) wr));case atStart=>exact⟨0,U,rfl,by simpa[N.o] using HE⟩
   case round=>
    obtain⟨k,tq,rfl,x⟩:=hrel;obtain⟨hown2,O,ajU,T⟩:=x.o;have d1:=bw T;have d2:=aR O XI.o hb;clear HE;by_cases XK:k<p.length
    .obtain⟨g,hg⟩:∃g,p[k]?=K g:=⟨_,be XK⟩;obtain⟨b2,u2,rfl,hb2,e2,agp⟩:=lF xJ.o hg;obtain⟨gs,gc,rfl⟩:=Xc agp;have hgl:g.length<=402:=(S.o.2 g<|bB hg).2;have s:H (me w (D gs g.length gc) g):=agp;have d3:=aR O e2 hb2;have Mg:H (N.o (p.take<|k+1)=N.o (p.take k)++N.gF g):=N.L3 hg;have hl2:=F9.o k;have ajV:(k:Int)<(p.length:Int):=U;obtain⟨m2,hm2⟩:=am gk;generalize N.o (p.take k)=A2 at*;clear hg e2 agp hown2 T;go_wp2_with fail;go_loopg [3,7] g.length (λm lv nv wr=>∃n:Nat,n+m=g.length/\nv=I J n/\H (jf w #[aD W,D (K ⟨b,0,Z⟩) ps.length cap,I J 0] lv (A1++A2++N.gZ g n) wr));case atStart=>exact⟨0,U,rfl,by simpa[N.L0] using x⟩
     case round=>
      obtain⟨n,vb,rfl,B⟩:=hrel;obtain⟨ahD,d,XL,ahE⟩:=B.o;clear x d1 d2 d3;by_cases By:n<g.length
      .obtain⟨P,hP⟩:∃P,g[n]?=K P:=⟨_,be By⟩;obtain⟨a,hF⟩:∃a,g[0]?=K a:=⟨_,be (show 0<g.length by omega)⟩;obtain⟨r,rfl,q,p0,p1⟩:=F6 s.o hP;obtain⟨b4,l,_,f0,f1⟩:=F6 s.o hF;injection l with l;injection l with l;subst l;rw[ab4] at f0 f1;rw[ir] at f1;obtain⟨r0,r1,r2,r3⟩:=ajE d q p0 p1 f0 f1;have alj:r<wr.heap.size:=bg q d.size;have Mh:(n:Int)<(g.length:Int):=U;have h0g:(0:Int)<(g.length:Int):=U;have HP:H (g[n]?=K P):=hP;have HF:H (g[0]?=K a):=hF;clear p0 p1 f0 f1 hP hF;have hcs:∃Q,H (N.oJ g n=K Q)/\(((n:Int)+1<(g.length:Int)/\wr.cell? ⟨r,(n+1)*2,Z⟩=K (I J Q.1)/\wr.cell? ⟨r,(n+1)*2+1,Z⟩=K (I J Q.2))\/(¬((n:Int)+1<(g.length:Int))/\Q=a)):=(by by_cases abg:n+1<g.length;obtain⟨Q,hQ⟩:∃Q,g[n+1]?=K Q:=⟨_,be abg⟩;obtain⟨b4,l,_,f0,f1⟩:=F6 s.o hQ;injection l with l;injection l with l;subst l;exact⟨Q,by unfold N.oJ H Hid;rw[y abg];exact hQ,j ⟨U,aR d f0 q,aR d f1 q⟩⟩;exact⟨a,by unfold N.oJ H Hid;rw[X abg];exact HF.o,F ⟨U,rfl⟩⟩);obtain⟨Q,HQ,⟨XM,r4,r5⟩|⟨XM,XO⟩⟩:=hcs
       all_goals
        first
          | subst XO
          | skip
        go_wp2_with fail;have L:jf w #[aD W,D (K ⟨b,0,Z⟩) ps.length cap,I J 0] u3 (A1++A2++N.gZ g n) (wr.alloc<|.cells #[I J Q.1,I J Q.2] 65):=B.o.alloc _;have s0:(wr.alloc<|.cells #[I J Q.1,I J Q.2] 65).cell? ⟨r,n*2,Z⟩=K (I J P.1):=(by rw[<-r0];exact gw _ _ alj);have s1:(wr.alloc<|.cells #[I J Q.1,I J Q.2] 65).cell? ⟨r,n*2+1,Z⟩=K (I J P.2):=(by rw[<-r1];exact gw _ _ alj);have s2:(wr.alloc<|.cells #[I J Q.1,I J Q.2] 65).cell? ⟨wr.heap.size,0,Z⟩=K (I J Q.1):=Bm (aa _ _) 0;have s3:(wr.alloc<|.cells #[I J Q.1,I J Q.2] 65).cell? ⟨wr.heap.size,1,Z⟩=K (I J Q.2):=Bm (aa _ _) 1;have Gc:=aa wr<|.cells #[I J Q.1,I J Q.2] 65;have Mi:wr.heap.size<(wr.alloc<|.cells #[I J Q.1,I J Q.2] 65).heap.size:=E;generalize wr.alloc (.cells #[I J Q.1,I J Q.2] 65)=W4 at*;have ahF:r<W4.heap.size:=U;clear r0 r1 r2 r3 B ahD ahE d XL;(try clear r4 r5);generalize wr.heap.size=BQ at*;obtain⟨z,P2⟩:=P;obtain⟨Q1,Q2⟩:=Q;simp only at s0 s1 s2 s3;by_cases Dj:(z,P2)=(Q1,Q2);.injection Dj with XP aeH;subst XP aeH;have HN:H (jf w #[aD W,D (K ⟨b,0,Z⟩) ps.length cap,I J 0] u3 (A1++A2++N.gZ g (n+1)) W4.drew):=(by rw[N.L1 HP.o HQ.o rfl];exact L.drew);clear L HF s;go_region_held3 (λw'=>atc w' r (n*2) (I J z) (I J P2)/\atb w' BQ (I J z) (I J P2)) (go_keep) (fail);go_wp2_with fail;go_roundg (gk-1);(case measure=>omega);case rel=>exact⟨n+1,U,af,HN⟩
        .have Gd:H (N.gZ g (n+1)=N.gZ g n++[((z,P2),(Q1,Q2))]):=N.L2 HP.o HQ.o Dj;have hal:(A1++A2++N.gZ g n).length<=66000000:=(by have:=N.Bq g n;simp only[bG];omega)
         have Mj:H (∃A3,A3=A1++A2++N.gZ g n):=⟨_,rfl⟩;obtain⟨A3,qd⟩:=Mj.o;rw[<-qd] at L hal;have HA:H (A3=A1++A2++N.gZ g n):=qd;clear qd Mj;rcases(show(z == Q1)=aQ\/((z == Q1)=aP/\(P2 == Q2)=aQ) by
           by_cases h1:z=Q1
           · by_cases h2:P2=Q2
             · exact absurd (by rw[h1,h2]) Dj
             · exact F ⟨J6.2 h1,ou.2 h2⟩
           · exact j (ou.2 h1)) with hq1|⟨hq1,hq2⟩
         all_goals
          clear Dj HP HQ HF s;go_region_held3 (λw'=>atc w' r (n*2) (I J z) (I J P2)/\atb w' BQ (I J Q1) (I J Q2)) (go_keep) (fail);go_wp2_with fail;have yx:jf w #[aD W,D (K ⟨b,0,Z⟩) ps.length cap,I J 0] u3 A3 W4.drew:=L.drew;clear L s0 s1 s2 s3;have Gc:W4.drew.heap[BQ]?=K (.cells #[I J Q1,I J Q2] 65 (0,0)):=Gc;have Mi:BQ<W4.drew.heap.size:=Mi;have ahF:r<W4.drew.heap.size:=ahF;generalize W4.drew=W5 at*;obtain⟨aU,jS,xK,Mk⟩:=yx;have Ml:u3.ownBlock≠K r:=jo aU r q;have Mm:u3.ownBlock≠K BQ:=lE aU Gc ae;have yx:jf w #[aD W,D (K ⟨b,0,Z⟩) ps.length cap,I J 0] u3 A3 W5:=⟨aU,jS,xK,Mk⟩;go_region_held3 (λw'=>w'.cell? ⟨r,n*2,Z⟩=K (I J z)/\w'.cell? ⟨r,n*2+1,Z⟩=K (I J P2)/\w'.cell? ⟨BQ,0,Z⟩=K (I J Q1)/\w'.cell? ⟨BQ,1,Z⟩=K (I J Q2))
            (first
              | go_keep
              | (go_split_ands
                 refine⟨?_,?_,?_,?_⟩
                 · (rw[f.cell_far _ aq<|lu Ml];assumption)
                 · (rw[f.cell_far _ aq<|lu Ml];assumption)
                 · (rw[f.cell_far _ aq<|lu Mm];assumption)
                 · (rw[f.cell_far _ aq (lu Mm)];assumption)))
            ((refine aba _ (by rfl) _ _ _ (by rfl) w.heap.size 151 i0 _ 4 32 underlying148 hi hz0 hz1 hz2 rfl ae u3 A3.length (lH A3) (by rfl) (aao aU) ⟨W5.heap.size,0,Z⟩ 1 1 [I J z,I J P2,I J Q1,I J Q2] (by rfl) (by rfl) (aai (cs:= #[I J z,I J P2,I J Q1,I J Q2]) (t:=151) (fr:=(0,0))<|aa W5 _) au ae ar U aq (W5.heap.size+1) E ?_;intro g' cap' w6 mj f ajY Mn))
          have HN:H (jf w #[aD W,D (K ⟨b,0,Z⟩) ps.length cap,I J 0] (D (K ⟨g',0,Z⟩) (A3.length+1) cap') (A1++A2++N.gZ g (n+1)) w6):=(by rw[Gd.o,<-aaU,<-HA.o];exact yx.grown f (by rw[XF,bG];exact mj));clear mj f yx aU jS Mk xK;go_wp2_with fail;go_roundg (gk-1);(case measure=>omega);case rel=>exact⟨n+1,U,af,HN⟩
      .have hn:n=g.length:=U;subst hn;have HN:H (jf w #[aD W,D (K ⟨b,0,Z⟩) ps.length cap,I J 0] u3 (A1++N.o (p.take<|k+1)) wr):=(by rw[Mg.o,<-aaU,<-N.Bp];exact B.o);clear B ahD d ahE s Mg F9;go_wp2_with fail;go_roundg (m2-1);(case measure=>omega);case rel=>exact⟨k+1,U,af,HN⟩
    .have hk:k=p.length:=U;subst hk;have HN:H (jf w #[aD W,D (K ⟨b,0,Z⟩) ps.length cap,I J 0] u3 (N.o (ps.take<|i+1).flatten) wr):=(by rw[HT.o];have:=x.o;rw[dV] at this;exact this);clear x hown2 T xJ HT F9;go_wp2_with fail;go_roundg (m1-1);(case measure=>omega);case rel=>exact⟨i+1,U,af,HN⟩
  have hk:i=ps.length:=U;subst hk;have HF:H (jf w #[aD W,D so ps.length cap,I J 0] u3 (N.o ps.flatten) wr):=(by rw[dV] at HE;exact HE);clear HE HR R HLEN hown F7 F8;go_wp2_with fail;go_ret;exact⟨_,rfl,iF HF.o.1,HF.o.2.1⟩
def ij(l:V N.Qt):V Y:=l.flatMap λp=>(qA p).toList
def dq(w:G)(v:Y)(l:V N.Qt):Prop:=w.ownsRow 0 100 4 v l.length<|ij l
theorem Mp:∀(l:V N.Qt)(k:Nat)(e:N.Qt),l[k]?=K e->∀j,j<4->(ij l)[k*4+j]?=(qA e)[j]?
 |[],_,_,h,_,_=>by grind
 |q::r,0,e,h,j,b=>by simp at h;subst h;have a:ij (q::r)=(qA q).toList++ij r:=(by simp[ij]);rw[a,dQ (by simp[qA];omega)];simp
 |q::r,k+1,e,h,j,b=>by have d:=Mp r k e (by grind) j b;have a:ij (q::r)=(qA q).toList++ij r:=(by simp[ij]);rw[a,jc (by simp[qA];omega)];have c:(k+1)*4+j-(qA q).toList.length=k*4+j:=(by simp[qA];omega);rw[c,d]
theorem Bz(l:V N.Qt)(e:N.Qt):ij (l++[e])=ij l++(qA e).toList:=by simp[ij]
theorem nQ{v:Y}{l:V N.Qt}(h:dq w v l):∃e cap,v=D e l.length cap:=by rcases h.2 with⟨a,d⟩|⟨b,cap,c,a,_⟩;grind;grind
theorem tt{so:Option Addr}{l:V N.Qt}(h:dq w (D so n cap) l){e:N.Qt}(m:l[k]?=K e):
  ∃b,so=K ⟨b,0,Z⟩/\b<w.heap.size/\w.cell? ⟨b,k*4,Z⟩=K (I J e.1.1)/\w.cell? ⟨b,k*4+1,Z⟩=K (I J e.1.2)/\w.cell? ⟨b,k*4+2,Z⟩=K (I J e.2.1)/\w.cell? ⟨b,k*4+3,Z⟩=K (I J e.2.2):=by have g:=Mp l k e m;obtain⟨b,c,d,f,a⟩:=rf h<|g 0 U;injection d with d;exact⟨b,d,f,a _ _<|g 0 U,a _ _<|g 1 U,a _ _<|g 2 U,a _ _<|g 3 U⟩
theorem kU:kR [100] dq:=λw w' v x h c=>tc h λk a b=>c k a _ b E
theorem vc:(Tryz.prog.info? 100).map (λi=>(i.zero,i.size,i.bytes))=K (K<|u #[I J 0,I J 0,I J 0,I J 0],4,32):=z
namespace N
theorem Mq{p:Qt}:∀{a:V Qt},(∀q∈a,pc q p<0)->ins p a=a++[p]
 |[],_=>rfl
 |q::a,h=>by have b:=h q E;unfold ins;rw[X U,y b,Mq<|λx c=>h x<|by simp[c]];rfl
theorem Mr{p q:Qt}{c:V Qt}(d:0<pc q p):∀{a:V Qt},(∀q∈a,pc q p<0)->ins p (a++q::c)=a++p::q::c
 |[],_=>by show ins p (q::c)=_;unfold ins;grind
 |r::a,h=>by have b:=h r E;show ins p (r::(a++q::c))=_;unfold ins;rw[X U,y b,Mr d<|λx e=>h x<|by simp[e]];rfl
theorem Ms{p q:Qt}{c:V Qt}(b:pc q p=0):∀{a:V Qt},(∀q∈a,pc q p<0)->ins p (a++q::c)=a++q::c
 |[],_=>by show ins p (q::c)=_;unfold ins;grind
 |r::a,h=>by have d:=h r E;show ins p (r::(a++q::c))=_;unfold ins;rw[X U,y d,Ms b<|λx e=>h x<|by simp[e]];rfl
def Wi(p:Qt)(l:V Qt)(k:Nat)(done:Bool)(b:V Qt):Prop:=
 (done=aQ/\(∀q∈l.take k,pc q p<0)/\b=l.take k)\/(done=aP/\∃a q c,l.take k=a++q::c/\(∀q∈a,pc q p<0)/\0<pc q p/\b=a++p::q::c)
theorem Wi.fin{p:Qt}{l out:V Qt}{done:Bool}(h:Wi p l l.length done out):(done=aP/\out=ins p l)\/(done=aQ/\out++[p]=ins p l):=by unfold Wi at h;rw[dV] at h;rcases h with⟨b,d,rfl⟩|⟨b,a,q,c,rfl,d,e,rfl⟩;exact F ⟨b,(Mq d).symm⟩;exact j ⟨b,(Mr e d).symm⟩
theorem BA{l:V Qt}{k:Nat}{q:Qt}(h:l[k]?=K q):l.take (k+1)=l.take k++[q]:=by obtain⟨a,b⟩:=bX.1 h;rw[lV a,b]
theorem Wi.eq{p q:Qt}{l out:V Qt}{k:Nat}{done:Bool}(Q:∀q∈l,dD q)(P:dD p)(x:iG l)(h:Wi p l k done out)(n:l[k]?=K q)(g:pc q p=0):ins p l=l:=by have m:l=l.take k++q::l.drop (k+1):=(by obtain⟨d,B⟩:=bX.1 n;conv=>lhs;rw[<-oy k l,lU d,B]);rcases h with⟨_,t,_⟩|⟨_,a,r,c,s,_,R,_⟩;rw[m];exact Ms g t;exfalso;have f:lt r q:=(by have b:=x;rw[m,s] at b;unfold iG at b;grind);have e:=L8 (Q q<|bB n) P g;subst e;unfold lt at f;omega
theorem Wi.low{p q:Qt}{l out:V Qt}{k:Nat}{done:Bool}(B:∀q∈l,dD q)(o:dD p)(Q:iG l)(h:Wi p l k done out)(f:l[k]?=K q)(s:pc q p<0):done=aQ/\Wi p l (k+1) aQ (out++[q]):=by rcases h with⟨t,v,rfl⟩|⟨t,a,r,c,d,v,u,_⟩;refine⟨t,j ⟨rfl,?_,(BA f).symm⟩⟩;rw[BA f];grind;exfalso;have S:l=l.take k++q::l.drop (k+1):=(by obtain⟨g,R⟩:=bX.1 f;conv=>lhs;rw[<-oy k l,lU g,R]);have n:lt r q:=(by have b:=Q;rw[S,d] at b;unfold iG at b;grind);have m:dD r:=B r<|kP (i:=k) (by grind);have:=lt_trans m (B q<|bB f) o n s;unfold lt at this;omega
theorem Wi.high{p q:Qt}{l out:V Qt}{k:Nat}{done:Bool}(h:Wi p l k done out)(e:l[k]?=K q)(f:0<pc q p):Wi p l (k+1) aP (if done then out++[q] else(out++[p])++[q]):=by rcases h with⟨rfl,d,rfl⟩|⟨rfl,a,r,c,b,d,g,rfl⟩;exact F ⟨rfl,l.take k,q,[],BA e,d,f,E⟩;exact F ⟨rfl,a,r,c++[q],by rw[BA e,b];simp,d,g,E⟩
theorem Wi.len{p:Qt}{l out:V Qt}{k:Nat}{done:Bool}(h:Wi p l k done out):out.length<=k+1:=by rcases h with⟨_,_,rfl⟩|⟨_,a,r,c,b,_,_,rfl⟩;grind;have:=bd List.length b;grind
end N
def WI(w:G)(c:Array Y)(b:Y)(a:V N.Qt)(wr:G):Prop:=
 wr.ownsRow (w.heap.size+1) 100 4 b a.length (ij a)/\ag w wr/\w.heap.size<wr.heap.size/\wr.heap[w.heap.size]?=K (.cells c 100 (0,0))
theorem WI.below{wr':G}{out:V N.Qt}(h:WI w pv ov out wr)(a:ag wr wr'):WI w pv ov out wr':=by obtain⟨b,c,d,e⟩:=h;exact⟨bH b λk f=>a.block k (bn b k f).2,c.trans<|a.mono c.size,bg d a.size,(a.block _ d).trans e⟩
theorem WI.drew{out:V N.Qt}(h:WI w pv ov out wr):WI w pv ov out wr.drew:=
 ⟨bH h.1 λ_ _=>rfl,h.2.1.drew,h.2.2.1,h.2.2.2⟩
theorem WI.grown{xL:Y}{out out':V N.Qt}{o:Obj}(h:WI w pv ov out W5)(b:(W5.alloc o).grownBy w6 ov.ownBlock)
  (l:w6.ownsRow (w.heap.size+1) 100 4 xL out'.length (ij out')):WI w pv xL out' w6:=by obtain⟨c,a,d,f⟩:=h;have:=b.size;have:W5.heap.size+1<=w6.heap.size:=(by simp_all);refine⟨l,⟨b.os.trans a.os,b.tape.trans a.tape,b.output.trans a.output,?_,λk g=>?_⟩,U,?_⟩;omega;have:=a.size;exact(kC b k U<|jo c k U).trans<|a.block k g;exact(kC b _ d<|jo c _ U).trans f
theorem XR(l:V N.Qt)(P:N.Qt)(t x B Q:Int)(hPe:P=((t,x),(B,Q)))(v:Y)(w:G)(hR:dq w v l)(hl:l.length<=100000000)(hin:∀q∈l,cS q)(hp:cS P)(hrl:∀q∈l,N.dD q)(vd:N.dD P)(ahG:N.iG l):
  M 83 #[v,u #[I J t,I J x,I J B,I J Q]] w λe w'=>∃v',e=aJ v'/\dq w' v' (N.ins P l)/\ag w w':=by
 obtain⟨so,cap,rfl⟩:=nQ hR;have HR:=hid hR;have xM:H (∀q∈l,∀w1,M 47 #[u #[I J q.1.1,I J q.1.2,I J q.2.1,I J q.2.2],u #[I J t,I J x,I J B,I J Q]] w1 (ai (I J<|N.pc q P) w1)):=λq hq w1=>(by have:=Bu q P w1 (hin q hq) hp;rw[hPe] at this⊢;exact this);have HA:H ((∀q∈l,N.dD q)/\N.dD P/\N.iG l):=⟨hrl,vd,ahG⟩;have zZ:H (ij [P]=[I J t,I J x,I J B,I J Q]):=(by rw[hPe];rfl);clear hR hin hp hrl vd ahG hPe;have gh:H (WI w #[I J t,I J x,I J B,I J Q] (D Z 0 0) [] (w.alloc<|.cells #[I J t,I J x,I J B,I J Q] 100)):=⟨ak _ _ _ _,aj _ _,E,aa _ _⟩;go_enter func83,ntmps83;go_wp2_with fail;go_loopg [5,6,7] l.length (λm ov dv iv wr=>∃(k:Nat)(done:Bool)(a:V N.Qt),k+m=l.length/\iv=I J k/\dv=aC done/\H (N.Wi P l k done a/\WI w #[I J t,I J x,I J B,I J Q] ov a wr));case atStart=>exact⟨0,aQ,[],U,rfl,rfl,j ⟨rfl,E,E⟩,gh.o⟩
 case round=>
  obtain⟨k,done,a,tq,rfl,rfl,F⟩:=hrel;have f:=F.o.2.2.1;have y:=F.o.2.2.2.1;have R:=F.o.2.2.2.2;have hol:=F.o.1.len;obtain⟨q0,q1,q2,q3⟩:=ajG R;clear gh R;by_cases hlt:k<l.length
  .obtain⟨q,hq⟩:∃q,l[k]?=K q:=⟨_,be hlt⟩;obtain⟨b,rfl,hb,c0,c1,c2,c3⟩:=tt HR.o hq;obtain⟨r0,r1,r2,r3⟩:=ajE f hb c0 c1 c2 c3;have i:=bg hb f.size;have iH:(k:Int)<(l.length:Int):=U;have GH:=xM.o q<|bB hq;have HC3:=hid GH;have HQ:=hid hq;clear c0 c1 c2 c3 hq GH;obtain⟨S,hS⟩:∃S,N.pc q P=S:=⟨_,rfl⟩;have HS:=hid hS;rw[hS] at HC3;clear hS;obtain⟨⟨O,T⟩,W,X⟩:=q;simp only at r0 r1 r2 r3 HC3;go_wp2_with fail;go_region_held3 (λw'=>ata w' b (k*4) (I J O) (I J T) (I J W) (I J X)/\as9 w' w.heap.size (I J t) (I J x) (I J B) (I J Q)) (go_keep) (first |(go_at_call 47;refine(HC3.o _).mono ?_;rintro e' w7 ⟨rfl,p⟩;obtain⟨s0,s1,s2,s3⟩:=ajE p i r0 r1 r2 r3;obtain⟨t0,t1,t2⟩:=ajD p y q0 q1 q2;have t3:=(aR p q3 y)));have c:H (N.Wi P l k done a/\WI w #[I J t,I J x,I J B,I J Q] u5 a w7):=⟨F.o.1,F.o.2.drew.below p⟩;clear r0 r1 r2 r3 q0 q1 q2 q3 p F f i y;have s:b<w7.heap.size:=(by have:=c.o.2.2.1.size;omega);rcases dG S 0 with hs|hs|hs;(.obtain⟨hd,hW⟩:=c.o.1.low HA.o.1 HA.o.2.1 HA.o.2.2 HQ.o (by rw[HS.o];exact hs);subst hd;have HW:=hid hW;have d:=c.o.2.1;have Mt:=c.o.2.2.2.1;clear hW;go_wp2_with (at_builtin;refine ii rfl vc underlying92 (aao d) (aa _ _) ?_;intro g' n z r g o);have HN:H (N.Wi P l (k+1) aQ (a++[((O,T),(W,X))])/\WI w #[I J t,I J x,I J B,I J Q] (D (K ⟨g',0,Z⟩) (a.length+1) n) (a++[((O,T),(W,X))]) z):=⟨HW.o,c.o.2.grown g (by rw[Bz,bG];exact r)⟩;clear r g d c;go_roundg (gk-1);(case measure=>omega);case rel=>exact⟨k+1,aQ,_,U,af,rfl,HN⟩);.subst hs;have HE:=hid<|c.o.1.eq HA.o.1 HA.o.2.1 HA.o.2.2 HQ.o HS.o;go_wp2_with fail;go_ret;refine⟨_,rfl,?_,c.o.2.2.1⟩;rw[HE.o];exact fk kU HR.o c.o.2.2.1
   .have hW:=c.o.1.high HQ.o (by rw[HS.o];exact hs);have d:=c.o.2.1;have Mt:=c.o.2.2.2.1;cases done
    .have HW:=hid hW;clear hW;go_wp2_with (first|(at_builtin;refine ii rfl vc underlying92 (aao d) (aa _ _) ?_;intro g' n z r g o;have y0:z.cell? ⟨b,k*4,Z⟩=K (I J O):=(g.cell_far ⟨b,k*4,Z⟩ aq<|lu<|jo d b U).trans<|(gw _ _ s).trans s0;have y1:z.cell? ⟨b,k*4+1,Z⟩=K (I J T):=(g.cell_far ⟨b,k*4+1,Z⟩ aq<|lu<|jo d b U).trans<|(gw _ _ s).trans s1;have y2:z.cell? ⟨b,k*4+2,Z⟩=K (I J W):=(g.cell_far ⟨b,k*4+2,Z⟩ aq<|lu<|jo d b U).trans<|(gw _ _ s).trans s2;have y3:z.cell? ⟨b,k*4+3,Z⟩=K (I J X):=(g.cell_far ⟨b,k*4+3,Z⟩ aq<|lu<|jo d b U).trans<|(gw _ _ s).trans s3;have L:H (WI w #[I J t,I J x,I J B,I J Q] (D (K ⟨g',0,Z⟩) (a.length+1) n) (a++[P]) z):=c.o.2.grown g (by rw[show ij (a++[P])=ij a++ij [P] by simp[ij],zZ.o,bG];exact r);have BB:z.ownsRow (w.heap.size+1) 100 4 (D (K ⟨g',0,Z⟩) (a.length+1) n) (a++[P]).length (ij<|a++[P]):=L.o.1;have XS:=L.o.2.2.1;have XT:(a++[P]).length=a.length+1:=E)|(at_builtin;refine ii rfl vc underlying92 (aao BB) (aa _ _) ?_;intro g2 cap2 w9 ahH ahI ajZ))
     have HN:H (N.Wi P l (k+1) aP (a++[P]++[((O,T),(W,X))])/\WI w #[I J t,I J x,I J B,I J Q] (D (K ⟨g2,0,Z⟩) (a.length+1+1) cap2) (a++[P]++[((O,T),(W,X))]) w9):=⟨HW.o,L.o.grown ahI (by
      have h:=ahH;rw[XT] at h;rw[Bz,show(a++[P]++[((O,T),(W,X))]).length=a.length+1+1 by simp];exact h)⟩
     clear ahH ahI BB L r g d c;go_roundg (gk-1);(case measure=>omega);case rel=>exact⟨k+1,aP,_,U,af,rfl,HN⟩
    .have HW:=hid hW;clear hW;go_wp2_with (at_builtin;refine ii rfl vc underlying92 (aao d) (aa _ _) ?_;intro g' n z r g o);have HN:H (N.Wi P l (k+1) aP (a++[((O,T),(W,X))])/\WI w #[I J t,I J x,I J B,I J Q] (D (K ⟨g',0,Z⟩) (a.length+1) n) (a++[((O,T),(W,X))]) z):=⟨HW.o,c.o.2.grown g (by rw[Bz,bG];exact r)⟩;clear r g d c;go_roundg (gk-1);(case measure=>omega);case rel=>exact⟨k+1,aP,_,U,af,rfl,HN⟩
  .have hk:k=l.length:=U;subst hk;have hf:=F.o.1.fin;have d:=F.o.2.1;cases done;(.have HF:H (a++[P]=N.ins P l):=(by rcases hf with⟨h,_⟩|⟨_,h⟩;(.cases h);.exact h);clear hf;go_wp2_with (at_builtin;refine ii rfl vc underlying92 (aao d) (aa _ _) ?_;intro g' n z r g o);go_ret;refine⟨_,rfl,?_,(f.alloc f.size _).grown g aq (λk hk=>by have:=(bn d k hk).1;omega)⟩;rw[<-HF.o];have e:ij (a++[P])=ij a++ij [P]:=(by simp[ij]);unfold dq;rw[e,zZ.o,bG];exact iF r);.have HF:H (a=N.ins P l):=(by rcases hf with⟨_,h⟩|⟨h,_⟩;(.exact h);.cases h);clear hf;go_wp2_with fail;go_ret;refine⟨_,rfl,?_,f⟩;rw[<-HF.o];exact iF d
theorem XU(l:V N.Qt)(p:N.Qt)(v:Y)(w:G)(g:dq w v l)(h:l.length<=100000000)(b:∀q∈l,cS q)(k:cS p)(c:∀q∈l,N.dD q)(d:N.dD p)(a:N.iG l):
  M 83 #[v,u<|qA p] w λe w'=>∃f,e=aJ f/\dq w' f (N.ins p l)/\ag w w':=
 XR l p _ _ _ _ rfl v w g h b k c d a
namespace N
def cH(e f:O×O):Int:=(e.2.1-e.1.1)*(f.2.2-f.1.2)-(e.2.2-e.1.2)*(f.2.1-f.1.1)
def mT(e f:O×O):Int:=(f.1.1-e.1.1)*(f.2.2-f.1.2)-(f.1.2-e.1.2)*(f.2.1-f.1.1)
def mX(e f:O×O):Int:=e.1.1*cH e f+(e.2.1-e.1.1)*mT e f
def mY(e f:O×O):Int:=e.1.2*cH e f+(e.2.2-e.1.2)*mT e f
def eF(e f:O×O):Qt:=(bu (mX e f)<|cH e f,bu (mY e f)<|cH e f)
end N
theorem XV(a b c d Q R L N x P y z f T P1 P2 P3 P4:Int)(w:G)
  (H1:H (∀w1,M 135 #[u #[I J a,I J b,I J c,I J d]] w1 λe w'=>e=aJ (I J x)/\Below w1.heap.size w1 w'))
  (H2:H (∀w1,M 137 #[u #[I J a,I J b,I J c,I J d]] w1 λe w'=>e=aJ (I J P)/\Below w1.heap.size w1 w'))
  (H3:H (∀w1,M 135 #[u #[I J Q,I J R,I J L,I J N]] w1 λe w'=>e=aJ (I J y)/\Below w1.heap.size w1 w'))
  (H4:H (∀w1,M 137 #[u #[I J Q,I J R,I J L,I J N]] w1 λe w'=>e=aJ (I J z)/\Below w1.heap.size w1 w'))
  (H5:H (∀w1,M 46 #[I J (a*f+x*T),I J f] w1 λe w'=>e=aJ (u #[I J P1,I J P2])/\Below w1.heap.size w1 w'))
  (H6:H (∀w1,M 46 #[I J (b*f+P*T),I J f] w1 λe w'=>e=aJ (u #[I J P3,I J P4])/\Below w1.heap.size w1 w'))
  (v1:J.wrap (x*z)=x*z)(v2:J.wrap (P*y)=P*y)(v3:J.wrap (x*z-P*y)=f)
  (v4:J.wrap (Q-a)=Q-a)(v5:J.wrap (R-b)=R-b)(v6:J.wrap ((Q-a)*z)=(Q-a)*z)(v7:J.wrap ((R-b)*y)=(R-b)*y)
  (v8:J.wrap ((Q-a)*z-(R-b)*y)=T)(v9:J.wrap (a*f)=a*f)(v10:J.wrap (x*T)=x*T)(v11:J.wrap (a*f+x*T)=a*f+x*T)
  (v12:J.wrap (b*f)=b*f)(v13:J.wrap (P*T)=P*T)(v14:J.wrap (b*f+P*T)=b*f+P*T):
  M 138 #[u #[I J a,I J b,I J c,I J d],u #[I J Q,I J R,I J L,I J N]] w λe w'=>e=aJ (u #[I J P1,I J P2,I J P3,I J P4])/\Below w.heap.size w w':=by obtain⟨W,hW⟩:=am<|((w.alloc<|.cells #[I J a,I J b,I J c,I J d] 151).alloc<|.cells #[I J Q,I J R,I J L,I J N] 151).alloc<|.cells #[I J 0,I J 0,I J 0,I J 0] 100;have hE:W.heap[w.heap.size]?=K (.cells #[I J a,I J b,I J c,I J d] 151 (0,0)):=(by rw[hW,ad _ _ _ aq,ad _ _ _ E];exact aa _ _);have hF:W.heap[w.heap.size+1]?=K (.cells #[I J Q,I J R,I J L,I J N] 151 (0,0)):=(by rw[hW,ad _ _ _ E];have:=aa (w.alloc<|.cells #[I J a,I J b,I J c,I J d] 151)<|.cells #[I J Q,I J R,I J L,I J N] 151;simpa using this);have hP:W.heap[w.heap.size+2]?=K (.cells #[I J 0,I J 0,I J 0,I J 0] 100 (0,0)):=(by rw[hW];have:=aa ((w.alloc<|.cells #[I J a,I J b,I J c,I J d] 151).alloc<|.cells #[I J Q,I J R,I J L,I J N] 151)<|.cells #[I J 0,I J 0,I J 0,I J 0] 100;simpa using this);have hb0:Below w.heap.size w W:=(by rw[hW];exact(((Below.refl _ _).alloc (aX _) _).alloc E _).alloc aq _);have hsz:w.heap.size+3=W.heap.size:=(by rw[hW];simp);go_enter func138,ntmps138;go_wp2_with fail;rw[<-hW];clear hW;generalize hB:w.heap.size=B at*;have xV:B<W.heap.size:=U;have hzb:B+1<W.heap.size:=U;obtain⟨z0,z1,z2,z3⟩:=ajG hE;obtain⟨z4,z5,z6,z7⟩:=ajG hF;have Mu:B+2<W.heap.size:=U;have XW:=hP;clear hE hF hP;go_region_held3 (λw'=>as9 w' B (I J a) (I J b) (I J c) (I J d)/\as9 w' (B+1) (I J Q) (I J R) (I J L) (I J N)) (go_keep) (first|(go_at_call_of 135 (u #[I J a,I J b,I J c,I J d]);refine(H1.o _).mono ?_;rintro e w1 ⟨rfl,k⟩;have O:B<w1.heap.size:=bg xV k.size;have vh:B+1<w1.heap.size:=bg hzb k.size;obtain⟨f0,f1,f2,f3⟩:=ajE k xV z0 z1 z2 z3;obtain⟨f4,f5,f6,f7⟩:=ajE k hzb z4 z5 z6 z7;have hfc:B+2<w1.heap.size:=bg Mu k.size;have XX:=(k.block (B+2) Mu).trans XW)|(go_at_call_of 137 (u #[I J Q,I J R,I J L,I J N]);refine(H4.o _).mono ?_;rintro e w2 ⟨rfl,l⟩;have V:B<w2.heap.size:=bg O l.size;have hgb:B+1<w2.heap.size:=bg vh l.size;obtain⟨g0,g1,g2,g3⟩:=ajE l O f0 f1 f2 f3;obtain⟨g4,g5,g6,g7⟩:=ajE l vh f4 f5 f6 f7;have Mv:B+2<w2.heap.size:=bg hfc l.size;have xN:=(l.block (B+2) hfc).trans XX)|(go_at_call_of 137 (u #[I J a,I J b,I J c,I J d]);refine(H2.o _).mono ?_;rintro e w3 ⟨rfl,m⟩;have X:B<w3.heap.size:=bg V m.size;have vi:B+1<w3.heap.size:=bg hgb m.size;obtain⟨h0,h1,h2,h3⟩:=ajE m V g0 g1 g2 g3;obtain⟨h4,h5,h6,h7⟩:=ajE m hgb g4 g5 g6 g7;have Mw:B+2<w3.heap.size:=bg Mv m.size;have XY:=(m.block (B+2) Mv).trans xN)|(go_at_call_of 135 (u #[I J Q,I J R,I J L,I J N]);refine(H3.o _).mono ?_;rintro e w4 ⟨rfl,n⟩;have ty:B<w4.heap.size:=bg X n.size;have hib:B+1<w4.heap.size:=bg vi n.size;obtain⟨i0,i1,i2,i3⟩:=ajE n X h0 h1 h2 h3;obtain⟨i4,i5,i6,i7⟩:=ajE n vi h4 h5 h6 h7;have hic:B+2<w4.heap.size:=bg Mw n.size;have XZ:=(n.block (B+2) Mw).trans XY));have hL4:=((((hb0.drew.trans<|k.mono<|du xV).trans<|l.mono<|du O).trans<|m.mono<|du V).trans<|n.mono<|du X);go_wp2_with fail;go_region_held3 (λw'=>as9 w' B (I J a) (I J b) (I J c) (I J d)/\as9 w' (B+1) (I J Q) (I J R) (I J L) (I J N)) (go_keep) (first|(go_at_call_of 137 (u #[I J Q,I J R,I J L,I J N]);refine(H4.o _).mono ?_;rintro e w5 ⟨rfl,p⟩;have hja:B<w5.heap.size:=bg ty p.size;have hjb:B+1<w5.heap.size:=bg hib p.size;obtain⟨j0,j1,j2,j3⟩:=ajE p ty i0 i1 i2 i3;obtain⟨j4,j5,j6,j7⟩:=ajE p hib i4 i5 i6 i7;have Mx:B+2<w5.heap.size:=bg hic p.size;have X0:=(p.block (B+2) hic).trans XZ)|(go_at_call_of 135 (u #[I J Q,I J R,I J L,I J N]);refine(H3.o _).mono ?_;rintro e w6 ⟨rfl,q⟩;have hka:B<w6.heap.size:=bg hja q.size;have hkb:B+1<w6.heap.size:=bg hjb q.size;obtain⟨k0,k1,k2,k3⟩:=ajE q hja j0 j1 j2 j3;obtain⟨k4,k5,k6,k7⟩:=ajE q hjb j4 j5 j6 j7;have hkc:B+2<w6.heap.size:=bg Mx q.size;have rh:=(q.block (B+2) Mx).trans X0));have X4:=(hL4.drew.trans<|p.mono<|du ty).trans<|q.mono<|du hja;have BC:¬(B+1+1=B):=U;have y0:=dC rh 0;have y1:=dC rh 1;have y2:=dC rh 2;have y3:=dC rh 3;go_wp2_with fail;(go_region_held3 (λw'=>w'.cell? ⟨B,0,Z⟩=K (I J a)/\w'.cell? ⟨B,1,Z⟩=K (I J b)/\w'.cell? ⟨B,2,Z⟩=K (I J c)/\w'.cell? ⟨B,3,Z⟩=K (I J d)/\w'.cell? ⟨B+1,0,Z⟩=K (I J Q)/\w'.cell? ⟨B+1,1,Z⟩=K (I J R)/\w'.cell? ⟨B+1,2,Z⟩=K (I J L)/\w'.cell? ⟨B+1,3,Z⟩=K (I J N)/\w'.frozen? ⟨B+2,0,Z⟩=aQ/\w'.frozen? ⟨B+2,1,Z⟩=aQ/\w'.frozen? ⟨B+2,2,Z⟩=aQ/\w'.frozen? ⟨B+2,3,Z⟩=aQ) (first |go_keep|(go_split_ands;refine⟨?_,?_,?_,?_,?_,?_,?_,?_,?_,?_,?_,?_⟩<;>first |(simp[World.frozen?_setCell, *];done)|(simp[*];done))) (first|(go_at_call_of 135 (u #[I J a,I J b,I J c,I J d]);refine(H1.o _).mono ?_;rintro e w7 ⟨rfl,r⟩;have hla:B<w7.heap.size:=bg hka r.size;have hlb:B+1<w7.heap.size:=bg hkb r.size;obtain⟨l0,l1,l2,l3⟩:=ajE r hka k0 k1 k2 k3;obtain⟨l4,l5,l6,l7⟩:=ajE r hkb k4 k5 k6 k7;have hlc:B+2<w7.heap.size:=bg hkc r.size;have S:=(r.block (B+2) hkc).trans rh;have lq0:=bz S;have lz0:=dC S 0;have lq1:=bw S;have lz1:=dC S 1;have lq2:=bQ S;have lz2:=dC S 2;have lq3:=bV S;have lz3:=dC S 3)|(go_at_call_of 46 (I J<|a*f+x*T);refine(H5.o _).mono ?_;rintro e w8 ⟨rfl,s⟩;have hma:B<w8.heap.size:=bg hla s.size;have hmb:B+1<w8.heap.size:=bg hlb s.size;obtain⟨m0,m1,m2,m3⟩:=ajE s hla l0 l1 l2 l3;obtain⟨m4,m5,m6,m7⟩:=ajE s hlb l4 l5 l6 l7;have My:B+2<w8.heap.size:=bg hlc s.size;have i:=(s.block (B+2) hlc).trans S;have mq0:=bz i;have X7:=dC i 0;have mq1:=bw i;have X8:=dC i 1;have mq2:=bQ i;have X9:=dC i 2;have mq3:=bV i;have Ya:=dC i 3)|(go_at_call_of 137 (u #[I J a,I J b,I J c,I J d]);refine(H2.o _).mono ?_;rintro e w9 ⟨rfl,t⟩;have hna:B<w9.heap.size:=bg hma t.size;have hnb:B+1<w9.heap.size:=bg hmb t.size;obtain⟨n0,n1,n2,n3⟩:=ajE t hma m0 m1 m2 m3;obtain⟨n4,n5,n6,n7⟩:=ajE t hmb m4 m5 m6 m7;have hnc:B+2<w9.heap.size:=bg My t.size;have j:=(t.block (B+2) My).trans i;have nq0:=bz j;have nz0:=dC j 0;have nq1:=bw j;have nz1:=dC j 1;have nq2:=bQ j;have nz2:=dC j 2;have nq3:=bV j;have nz3:=dC j 3)|(go_at_call_of 46 (I J (b*f+P*T));refine(H6.o _).mono ?_;rintro e F ⟨rfl,g⟩;have hoa:B<F.heap.size:=bg hna g.size;have hob:B+1<F.heap.size:=bg hnb g.size;obtain⟨o0,o1,o2,o3⟩:=ajE g hna n0 n1 n2 n3;obtain⟨o4,o5,o6,o7⟩:=ajE g hnb n4 n5 n6 n7;have Bh:B+2<F.heap.size:=bg hnc g.size;have o:=(g.block (B+2) hnc).trans j;have Yb:=bz o;have Yc:=dC o 0;have Yd:=bw o;have Ye:=dC o 1;have Yf:=bQ o;have Yg:=dC o 2;have Yh:=bV o;have Yi:=dC o 3)));go_wp2_with fail;have Yj:=(((X4.drew.trans<|r.mono<|du hka).trans<|s.mono<|du hla).trans<|t.mono<|du hma).trans<|g.mono<|du hna;refine ab (v:=u #[I J P1,I J P2,I J P3,I J P4]) (by simp[results,results138,go_sem,Yb,Yd,Yf,Yh]) rfl ⟨rfl,?_⟩;rw[hB];exact(((Yj.setCell aq _).setCell aq _).setCell aq _).setCell aq _
theorem Yk(e f:Ed)(w:G)(i:cM e)(j:cM f)(v:N.cH e f≠0):
  M 138 #[u (jq e),u<|jq f] w (ai (u<|qA<|N.eF e f) w):=by
 obtain⟨g,k,n,p⟩:=i;obtain⟨l,m,q,s⟩:=j;have d:∀{x y:Int},small x->small y-> -100<=y-x/\y-x<=100:=λE F=>by unfold small at*;omega
 have P:=d g n;have Q:=d k p;have R:=d l q;have S:=d m s;have o:=d g l;have A:=d k m;have:=ee (a:=100) (b:=100) P S;have:=ee (a:=100) (b:=100) Q R;have:=ee (a:=100) (b:=100) o S;have:=ee (a:=100) (b:=100) A R;have:N.cH e f=(e.2.1-e.1.1)*(f.2.2-f.1.2)-(e.2.2-e.1.2)*(f.2.1-f.1.1):=rfl;have:N.mT e f=(f.1.1-e.1.1)*(f.2.2-f.1.2)-(f.1.2-e.1.2)*(f.2.1-f.1.1):=rfl;have t: -20000<=N.cH e f/\N.cH e f<=20000:=U;have B: -20000<=N.mT e f/\N.mT e f<=20000:=U;have:=ee (a:=50) (b:=20000) g t;have:=ee (a:=100) (b:=20000) P B;have:=ee (a:=50) (b:=20000) k t;have:=ee (a:=100) (b:=20000) Q B;have c:∀{z:Int}, -9223372036854775808<=z->z<=9223372036854775807->J.wrap z=z:=λC D=>by rw[ah];omega
 have h:=XV e.1.1 e.1.2 e.2.1 e.2.2 f.1.1 f.1.2 f.2.1 f.2.2 (e.2.1-e.1.1) (e.2.2-e.1.2) (f.2.1-f.1.1) (f.2.2-f.1.2) (N.cH e f) (N.mT e f) (N.eF e f).1.1 (N.eF e f).1.2 (N.eF e f).2.1 (N.eF e f).2.2 w
  (λw1=>pZ _ _ _ _ w1 g n) (λw1=>qZ _ _ _ _ w1 k p) (λw1=>pZ _ _ _ _ w1 l q) (λw1=>qZ _ _ _ _ w1 m s)
  (λw1=>xH _ _ w1 v U U) (λw1=>xH _ _ w1 v U U)
  (c U U) (c U U) (by grind) (c U U) (c U U) (c U U) (c U U) (by grind)
  (c U U) (c U U) (c U U) (c U U) (c U U) (c U U)
 exact h
namespace N
def hq(p:Qt)(e:O×O):Bool:=fo (p.1.1*p.2.2,p.2.1*p.1.2) (p.1.2*p.2.2) e
def pt(a:O):Qt:=((a.1,1),(a.2,1))
def dM(e:O×O)(a:V Qt)(f:O×O):V Qt:=
  if cH e f=0 then
    (let b:=if hq (pt f.1) e then ins (pt f.1) a else a
     if hq (pt f.2) e then ins (pt f.2) b else b)
  else if hq (eF e f) e&&hq (eF e f) f then ins (eF e f) a else a
def gz(l:V (O×O))(e:O×O):V Qt:=l.foldl (dM e)<|ins (pt e.2)<|ins (pt e.1) []
theorem iw(a:O):dD (pt a):=⟨⟨by show(0:Int)<1;decide,by show Int.gcd a.1 1=1;simp⟩,⟨by show(0:Int)<1;decide,by show Int.gcd a.2 1=1;simp⟩⟩
theorem BE{e f:O×O}(h:cH e f≠0):dD (eF e f):=⟨lG h,lG h⟩
theorem lI(p:Qt):∀l:V Qt,(ins p l).length<=l.length+1
 |[]=>by simp[ins]
 |q::l=>by have:=lI p l;unfold ins;grind
end N
structure Good(l:V N.Qt):Prop where
 bm:∀q∈l,cS q
 red:∀q∈l,N.dD q
 kF:N.iG l
theorem Good.ins{l:V N.Qt}{p:N.Qt}(h:Good l)(b:cS p)(a:N.dD p):Good (N.ins p l):=
 ⟨λq c=>by
  rcases(N.nO a h.red q).1 c with e|e
  grind
  .exact h.bm q e,N.mh a h.red,N.qc a h.red h.kF⟩
theorem Yl:Good []:=⟨λq h=>by grind,λq h=>by grind,List.Pairwise.nil⟩
theorem tu{a:Int×Int}(b:small a.1)(c:small a.2):cS (N.pt a):=by unfold small at b c;exact⟨by show -10000000<=a.1/\a.1<=10000000;omega,by show(0:Int)<1/\(1:Int)<=1000000;omega,by show -10000000<=a.2/\a.2<=10000000;omega,by show(0:Int)<1/\(1:Int)<=1000000;omega⟩
theorem BF{n d:Int}(a:d≠0)(k: -10000000<=n/\n<=10000000)(f: -1000000<=d/\d<=1000000):(-10000000<=(N.bu n d).1/\(N.bu n d).1<=10000000)/\(0<(N.bu n d).2/\(N.bu n d).2<=1000000):=by obtain⟨g,h,c,e,_⟩:=N.kE (n:=n) a;have:=(N.lG (n:=n) a).pos;have b:1<=g.natAbs:=U;have:(N.bu n d).1.natAbs<=n.natAbs:=(by (conv=>rhs;rw[c]);rw[kz];exact Kj _ b);have:(N.bu n d).2.natAbs<=d.natAbs:=(by (conv=>rhs;rw[e]);rw[kz];exact Kj _ b);omega
theorem Gf{e f:Ed}(P:cM e)(Q:cM f):(-20000<=N.cH e f/\N.cH e f<=20000)/\(-3000000<=N.mX e f/\N.mX e f<=3000000)/\(-3000000<=N.mY e f/\N.mY e f<=3000000):=by obtain⟨d,g,s,t⟩:=P;obtain⟨k,l,v,B⟩:=Q;have c:∀{x y:Int},small x->small y-> -100<=y-x/\y-x<=100:=λi j=>(by unfold small at*;omega);have n:=c d s;have p:=c g t;have q:=c k v;have r:=c l B;have R:=c d k;have S:=c g l;have:=ee (a:=100) (b:=100) n r;have:=ee (a:=100) (b:=100) p q;have:=ee (a:=100) (b:=100) R r;have:=ee (a:=100) (b:=100) S q;have:N.cH e f=(e.2.1-e.1.1)*(f.2.2-f.1.2)-(e.2.2-e.1.2)*(f.2.1-f.1.1):=rfl;have:N.mT e f=(f.1.1-e.1.1)*(f.2.2-f.1.2)-(f.1.2-e.1.2)*(f.2.1-f.1.1):=rfl;have h: -20000<=N.cH e f/\N.cH e f<=20000:=U;have m: -20000<=N.mT e f/\N.mT e f<=20000:=U;have:=ee (a:=50) (b:=20000) d h;have:=ee (a:=100) (b:=20000) n m;have:=ee (a:=50) (b:=20000) g h;have:=ee (a:=100) (b:=20000) p m;refine⟨h,?_,?_⟩;unfold N.mX;omega;unfold N.mY;omega
theorem Ym{e f:Ed}(d:cM e)(g:cM f)(a:N.cH e f≠0):cS (N.eF e f):=by obtain⟨h,k,l⟩:=Gf d g;have b:=BF (n:=N.mX e f) a U U;have c:=BF (n:=N.mY e f) a U U;exact⟨b.1,b.2,c.1,c.2⟩
theorem Yn(p:N.Qt)(a:cS p):oK p.1.1 p.1.2 p.2.1 p.2.2 (p.1.1*p.2.2) (p.2.1*p.1.2) (p.1.2*p.2.2):=
 ⟨a,⟨p.2.2,a.yd.1,dw ..,dw ..⟩,⟨p.1.2,a.xd.1,dw ..,rfl⟩⟩
theorem BG(p:N.Qt)(e:Ed)(w:G)(b:cS p)(a:cM e):
  M 80 #[u (jq e),u<|qA p] w (ai (aC<|N.hq p e) w):=
 Bt e p.1.1 p.1.2 p.2.1 p.2.2 _ _ _ w a (Yn p b)
end
end Go.Proofs.YtkjhhooecopolaaGreatDoor

import Derived.Test.YtkjhhooecopolaaGreatDoorRows
import Derived.Test.YtkjhhooecopolaaGreatDoorWz40
import Derived.Test.YtkjhhooecopolaaGreatDoorCards
import Derived.Test.YtkjhhooecopolaaGreatDoorTie
set_option maxRecDepth 100000
set_option maxHeartbeats 4000000
namespace Go.Proofs.YtkjhhooecopolaaGreatDoor
open Go.ChangeShapes Go.WideShapes Go.ChangeAt Go.RowKit
theorem own:ownKnob Tryz.prog.godebug=none:=by kernel_rfl
theorem laidOut:laidOutB Tryz.prog=true:=by kernel_rfl
theorem alX:mapsRowed Tryz.prog=true:=by kernel_rfl
theorem alY:Tryz.prog.stopsHeard=true:=by kernel_rfl
theorem alZ:Tryz.prog.mayEnter=true:=by kernel_rfl
theorem al0:true=Tryz.prog.looks []:=by kernel_rfl
end Go.Proofs.YtkjhhooecopolaaGreatDoor
namespace Go.Proofs.YtkjhhooecopolaaGreatDoor
open Go.ChangeShapes Go.WideShapes Go.ChangeAt Go.RowKit Go.Deep
theorem aaE:Tryz.prog.globalNamed "strconv.ErrSyntax" =some 0:=by kernel_rfl
theorem aaF:Tryz.prog.globalNamed "strconv.ErrRange" =some 1:=by kernel_rfl
theorem aaG:Tryz.prog.globalNamed "internal/strconv.uint64pow10" =some 3:=by kernel_rfl
theorem al1:Tryz.prog.globalNamed "math/bits.deBruijn32tab" =some 4:=by kernel_rfl
theorem al2:Tryz.prog.globalNamed "math/bits.deBruijn64tab" =some 5:=by kernel_rfl
theorem al3:(Tryz.prog.globals[0]?).map (·.type)=some 199:=by kernel_rfl
theorem al4:(Tryz.prog.globals[1]?).map (·.type)=some 199:=by kernel_rfl
theorem al5:(Tryz.prog.globals[3]?).map (·.type)=some 356:=by kernel_rfl
theorem aaH: "*" ++ "errors.errorString" = "*errors.errorString" :=by decide
theorem aaI(u:TypeId)(h:Tryz.prog.typeName? 3 u=some "*errors.errorString"):u=359:=
 typeName_ptr_named (nm:= "errors.errorString") (by rw[aaH];kernel_rfl) (by kernel_rfl) (by decide) u (by rw[aaH];exact h)
theorem cellsE:Tryz.prog.cellsOf 361=1:=by kernel_rfl
theorem al6:Tryz.prog.cellsOf 282=1:=by kernel_rfl
theorem al7:Tryz.prog.cellsOf 356=20:=by kernel_rfl
theorem Fu{W:World}{n:String}{g:Nat}{cs:Array Value}(hg:Tryz.prog.globalNamed n=some g)(hv:W.var? Tryz.prog n=some cs):g<W.heap.size:=by
 simp only[World.var?,hg,Option.bind_some] at hv;split at hv
 ·rename_i h;exact lt_of_heap h
 ·cases hv
theorem al8{W:World}(h:laidMetH Tryz.prog Rows.printsRow.laid W):Gl W:=by
 rw[MakeChecks.laidMetH_plain _ _ _ (by kernel_rfl)] at h
 have h1:=h.tail;have h2:=h1.tail;have h3:=h2.tail;have h4:=h3.tail;obtain⟨a0,sa,pI,_,_,_⟩:=laid_sentinel h3 aaF al4 Tryz.underlying199 aaI Tryz.underlying359 Tryz.underlying361 rfl rfl Tryz.underlying9 cellsE Tryz.strCells;obtain⟨b0,sb,hvb,_,_,_⟩:=laid_sentinel h4 aaE al3 Tryz.underlying199 aaI Tryz.underlying359 Tryz.underlying361 rfl rfl Tryz.underlying9 cellsE Tryz.strCells;refine⟨?_,⟨_,_,hvb⟩,⟨_,_,pI⟩,?_⟩
 ·obtain⟨ps,⟨g0,t0,cs0,f0,p0,q0,hg0,ht0,hv0,hd0,_⟩,_,_⟩:=h1;obtain⟨ps',⟨g1,t1,cs1,f1,p1,q1,hg1,ht1,hv1,hd1,_⟩,_,_⟩:=h;obtain⟨aoq,⟨g2,t2,cs2,f2,p2,q2,hg2,ht2,hv2,hd2,_⟩,_,_⟩:=h2;have i0:=Fu al2 hv0;have i1:=Fu al1 hv1;have i2:=Fu aaG hv2;have i3:=Fu aaF pI;have i4:=Fu aaE hvb;omega
 ·exact Lib.tabIs_of_head (k:=.u64) (zs:=Lib.pow10Tab) aaG al5 Tryz.underlying356 Tryz.underlying282 al6 al7 h2
theorem al9(os:Os)(args:Array Value):laidMetH Tryz.prog Rows.printsRow.laid ((World.doorLaid Tryz.prog 400 os).forCall (fun _ _=>0) ⟨#[],args,[]⟩).memory:=
 laidMetH_of_parts3 (fuel:=8) (laidMet_of_run' 8 (by kernel_rfl) (by kernel_rfl)) (by kernel_rfl) (by kernel_rfl)
end Go.Proofs.YtkjhhooecopolaaGreatDoor
namespace Go.Proofs.YtkjhhooecopolaaGreatDoor
open Go.ChangeShapes Go.WideShapes Go.ChangeAt Go.RowKit
theorem ama:(Rows.backRow.inPlace == Tryz.prog.inPlace 11)=true:=by kernel_rfl
theorem amb:(Rows.backRow.unfollowed == Tryz.prog.unfollowed 11)=true:=by kernel_rfl
theorem amc:(Rows.backRow.recurses == Tryz.prog.recurses 11)=true:=by kernel_rfl
theorem amd:(Rows.backRow.named == Tryz.prog.varsNamed 11)=true:=by kernel_rfl
theorem ame:(Rows.backRow.lifted == Tryz.prog.liftsFinal)=true:=by kernel_rfl
theorem amf:(Rows.backRow.plainKeys == Tryz.prog.plainKeys)=true:=by kernel_rfl
theorem amg:false=Rows.backRow.goesBy Tryz.prog:=by kernel_rfl
theorem amh:joinedFacts Tryz.prog 11 Tryz.f11 Rows.backSpec Rows.backRow=true:=by
 unfold joinedFacts;simp only[laidOut,alX,alY,alZ,ama,amb,amc,amd,ame,amf,Bool.and_true]
 kernel_rfl
end Go.Proofs.YtkjhhooecopolaaGreatDoor
namespace Go.Proofs.YtkjhhooecopolaaGreatDoor
open Go.ChangeShapes Go.WideShapes Go.ChangeAt Go.RowKit Go.Deep
theorem ami(os:Os)(started:os.Started)(H:Type)(enc:TypeId×Value->H):
  ReturnsInHanded {} Tryz.checked os 11 .any (fun w args=>(Rows.backSpec.pre enc Tryz.prog Tryz.f11 [] false w args/\laidMetH Tryz.prog Rows.backRow.laid w)/\sizedMet enc Tryz.prog Tryz.f11 (OpenSpec.ofChange Rows.backSpec) false w args)
   (Rows.backSpec.post enc Tryz.prog Tryz.f11 false true false false):=by
 refine returnsInHanded_of_change_and (C:=Tryz.checked) (X:=fun w _=>laidMetH Tryz.prog Rows.backRow.laid w) (fun _ _ _ hh h=>h.of_heap hh) own started (by kernel_rfl) Tryz.func11
  (ChangeSpec.witness_shaped (enc:=enc) (C:=Tryz.checked) (os:=os) (X:=fun w _=>laidMetH Tryz.prog Rows.backRow.laid w) false (World.doorLaid Tryz.prog 400 os) #[.slice none 0 0] 8 rfl (World.shaped_of_RefB (by kernel_rfl) (by kernel_rfl)) (by kernel_rfl) (by kernel_rfl) (by kernel_rfl) (al9 os _)) ?_
 intro W base args ds gs before aaJ hW _ _ hL _;have hval:∀(j:Nat) t v,Tryz.f11.params[j]?=some t->args[j]?=some v->Value.okWide Tryz.prog W .any base t v:=aaJ;have hW':=hW;obtain⟨p,q,Eu,hV,rfl,hfz,hnd⟩:=hW;have hA:DataW.TrodAll enc Tryz.prog W 0 (fun _=>true) true Tryz.f11.params.toList args.toList ds p:=Eu
 rw[Tryz.params11] at hA hval;obtain⟨v0,d0,rfl,rfl,h0⟩:=trodAll_one hA;obtain⟨rfl,rfl⟩:=trodVars_none hV;obtain⟨so,n,cap,rfl⟩:=okWide_slice Tryz.underlying22 (hval 0 22 v0 rfl rfl);clear Eu aaJ;simp only[q9] at hW';have hlt:∀x∈p,x.block<W.heap.size:=fun x hx=>by simpa using hW'.lt x hx
 obtain⟨hn,hS⟩:=alW h0;refine(alR so n cap W (al8 hL) hS hn).mono fun e W'⟨he,hb⟩=>?_
 subst he;refine⟨_,rfl,_,_,_,[],p,[],hW',trodAll_mk1 (shut_bool Tryz.underlying4 _),trodAll_mk1 (Below.trod laidOut (by kernel_rfl) (gh (by kernel_rfl)) h0 hb hlt),rfl,hb.frame _,fun h=>by cases h⟩
theorem amj:Rows.BackSaid:=
 OpenClaim.holds_of_wide 11 Tryz.f11 rfl rfl rfl rfl rfl rfl rfl ⟨rfl,rfl,rfl,rfl,rfl⟩ rfl rfl rfl rfl rfl (by kernel_rfl) Tryz.func11 amh
  (gh (by kernel_rfl)) (by unfold Func.isWrapper;first |(rw[aj (by decide+kernel)];kernel_rfl)|(rw[af (by decide+kernel)];exact⟨rfl,rfl⟩))
  (fun os started H enc _=>ami os started H enc)
end Go.Proofs.YtkjhhooecopolaaGreatDoor
namespace Go.Proofs.YtkjhhooecopolaaGreatDoor
theorem back_card:Rows.BackCardSaid:=
 Claim7.holds_tied_plain_at .later [] [.data,.data,.data,.sentinel,.sentinel] true Rows.backCard.stood.harness true
  amj (fun _ h=>by cases h) (by kernel_rfl) (fun _ h=>by cases h) back_row_tie rfl ⟨rfl,rfl⟩ (by kernel_rfl) rfl
  (fun f fn hf hfn=>by
   obtain rfl:f=11:=gA ((show Tryz.prog.funcNamed "mend/mendlaw.Back" =some 11 by kernel_rfl).symm.trans hf) |>.symm
   obtain rfl:fn=Tryz.f11:=(gA (Tryz.func11.symm.trans hfn)).symm;exact⟨al0,fun j t ht=>by
    rw[Tryz.params11] at ht;have h3:t=22:=by
     rcases j with _|j
     ·simpa using ht.symm
     ·simp at ht
    subst h3;exact(show Tryz.prog.wantsStandIn 22=false by kernel_rfl)⟩)
  amg
end Go.Proofs.YtkjhhooecopolaaGreatDoor

import Derived.Test.YtkjhhooecopolaaGreatDoorSz17
import Derived.Test.YtkjhhooecopolaaGreatDoorCards
import Derived.Test.YtkjhhooecopolaaGreatDoorTie
set_option maxRecDepth 100000
set_option maxHeartbeats 4000000
namespace Go.Proofs.YtkjhhooecopolaaGreatDoor
open Go.Proofs.Tryz
open Value renaming int->az,complex->aA,float->aB,agg->aC,bool->aD,string->aF,slice->aG,pointer->aH,tuple->aI
open IntKind renaming i64->aJ
open FloatKind renaming f64->aK
open Ending renaming returned->aL
open Go renaming World->aM,Value->aN,floatOfInt->aO
section
open Go.ChangeShapes Go.WideShapes Go.ChangeAt Go.RowKit Go.Deep
theorem atg(os:Os)(started:os.Started)(H:Type)(enc:TypeId×aN->H):
  ReturnsInHanded {} Tryz.checked os 10 .any (λw args=>(Rows.soundSpec.pre enc prog Tryz.f10 [] false w args/\laidMetH prog Rows.soundRow.laid w)/\sizedMet enc prog Tryz.f10 (OpenSpec.ofChange Rows.soundSpec) false w args)
   (Rows.soundSpec.post enc prog Tryz.f10 false true false false):=by
 refine returnsInHanded_of_change_and (C:=Tryz.checked) (X:=λw _=>laidMetH prog Rows.soundRow.laid w) (λ_ _ _ hh h=>h.of_heap hh) own started ag func10
  (ChangeSpec.witness_shaped (enc:=enc) (C:=Tryz.checked) (os:=os) (X:=λw _=>laidMetH prog Rows.soundRow.laid w) false (World.doorLaid prog 400 os) #[aG none 0 0] 8 rfl (World.shaped_of_RefB ag ag) ag ag ag (as7 os _)) ?_
 intro W base args ds gs before agS hW _ _ hL _;have hval:∀(j:Nat) t v,Tryz.f10.params[j]?=some t->args[j]?=some v->Value.okWide prog W .any base t v:=agS;have hW':=hW;obtain⟨p,q,I8,hV,rfl,hfz,hnd⟩:=hW;have hA:DataW.TrodAll enc prog W 0 (λ_=>true) true Tryz.f10.params.toList args.toList ds p:=I8
 rw[Tryz.params10] at hA hval;obtain⟨v0,d0,rfl,rfl,h0⟩:=trodAll_one hA;obtain⟨rfl,rfl⟩:=trodVars_none hV;obtain⟨so,n,cap,rfl⟩:=okWide_slice underlying22 (hval 0 22 v0 rfl rfl);clear I8 agS;simp only[qC] at hW';have hlt:∀x∈p,x.block<W.heap.size:=λx hx=>by simpa using hW'.lt x hx
 obtain⟨hn,hS⟩:=asU h0;refine(asR so n cap W (as6 hL) hS hn).mono λe W'⟨he,hb⟩=>?_
 subst he;refine⟨_,rfl,_,_,_,[],p,[],hW',trodAll_mk1 (shut_bool underlying4 _),trodAll_mk1 (Below.trod laidOut ag (ia ag) h0 hb hlt),rfl,hb.frame _,λh=>by cases h⟩
theorem ath:Rows.SoundSaid:=
 OpenClaim.holds_of_wide 10 Tryz.f10 rfl rfl rfl rfl rfl rfl rfl ⟨rfl,rfl,rfl,rfl,rfl⟩ rfl rfl rfl rfl rfl ag func10 atf
  (ia ag) (by unfold Func.isWrapper;first |(rw[aV (by decide+kernel)];kernel_rfl)|(rw[aP (by decide+kernel)];exact⟨rfl,rfl⟩))
  (λos started H enc _=>atg os started H enc)
end
section
theorem sound_card:Rows.SoundCardSaid:=
 Claim7.holds_tied_plain_at .later [] [.data,.data,.data,.sentinel,.sentinel] true Rows.soundCard.stood.harness true
  ath (λ_ h=>by cases h) ag (λ_ h=>by cases h) sound_row_tie rfl ⟨rfl,rfl⟩ ag rfl
  (λf fn hf hfn=>by
   obtain rfl:f=10:=jt ((show Tryz.prog.funcNamed "mend/mendlaw.Sound" =some 10 by kernel_rfl).symm.trans hf) |>.symm
   obtain rfl:fn=Tryz.f10:=(jt (func10.symm.trans hfn)).symm;exact⟨asY,λj t ht=>by
    rw[Tryz.params10] at ht;have h3:t=22:=by
     rcases j with _|j
     .simpa using ht.symm
     .simp at ht
    subst h3;exact(show Tryz.prog.wantsStandIn 22=false by kernel_rfl)⟩)
  ate
end
end Go.Proofs.YtkjhhooecopolaaGreatDoor

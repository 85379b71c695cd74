import Derived.Test.YtminjljgedopkaaGreatDoorM42
import Derived.Test.YtminjljgedopkaaGreatDoorM43
import Derived.Test.YtminjljgedopkaaGreatDoorTie
import Derived.Test.YtminjljgedopkaaGreatDoorCards
import Derived.SevenTiedAt
set_option linter.all false
set_option maxRecDepth 100000
set_option maxHeartbeats 40000000
namespace Go.Proofs.YtminjljgedopkaaGreatDoor
open Go.ChangeShapes Go.WideShapes Go.RowKit Go.ChangeMaps Go.Proofs.Tryz
def leaks_lifted(os:Os)(started:os.Started)(H:Type)(enc:TypeId×Value->H):
    ReturnsInHanded {} Tryz.checked os 6 .any (λw args=>(Rows.leaksSpec.pre enc Tryz.prog Tryz.f6 [] false w args/\laidMetH Tryz.prog laidR w)/\sizedMet enc Tryz.prog Tryz.f6 (OpenSpec.ofChange Rows.leaksSpec) false w args)
      (Rows.leaksSpec.post enc Tryz.prog Tryz.f6 false true false false):=by
  refine returnsIn_shaped_sized (C:=Tryz.checked) (X:=λw _=>laidMetH Tryz.prog laidR w) (λ_ _ _ hh h=>h.of_heap hh) Tryz.own started (by kernel_rfl) Tryz.func6
    (ChangeSpec.witness_shaped (enc:=enc) (C:=Tryz.checked) (os:=os) (X:=λw _=>laidMetH Tryz.prog laidR w) false ({
                                                                                                                             World.doorLaid Tryz.prog 41 os with heap:=(World.doorLaid Tryz.prog 41 os).heap.modify 5 λ
      | .cells _ t frozen=> .cells (Go.Pinned.utf8FirstZ.map λ(z:Nat)=>Value.int .u8 (z:Int)).toArray t frozen
      |o=>o}:World) #[.int .i64 0,.int .i64 0] 8 rfl (World.shaped_of_RefB (by kernel_rfl) (by kernel_rfl)) (by kernel_rfl) (by kernel_rfl) (by kernel_rfl) (zgw os _)) ?_
  intro W base args ds gs before b0 hW h0 hL e0;have a0:∀(j:Nat) t v,Tryz.f6.params[j]?=some t->args[j]?=some v->Value.okWide Tryz.prog W .any base t v:=b0;have hW':=hW;obtain⟨p,q,i0,j0,rfl,k0,l0⟩:=hW;have hA:DataW.TrodAll enc Tryz.prog W 0 (λ_=>true) true Tryz.f6.params.toList args.toList ds p:=i0;have hV:DataW.TrodVars enc Tryz.prog W (λ_=>true) [] gs q:=j0;have hwt':(DataW.weightsEach Tryz.prog (Tryz.f6.params.toList++Rows.leaksSpec.plain.varTypes Tryz.prog) (ds++gs)).all (·<=reachBytes)=true:=h0;rw[Tryz.params6]at hA a0 hwt';obtain⟨v0,v1,d0,d1,p0,p1,rfl,rfl,rfl,t0,t1⟩:=trodAll_two hA;obtain⟨rfl,rfl⟩:=trodVars_none hV;obtain⟨y,rfl,rfl,rfl,f0⟩:=open_int Tryz.underlying3 (a0 0 3 v0 rfl rfl) t0;obtain⟨z,rfl,rfl,rfl,g0⟩:=open_int Tryz.underlying3 (a0 1 3 v1 rfl rfl) t1;have hg:=err_of_laid hL;have hgm:2<W.heap.size:=by
    obtain⟨x,hx⟩:=zu2 e0;exact Qe W _ hx
  have c0:=leaks_any y z W (i64_range f0) (i64_range g0) ⟨hg,hgm,zu2 e0⟩;have e1:Rows.leaksSpec.fn H ([.lit (.int .i64 y),.lit (.int .i64 z)]++[])={results:=[.lit (.bool true)],args:=[.lit (.int .i64 y),.lit (.int .i64 z)]}:=(by simp[Rows.leaksSpec]);refine c0.mono λe W' ⟨he,hw⟩=>?_;subst he;refine⟨_,rfl,_,_,_,[],[],[],hW',?_,?_,?_,hw.frame _,λh=>by cases h⟩
  · rw[e1];exact trodAll_mk1 (shut_bool Tryz.underlying4 true)
  · rw[e1];exact trodAll_mk2 (shut_int Tryz.underlying3 f0) (shut_int Tryz.underlying3 g0)
  rw[e1];rfl
def leaks_said:Rows.LeaksSaid:=
 OpenClaim.holds_of_wide 6 Tryz.f6 rfl rfl rfl rfl rfl rfl rfl ⟨rfl,rfl,rfl,rfl,rfl⟩ rfl rfl rfl rfl rfl (by kernel_rfl) Tryz.func6 (by kernel_rfl)
  (of_decide_eq_true (by kernel_rfl)) (by unfold Func.isWrapper;rw[if_neg (of_decide_eq_false (by kernel_rfl))];exact⟨rfl,rfl⟩)
  (λos started H enc _=>leaks_lifted os started H enc)
def leaks_card:Rows.LeaksCardSaid:=
 Claim7.holds_tied_plain_at .later [] [.data,.handle,.pinned] true Rows.leaksCard.stood.harness true
  leaks_said (λ_ h=>by cases h) (by kernel_rfl) (λ_ h=>by cases h) leaks_row_tie rfl ⟨rfl,rfl⟩ (by kernel_rfl) rfl
  (λf fn hf a0=>by
   obtain rfl:f=6:=Option.some.inj ((show Tryz.prog.funcNamed Rows.leaksRow.func=some 6 by kernel_rfl).symm.trans hf)|>.symm;obtain rfl:fn=Tryz.f6:=(Option.some.inj (Tryz.func6.symm.trans a0)).symm
   exact⟨by kernel_rfl,λj t ht=>by
    rw[Tryz.params6]at ht;rcases j with _|_|j
    ·have h3:t=3:=by simpa using ht.symm
     subst h3;exact(show Tryz.prog.wantsStandIn 3=false by kernel_rfl)
    ·have h3:t=3:=by simpa using ht.symm
     subst h3;exact(show Tryz.prog.wantsStandIn 3=false by kernel_rfl)
    simp at ht⟩)
  (by kernel_rfl)
end Go.Proofs.YtminjljgedopkaaGreatDoor

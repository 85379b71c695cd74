import Derived.Test.YtminjljgedopkaaGreatDoorM45
import Derived.Test.YtminjljgedopkaaGreatDoorM46
import Derived.Test.YtminjljgedopkaaGreatDoorTie
import Derived.Test.YtminjljgedopkaaGreatDoorCards
import Derived.SevenTiedAt
set_option linter.all false
set_option maxRecDepth 100000
set_option maxHeartbeats 40000000
namespace Go.Proofs.YtminjljgedopkaaGreatDoor
open Go.ChangeShapes Go.WideShapes Go.RowKit Go.ChangeMaps Go.Proofs.Tryz
def cut_lifted(os:Os)(started:os.Started)(H:Type)(enc:TypeId×Value->H):
    ReturnsInHanded {} Tryz.checked os 4 .any (λw args=>(Rows.cutSpec.pre enc Tryz.prog Tryz.f4 [] false w args/\laidMetH Tryz.prog zgy w)/\sizedMet enc Tryz.prog Tryz.f4 (OpenSpec.ofChange Rows.cutSpec) false w args)
      (Rows.cutSpec.post enc Tryz.prog Tryz.f4 false true false false):=by
  refine zr3 (C:=Tryz.checked) (X:=λw _=>laidMetH Tryz.prog zgy w) (λ_ _ _ hh h=>h.of_heap hh) Tryz.own started (by kernel_rfl) Tryz.func4
    (ChangeSpec.witness_shaped (enc:=enc) (C:=Tryz.checked) (os:=os) (X:=λw _=>laidMetH Tryz.prog zgy w) false ({
                                                                                                                             World.doorLaid Tryz.prog 41 os with heap:=(World.doorLaid Tryz.prog 41 os).heap.modify 5 λ
      | .cells _ t frozen=> .cells (Go.Pinned.utf8FirstZ.map λ(z:Nat)=>Value.int .u8 (z:Int)).toArray t frozen
      |o=>o}:World) #[.string ⟨#[]⟩,.int .i64 0] 8 rfl (World.shaped_of_RefB (by kernel_rfl) (by kernel_rfl)) (by kernel_rfl) (by kernel_rfl) (by kernel_rfl) (zu1 os _)) ?_
  intro W base args ds gs before hval0 hW hwt hL hsh;have hval:∀(j:Nat) t v,Tryz.f4.params[j]?=some t->args[j]?=some v->Value.okWide Tryz.prog W .any base t v:=hval0;have hW':=hW;obtain⟨p,q,hA0,hV0,rfl,hfz,hnd⟩:=hW;have hA:DataW.TrodAll enc Tryz.prog W 0 (λ_=>true) true Tryz.f4.params.toList args.toList ds p:=hA0;have hV:DataW.TrodVars enc Tryz.prog W (λ_=>true) [] gs q:=hV0;have hwt':(DataW.weightsEach Tryz.prog (Tryz.f4.params.toList++Rows.cutSpec.plain.varTypes Tryz.prog) (ds++gs)).all (·<=reachBytes)=true:=hwt;rw[Tryz.params4]at hA hval hwt';obtain⟨v0,v1,d0,d1,p0,p1,rfl,rfl,rfl,t0,t1⟩:=trodAll_two hA;obtain⟨rfl,rfl⟩:=trodVars_none hV;obtain⟨s,rfl,rfl,rfl,hsz⟩:=open_string Tryz.underlying9 (hval 0 9 v0 rfl rfl) t0;obtain⟨z,rfl,rfl,rfl,hfw⟩:=open_int Tryz.underlying3 (hval 1 3 v1 rfl rfl) t1;have hg:=yvv hL;have hrb:=reachBytes_lt;have hs1:s.data.toList.length<=1000000000000000000:=by
    have:=sized_string hwt' (j:=0) (t:=9) (bytes:=s.data.toList) rfl rfl;omega
  have hgm:2<W.heap.size:=by
    obtain⟨x,hx⟩:=Un hsh;exact World.block_lt_of_cell? W _ hx
  have e2:(⟨s.data.toList.toArray⟩:ByteArray)=s:=(by simp);have hwalk:=cut_any s.data.toList z W (by omega) (i64_range hfw) ⟨hg,hgm,Un hsh⟩;rw[e2]at hwalk;have e1:Rows.cutSpec.fn H ([.lit (.string s.data.toList),.lit (.int .i64 z)]++[])={results:=[.lit (.bool true)],args:=[.lit (.string s.data.toList),.lit (.int .i64 z)]}:=(by simp[Rows.cutSpec]);refine hwalk.mono λe W' ⟨he,hw⟩=>?_;subst he;refine⟨_,rfl,_,_,_,[],[],[],hW',?_,?_,?_,hw.frame _,λh=>by cases h⟩
  · rw[e1];exact trodAll_mk1 (shut_bool Tryz.underlying4 true)
  · rw[e1];exact trodAll_mk2 (shut_string Tryz.underlying9 hsz) (shut_int Tryz.underlying3 hfw)
  · rw[e1];rfl
def cut_said:Rows.CutSaid:=
 OpenClaim.holds_of_wide 4 Tryz.f4 rfl rfl rfl rfl rfl rfl rfl ⟨rfl,rfl,rfl,rfl,rfl⟩ rfl rfl rfl rfl rfl (by kernel_rfl) Tryz.func4 (by kernel_rfl)
  (of_decide_eq_true (by kernel_rfl)) (by unfold Func.isWrapper;rw[if_neg (of_decide_eq_false (by kernel_rfl))];exact⟨rfl,rfl⟩)
  (λos started H enc _=>cut_lifted os started H enc)
def cut_card:Rows.CutCardSaid:=
 Claim7.holds_tied_plain_at .later [] [.data,.handle,.pinned] true Rows.cutCard.stood.harness true
  cut_said (λ_ h=>by cases h) (by kernel_rfl) (λ_ h=>by cases h) cut_row_tie rfl ⟨rfl,rfl⟩ (by kernel_rfl) rfl
  (λf fn hf hfn=>by
   obtain rfl:f=4:=Option.some.inj ((show Tryz.prog.funcNamed Rows.cutRow.func=some 4 by kernel_rfl).symm.trans hf)|>.symm;obtain rfl:fn=Tryz.f4:=(Option.some.inj (Tryz.func4.symm.trans hfn)).symm
   exact⟨by kernel_rfl,λj t ht=>by
    rw[Tryz.params4]at ht;rcases j with _|_|j
    ·have h3:t=9:=by simpa using ht.symm
     subst h3;exact(show Tryz.prog.wantsStandIn 9=false by kernel_rfl)
    ·have h3:t=3:=by simpa using ht.symm
     subst h3;exact(show Tryz.prog.wantsStandIn 3=false by kernel_rfl)
    ·simp at ht⟩)
  (by kernel_rfl)
end Go.Proofs.YtminjljgedopkaaGreatDoor

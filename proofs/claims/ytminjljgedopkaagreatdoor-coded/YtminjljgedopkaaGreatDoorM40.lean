import Derived.Test.YtminjljgedopkaaGreatDoorM38
import Derived.Test.YtminjljgedopkaaGreatDoorM39
import Derived.Test.YtminjljgedopkaaGreatDoorTie
import Derived.Test.YtminjljgedopkaaGreatDoorCards
import Derived.SevenTiedAt
set_option linter.all false
set_option maxRecDepth 100000
set_option maxHeartbeats 40000000
namespace Go.Proofs.YtminjljgedopkaaGreatDoor
open Go.ChangeShapes Go.WideShapes Go.RowKit Go.ChangeMaps Go.Proofs.Tryz
def yw2(os:Os)(started:os.Started)(H:Type)(enc:TypeId×Value->H):
    ReturnsInHanded {} Tryz.checked os 3 .any (λw args=>(Rows.codedSpec.pre enc Tryz.prog Tryz.f3 [] false w args/\laidMetH Tryz.prog zgz w)/\sizedMet enc Tryz.prog Tryz.f3 (OpenSpec.ofChange Rows.codedSpec) false w args)
      (Rows.codedSpec.post enc Tryz.prog Tryz.f3 false true false false):=by
  refine zo3 (C:=Tryz.checked) (X:=λw _=>laidMetH Tryz.prog zgz w) (λ_ _ _ hh h=>h.of_heap hh) Tryz.own started (by kernel_rfl) Tryz.func3
    (ChangeSpec.witness_shaped (enc:=enc) (C:=Tryz.checked) (os:=os) (X:=λw _=>laidMetH Tryz.prog zgz w) false ({
                                                                                                                             World.doorLaid Tryz.prog 41 os with heap:=(World.doorLaid Tryz.prog 41 os).heap.modify 5 λ
      | .cells _ t frozen=> .cells (Go.Pinned.utf8FirstZ.map λ(z:Nat)=>Value.int .u8 (z:Int)).toArray t frozen
      |o=>o}:World) #[.string ⟨#[]⟩] 8 rfl (World.shaped_of_RefB (by kernel_rfl) (by kernel_rfl)) (by kernel_rfl) (by kernel_rfl) (by kernel_rfl) (zu1 os _)) ?_
  intro W base args ds gs before hval0 hW hL hsh;have hval:∀(j:Nat) t v,Tryz.f3.params[j]?=some t->args[j]?=some v->Value.okWide Tryz.prog W .any base t v:=hval0;have hW':=hW;obtain⟨p,q,hA0,hV0,rfl,hfz,hnd⟩:=hW;have hA:DataW.TrodAll enc Tryz.prog W 0 (λ_=>true) true Tryz.f3.params.toList args.toList ds p:=hA0;have hV:DataW.TrodVars enc Tryz.prog W (λ_=>true) [] gs q:=hV0;rw[Tryz.params3]at hA hval;obtain⟨v0,d0,rfl,rfl,h0⟩:=trodAll_one hA;obtain⟨s,rfl,rfl,rfl,hsz⟩:=open_string Tryz.underlying9 (hval 0 9 v0 rfl rfl) h0;obtain⟨hp,hg⟩:=yw1 hL;obtain⟨rfl,rfl⟩:gs=[]/\q=[]:=by
    cases gs with
    |nil=>exact⟨rfl,hV⟩
    |cons g r=>exact absurd hV (by intro h;cases h)
  have e1:Rows.codedSpec.fn H ([.lit (.string s.data.toList)]++[])={results:=[.lit (.bool true)],args:=[.lit (.string s.data.toList)]}:=(by simp[Rows.codedSpec]);have hs2:(⟨s.data.toList.toArray⟩:ByteArray)=s:=(by simp);have hgm:2<W.heap.size:=by
    obtain⟨x,hx⟩:=Un hsh;exact World.block_lt_of_cell? W _ hx
  have hwalk:=ymw s.data.toList W (by unfold maxLen at hsz;have hq:s.data.toList.length=s.size:=(by simp);omega) ⟨hg,hgm,Un hsh⟩ hp;rw[hs2]at hwalk;refine hwalk.mono λe W' ⟨he,hw⟩=>?_;subst he;refine⟨_,rfl,_,_,_,[],[],[],hW',?_,?_,?_,hw.frame _,λh=>by cases h⟩
  · rw[e1];exact trodAll_mk1 (shut_bool Tryz.underlying4 true)
  · rw[e1];exact trodAll_mk1 (shut_string Tryz.underlying9 hsz)
  · rw[e1];rfl
def yp0:Rows.CodedSaid:=
 OpenClaim.holds_of_wide 3 Tryz.f3 rfl rfl rfl rfl rfl rfl rfl ⟨rfl,rfl,rfl,rfl,rfl⟩ rfl rfl rfl rfl rfl (by kernel_rfl) Tryz.func3 (by kernel_rfl)
  (of_decide_eq_true (by kernel_rfl)) (by unfold Func.isWrapper;rw[if_neg (of_decide_eq_false (by kernel_rfl))];exact⟨rfl,rfl⟩)
  (λos started H enc _=>yw2 os started H enc)
def coded_card:Rows.CodedCardSaid:=
 Claim7.holds_tied_plain_at .later [] [.data,.data,.data,.data,.handle,.pinned] true Rows.codedCard.stood.harness true
  yp0 (λ_ h=>by cases h) (by kernel_rfl) (λ_ h=>by cases h) coded_row_tie rfl ⟨rfl,rfl⟩ (by kernel_rfl) rfl
  (λf fn hf hfn=>by
   obtain rfl:f=3:=Option.some.inj ((show Tryz.prog.funcNamed Rows.codedRow.func=some 3 by kernel_rfl).symm.trans hf)|>.symm;obtain rfl:fn=Tryz.f3:=(Option.some.inj (Tryz.func3.symm.trans hfn)).symm
   exact⟨by kernel_rfl,λj t ht=>by
    rw[Tryz.params3]at ht;have h3:t=9:=by
     rcases j with _|j
     ·simpa using ht.symm
     ·simp at ht
    subst h3
    exact(show Tryz.prog.wantsStandIn 9=false by kernel_rfl)⟩)
  (by kernel_rfl)
end Go.Proofs.YtminjljgedopkaaGreatDoor

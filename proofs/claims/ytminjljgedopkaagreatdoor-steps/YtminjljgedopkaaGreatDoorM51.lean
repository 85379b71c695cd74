import Derived.Test.YtminjljgedopkaaGreatDoorM46
import Derived.Test.YtminjljgedopkaaGreatDoorM50
import Derived.Test.YtminjljgedopkaaGreatDoorTie
import Derived.Test.YtminjljgedopkaaGreatDoorCards
import Derived.SevenTiedAt
set_option linter.all false
set_option maxRecDepth 100000
set_option maxHeartbeats 40000000
namespace Go.Proofs.YtminjljgedopkaaGreatDoor
open Go.ChangeShapes Go.WideShapes Go.RowKit Go.ChangeMaps Go.Proofs.Tryz
def Tryz.cellsInt:Tryz.prog.cellsOf 3=1:=by kernel_rfl
def Tryz.bytesInt:Tryz.prog.bytesOf 3=8:=by kernel_rfl
def ints_in{H:Type}{enc:TypeId×Value->H}{W:World}{base:Nat}{v:Value}{d:DataW H}{p:List MemPlace}(hval:Value.okWide Tryz.prog W .any base 23 v)(h:DataW.Trod enc Tryz.prog W 0 (λ_=>true) true 23 v d p):
  ∃(xs:List Int) (ao:Option Addr) (cap:Nat),v=.slice ao xs.length cap/\Zy W.heap.size W (.slice ao xs.length cap) xs/\(∀x∈xs,-9223372036854775808<=x/\x<=9223372036854775807)/\(xs.length=0\/∃elems spare,d=.slice elems spare/\elems.length=xs.length):=by
 obtain⟨a0,len,cap,rfl⟩:=okWide_slice Tryz.underlying23 hval;obtain⟨fuel,hf⟩:=h;rcases open_ints Tryz.underlying23 Tryz.underlying3 Tryz.cellsInt hf with⟨hcs,hx⟩|⟨a,len',cap',zs,hcs,_,hl,hm,hz,hx,hcell,hwz⟩
 ·simp[Value.cells]at hcs
  obtain⟨rfl,rfl,rfl⟩:=hcs;exact⟨[],none,0,rfl,Zy.nil _ _,λx hx=>(by cases hx),.inl rfl⟩
 ·simp[Value.cells]at hcs
  obtain⟨rfl,rfl,rfl⟩:=hcs;simp only[Prod.mk.injEq]at hx;obtain⟨rfl,rfl⟩:=hx;simp only[if_true]at hz;have htl:(zs.take len).length=len:=(by simp;omega);refine⟨zs.take len,some a,cap,by rw[htl],⟨some a,cap,rfl,by omega,by omega,λhne=>?_⟩,λx hx=>?_,.inr ⟨_,_,rfl,by simp[lits]⟩⟩
  ·have hpos:0<len:=by
    rcases Nat.eq_zero_or_pos len with h0|h0
    ·rw[h0]at hne;simp at hne
    ·exact h0
   obtain⟨b,off,spot⟩:=a;have g0:=hcell 0 (by omega);have hspot:spot=none:=(by simpa [Addr.add] using World.cell?_spot g0);subst hspot
   have hadd:∀i,(⟨b,off,none⟩:Addr).add i=⟨b,off+i,none⟩:=λi=>by unfold Addr.add;split<;>simp_all
   refine⟨b,off,rfl,?_,λi hi=>?_⟩
   ·have:=World.block_lt_of_cell? W _ g0
    rwa [hadd]at this
   ·have hi':i<len:=by omega
    have:=hcell i (by omega);rw[hadd]at this;rw[this];simp[List.getD_eq_getElem?_getD,List.getElem?_take,hi']
  ·have:=hwz x (List.mem_of_mem_take hx)
   simp[Lit.wf,IntKind.min,IntKind.max,IntKind.signed,IntKind.bits]at this;omega
def steps_lifted(os:Os)(started:os.Started)(H:Type)(enc:TypeId×Value->H):
    ReturnsInHanded {} Tryz.checked os 8 .any (λw args=>(Rows.stepsSpec.pre enc Tryz.prog Tryz.f8 [] false w args/\laidMetH Tryz.prog zgy w)/\sizedMet enc Tryz.prog Tryz.f8 (OpenSpec.ofChange Rows.stepsSpec) false w args)
      (Rows.stepsSpec.post enc Tryz.prog Tryz.f8 false true false false):=by
  refine zr3 (C:=Tryz.checked) (X:=λw _=>laidMetH Tryz.prog zgy w) (λ_ _ _ hh h=>h.of_heap hh) Tryz.own started (by kernel_rfl) Tryz.func8
    (ChangeSpec.witness_shaped (enc:=enc) (C:=Tryz.checked) (os:=os) (X:=λw _=>laidMetH Tryz.prog zgy w) false ({
                                                                                                                             World.doorLaid Tryz.prog 41 os with heap:=(World.doorLaid Tryz.prog 41 os).heap.modify 5 λ
      | .cells _ t frozen=> .cells (Go.Pinned.utf8FirstZ.map λ(z:Nat)=>Value.int .u8 (z:Int)).toArray t frozen
      |o=>o}:World) #[.string ⟨#[]⟩,.slice none 0 0,.int .i64 0,.int .i64 0] 8 rfl (World.shaped_of_RefB (by kernel_rfl) (by kernel_rfl)) (by kernel_rfl) (by kernel_rfl) (by kernel_rfl) (zu1 os _)) ?_
  intro W base args ds gs before hval0 hW hwt hL hsh;have hval:∀(j:Nat) t v,Tryz.f8.params[j]?=some t->args[j]?=some v->Value.okWide Tryz.prog W .any base t v:=hval0;have hW':=hW;obtain⟨p,q,hA0,hV0,rfl,hfz,hnd⟩:=hW;have hA:DataW.TrodAll enc Tryz.prog W 0 (λ_=>true) true Tryz.f8.params.toList args.toList ds p:=hA0;have hV:DataW.TrodVars enc Tryz.prog W (λ_=>true) [] gs q:=hV0;have hwt':(DataW.weightsEach Tryz.prog (Tryz.f8.params.toList++Rows.stepsSpec.plain.varTypes Tryz.prog) (ds++gs)).all (·<=reachBytes)=true:=hwt;rw[Tryz.params8]at hA hval hwt';obtain⟨v0,v1,v2,v3,d0,d1,d2,d3,p0,p1,p2,p3,rfl,rfl,rfl,t0,t1,t2,t3⟩:=trodAll_four hA;obtain⟨rfl,rfl⟩:=trodVars_none hV;obtain⟨s,rfl,rfl,rfl,hsz⟩:=open_string Tryz.underlying9 (hval 0 9 v0 rfl rfl) t0;obtain⟨xs,la,lc,rfl,hl,hlr,hld⟩:=ints_in (hval 1 23 v1 rfl rfl) t1;obtain⟨za,rfl,rfl,rfl,hfa⟩:=open_int Tryz.underlying3 (hval 2 3 v2 rfl rfl) t2;obtain⟨zc,rfl,rfl,rfl,hfc⟩:=open_int Tryz.underlying3 (hval 3 3 v3 rfl rfl) t3;have hg:=yvv hL;have hrb:=reachBytes_lt;have hs1:s.data.toList.length<=1000000000000000000:=by
    have:=sized_string hwt' (j:=0) (t:=9) (bytes:=s.data.toList) rfl rfl;omega
  have hx1:xs.length<=1000000000000000000:=by
    rcases hld with h0|⟨elems,spare,rfl,hlen⟩
    · omega
    · have:=sized_slice hwt' (j:=1) (t:=23) (e:=3) (elems:=elems) (spare:=spare) rfl rfl Tryz.underlying23
      rw[Tryz.bytesInt]at this;omega
  have hgm:2<W.heap.size:=by
    obtain⟨x,hx⟩:=Un hsh;exact World.block_lt_of_cell? W _ hx
  have hs2:(⟨s.data.toList.toArray⟩:ByteArray)=s:=(by simp);have hwalk:=ksteps_any s.data.toList xs la lc za zc W ⟨hg,hgm,Un hsh⟩ hl hs1 hx1 (i64_range hfa) (i64_range hfc);rw[hs2]at hwalk;have hlt:∀x∈[]++p1++[]++[]++[],x.block<W.heap.size:=λx hx=>hW'.lt x hx;have e1:Rows.stepsSpec.fn H ([.lit (.string s.data.toList),d1,.lit (.int .i64 za),.lit (.int .i64 zc)]++[])={results:=[.lit (.bool true)],args:=[.lit (.string s.data.toList),d1,.lit (.int .i64 za),.lit (.int .i64 zc)]}:=(by simp[Rows.stepsSpec]);refine hwalk.mono λe W' ⟨he,hw⟩=>?_;subst he;refine⟨_,rfl,_,_,_,[],[]++(p1++([]++[])),[],hW',?_,?_,?_,hw.frame _,λh=>by cases h⟩
  · rw[e1];exact trodAll_mk1 (shut_bool Tryz.underlying4 true)
  · rw[e1]
    exact trodAll_mk4 (shut_string Tryz.underlying9 hsz) (Below.trod Tryz.laidOutR (by kernel_rfl) (of_decide_eq_true (by kernel_rfl)) t1 hw (λx hx=>hlt x (by simp[hx]))) (shut_int Tryz.underlying3 hfa) (shut_int Tryz.underlying3 hfc)
  · rw[e1];rfl
def steps_said:Rows.StepsSaid:=
 OpenClaim.holds_of_wide 8 Tryz.f8 rfl rfl rfl rfl rfl rfl rfl ⟨rfl,rfl,rfl,rfl,rfl⟩ rfl rfl rfl rfl rfl (by kernel_rfl) Tryz.func8 (by kernel_rfl)
  (of_decide_eq_true (by kernel_rfl)) (by unfold Func.isWrapper;rw[if_neg (of_decide_eq_false (by kernel_rfl))];exact⟨rfl,rfl⟩)
  (λos started H enc _=>steps_lifted os started H enc)
def steps_card:Rows.StepsCardSaid:=
 Claim7.holds_tied_plain_at .later [] [.data,.handle,.pinned] true Rows.stepsCard.stood.harness true
  steps_said (λ_ h=>by cases h) (by kernel_rfl) (λ_ h=>by cases h) steps_row_tie rfl ⟨rfl,rfl⟩ (by kernel_rfl) rfl
  (λf fn hf hfn=>by
   obtain rfl:f=8:=Option.some.inj ((show Tryz.prog.funcNamed Rows.stepsRow.func=some 8 by kernel_rfl).symm.trans hf)|>.symm;obtain rfl:fn=Tryz.f8:=(Option.some.inj (Tryz.func8.symm.trans hfn)).symm
   exact⟨by kernel_rfl,λj t ht=>by
    rw[Tryz.params8]at ht;rcases j with _|_|_|_|j
    ·have h3:t=9:=by simpa using ht.symm
     subst h3;exact(show Tryz.prog.wantsStandIn 9=false by kernel_rfl)
    ·have h3:t=23:=by simpa using ht.symm
     subst h3;exact(show Tryz.prog.wantsStandIn 23=false by kernel_rfl)
    ·have h3:t=3:=by simpa using ht.symm
     subst h3;exact(show Tryz.prog.wantsStandIn 3=false by kernel_rfl)
    ·have h3:t=3:=by simpa using ht.symm
     subst h3;exact(show Tryz.prog.wantsStandIn 3=false by kernel_rfl)
    ·simp at ht⟩)
  (by kernel_rfl)
end Go.Proofs.YtminjljgedopkaaGreatDoor

import Derived.Test.YtfhpibppblbgcaaGreatDoorM22
import Derived.Test.YtfhpibppblbgcaaGreatDoorM33
import Derived.Test.YtfhpibppblbgcaaGreatDoorTie
import Derived.Test.YtfhpibppblbgcaaGreatDoorCards
import Derived.SevenTiedAt
import Derived.ChangeSlices
import Derived.SizedLaws
import Derived.Carry
import Derived.HandedShaped
import Derived.Shelf.Vars
import Derived.Lib.LaidTab
import Derived.LaidMore
set_option linter.all false
set_option maxRecDepth 100000
set_option maxHeartbeats 40000000
namespace Go.Proofs.YtfhpibppblbgcaaGreatDoor
open Go.ChangeShapes Go.WideShapes Go.RowKit Go.ChangeMaps Go.Proofs.Tryz
variable{W:World}
def Tryz.laidOutR:laidOutB Tryz.prog=true:=by kernel_rfl
abbrev zf5:List (String×DataW Unit):=Rows.wholeRow.laid
def yt5(h:laidMetH Tryz.prog zf5 W):Jn W:=by
 have h':laidMet Tryz.prog [("unicode/utf8.acceptRanges",Rows.laid_unicode_utf8_acceptRanges),("unicode/utf8.first",Rows.laid_unicode_utf8_first)] W/\handlesMet Tryz.prog [("errors.errorType",Rows.laid_errors_errorType)] W:=h;exact ze6 ⟨⟨[],rfl,List.nodup_nil,λ_ _ h=>by cases h⟩,h'.2⟩
def zry(h:W.ShapedOpen Tryz.prog):Xs W:=
 cell_of_shapedOpen_int (P:=Tryz.prog) (g:=1) (t:=3) (zero:=#[Iq 0]) h (of_decide_eq_true (by kernel_rfl)) (by kernel_rfl) rfl (by kernel_rfl) (by kernel_rfl) Tryz.underlying3
def zq7{H:Type}{enc:TypeId×Value->H}{a:Assume}{C:Checked}{os:Os}{f:FuncId}{fn:Func}{s:ChangeSpec}{conds:List PathCond}{apart fresh a0 again:Bool}{X:World->Array Value->Prop}
  (hX:∀(w w':World) (args:Array Value),w.heap=w'.heap->X w args->X w' args)
  (own:ownKnob C.prog.godebug=none) (started:os.Started) (noInit:C.prog.inits.idxOf? f=none) (e0:C.prog.funcs[f]?=some fn)
  (witness:∃(w:World) (tape:Tape) (i:Input),w.os=os/\(w.forCall tape i).Shaped C.prog/\i.vars=[]/\Input.okWide C.prog (w.forCall tape i) .any w.heap.size f i/\
   ((s.pre enc C.prog fn conds apart (w.forCall tape i).memory i.args/\X (w.forCall tape i).memory i.args)/\sizedMet enc C.prog fn (OpenSpec.ofChange s) apart (w.forCall tape i).memory i.args)/\a.holds C.prog (lone (Frame.enter C.prog f i.args .normal) [] (w.forCall tape i)))
  (contract:∀(W:World) (base:Nat) (args:Array Value) (ds gs:List (DataW H)) (before:List MemPlace),(∀(j:Nat) t v,fn.params[j]?=some t->args[j]?=some v->Value.okWide C.prog W .any base t v)->
   DataW.Whole enc C.prog fn.params.toList s.vars apart W args.toList ds gs before->(DataW.weightsEach C.prog (fn.params.toList++s.plain.varTypes C.prog) (ds++gs)).all (·<=reachBytes)=true->X W args->W.ShapedOpen C.prog->
   Calls C.prog f args W λe W'=>∃v,e=.returned v/\s.post enc C.prog fn apart fresh a0 again W args v W'):
  ReturnsInHanded a C os f .any (λw args=>(s.pre enc C.prog fn conds apart w args/\X w args)/\sizedMet enc C.prog fn (OpenSpec.ofChange s) apart w args) (s.post enc C.prog fn apart fresh a0 again):=by
 refine returnsInHanded_of_calls own started noInit witness ?_;intro w tape i _ f0 _ g0 b0 c0;obtain⟨_,_,_,fn',hfn',_,_,_,_,d0⟩:=g0;have e:fn'=fn:=Option.some.inj (hfn'.symm.trans e0);subst e;obtain⟨⟨⟨ds,gs,before,hw,_⟩,hx⟩,hz⟩:=b0;have hw':=DataW.Whole.of_heap (w':=w.forCall tape i) (by rfl) hw;refine(contract (w.forCall tape i) w.heap.size i.args ds gs before d0 hw' (hz.weights hw) (hX _ _ _ (by rfl) hx) f0).mono λe W' ⟨v,he,hp⟩=>?_;subst he;exact ChangeSpec.post_blind hp
def zaz(os:Os)(args:Array Value):laidMetH Tryz.prog zf5 ((({World.doorLaid Tryz.prog 41 os with heap:=(World.doorLaid Tryz.prog 41 os).heap.modify 2 λ
   | .cells _ t frozen=> .cells (Go.Pinned.utf8FirstZ.map λ(z:Nat)=>Value.int .u8 (z:Int)).toArray t frozen
   |o=>o}:World)).forCall (λ_ _=>0) ⟨#[],args,[]⟩).memory:=
 laidMetH_of_parts (laidMet_of_run' 8 (by kernel_rfl) (by kernel_rfl)) (by kernel_rfl)
def yv3(os:Os)(started:os.Started)(H:Type)(enc:TypeId×Value->H):
    ReturnsInHanded {} Tryz.checked os 3 .any (λw args=>(Rows.wholeSpec.pre enc Tryz.prog Tryz.f3 [] false w args/\laidMetH Tryz.prog zf5 w)/\sizedMet enc Tryz.prog Tryz.f3 (OpenSpec.ofChange Rows.wholeSpec) false w args)
      (Rows.wholeSpec.post enc Tryz.prog Tryz.f3 false true false false):=by
  refine zq7 (C:=Tryz.checked) (X:=λw _=>laidMetH Tryz.prog zf5 w) (λ_ _ _ hh h=>h.of_heap hh) Tryz.own started (by kernel_rfl) Tryz.func3
    (ChangeSpec.witness_shaped (enc:=enc) (C:=Tryz.checked) (os:=os) (X:=λw _=>laidMetH Tryz.prog zf5 w) false ({
                                                                                                                             World.doorLaid Tryz.prog 41 os with heap:=(World.doorLaid Tryz.prog 41 os).heap.modify 2 λ
      | .cells _ t frozen=> .cells (Go.Pinned.utf8FirstZ.map λ(z:Nat)=>Value.int .u8 (z:Int)).toArray t frozen
      |o=>o}:World) #[.string ⟨#[]⟩,.string ⟨#[]⟩] 8 rfl (World.shaped_of_RefB (by kernel_rfl) (by kernel_rfl)) (by kernel_rfl) (by kernel_rfl) (by kernel_rfl) (zaz os _)) ?_
  intro W base args ds gs before c0 hW g0 hL f0;have b0:∀(j:Nat) t v,Tryz.f3.params[j]?=some t->args[j]?=some v->Value.okWide Tryz.prog W .any base t v:=c0;have hW':=hW;obtain⟨p,q,h0,i0,rfl,l0,m0⟩:=hW;have hA:DataW.TrodAll enc Tryz.prog W 0 (λ_=>true) true Tryz.f3.params.toList args.toList ds p:=h0;have hV:DataW.TrodVars enc Tryz.prog W (λ_=>true) [] gs q:=i0;have hwt':(DataW.weightsEach Tryz.prog (Tryz.f3.params.toList++Rows.wholeSpec.plain.varTypes Tryz.prog) (ds++gs)).all (·<=reachBytes)=true:=g0;rw[Tryz.params3]at hA b0 hwt';obtain⟨v0,v1,d0,d1,p0,p1,rfl,rfl,rfl,t0,t1⟩:=trodAll_two hA;obtain⟨rfl,rfl⟩:=trodVars_none hV;obtain⟨s,rfl,rfl,rfl,cF⟩:=open_string Tryz.underlying9 (b0 0 9 v0 rfl rfl) t0;obtain⟨s2,rfl,rfl,rfl,e0⟩:=open_string Tryz.underlying9 (b0 1 9 v1 rfl rfl) t1;have hg:=yt5 hL;have n0:=reachBytes_lt;have j0:s.data.toList.length<=1000000000000000000:=by
    have:=sized_string hwt' (j:=0) (t:=9) (bytes:=s.data.toList) rfl rfl;omega
  have k0:s2.data.toList.length<=1000000000000000000:=by
    have:=sized_string hwt' (j:=1) (t:=9) (bytes:=s2.data.toList) rfl rfl;omega
  have hgm:1<W.heap.size:=by
    obtain⟨x,hx⟩:=zry f0;exact Qe W _ hx
  have e2:(⟨s.data.toList.toArray⟩:ByteArray)=s:=(by simp);have e3:(⟨s2.data.toList.toArray⟩:ByteArray)=s2:=(by simp);have a0:=yj5 s.data.toList s2.data.toList W j0 k0 ⟨hg,hgm,zry f0⟩;rw[e2,e3]at a0;have e1:Rows.wholeSpec.fn H ([.lit (.string s.data.toList),.lit (.string s2.data.toList)]++[])={results:=[.lit (.bool true)],args:=[.lit (.string s.data.toList),.lit (.string s2.data.toList)]}:=(by simp[Rows.wholeSpec]);refine a0.mono λe W' ⟨he,hw⟩=>?_;subst he;refine⟨_,rfl,_,_,_,[],[],[],hW',?_,?_,?_,hw.frame _,λh=>by cases h⟩
  · rw[e1];exact trodAll_mk1 (shut_bool Tryz.underlying4 true)
  · rw[e1];exact trodAll_mk2 (shut_string Tryz.underlying9 cF) (shut_string Tryz.underlying9 e0)
  rw[e1];rfl
def yn1:Rows.WholeSaid:=
 OpenClaim.holds_of_wide 3 Tryz.f3 rfl rfl rfl rfl rfl rfl rfl ⟨rfl,rfl,rfl,rfl,rfl⟩ rfl rfl rfl rfl rfl (by kernel_rfl) Tryz.func3 (by kernel_rfl)
  (of_decide_eq_true (by kernel_rfl)) (by unfold Func.isWrapper;rw[if_neg (of_decide_eq_false (by kernel_rfl))];exact⟨rfl,rfl⟩)
  (λos started H enc _=>yv3 os started H enc)
def whole_card:Rows.WholeCardSaid:=
 Claim7.holds_tied_plain_at .later [] [.data,.handle,.pinned] true Rows.wholeCard.stood.harness true
  yn1 (λ_ h=>by cases h) (by kernel_rfl) (λ_ h=>by cases h) whole_row_tie rfl ⟨rfl,rfl⟩ (by kernel_rfl) rfl
  (λf fn hf a0=>by
   obtain rfl:f=3:=Option.some.inj ((show Tryz.prog.funcNamed Rows.wholeRow.func=some 3 by kernel_rfl).symm.trans hf)|>.symm;obtain rfl:fn=Tryz.f3:=(Option.some.inj (Tryz.func3.symm.trans a0)).symm
   exact⟨by kernel_rfl,λj t ht=>by
    rw[Tryz.params3]at ht;rcases j with _|_|j
    ·have h3:t=9:=by simpa using ht.symm
     subst h3;exact(show Tryz.prog.wantsStandIn 9=false by kernel_rfl)
    ·have h3:t=9:=by simpa using ht.symm
     subst h3;exact(show Tryz.prog.wantsStandIn 9=false by kernel_rfl)
    simp at ht⟩)
  (by kernel_rfl)
end Go.Proofs.YtfhpibppblbgcaaGreatDoor

import Derived.Test.YtminjljgedopkaaGreatDoorM35
set_option linter.all false
set_option maxRecDepth 100000
set_option maxHeartbeats 40000000
namespace Go.Proofs.YtminjljgedopkaaGreatDoor
open Go.Proofs.Tryz
namespace Fl
def prog_more(p:Prog)(cs:List Nat)(F k:Nat):MoreOk k (p.run cs F) (p.run cs (F+k)):=by
 unfold Prog.run;have h1:=run_same p.body ⟨cs++List.replicate p.locals 0,[],F⟩ (F+1) (F+k+1) (by simp) (by show F<_;omega);have h2:=run_steps k (F+k+1) p.body ⟨cs++List.replicate p.locals 0,[],F⟩;rw[h1]at h2;exact h2
def pre_getD{α:Type}{a b:List α}(h:a<+:b)(x:α){k:Nat}(hk:k<a.length):b.getD k x=a.getD k x:=by
 obtain⟨t,rfl⟩:=h;rw[List.getD_eq_getElem?_getD,List.getD_eq_getElem?_getD,List.getElem?_append_left hk]
end Fl
end Go.Proofs.YtminjljgedopkaaGreatDoor

import Derived.Test.YtminjljgedopkaaGreatDoorM02
set_option linter.all false
set_option maxRecDepth 100000
set_option maxHeartbeats 40000000
namespace Go.Proofs.YtminjljgedopkaaGreatDoor
open Go.Proofs.Tryz
namespace Fl
def run_sent:∀(n:Nat) (l:List Stmt) (m:MS),m.sent<+:(run n l m).2.sent
 |0,_,m=>List.prefix_refl _
 |_+1,[],m=>List.prefix_refl _
 |n+1,s::rest,m=>by
  rw[run]
  by_cases h0:m.fuel=0
  ·rw[if_pos h0];exact List.prefix_refl _
  ·rw[if_neg h0]
   simp only
   split
   ·exact run_sent n rest ⟨m.vars.set s.x (exprV m.vars s.e),m.sent,m.fuel - 1⟩
   ·split
    ·exact List.IsPrefix.trans (List.prefix_append _ _) (run_sent n rest ⟨m.vars,m.sent++[(s.x,exprV m.vars s.e)],m.fuel - 1⟩)
    ·split
     ·generalize (if exprV m.vars s.e=0 then s.other else s.body)=part
      have h1:=run_sent n part ⟨m.vars,m.sent,m.fuel - 1⟩
      split
      ·exact h1.trans (run_sent n rest _)
      ·exact h1
     ·split
      ·exact run_sent n rest ⟨m.vars,m.sent,m.fuel - 1⟩
      ·have h1:=run_sent n s.body ⟨m.vars,m.sent,m.fuel - 1⟩
       split
       ·exact h1.trans (run_sent n (s::rest) _)
       ·exact h1
def MoreOk(k:Nat)(a b:Bool×MS):Prop:=(a.1=true->b=(true,⟨a.2.vars,a.2.sent,a.2.fuel+k⟩))/\a.2.sent<+:b.2.sent
def run_steps(k:Nat):∀(n:Nat) (l:List Stmt) (m:MS),MoreOk k (run n l m) (run n l ⟨m.vars,m.sent,m.fuel+k⟩)
 |0,_,m=>⟨λh=>(by cases h),List.prefix_refl _⟩
 |_+1,[],m=>⟨λ_=>rfl,List.prefix_refl _⟩
 |n+1,s::rest,m=>by
  by_cases h0:m.fuel=0
  ·have e:run (n+1) (s::rest) m=(false,m):=by rw[run,if_pos h0]
   rw[e];exact⟨λh=>(by cases h),run_sent (n+1) (s::rest) ⟨m.vars,m.sent,m.fuel+k⟩⟩
  ·obtain⟨f,hf⟩:∃f,m.fuel=f+1:=⟨m.fuel - 1,by omega⟩
   have h1:¬m.fuel+k=0:=(by omega);simp only[run];rw[if_neg h0,if_neg h1];rw[show m.fuel+k - 1=(m.fuel - 1)+k from by omega];have I:∀l (vs:List Nat) (se:List (Nat×Nat)) (g:Nat),MoreOk k (run n l ⟨vs,se,g⟩) (run n l ⟨vs,se,g+k⟩):=λl vs se g=>run_steps k n l ⟨vs,se,g⟩;have J:∀(a b:List Stmt) (vs:List Nat) (se:List (Nat×Nat)) (g:Nat),MoreOk k (if(run n a ⟨vs,se,g⟩).1=true then run n b (run n a ⟨vs,se,g⟩).2 else run n a ⟨vs,se,g⟩) (if(run n a ⟨vs,se,g+k⟩).1=true then run n b (run n a ⟨vs,se,g+k⟩).2 else run n a ⟨vs,se,g+k⟩):=by
    intro a b vs se g;have h1:=I a vs se g;generalize run n a ⟨vs,se,g⟩=A at h1⊢;generalize run n a ⟨vs,se,g+k⟩=B at h1⊢;obtain⟨a1,a2⟩:=A
    cases a1
    ·rw[if_neg (by simp)]
     refine⟨λh=>(by cases h),?_⟩
     split
     ·exact h1.2.trans (run_sent n b B.2)
     ·exact h1.2
    ·rw[h1.1 rfl,if_pos rfl,if_pos rfl]
     exact I b a2.vars a2.sent a2.fuel
   split
   ·exact I _ _ _ _
   ·split
    ·exact I _ _ _ _
    ·split
     ·generalize (if exprV m.vars s.e=0 then s.other else s.body)=part
      exact J _ _ _ _ _
     ·split
      ·exact I _ _ _ _
      ·exact J _ _ _ _ _
end Fl
namespace Fl
def prog_more(p:Prog)(cs:List Nat)(F k:Nat):MoreOk k (p.run cs F) (p.run cs (F+k)):=by
 unfold Prog.run;have h1:=run_same p.body ⟨cs++List.replicate p.locals 0,[],F⟩ (F+1) (F+k+1) (by simp) (by show F<_;omega);have h2:=run_steps k (F+k+1) p.body ⟨cs++List.replicate p.locals 0,[],F⟩;rw[h1]at h2;exact h2
def pre_getD{α:Type}{a b:List α}(h:a<+:b)(x:α){k:Nat}(hk:k<a.length):b.getD k x=a.getD k x:=by
 obtain⟨t,rfl⟩:=h;rw[List.getD_eq_getElem?_getD,List.getD_eq_getElem?_getD,List.getElem?_append_left hk]
end Fl
end Go.Proofs.YtminjljgedopkaaGreatDoor

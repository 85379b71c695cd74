import Derived.Test.YtaaejabalinojaaGreatDoorM09
import Derived.Test.YtaaejabalinojaaGreatDoorM10
import Derived.Test.YtaaejabalinojaaGreatDoorM11
import Derived.Test.YtaaejabalinojaaGreatDoorM12
import Derived.Test.YtaaejabalinojaaGreatDoorM13
set_option linter.all false
set_option maxRecDepth 100000
set_option maxHeartbeats 40000000
namespace Go.Proofs.YtaaejabalinojaaGreatDoor
open Go.RowKit Go.Proofs.Tryz
def zby{w:World}{Pb Lq:Nat}{rb:Nat->Nat}{clv hv bv lv nv:Value}{p:Fl.Prog}{ls:List Int}{x:List Fl.Node}(h:Jx w Pb Lq rb clv hv bv lv nv p ls x)(k:Nat)(hk:k<x.length)(ho:zw5 p x (Fl.nth x k))(a0:∀y∈Fl.vars p ls,0<=y/\y<p.n)(b0:∀y∈p.chans,y<p.n)(c0:(Fl.nth x k).a<2147483648):
  Calls prog 19 #[.pointer (some ⟨Pb,0,none⟩),.agg #[lv,nv],.int .i64 k] w λe w'=>e=.returned (.bool (Fl.follows p ls x (Fl.nth x k)))/\Below w.heap.size w w':=by
 have h8:=ho.kd
 by_cases d0:(Fl.nth x k).level<p.n
 ·rcases(show (Fl.nth x k).kind=0\/(Fl.nth x k).kind=1\/(Fl.nth x k).kind=2\/(Fl.nth x k).kind=3\/(Fl.nth x k).kind=4\/(Fl.nth x k).kind=5\/(Fl.nth x k).kind=6\/(Fl.nth x k).kind=7 by omega) with e|e|e|e|e|e|e|e
  ·exact zb7 h k hk ho a0 b0 d0 c0 e
  ·exact zb8 h k hk ho a0 b0 d0 c0 e
  ·exact yx9 h k hk ho a0 b0 d0 c0 e
  ·exact zb9 h k hk ho a0 b0 d0 c0 e
  ·exact zbz h k hk ho a0 b0 d0 c0 e
  ·exact yxz h k hk ho a0 b0 d0 c0 e
  ·exact zhx h k hk ho a0 b0 d0 c0 e
  exact zhw h k hk ho a0 b0 d0 c0 e
 exact zdw h k hk (by omega)
end Go.Proofs.YtaaejabalinojaaGreatDoor

import Derived.Test.YtaaejabalinojaaGreatDoorM23
set_option linter.all false
set_option maxRecDepth 100000
set_option maxHeartbeats 40000000
namespace Go.Proofs.YtaaejabalinojaaGreatDoor
open Go.RowKit Go.Maps Go.WideMaps Go.ChangeMaps Go.MapKept Go.Proofs.Tryz
def zw6(S:Nat->Prop)(w:World)(v:Value)(l:List Nat):Prop:=
 ∃ao cap,v=.slice ao l.length cap/\l.length<=cap/\cap<=maxLen/\(l≠[]->∃b,ao=some ⟨b,0,none⟩/\S b/\∀i,i<l.length->w.cell? ⟨b,i,none⟩=some (.int .i64 (l.getD i 0)))
def zw6.kept{S S':Nat->Prop}{w w':World}{v:Value}{l:List Nat}(h:zw6 S w v l)(hS:∀b,S b->S' b)(hw:∀b,S b->w'.heap[b]?=w.heap[b]?):zw6 S' w' v l:=by
 obtain⟨ao,cap,h1,h2,h3,h4⟩:=h;refine⟨ao,cap,h1,h2,h3,λa0=>?_⟩;obtain⟨b,e,hb,hc⟩:=h4 a0;exact⟨b,e,hS b hb,λi hi=>(Qc (a:=⟨b,i,none⟩) (hw b hb)).trans (hc i hi)⟩
def zw6.own{S:Nat->Prop}{base:Nat}{w:World}{v:Value}{l:List Nat}(h:w.ownsRow base 3 1 v l.length (Yk l))(hv:∀b,v.ownBlock=some b->S b):zw6 S w v l:=by
 rcases h.2 with⟨rfl,h0⟩|⟨g,cap,cur,rfl,hb,hg,c0,a0,d0,ht⟩
 ·exact⟨none,0,by rw[h0],by omega,by simp[maxLen],λb0=>absurd (Qi h0) b0⟩
 refine⟨_,cap,rfl,by omega,a0,λ_=>⟨g,rfl,hv g rfl,λi hi=>?_⟩⟩;have h4:=h.cells (g:=g) rfl i (.int .i64 (l.getD i 0)) (by unfold Yk;simp[Qa,hi])
 have h5:(⟨g,0,none⟩:Addr).add i=⟨g,i,none⟩:=by unfold Addr.add;split<;>simp_all
 rw[h5]at h4;exact h4
def zy0(S:Nat->Prop)(w:World)(Pb:Nat)(p:Fl.Prog):Prop:=
 ∃Lb clv chv bv,S Pb/\S Lb/\Zd w Pb 5 (rw_ [ptr Lb,clv,chv,.int .i64 p.locals,bv])/\Jl w Lb p.n p.leq/\zw6 S w clv p.cells/\zw6 S w chv p.chans/\Yr 4 S w bv p.body
def zy0.kept{S S':Nat->Prop}{w w':World}{Pb:Nat}{p:Fl.Prog}(h:zy0 S w Pb p)(hS:∀b,S b->S' b)(hw:∀b,S b->w'.heap[b]?=w.heap[b]?):zy0 S' w' Pb p:=by
 obtain⟨Lb,clv,chv,bv,h1,h2,h3,h4,h5,h6,h7⟩:=h;exact⟨Lb,clv,chv,bv,hS _ h1,hS _ h2,h3.block (hw _ h1),h4.block (hw _ h2),h5.kept hS hw,h6.kept hS hw,Yr.kept hS hw _ _ _ h7⟩
def Zr.prog{lo base R Pb lm vm cm:Nat}{w0 w:World}{r:Fl.RS}{line:Int}{m:Xv}(h:Zr lo base R Pb lm vm cm w0 w r line m)(hb:r.begun=true)(hf:r.fr=[]):zy0 (λb=>(b=Pb\/base<=b)/\b<w.heap.size) w Pb r.prog:=by
 obtain⟨Lb,l1,l2,l3⟩:=h.re.la hb;have hba:=h.hba;have hlo:=h.hlo
 have hS:∀b,m.who b≠5->(b=Pb\/base<=b)/\b<w.heap.size:=λb hb=>by have:=h.re.wh b hb;omega
 have b0:m.gs=[]:=Qi (by rw[h.re.fa.len,hf];rfl);have a0:=h.re.pb;rw[b0]at a0;refine⟨Lb,m.clv,m.chv,m.bv,by omega,hS _ (by rw[l2];decide),by rw[<-l1];exact h.cP,l3,zw6.own h.re.oc (λb hv=>hS b (by rw[h.re.tc b hv];decide)),zw6.own h.re.oh (λb hv=>hS b (by rw[h.re.th b hv];decide)),?_⟩;have c0:=h.ok.cn.1;have hst:=h.ok.st;exact Yp.closed (a0.kept (S':=λb=>(b=Pb\/base<=b)/\b<w.heap.size) (λb hv=>hS b (by rw[hv];decide)) (λ_ _=>rfl) (λ_ _=>rfl)) (λb hv=>hS b (by rw[h.re.tb b hv];decide)) (by show r.top.length<=16;omega)
def zcy(n:Nat):Array Value:=#[ptr (n+1),.int .i64 0,.bool false,.int .i64 0,.bool false,.bool false,.bool false,.bool false,.bool false,.bool false,.bool false,.bool false,.bool false,.bool false,.bool false,.bool false,.bool false,.bool false,.bool false,.bool false,.bool false,.bool false,.bool false,.bool false,.bool false,.bool false,.bool false,.bool false,.bool false,.bool false,.bool false,.bool false,.bool false,.bool false,.bool false,.bool false,.bool false,.bool false,.bool false,.bool false,.map (some (n+2)),.map (some (n+3)),.map (some (n+4)),.slice none 0 0,.int .i64 0]
def yj0(n j:Nat)(h:j<45):(zcy n)[j]?=some (Xa (n+1) (n+2) (n+3) (n+4) 0 Fl.RS.zero mem0 j):=by
 have:j=0\/j=1\/j=2\/j=3\/(4<=j/\j<40)\/j=40\/j=41\/j=42\/j=43\/j=44:=by omega
 rcases this with rfl|rfl|rfl|rfl|h1|rfl|rfl|rfl|rfl|rfl
 ·rfl
 ·rfl
 ·rfl
 ·rfl
 ·unfold Xa
  rw[if_neg (by omega),if_neg (by omega),if_neg (by omega),if_neg (by omega),if_neg (by omega),if_neg (by omega),if_neg (by omega),if_neg (by omega),if_neg (by omega)]
  have:j=4\/j=5\/j=6\/j=7\/j=8\/j=9\/j=10\/j=11\/j=12\/j=13\/j=14\/j=15\/j=16\/j=17\/j=18\/j=19\/j=20\/j=21\/j=22\/j=23\/j=24\/j=25\/j=26\/j=27\/j=28\/j=29\/j=30\/j=31\/j=32\/j=33\/j=34\/j=35\/j=36\/j=37\/j=38\/j=39:=by omega
  rcases this with rfl|rfl|rfl|rfl|rfl|rfl|rfl|rfl|rfl|rfl|rfl|rfl|rfl|rfl|rfl|rfl|rfl|rfl|rfl|rfl|rfl|rfl|rfl|rfl|rfl|rfl|rfl|rfl|rfl|rfl|rfl|rfl|rfl|rfl|rfl|rfl<;>rfl
 ·rfl
 ·rfl
 ·rfl
 ·rfl
 rfl
def rdW(w:World)(l:List UInt8):World:=((((((w.alloc (.cells #[.string ⟨l.toArray⟩] 9)).alloc (.cells #[.pointer none,.slice none 0 0,.slice none 0 0,.int .i64 0,.slice none 0 0] 113)).alloc (.map #[] 0)).alloc (.map #[] 0)).alloc (.map #[] 0)).alloc (.cells (zcy w.heap.size) 122)).alloc (.cells #[.pointer (some ⟨w.heap.size+5,0,none⟩)] 109)
def zlz(w:World)(l:List UInt8):(rdW w l).heap.size=w.heap.size+7:=by simp[rdW]
def ze5(w:World)(l:List UInt8):Below w.heap.size w (rdW w l):=(((((((Below.refl _ w).alloc (Nat.le_refl _) _).alloc (by simp<;>omega) _).alloc (by simp<;>omega) _).alloc (by simp<;>omega) _).alloc (by simp<;>omega) _).alloc (by simp<;>omega) _).alloc (by simp<;>omega) _
def zq8(w:World)(l:List UInt8):(rdW w l).heap[w.heap.size]?=some (.cells #[.string ⟨l.toArray⟩] 9)/\
  (rdW w l).heap[w.heap.size+1]?=some (.cells #[.pointer none,.slice none 0 0,.slice none 0 0,.int .i64 0,.slice none 0 0] 113)/\
  (rdW w l).heap[w.heap.size+2]?=some (.map #[] 0)/\(rdW w l).heap[w.heap.size+3]?=some (.map #[] 0)/\(rdW w l).heap[w.heap.size+4]?=some (.map #[] 0)/\
  (rdW w l).heap[w.heap.size+5]?=some (.cells (zcy w.heap.size) 122)/\(rdW w l).heap[w.heap.size+6]?=some (.cells #[.pointer (some ⟨w.heap.size+5,0,none⟩)] 109):=by
 have a:∀(u:World) (o:Obj) (k:Nat),k<u.heap.size->(u.alloc o).heap[k]?=u.heap[k]?:=λu o k hk=>Below.heap_alloc _ _ _ hk
 have l:∀(u:World) (o:Obj) (k:Nat),u.heap.size=k->(u.alloc o).heap[k]?=some o:=λu o k hk=>by subst hk;exact heap_alloc_last u o
 unfold rdW;refine⟨?_,?_,?_,?_,?_,?_,?_⟩
 ·rw[a _ _ _ (by simp<;>omega),a _ _ _ (by simp<;>omega),a _ _ _ (by simp<;>omega),a _ _ _ (by simp<;>omega),a _ _ _ (by simp<;>omega),a _ _ _ (by simp<;>omega),l _ _ _ (by simp<;>omega)]
 ·rw[a _ _ _ (by simp<;>omega),a _ _ _ (by simp<;>omega),a _ _ _ (by simp<;>omega),a _ _ _ (by simp<;>omega),a _ _ _ (by simp<;>omega),l _ _ _ (by simp<;>omega)]
 ·rw[a _ _ _ (by simp<;>omega),a _ _ _ (by simp<;>omega),a _ _ _ (by simp<;>omega),a _ _ _ (by simp<;>omega),l _ _ _ (by simp<;>omega)]
 ·rw[a _ _ _ (by simp<;>omega),a _ _ _ (by simp<;>omega),a _ _ _ (by simp<;>omega),l _ _ _ (by simp<;>omega)]
 ·rw[a _ _ _ (by simp<;>omega),a _ _ _ (by simp<;>omega),l _ _ _ (by simp<;>omega)]
 ·rw[a _ _ _ (by simp<;>omega),l _ _ _ (by simp<;>omega)]
 rw[l _ _ _ (by simp<;>omega)]
def Yu.fresh{w:World}{b:Nat}(h:w.heap[b]?=some (.map #[] 0)):Yu w b []:=by
 have ho:w.ownsMap (H:=Unit) prog 9 (plainElem prog 3) b 0 (.map []):=⟨#[],0,h,⟨by simp,stamped_empty 0,by simp⟩,Nat.le_refl _,rfl⟩;exact⟨0,.map [],ho,Nat.le_refl _,rfl,ho.tidy zo2,ho.isMap,λx=>⟨by simp[Maps.has,Fl.place,Fl.placeFrom],by simp[DataW.atKey,Fl.place,Fl.placeFrom];decide⟩⟩
end Go.Proofs.YtaaejabalinojaaGreatDoor

import Derived.Test.YtfhpibppblbgcaaGreatDoorM05
import Derived.Laws.AppendOwnNone
set_option linter.all false
set_option maxRecDepth 100000
set_option maxHeartbeats 40000000
namespace Go.Proofs.YtfhpibppblbgcaaGreatDoor
open Go.Proofs.Tryz
variable{S:Nat->Prop}{w w':World}{v bD bF bv vv:Value}{s:Fl.aa}{p:Fl.aS}{i Fb Pb Lb base k:Nat}{vs:List Int}{e:Fl.dd}{ops:Array Oper}{rest:List Oper}{o:Oper}{a:Act}{Q:Exit->Act->World->Prop}
namespace Fl
def kG(l:List UInt8)(h:(bZ l 9).2=true):(bZ l 9).1<=999999999:=by
 unfold bZ at h⊢
 split at h
 ·rename_i hd
  rw[if_pos hd];simp only[eR,Bool.and_eq_true,decide_eq_true_eq]at h;have hl:l.length<=9:=h.2.1;show val (l.take 9)<=999999999;rw[List.take_of_length_le hl,lS];have h1:=gJ l 0 hd;have h2:10 ^ l.length<=10 ^ 9:=Nat.pow_le_pow_right (by decide) hl;omega
 cases h
def RS.nv(r:RS):Nat:=r.cells.length+r.am.length
def RS.jr(r:RS)(s:List UInt8){a:dM}(h:r.atom s=some a):dU r.nv a:=by
 unfold RS.atom at h;have hc:=aR r.cells s;have hl:=aR r.am s;unfold dU RS.nv
 split at h
 ·rename_i hn
  simp only[Option.some.injEq]at h;subst h;simp only[Bool.false_eq_true,if_false];exact kG s hn
 split at h
 ·simp only[Option.some.injEq]at h;subst h
  simp only[if_true];omega
 split at h
 ·simp only[Option.some.injEq]at h;subst h
  simp only[if_true];omega
 cases h
def RS.jX(r:RS)(ws:List (List UInt8)){e:dd}(h:r.value ws=some e):cX r.nv e:=by
 match ws,h with
 |[a],h=>
  simp only[RS.value,Option.map_eq_some_iff]at h;obtain⟨x,hx,rfl⟩:=h;exact⟨(show (-1:Int)<= -1 by decide),(show (-1:Int)<=4 by decide),r.jr a hx,by unfold dU ju;simp⟩
 |[a,o,b],h=>
  simp only[RS.value,Option.bind_eq_some_iff,Option.map_eq_some_iff]at h;obtain⟨x,hx,y,hy,rfl⟩:=h;have ho:=aR cH o;have hs:cH.length=5:=rfl;exact⟨by simp only;omega,by simp only;omega,r.jr a hx,r.jr b hy⟩
structure kz(nv nc d:Nat)(f:aB):Prop where
 kd:f.kind=5\/(f.kind=6/\f.cI=false)
 no:f.cI=false->f.fm=[]
 ex:cX nv f.e
 fi:aT nv nc d f.first
 el:aT nv nc d f.fm
def kz.mono{nv nv' nc d:Nat}(h:nv<=nv'){f:aB}(hf:kz nv nc d f):kz nv' nc d f:=⟨hf.kd,hf.no,hf.ex.mono h,hf.fi.mono h,hf.el.mono h⟩
def im(nv nc:Nat):Nat->List aB->Prop
 |_,[]=>True
 |d,f::fs=>kz nv nc (d+1) f/\im nv nc (d+1) fs
def im.mono{nv nv' nc:Nat}(h:nv<=nv'):∀{d:Nat} {fs:List aB},im nv nc d fs->im nv' nc d fs
 |_,[],_=>trivial
 |_,_::_,hf=>⟨hf.1.mono h,im.mono h hf.2⟩
def aT.snoc{nv nc d:Nat}{l:List aa}{s:aa}(h:aT nv nc (d+1) l)(hs:eG nv nc s/\cX nv s.e/\aT nv nc d s.aX/\aT nv nc d s.aJ):aT nv nc (d+1) (l++[s]):=λx hx=>by
 rcases List.mem_append.1 hx with h1|h1
 ·exact h x h1
 simp only[List.mem_singleton]at h1;subst h1;exact hs
def aT.nil(nv nc d:Nat):aT nv nc d []:=by
 cases d with
 |zero=>rfl
 |succ d=>exact λs hs=>(by cases hs)
def kz.snoc{nv nc d:Nat}{f:aB}{s:aa}(h:kz nv nc (d+1) f)(hs:eG nv nc s/\cX nv s.e/\aT nv nc d s.aX/\aT nv nc d s.aJ):kz nv nc (d+1) (if f.cI then{f with fm:=f.fm++[s]} else{f with first:=f.first++[s]}):=by
 cases hd:f.cI with
 |true=>
  simp only[if_true];refine⟨?_,λq=>(by cases q),h.ex,h.fi,h.el.snoc hs⟩;rcases h.kd with h5|⟨_,h6⟩
  ·exact .inl h5
  rw[hd]at h6;cases h6
 |false=>
  simp only[Bool.false_eq_true,if_false];refine⟨?_,λ_=>h.no hd,h.ex,h.fi.snoc hs,h.el⟩;rcases h.kd with h5|⟨h6,_⟩
  ·exact .inl h5
  exact .inr ⟨h6,rfl⟩
structure RS.eO(r:RS):Prop where
 ce:r.cells.length<=6
 ch:r.aj.length<=3
 lo:r.am.length<=4
 cl:r.aZ.length=r.cells.length
 hl:r.aY.length=r.aj.length
 fr:r.fr.length<=3
 head:r.ae=false->r.am=[]/\r.bC=[]/\r.fr=[]
 bC:aT r.nv r.aj.length 4 r.bC
 nL:im r.nv r.aj.length (3 - r.fr.length) r.fr
def lL:RS.zero.eO:=⟨by decide,by decide,by decide,rfl,rfl,by decide,λ_=>⟨rfl,rfl,rfl⟩,aT.nil _ _ _,trivial⟩
def RS.eO.il{r r':RS}(h:r.eO)(hb:r.ae=false)(e1:r'.bC=r.bC)(e2:r'.fr=r.fr)(e3:r'.am=r.am)(ce:r'.cells.length<=6)(ch:r'.aj.length<=3)(cl:r'.aZ.length=r'.cells.length)(hl:r'.aY.length=r'.aj.length):r'.eO:=by
 obtain⟨h1,h2,h3⟩:=h.head hb;refine⟨ce,ch,by rw[e3];exact h.lo,cl,hl,by rw[e2];exact h.fr,λ_=>⟨by rw[e3];exact h1,by rw[e1];exact h2,by rw[e2];exact h3⟩,?_,?_⟩
 ·rw[e1,h2];exact aT.nil _ _ _
 rw[e2,h3];trivial
def RS.eO.mP{r:RS}(h:r.eO)(hb:r.ae=false)(w:List (List UInt8))(h0:(r.head w).1=0):(r.head w).2.eO:=by
 match w,h0 with
 |[],h0=>cases h0
 |[k],h0=>
  simp only[RS.head]at h0⊢
  split at h0
  ·rename_i hl;rw[if_pos hl];exact h.il hb rfl rfl rfl h.ce h.ch h.cl h.hl
  cases h0
 |[k,n],h0=>
  simp only[RS.head]at h0⊢
  split at h0
  ·cases h0
  rename_i h1;rw[if_neg h1]
  split at h0
  ·cases h0
  rename_i h2;rw[if_neg h2];exact h.il hb rfl rfl rfl h.ce h.ch h.cl h.hl
 |[k,n,l],h0=>
  simp only[RS.head]at h0⊢
  split at h0
  ·rename_i hk;rw[if_pos hk]
   split at h0
   ·cases h0
   rename_i h1;rw[if_neg h1];exact h.il hb rfl rfl rfl h.ce h.ch h.cl h.hl
  rename_i hk;rw[if_neg hk]
  split at h0
  ·cases h0
  rename_i h1;rw[if_neg h1]
  split at h0
  ·rename_i hc;rw[if_pos hc]
   split at h0
   ·cases h0
   rename_i h6;rw[if_neg h6];exact h.il hb rfl rfl rfl (by have:=h.ce;simp;omega) h.ch (by have:=h.cl;simp;omega) h.hl
  rename_i hc;rw[if_neg hc]
  split at h0
  ·cases h0
  rename_i h3;rw[if_neg h3];exact h.il hb rfl rfl rfl h.ce (by have:=h.ch;simp;omega) h.cl (by have:=h.hl;simp;omega)
 |_::_::_::_::_,h0=>cases h0
def RS.eO.put{r:RS}(h:r.eO)(hb:r.ae=true){s:aa}(hk:eG r.nv r.aj.length s)(he:cX r.nv s.e)(h1:s.aX=[])(h2:s.aJ=[]):(r.put s).eO:=by
 unfold RS.put;have hs:∀d,eG r.nv r.aj.length s/\cX r.nv s.e/\aT r.nv r.aj.length d s.aX/\aT r.nv r.aj.length d s.aJ:=λd=>⟨hk,he,by rw[h1];exact aT.nil _ _ _,by rw[h2];exact aT.nil _ _ _⟩
 cases hf:r.fr with
 |nil=>exact⟨h.ce,h.ch,h.lo,h.cl,h.hl,Nat.zero_le _,λhh=>(by have:r.ae=false:=hh;rw[hb]at this;cases this),h.bC.snoc (hs 3),trivial⟩
 |cons f fs=>
  have hh:=h.nL;rw[hf]at hh;have hl:=h.fr;rw[hf]at hl;exact⟨h.ce,h.ch,h.lo,h.cl,h.hl,hl,λhh=>(by have:r.ae=false:=hh;rw[hb]at this;cases this),h.bC,hh.1.snoc (hs _),hh.2⟩
def RS.eO.local{r:RS}(h:r.eO)(hb:r.ae=true)(n:List UInt8)(hl:r.am.length<4):({r with am:=r.am++[n]}:RS).eO:=by
 have e:r.nv<=({r with am:=r.am++[n]}:RS).nv:=by simp[RS.nv]
 exact⟨h.ce,h.ch,by simp;omega,h.cl,h.hl,h.fr,λhh=>(by have:r.ae=false:=hh;rw[hb]at this;cases this),h.bC.mono e,h.nL.mono e⟩
def RS.eO.mO{r:RS}(h:r.eO)(hb:r.ae=true)(at_:Nat)(w:List (List UInt8))(h0:(r.bQ at_ w).1=0):(r.bQ at_ w).2.eO/\(r.bQ at_ w).2.ae=true:=by
 have hn:∀x:RS,x.ae=true->∀P:Prop,x.ae=false->P:=λx h1 P h2=>by rw[h1]at h2;cases h2
 match w,h0 with
 |[],h0=>cases h0
 |[k],h0=>
  simp only[RS.bQ]at h0⊢
  cases hf:r.fr with
  |nil=>rw[hf]at h0;cases h0
  |cons f fs=>
   rw[hf]at h0;simp only at h0⊢;have hh:=h.nL;rw[hf]at hh;have hl:=h.fr;rw[hf]at hl
   split at h0
   ·rename_i hk;rw[if_pos hk]
    split at h0
    ·rename_i hq;rw[if_pos hq]
     unfold RS.cd;rw[hf];refine⟨⟨h.ce,h.ch,h.lo,h.cl,h.hl,hl,hn _ hb _,h.bC,?_⟩,hb⟩;exact⟨⟨.inl hq.1,λq=>(by cases q),hh.1.ex,hh.1.fi,hh.1.el⟩,hh.2⟩
    cases h0
   rename_i hk;rw[if_neg hk];unfold RS.bE;rw[hf]
   have a0:∀d,aT r.nv r.aj.length d f.first->aT r.nv r.aj.length d f.fm->eG r.nv r.aj.length f.done/\cX r.nv f.done.e/\aT r.nv r.aj.length d f.done.aX/\aT r.nv r.aj.length d f.done.aJ:=λd h1 h2=>by
    refine⟨?_,hh.1.ex,h1,h2⟩;rcases hh.1.kd with h5|⟨h6,h7⟩
    ·exact .inr (.inr (.inl h5))
    exact .inr (.inr (.inr ⟨h6,hh.1.no h7⟩))
   cases fs with
   |nil=>
    exact⟨⟨h.ce,h.ch,h.lo,h.cl,h.hl,by simp,hn _ hb _,h.bC.snoc (a0 3 hh.1.fi hh.1.el),trivial⟩,hb⟩
   |cons g gs=>
    simp only[List.length_cons]at hl hh;have e1:3 - (gs.length+1+1)+1=3 - (gs.length+1):=(by omega);have hg:=hh.2.1;have hd:=a0 _ hh.1.fi hh.1.el;refine⟨⟨h.ce,h.ch,h.lo,h.cl,h.hl,by simp;omega,hn _ hb _,h.bC,?_⟩,hb⟩;simp only[List.length_cons];rw[<-e1];exact⟨hg.snoc hd,hh.2.2⟩
 |[k,a],h0=>
  simp only[RS.bQ]at h0⊢
  cases hv:r.value [a] with
  |none=>rw[hv]at h0;cases h0
  |some e=>
   rw[hv]at h0;simp only at h0⊢
   split at h0
   ·cases h0
   rename_i hq;rw[if_neg hq];have e1:3 - (r.fr.length+1)+1=3 - r.fr.length:=(by omega);refine⟨⟨h.ce,h.ch,h.lo,h.cl,h.hl,by simp[RS.opens];omega,hn _ hb _,h.bC,?_⟩,hb⟩;simp only[RS.opens,List.length_cons];refine⟨⟨?_,λ_=>rfl,r.jX _ hv,aT.nil _ _ _,aT.nil _ _ _⟩,by rw[e1];exact h.nL⟩;show (if(k==iP)=true then 5 else 6)=5\/((if(k==iP)=true then 5 else 6)=6/\false=false)
   cases (k==iP)<;>simp
 |k::n::v1::v,h0=>
  simp only[RS.bQ]at h0⊢
  cases hv:r.value (v1::v) with
  |none=>rw[hv]at h0;cases h0
  |some e=>
   rw[hv]at h0;simp only at h0⊢;have he:=r.jX _ hv
   have b0:∀(x:RS) (s:aa),x.ae=true->(x.put s).ae=true:=λx s hx=>by unfold RS.put;split<;>exact hx
   split at h0
   ·rename_i hk;rw[if_pos hk]
    split at h0
    ·cases h0
    rename_i hp;rw[if_neg hp]
    split at h0
    ·cases h0
    rename_i h6;rw[if_neg h6];have hc:=aR r.aj n;exact⟨h.put hb (.inr (.inl ⟨rfl,by simp only;omega⟩)) he rfl rfl,b0 _ _ hb⟩
   rename_i hk;rw[if_neg hk]
   split at h0
   ·cases h0
   rename_i hp;rw[if_neg hp]
   cases ht:r.bm n with
   |none=>rw[ht]at h0;cases h0
   |some p=>
    obtain⟨x,r'⟩:=p;rw[ht]at h0;simp only at h0⊢
    split at h0
    ·cases h0
    rename_i h6;rw[if_neg h6];have hc:=aR r.cells n;have c0:=aR r.am n;unfold RS.bm at ht
    split at ht
    ·simp only[Option.some.injEq,Prod.mk.injEq]at ht
     obtain⟨rfl,rfl⟩:=ht;exact⟨h.put hb (.inl ⟨rfl,by simp only[RS.nv];omega⟩) he rfl rfl,b0 _ _ hb⟩
    split at ht
    ·simp only[Option.some.injEq,Prod.mk.injEq]at ht
     obtain⟨rfl,rfl⟩:=ht;exact⟨h.put hb (.inl ⟨rfl,by simp only[RS.nv];omega⟩) he rfl rfl,b0 _ _ hb⟩
    split at ht
    ·cases ht
    rename_i h4;simp only[Option.some.injEq,Prod.mk.injEq]at ht;obtain⟨rfl,rfl⟩:=ht;have hF:=h.local hb n (by have:=h.lo;omega);exact⟨hF.put hb (.inl ⟨rfl,by simp[RS.nv]⟩) (he.mono (by simp[RS.nv])) rfl rfl,b0 _ _ hb⟩
def RS.eO.lK{r:RS}(h:r.eO)(w:List (List UInt8))(at_:Nat)(h0:(r.row w at_).1=0):(r.row w at_).2.eO:=by
 unfold RS.row at h0⊢
 split at h0
 ·cases h0
 rename_i h1;rw[if_neg h1]
 split at h0
 ·rename_i h2;rw[if_pos h2]
  refine h.mP ?_ w h0;rw[h2]at h1
  cases hb:r.ae with
  |false=>rfl
  |true=>exact absurd hb.symm h1
 rename_i h2;rw[if_neg h2];refine(h.mO ?_ at_ w h0).1
 cases hb:r.ae with
 |true=>rfl
 |false=>exact absurd ((by simpa using h2:cB (w.getD 0 [])=false).trans hb.symm) h1
def jq:∀(ls:List (List UInt8)) (r:RS) (i:Nat),r.eO->(rows r i ls).1=0->(rows r i ls).2.2.eO/\(rows r i ls).2.2.ae=true/\(rows r i ls).2.2.fr=[]/\(rows r i ls).2.1=0
 |[],r,i,h,h0=>by cases h0
 |[l],r,i,h,h0=>by
  rw[rows]at h0⊢
  split at h0
  ·rename_i h1;rw[if_pos h1]
   split at h0
   ·rename_i h2;rw[if_pos h2];exact⟨h,h2.1,h2.2,rfl⟩
   cases h0
  cases h0
 |l::m::ls,r,i,h,h0=>by
  rw[rows]at h0⊢
  split at h0
  ·cases h0
  rename_i h1;rw[if_neg h1]
  split at h0
  ·rename_i h2;exact absurd h0 h2
  rename_i h2;rw[if_neg h2];exact jq (m::ls) _ (i+1) (h.lK _ _ (by simpa using h2)) h0
structure aS.Ok(p:aS):Prop where
 ce:p.cells.length<=6
 ch:p.aj.length<=3
 lo:p.am<=4
 aX:aT (p.cells.length+p.am) p.aj.length 4 p.aX
def ee(s:List UInt8)(h0:(ak s).1=0):(ak s).2.2.Ok/\(ak s).2.1=0/\s.length<=1200:=by
 unfold ak at h0⊢
 by_cases hs:1200<s.length
 ·rw[if_pos hs]at h0;cases h0
 rw[if_neg hs]at h0⊢;obtain⟨h1,h2,h3,h4⟩:=jq _ RS.zero 0 lL h0;refine⟨⟨?_,?_,h1.lo,?_⟩,h4,by omega⟩
 ·show (rows RS.zero 0 (aE 10 s)).2.2.aZ.length<=6;rw[h1.cl];exact h1.ce
 ·show (rows RS.zero 0 (aE 10 s)).2.2.aY.length<=3;rw[h1.hl];exact h1.ch
 have:=h1.bC;unfold RS.nv at this;show aT ((rows RS.zero 0 (aE 10 s)).2.2.aZ.length+_) ((rows RS.zero 0 (aE 10 s)).2.2.aY.length) 4 _;rw[h1.cl,h1.hl];exact this
end Fl
open Go.RowKit
structure Vb(w:World)(Fb Pb Lb:Nat)(bD bF bv vv:Value)(S:Nat->Prop)(p:Fl.aS)(vs:List Int):Prop where
 hF:Fb<w.heap.size
 c0:w.cell? (Aq Fb 0)=some (Pq Pb)
 c1:w.cell? (Aq Fb 1)=some vv
 lv:LvIn w Pb Lb p
 p1:w.cell? (Aq Pb 1)=some bD
 p2:w.cell? (Aq Pb 2)=some bF
 p4:w.cell? (Aq Pb 4)=some bv
 ce:∃ao cap,bD=.slice ao p.cells.length cap
 ch:Zv w.heap.size w bF (p.aj.map λ(y:Nat)=>(y:Int))
 vi:Zv w.heap.size w vv vs
 bo:Zh 4 S w bv p.aX
 hS:∀b,S b->b<w.heap.size
 ok:Fl.dX p vs
 pk:p.Ok
def Vb.below{w w':World}{Fb Pb Lb:Nat}{bD bF bv vv:Value}{S:Nat->Prop}{p:Fl.aS}{vs:List Int}(h:Vb w Fb Pb Lb bD bF bv vv S p vs)(hb:Bq w w'):Vb w' Fb Pb Lb bD bF bv vv S p vs where
 hF:=Qj h.hF hb.size
 c0:=(hb.cell (p:=(Aq Fb 0)) h.hF).trans h.c0
 c1:=(hb.cell (p:=(Aq Fb 1)) h.hF).trans h.c1
 lv:=h.lv.below hb
 p1:=(hb.cell (p:=(Aq Pb 1)) h.lv.hz.1).trans h.p1
 p2:=(hb.cell (p:=(Aq Pb 2)) h.lv.hz.1).trans h.p2
 p4:=(hb.cell (p:=(Aq Pb 4)) h.lv.hz.1).trans h.p4
 ce:=h.ce
 ch:=(h.ch.below hb).mono hb.size
 vi:=(h.vi.below hb).mono hb.size
 bo:=Zh.kept (λ_ h=>h) (λb hs=>hb.block b (h.hS b hs)) _ _ _ h.bo
 hS:=λb hs=>Qj (h.hS b hs) hb.size
 ok:=h.ok
 pk:=h.pk
def zt6(S:Nat->Prop)(w:World)(v:Value)(s:Fl.aa):Prop:=
 ∃sb,v=Pq sb/\S sb/\w.cell? (Aq sb 0)=some (Iq s.kind)/\w.cell? (Aq sb 1)=some (Iq s.aq)/\w.cell? (Aq sb 2)=some (Iq s.x)
def zt6.kept{S':Nat->Prop}(h:zt6 S w v s)(hS:∀b,S b->S' b)(hw:∀b,S b->w'.heap[b]?=w.heap[b]?):zt6 S' w' v s:=by
 obtain⟨sb,e,h1,h2,h3,h4⟩:=h;have q:∀j,w'.cell? (Aq sb j)=w.cell? (Aq sb j):=λj=>Qc (a:=(Aq sb j)) (hw sb h1);exact⟨sb,e,hS _ h1,(q 0).trans h2,(q 1).trans h3,(q 2).trans h4⟩
def yz3(h:p.Lv)(hi:i<p.aj.length):∃k:Nat,k<p.n/\(p.aj.map λ(y:Nat)=>(y:Int)).getD i 0=(k:Int):=
 ⟨p.aj[i],h.ch _ (List.getElem_mem hi),by rw[Qa,List.getElem?_map,Qb hi];rfl⟩
def yty(h:Fl.dX p vs)(hi:i<vs.length):∃k:Nat,k<p.n/\vs.getD i 0=(k:Int):=⟨(vs.getD i 0).toNat,by have:=h.2 i hi;omega,by have:=h.2 i hi;omega⟩
section
def zt7(h:Vb w Fb Pb Lb bD bF bv vv S p vs)(he:zxz S w v e)(ho:Fl.cX vs.length e):
  Cq 150 #[Pq Fb,v] w λr w'=>r=.returned (Iq (Fl.br p vs e))/\Bq w w':=by
 have hF:=h.hF;have c0:=h.c0;have c1:=h.c1;have HS:Hid (∀W,Bq w W->Cl W Fb 0 (Pq Pb)/\Cl W Fb 1 vv):=λW hW=>⟨(h.below hW).c0,(h.below hW).c1⟩
 have HC:Hid (∀W,Bq w W->Cq 162 #[Pq Pb,v,vv] W λr w'=>r=.returned (Iq (Fl.br p vs e))/\Bq W w'):=λW hW=>
  yv8 (h.below hW).lv (h.below hW).vi h.ok.2 (h.below hW).hS (he.kept (λ_ h=>h) (λb hb=>hW.block b (h.hS b hb))) (ztw ho)
 generalize Fl.br p vs e=aV at*;clear h he ho
 go_enter func150,ntmps150
 go_wp2_with fail
 refine Zp HS dA [9] [] [] (by kernel_rfl) (λc a d v w h=>by cases d<;>exact h) (λops _=>?_)
 iterate 9 refine Zw rfl (by rintro _ ⟨_,_⟩;go_simp<;>rfl) (by go_simp<;>rfl) ?_
 refine Zt ?_
 go_wp2_with fail
 refine(HC _ dA).mono ?_;rintro e1 W1 ⟨rfl,a0⟩;have b0:Hid (Bq w W1):=dA.trans a0;clear a0
 go_wp2_with fail
 refine⟨HS _ b0,?_⟩;refine Zw rfl (by rintro _ ⟨_,_⟩;go_simp<;>rfl) (by go_simp<;>rfl) ?_;refine Zu ?_;go_wp2;go_ret;exact⟨rfl,b0⟩
def zb9(h:Vb w Fb Pb Lb bD bF bv vv S p vs)(hs:zt6 S w v s)(hx:s.x<=100):
  Cq 65 #[Pq Fb,v] w λr w'=>r=.returned (.bool (Fl.bU p s))/\Bq w w':=by
 obtain⟨sb,rfl,e0,k0,-,k2⟩:=hs;have hF:=h.hF;have c0:=h.c0;have p1:=h.p1;have hP:=h.lv.hz.1;have j0:p.cells.length<=6:=h.pk.ce;have cF:sb<w.heap.size:=h.hS sb e0;obtain⟨ao,cap,rfl⟩:=h.ce;obtain⟨nc,b0⟩:=nmE (p.cells.length)
 have HE:Hid (Fl.bU p s=(decide (s.kind=3) && decide (nc<=s.x))):=by show _=_;unfold Fl.bU;rw[b0]
 rw[<-b0]at p1 j0;obtain⟨aV,a0⟩:=nmE (Fl.bU p s);rw[<-a0]at HE⊢;obtain⟨kd,f0⟩:=nmE (s.kind);obtain⟨xx,g0⟩:=nmE (s.x);rw[<-f0]at k0 HE;rw[<-g0]at k2 HE hx;clear h b0 a0 f0 g0 e0
 have l0:(nc:Int)<=6:=by omega
 by_cases h3:kd=3
 ·have b3:((kd:Int)==3)=true:=by rw[h3];rfl
  rw[decide_eq_true h3,Bool.true_and]at HE;clear h3
  by_cases h0:nc<=xx
  ·have d0:(nc:Int)<=(xx:Int):=by omega
   rw[decide_eq_true h0]at HE
   go_enter func65,ntmps65
   go_wp2_with fail
   refine znx [(5,10)] (by kernel_rfl) (by kernel_rfl) rfl (λops hG=>?_);have g1:=hG (5,10) (by simp);simp only at g1;clear hG
   iterate 21 still_step
   refine wpStill_nil ?_;go_wp2;go_ret;exact⟨cbE HE,dA⟩
  have d0:¬(nc:Int)<=(xx:Int):=(by omega);have i0:(xx:Int)<(nc:Int):=(by omega);rw[decide_eq_false h0]at HE
  go_enter func65,ntmps65
  go_wp2_with fail
  refine znx [(5,10)] (by kernel_rfl) (by kernel_rfl) rfl (λops hG=>?_);have g1:=hG (5,10) (by simp);simp only at g1;clear hG
  iterate 21 still_step
  refine wpStill_nil ?_;go_wp2;go_ret;exact⟨cbE HE,dA⟩
 have b3:((kd:Int)==3)=false:=beq_eq_false_iff_ne.2 (by omega);rw[decide_eq_false h3,Bool.false_and]at HE;clear h3
 go_enter func65,ntmps65
 go_wp2_with fail
 refine znx [(5,10)] (by kernel_rfl) (by kernel_rfl) rfl (λops hG=>?_);have g1:=hG (5,10) (by simp);simp only at g1;clear hG
 iterate 21 still_step
 refine wpStill_nil ?_;go_wp2;go_ret;exact⟨cbE HE,dA⟩
def PlOk(p:Fl.aS)(vs:List Int)(s:Fl.aa):Prop:=(s.kind=3/\s.x<vs.length)\/(s.kind=4/\s.x<p.aj.length)
def zd5(h:Vb w Fb Pb Lb bD bF bv vv S p vs)(hs:zt6 S w v s)(lvl:Nat)(hl:lvl<p.n)(hk:PlOk p vs s):
  Cq 66 #[Pq Fb,.agg #[v,Iq lvl]] w λr w'=>r=.returned (.bool (Fl.bR p vs (s,(lvl:Int))))/\Bq w w':=by
 obtain⟨sb,rfl,f0,k0,-,k2⟩:=hs;have hF:=h.hF;have c0:=h.c0;have c1:=h.c1;have p0:=h.lv.p0;have p2:=h.p2;have hP:=h.lv.hz.1;have cF:sb<w.heap.size:=h.hS sb f0;obtain⟨W0,a0⟩:=nmE (w.alloc (.cells #[Pq sb,Iq lvl] 158))
 have e0:Hid (Bq w W0):=by show Below _ _ _;rw[a0];exact bA
 have t0:W0.cell? (Aq w.heap.size 0)=some (Pq sb):=by rw[a0];simp
 have t1:W0.cell? (Aq w.heap.size 1)=some (Iq lvl):=by rw[a0];simp
 have key:∀(k:Nat) (b off:Nat),k<p.n->b<w.heap.size->Cl w b (off+s.x) (Iq (k:Nat))->
   Hid (∀W,Bq W0 W->Cl W Fb 0 (Pq Pb)/\Cl W Pb 0 (Pq Lb)/\Cl W w.heap.size 0 (Pq sb)/\Cl W w.heap.size 1 (Iq lvl)/\Cl W sb 2 (Iq s.x)/\Cl W b (off+s.x) (Iq (k:Nat)))/\
   Hid (∀W,Bq W0 W->Cq 120 #[Pq Lb,Iq lvl,Iq (k:Nat)] W λe w'=>e=.returned (.bool (p.leq lvl k))/\w'=W):=λk b off b0 hb hc=>by
  have h0:W0.heap.size=w.heap.size+1:=(by rw[a0];simp);refine⟨λW hW=>?_,λW hW=>?_⟩
  ·have d0:Bq w W:=e0.trans (hW.mono (by omega))
   exact⟨(d0.cell (p:=(Aq Fb 0)) hF).trans c0,(d0.cell (p:=(Aq Pb 0)) hP).trans p0,(hW.cell (p:=(Aq w.heap.size 0)) (by show w.heap.size<_;omega)).trans t0,(hW.cell (p:=(Aq w.heap.size 1)) (by show w.heap.size<_;omega)).trans t1,(d0.cell (p:=(Aq sb 2)) cF).trans k2,(d0.cell (p:=(Aq b (off+s.x))) hb).trans hc⟩
  have d0:Bq w W:=e0.trans (hW.mono (by omega));exact yn8 (h.lv.below d0).la h.lv.lv.n6 lvl k hl b0
 rcases hk with⟨e3,hx⟩|⟨e4,hx⟩
 ·obtain⟨b,off,cap,rfl,q1,q2,q3,q4⟩:=zu9 h.vi hx
  obtain⟨k,b0,ek⟩:=yty h.ok hx;rw[ek]at q4;obtain⟨HS,HC⟩:=key k b off b0 q3 q4;have HR:Hid (Fl.bR p vs (s,(lvl:Int))=p.leq lvl k):=(by show _=_;unfold Fl.bR Fl.aL;simp only;rw[if_neg (by omega),ek];rfl);have g0:(s.x:Int)<(vs.length:Int):=(by omega);generalize p.leq lvl k=aV at*;have b4:((s.kind:Int)==4)=false:=beq_eq_false_iff_ne.2 (by omega);rw[HR.out];generalize s.x=xx at*;generalize s.kind=kd at*;clear h f0 key HR e3 hx ek b0 q1 q2 hl
  go_enter func66,ntmps66
  go_wp2_with fail
  rw[<-a0];clear a0 c0 c1 p0 p2 k2 q4 k0 t0 t1;refine Zp HS dA [17] [] [] (by kernel_rfl) (λc a d v w h=>by cases d<;>exact h) (λops _=>?_)
  iterate 17 refine Zw rfl (by rintro _ ⟨_,_,_,_,_,_⟩;go_simp<;>rfl) (by go_simp<;>rfl) ?_
  refine Zt ?_
  go_wp2_with fail
  refine(HC _ dA).mono ?_;rintro e1 W1 ⟨rfl,rfl⟩
  go_wp2_with fail
  refine⟨HS _ dA,?_⟩;refine Zw rfl (by rintro _ ⟨_,_,_,_,_,_⟩;go_simp<;>rfl) (by go_simp<;>rfl) ?_;refine Zu ?_;go_wp2;go_ret;exact⟨rfl,e0.drew⟩
 obtain⟨b,off,cap,rfl,q1,q2,q3,q4⟩:=zu9 h.ch (i:=s.x) (by simpa using hx);obtain⟨k,b0,ek⟩:=yz3 h.lv.lv hx;rw[ek]at q4;obtain⟨HS,HC⟩:=key k b off b0 q3 q4
 have HR:Hid (Fl.bR p vs (s,(lvl:Int))=p.leq lvl k):=by show _=_;unfold Fl.bR Fl.aL;simp only;rw[if_pos e4,ek];rfl
 have g0:(s.x:Int)<((p.aj.map λ(y:Nat)=>(y:Int)).length:Int):=by simp;omega
 generalize p.leq lvl k=aV at*
 have b4:((s.kind:Int)==4)=true:=by rw[e4];rfl
 rw[HR.out];generalize s.x=xx at*;generalize s.kind=kd at*;generalize (p.aj.map λ(y:Nat)=>(y:Int)).length=ln at*;clear h f0 key HR e4 hx ek b0 q1 q2 hl
 go_enter func66,ntmps66
 go_wp2_with fail
 rw[<-a0];clear a0 c0 c1 p0 p2 k2 q4 k0 t0 t1;refine Zp HS dA [17] [] [] (by kernel_rfl) (λc a d v w h=>by cases d<;>exact h) (λops _=>?_)
 iterate 17 refine Zw rfl (by rintro _ ⟨_,_,_,_,_,_⟩;go_simp<;>rfl) (by go_simp<;>rfl) ?_
 refine Zt ?_
 go_wp2_with fail
 refine(HC _ dA).mono ?_;rintro e1 W1 ⟨rfl,rfl⟩
 go_wp2_with fail
 refine⟨HS _ dA,?_⟩;refine Zw rfl (by rintro _ ⟨_,_,_,_,_,_⟩;go_simp<;>rfl) (by go_simp<;>rfl) ?_;refine Zu ?_;go_wp2;go_ret;exact⟨rfl,e0.drew⟩
end
def Tryz.infoMove:(Tryz.prog.info? 158).map (λi=>(i.zero,i.size,i.bytes))=some (some (.agg #[.pointer none,Iq 0]),2,16):=by kernel_rfl
def zl7{e:TypeId}{n:Nat}{xs:List Value}(h:w.ownsRow base e k v n xs)(hb:Bq w w'):w'.ownsRow base e k v n xs:=by
 have og:w.grownBy w' none:=⟨hb.os,hb.tape,hb.output,hb.size,λk hk _=>hb.block k hk⟩;exact h.kept og (by cases v.ownBlock<;>simp)
def mvC:List (Value×Int)->List Value
 |[]=>[]
 |q::l=>q.1:: Iq q.2::mvC l
def ytx:∀(l:List (Value×Int)),(mvC l).length=l.length*2
 |[]=>rfl
 |_::l=>by simp only[mvC,List.length_cons,ytx l];omega
def zh3:∀(l m:List (Value×Int)),mvC (l++m)=mvC l++mvC m
 |[],_=>rfl
 |_::l,m=>by simp only[List.cons_append,mvC,zh3 l m]
def yz4:∀(l:List (Value×Int)) (i:Nat) (q:Value×Int),l[i]?=some q->(mvC l)[i*2]?=some q.1/\(mvC l)[i*2+1]?=some (Iq q.2)
 |[],_,_,h=>by cases h
 |q::l,0,q',h=>by cases h;exact⟨rfl,rfl⟩
 |q::l,i+1,q',h=>by
  have:=yz4 l i q' (by simpa using h);rw[show (i+1)*2=i*2+1+1 from by omega];exact this
def MvR(S:Nat->Prop)(w:World):List (Value×Int)->List (Fl.aa×Int)->Prop
 |[],[]=>True
 |q::qs,m::ms=>(q.2=m.2/\zt6 S w q.1 m.1)/\MvR S w qs ms
 |_,_=>False
def MvR.len{S:Nat->Prop}{w:World}:∀{qs:List (Value×Int)} {ms:List (Fl.aa×Int)},MvR S w qs ms->qs.length=ms.length
 |[],[],_=>rfl
 |_::_,_::_,h=>by simp only[List.length_cons,MvR.len h.2]
def MvR.append{S:Nat->Prop}{w:World}:∀{qs:List (Value×Int)} {ms:List (Fl.aa×Int)} {qs':List (Value×Int)} {ms':List (Fl.aa×Int)},MvR S w qs ms->MvR S w qs' ms'->MvR S w (qs++qs') (ms++ms')
 |[],[],_,_,_,h=>h
 |_::_,_::_,_,_,h,h'=>⟨h.1,MvR.append h.2 h'⟩
def MvR.kept{S:Nat->Prop}{w w':World}(hw:∀b,S b->w'.heap[b]?=w.heap[b]?):∀{qs:List (Value×Int)} {ms:List (Fl.aa×Int)},MvR S w qs ms->MvR S w' qs ms
 |[],[],_=>trivial
 |_::_,_::_,h=>⟨⟨h.1.1,h.1.2.kept (λ_ h=>h) hw⟩,MvR.kept hw h.2⟩
def MvR.one{S:Nat->Prop}{w:World}:∀{qs:List (Value×Int)} {ms:List (Fl.aa×Int)},MvR S w qs ms->∀u∈mvC qs,u.oneCell'=true
 |[],[],_,_,h=>by cases h
 |q::_,_::_,h,u,hu=>by
  simp only[mvC,List.mem_cons]at hu;rcases hu with rfl|rfl|hu
  ·obtain⟨sb,e,-⟩:=h.1.2;rw[e];rfl
  ·rfl
  exact MvR.one h.2 u hu
def MvR.get{S:Nat->Prop}{w:World}:∀{qs:List (Value×Int)} {ms:List (Fl.aa×Int)},MvR S w qs ms->∀(i:Nat) (m:Fl.aa×Int),ms[i]?=some m->∃q,qs[i]?=some q/\q.2=m.2/\zt6 S w q.1 m.1
 |[],[],_,_,_,h=>by cases h
 |q::_,_::_,h,0,m,hm=>by cases hm;exact⟨q,rfl,h.1.1,h.1.2⟩
 |_::_,_::_,h,i+1,m,hm=>by
  obtain⟨q,h1,h2⟩:=MvR.get h.2 i m (by simpa using hm);exact⟨q,by simpa using h1,h2⟩
def Ut(S:Nat->Prop)(base:Nat)(w:World)(v:Value)(ms:List (Fl.aa×Int)):Prop:=
 ∃qs,w.ownsRow base 158 2 v ms.length (mvC qs)/\MvR S w qs ms/\(ms=[]->v=Zq)
def Ut.nil(S:Nat->Prop)(base:Nat)(w:World):Ut S base w Zq []:=⟨[],World.ownsRow_nil _ _ _ _,trivial,λ_=>rfl⟩
def Ut.aM{ms:List (Fl.aa×Int)}(h:Ut S base w v ms)(hb:Bq w w')(hS:∀b,S b->b<w.heap.size):Ut S base w' v ms:=by
 obtain⟨qs,h1,h2,h3⟩:=h;exact⟨qs,zl7 h1 hb,h2.kept (λb hs=>hb.block b (hS b hs)),h3⟩
def Ut.lt{S:Nat->Prop}{base:Nat}{w:World}{v:Value}{ms:List (Fl.aa×Int)}(h:Ut S base w v ms):∀g,v.ownBlock=some g->base<=g:=by
 obtain⟨qs,h1,-⟩:=h;exact λg hg=>(h1.lt g hg).1
def Ut.push{v':Value}{ms ms':List (Fl.aa×Int)}{qs qs':List (Value×Int)}(hS:∀b,S b->b<base)(hb:base<=w.heap.size)(h1:w.ownsRow base 158 2 v ms.length (mvC qs))(h2:MvR S w qs ms)(h3:MvR S w qs' ms')(a0:ms'≠[])
  (ho:w'.ownsRow base 158 2 v' (ms.length+ms'.length) (mvC qs++mvC qs')) (hg:w.grownBy w' v.ownBlock):Ut S base w' v' (ms++ms'):=by
 have hk:∀b,S b->w'.heap[b]?=w.heap[b]?:=λb hs=>hg.block b (by have:=hS b hs;omega) (λhh=>by have:=(h1.lt b hh.symm).1;have:=hS b hs;omega);refine⟨qs++qs',by rw[List.length_append,zh3];exact ho,(h2.kept hk).append (h3.kept hk),λh=>?_⟩;exact absurd (List.append_eq_nil_iff.1 h).2 a0
section
def zs4(a0:o.guard=none)(s x:Operand)
  (ho:o.op=.call {callee:=.builtin .append,args:=#[s,x],argTypes:=#[154,154]})  {base':Nat} (hS:∀b,S b->b<base) (hb:base<=w.heap.size)
  {v2:Value} {ms ms':List (Fl.aa×Int)} (hs:a.eval s=v) (hx:a.eval x=v2) (h1:Ut S base w v ms) (h2:Ut S base' w v2 ms') (hl:ms.length+ms'.length<=4000000)
  (h:∀v' w',Ut S base w' v' (ms++ms')->w.grownBy w' v.ownBlock->wpList prog ops Q rest (a.put o.dst v') w'):wpList prog ops Q (o::rest) a w:=by
 obtain⟨i0,b0,c0,d0,e0⟩:=info_parts Tryz.infoMove;obtain⟨qs,k1,k2,k3⟩:=h1;obtain⟨qs',m1,m2,m3⟩:=h2
 by_cases he:ms'=[]
 ·subst he
  refine wpList_append_own_none a0 s x 154 ho base 158 i0 2 underlying154 b0 v _ _ hs k1 (hx.trans (m3 rfl)) (h v w (by rw[List.append_nil];exact⟨qs,k1,k2,k3⟩) ?_);exact World.grownBy.refl _ _
 rcases id m1.2 with⟨rfl,h0⟩|⟨g,cap,cur,rfl,hg,-⟩
 ·exact absurd (Qi h0) he
 refine Zj _ a0 s x 154 ho base 158 i0 (.agg #[.pointer none,Iq 0]) 2 16 underlying154 b0 c0 d0 e0 rfl (by decide) v _ _ hs k1 (Aq g 0) ms'.length cap (mvC qs') hx (by rw[ytx,m2.len]) (by have:ms'.length≠0:=λh=>he (Qi h);omega) (λj u hj=>m1.cells (g:=g) rfl j u hj) m2.one (by unfold maxLen;omega) (by omega) hb (λv' w' o1 o2 _=>h v' w' (Ut.push hS hb k1 k2 m2 he o1 o2) o2)
def yz5{e:TypeId}{l:List Value}:∀j u,l[j]?=some u->(w.alloc (.cells l.toArray e)).cell? (((Aq w.heap.size 0):Addr).add j)=some u:=by
 intro j u hj
 have h2:((Aq w.heap.size 0):Addr).add j=(Aq w.heap.size j):=by unfold Addr.add;split<;>simp_all
 rw[h2,World.cell?_alloc_new];simpa using hj
def zlw(b0:o.guard=none)(s x:Operand)
  (ho:o.op=.call {callee:=.builtin .append,args:=#[s,x],argTypes:=#[154,154]})   (hS:∀b,S b->b<base) (hb:base<=w.heap.size)
   {ms:List (Fl.aa×Int)} (pv:Value) (st:Fl.aa) (lv:Int) (hs:a.eval s=v) (hx:a.eval x=.slice (some (Aq w.heap.size 0)) 1 1) (h1:Ut S base w v ms) (h2:zt6 S w pv st) (hl:ms.length<=4000000)
  (h:∀v' w',Ut S base w' v' (ms++[(st,lv)])->(w.alloc (.cells #[pv,Iq lv] 158)).grownBy w' v.ownBlock->wpList prog ops Q rest (a.put o.dst v') w'):wpList prog ops Q (o::rest) a (w.alloc (.cells #[pv,Iq lv] 158)):=by
 obtain⟨i0,c0,d0,e0,f0⟩:=info_parts Tryz.infoMove;have a0:Bq w (w.alloc (.cells #[pv,Iq lv] 158)):=bA;obtain⟨qs,k1,k2,k3⟩:=h1.aM a0 (λb hs=>by have:=hS b hs;omega);have h3:MvR S (w.alloc (.cells #[pv,Iq lv] 158)) [(pv,lv)] [(st,lv)]:=⟨⟨rfl,h2.kept (λ_ h=>h) (λb hs=>a0.block b (by have:=hS b hs;omega))⟩,trivial⟩
 have hz:base<=(w.alloc (.cells #[pv,Iq lv] 158)).heap.size:=by simp;omega
 refine Zj _ b0 s x 154 ho base 158 i0 (.agg #[.pointer none,Iq 0]) 2 16 underlying154 c0 d0 e0 f0 rfl (by decide) v _ _ hs k1 (Aq w.heap.size 0) 1 1 [pv,Iq lv] hx rfl (by decide) yz5 (h3.one) (by unfold maxLen;omega) (by omega) hz (λv' w' o1 o2 _=>h v' w' (Ut.push hS hz k1 k2 h3 (by simp) o1 o2) o2)
end
namespace Fl
def Small:Nat->List aa->Prop
 |0,l=>l=[]
 |d+1,l=>l.length<=16/\∀s∈l,Small d s.aX/\Small d s.aJ
def fM{f:aa->List (aa×Int)}{c:Nat}:∀(l:List aa),(∀s∈l,(f s).length<=c)->(l.flatMap f).length<=l.length*c
 |[],_=>by simp
 |s::l,h=>by
  have h1:=h s (by simp);have h2:=fM l (λx hx=>h x (by simp[hx]));rw[List.flatMap_cons,List.length_append,List.length_cons,Nat.succ_mul];omega
def gg{p:aS}{K:List aa->Int->List (aa×Int)}{c:Nat}(s:aa)(u:Int)(h1:∀u,(K s.aX u).length<=c)(h2:∀u,(K s.aJ u).length<=c):(aI K p vs u s).length<=1+2*c:=by
 unfold aI
 split
 ·simp
 split
 ·rw[List.length_append]
  have:=h1 (jn p u (br p vs s.e));have:=h2 (jn p u (br p vs s.e));omega
 simp
def eU(p:aS)(vs:List Int):∀(d:Nat) (l:List aa) (u:Int),Small d l->(bz p vs d l u).length<=48 ^ d
 |0,_,_,_=>by simp[bz]
 |d+1,l,u,h=>by
  have hp:0<48 ^ d:=Nat.pow_pos (by decide)
  have h1:∀s∈l,(aI (bz p vs d) p vs u s).length<=3*48 ^ d:=λs hs=>by
   have:=gg (p:=p) (vs:=vs) (c:=48 ^ d) s u (λu=>eU p vs d _ u (h.2 s hs).1) (λu=>eU p vs d _ u (h.2 s hs).2);omega
  have h2:=fM l h1;have h3:l.length*(3*48 ^ d)<=16*(3*48 ^ d):=Nat.mul_le_mul_right _ h.1;rw[Nat.pow_succ];show (l.flatMap _).length<=_;omega
def kF{f:aa->List (aa×Int)}{l:List aa}(h:k<l.length):(l.take (k+1)).flatMap f=(l.take k).flatMap f++f (l.getD k noS):=by
 rw[List.take_succ_eq_append_getElem h,List.flatMap_append,Qa,Qb h];simp
end Fl
def Zh.small{S:Nat->Prop}{w:World}:∀(d:Nat) (v:Value) (l:List Fl.aa),Zh d S w v l->Fl.Small d l
 |0,_,_,h=>h.1
 |d+1,v,l,h=>by
  obtain⟨ao,cap,-,-,-,a0,hc⟩:=h;refine⟨a0,λs hs=>?_⟩;obtain⟨i,hi,rfl⟩:=List.getElem_of_mem hs;obtain⟨b,off,-,-,h1⟩:=hc (by intro e;rw[e]at hi;cases hi);obtain⟨p,-,sb,vp,fv,ev,-,-,-,-,h2,h3⟩:=h1 i hi;rw[Qa,Qb hi]at h2 h3;exact⟨Zh.small d _ _ h2,Zh.small d _ _ h3⟩
def zxy(S:Nat->Prop)(w:World)(ms:List (Fl.aa×Int))(e:Ending)(w':World):Prop:=∃v,e=.returned v/\Ut S w.heap.size w' v ms/\Bq w w'
def zv7(h:p.Lv)(ok:Fl.dX p vs)(ho:Fl.cX vs.length e):∃k:Nat,k<p.n/\Fl.br p vs e=(k:Int):=by
 have hv:=ztw ho;obtain⟨a,ha,ea⟩:=zy5 h ok.2 hv.1;unfold Fl.br
 by_cases h0:e.op<0
 ·rw[if_pos h0];exact⟨a,ha,ea⟩
 rw[if_neg h0];obtain⟨b,hb,eb⟩:=zy5 h ok.2 (hv.2 (by omega));obtain⟨k,h1,h2⟩:=h.join ha hb;exact⟨k,h1,by unfold Fl.jn;rw[ea,eb];exact h2⟩
section
def yz6(d:Nat)(hd:d<=3)(IH:∀W,Bq w W->∀(v:Value) (l:List Fl.aa) (u:Nat),Zh d S W v l->Fl.aT vs.length p.aj.length d l->u<p.n->Cq 119 #[Pq Fb,v,Iq u] W (zxy S W (Fl.bz p vs d l u)))
  (h:Vb w Fb Pb Lb bD bF bv vv S p vs) (v:Value) (l:List Fl.aa) (u:Nat) (hl:Zh (d+1) S w v l) (ho:Fl.aT vs.length p.aj.length (d+1) l) (hu:u<p.n):
  Cq 119 #[Pq Fb,v,Iq u] w (zxy S w (Fl.bz p vs (d+1) l u)):=by
 have D0:=Zh.small _ _ _ hl;have L0:48 ^ d<=110592:=by
  have:d=0\/d=1\/d=2\/d=3:=by omega
  rcases this with rfl|rfl|rfl|rfl<;>decide
 have l0:∀s∈l,(Fl.aI (Fl.bz p vs d) p vs u s).length<=221185:=λs hs=>by
  have:=Fl.gg (p:=p) (vs:=vs) (c:=48 ^ d) s u (λu=>Fl.eU p vs d _ u (D0.2 s hs).1) (λu=>Fl.eU p vs d _ u (D0.2 s hs).2);omega
 have H1:=D0.1
 have m0:Hid (∀k,((l.take k).flatMap (Fl.aI (Fl.bz p vs d) p vs u)).length<=3538960):=λk=>by
  have h1:=Fl.fM (l.take k) (λs hs=>l0 s (List.mem_of_mem_take hs));have h2:(l.take k).length<=16:=(by rw[List.length_take];omega);have h3:(l.take k).length*221185<=16*221185:=Nat.mul_le_mul_right _ h2;omega
 have M0:Hid (Fl.bz p vs (d+1) l u=(l.take l.length).flatMap (Fl.aI (Fl.bz p vs d) p vs u)):=by show _=_;rw[List.take_length];rfl
 obtain⟨ao,cap,rfl,t1,u1,-,n0⟩:=id hl;have o0:=Zz n0;have HH:=Zz h;have N0:=Zz IH;have HO:=Zz ho
 have I1:(l.length:Int)<=16:=by omega
 unfold maxLen at u1;clear h IH ho n0 hl l0 L0 D0
 go_enter func119,ntmps119
 go_wp2
 go_loopw [7,13] (λv i wr=>∃(k:Nat),k<=l.length/\i=Iq k/\Ut S w.heap.size wr v ((l.take k).flatMap (Fl.aI (Fl.bz p vs d) p vs u))/\Bq w wr) (λ_ i _=>l.length - (intOf i).toNat)
 case atStart=>exact⟨0,by omega,rfl,Ut.nil _ _ _,Below.refl _ _⟩
 case round=>
  obtain⟨k,hk,rfl,E0,a0⟩:=hrel
  by_cases h0:k<l.length
  ·obtain⟨b,off,rfl,X0,i0⟩:=o0 (by intro e;rw[e]at h0;cases h0)
   obtain⟨pv,Y0,cG⟩:=i0 k h0;obtain⟨s,hs⟩:=nmE (l.getD k noS);have dW:s∈l:=(by rw[hs,Qa,Qb h0];exact List.getElem_mem h0);have q0:Hid ((l.take (k+1)).flatMap (Fl.aI (Fl.bz p vs d) p vs u)=(l.take k).flatMap (Fl.aI (Fl.bz p vs d) p vs u)++Fl.aI (Fl.bz p vs d) p vs u s):=(by rw[hs];exact Fl.kF h0);rw[<-hs]at cG;obtain⟨sb,vp,fv,ev,rfl,O0,e0,t0,Z0,a1⟩:=cG;obtain⟨j0,b0,u0,v0⟩:=HO s dW;have hbz:b<w.heap.size:=HH.hS b X0;have cF:sb<w.heap.size:=HH.hS sb O0;have P0:=a0.size;have q:∀j,wr.cell? (Aq sb j)=w.cell? (Aq sb j):=λj=>a0.cell (p:=(Aq sb j)) cF;have f0:Cl wr b (off+k) (Pq sb):=(a0.cell (p:=(Aq b (off+k))) hbz).trans Y0;have s0:Cl wr sb 0 (Iq s.kind):=(q 0).trans (e0.c 0 (by omega));have k5:Cl w sb 5 ev:=e0.c 5 (by omega);have s3:Cl wr sb 3 vp:=(q 3).trans (e0.c 3 (by omega));have s4:Cl wr sb 4 fv:=(q 4).trans (e0.c 4 (by omega));have s5:Cl wr sb 5 ev:=(q 5).trans (e0.c 5 (by omega));have v1:Hid (zt6 S w (Pq sb) s):=⟨sb,rfl,O0,e0.c 0 (by omega),e0.c 1 (by omega),e0.c 2 (by omega)⟩;have HR:Hid (Vb wr Fb Pb Lb bD bF bv vv S p vs):=HH.below a0;obtain⟨vl,Q0,evl⟩:=zv7 HH.lv.lv HH.ok b0;obtain⟨lv,b1,elv⟩:=HH.lv.lv.join hu Q0;have F0:Hid (Fl.jn p u (Fl.br p vs s.e)=(lv:Int)):=(by show _=_;unfold Fl.jn;rw[evl];exact elv);have c0:=HR.c0;have p0:=HR.lv.p0;have hF:=HR.hF;have hP:=HR.lv.hz.1;have HS:Hid (∀W,Bq wr W->Cl W Fb 0 (Pq Pb)/\Cl W Pb 0 (Pq Lb)/\Cl W sb 3 vp):=λW hW=>⟨(hW.cell (p:=(Aq Fb 0)) hF).trans c0,(hW.cell (p:=(Aq Pb 0)) hP).trans p0,(hW.cell (p:=(Aq sb 3)) (by show sb<_;omega)).trans s3⟩
   have c1:Hid (∀W,Bq wr W->Cq 150 #[Pq Fb,vp] W λr w'=>r=.returned (Iq (vl:Nat))/\Bq W w'):=λW hW=>by
    have x1:Bq w W:=a0.trans (hW.mono P0);have:=zt7 (HR.below hW) (t0.kept (λ_ h=>h) (λb hb=>x1.block b (HH.hS b hb))) b0;rw[evl]at this;exact this
   have HJ:Hid (∀W,Bq wr W->Cq 67 #[Pq Lb,Iq u,Iq vl] W λr w'=>r=.returned (Iq (lv:Nat))/\w'=W):=λW hW=>by
    have:=zp8 (HR.lv.below hW).la HH.lv.lv.n6 u vl hu Q0;rw[elv]at this;exact this
   have G0:Hid (∀W,Bq w W->Zh d S W fv s.aX/\Zh d S W ev s.aJ):=λW hW=>⟨Zh.kept (λ_ h=>h) (λb hb=>hW.block b (HH.hS b hb)) _ _ _ Z0,Zh.kept (λ_ h=>h) (λb hb=>hW.block b (HH.hS b hb)) _ _ _ a1⟩;have H0:Hid (Fl.aT vs.length p.aj.length d s.aX/\Fl.aT vs.length p.aj.length d s.aJ):=⟨u0,v0⟩;have k0:=Zz HH.hS;have d1:=Zz E0;have y1:(k:Int)<(l.length:Int):=(by omega);have f1:=Zz h0;clear i0 Y0 X0 e0 t0 Z0 a1 u0 v0 b0 dW E0 evl elv q hs O0 h0
   go_wp2_with fail
   refine Zp HS dA [13,14] [] [] (by kernel_rfl) (λc a d v w h=>by cases d<;>exact h) (λops _=>?_)
   iterate 13 refine Zw rfl (by rintro _ ⟨_,_,_⟩;go_simp<;>rfl) (by go_simp<;>rfl) ?_
   refine Zt ?_
   go_wp2_with fail
   refine(c1 _ dA).mono ?_;rintro e1 W9 ⟨rfl,g1⟩;have g0:Hid (Bq wr W9):=dA.trans g1;clear g1
   go_wp2_with fail
   refine⟨HS _ g0,?_⟩;refine Zt ?_
   go_wp2_with fail
   refine(HJ _ g0).mono ?_;rintro e2 W1 ⟨rfl,rfl⟩
   go_wp2_with fail
   refine⟨HS _ g0,?_⟩;refine Zw rfl (by rintro _ ⟨_,_,_⟩;go_simp<;>rfl) (by go_simp<;>rfl) ?_;refine Zu ?_;have x0:Hid (Bq w W1):=a0.trans (g0.mono P0);have I0:w.heap.size<=W1.heap.size:=x0.size;have y0:Hid (Ut S w.heap.size W1 u7 ((l.take k).flatMap (Fl.aI (Fl.bz p vs d) p vs u))):=d1.aM g0 (λb hb=>Qj (k0 b hb) P0);have r0:Cl W1 sb 0 (Iq s.kind):=(g0.cell (p:=(Aq sb 0)) (by show sb<_;omega)).trans s0;have r4:Cl W1 sb 4 fv:=(g0.cell (p:=(Aq sb 4)) (by show sb<_;omega)).trans s4;have r5:Cl W1 sb 5 ev:=(g0.cell (p:=(Aq sb 5)) (by show sb<_;omega)).trans s5;have z1:Hid (∀W,Bq w W->Cl W sb 5 ev):=λW hW=>(hW.cell (p:=(Aq sb 5)) cF).trans k5;clear s0 s3 s4 s5 c0 p0 f0 k5 c1 HJ HS g0 HR d1 hF hP Q0 o0 HH
   have A1:(s.kind=3\/s.kind=4)\/(s.kind=5\/s.kind=6):=by rcases j0 with h|h|h|h<;>omega
   clear j0;rcases A1 with i1|j1
   ·have HM:Hid (Fl.aI (Fl.bz p vs d) p vs u s=[(s,(lv:Int))]):=by show _=_;unfold Fl.aI;rw[if_pos i1,F0.out]
    have B1:=m0 k;rcases i1 with h3|h4
    all_goals
     first|(rw[h3]at r0;clear h3)|(rw[h4]at r0;clear h4)
     go_wp2_with (at_builtin;refine zlw rfl (.tmp 39) (.tmp 43) rfl k0 I0 (Pq sb) s (lv:Int) rfl rfl y0 (v1.kept (λ_ h=>h) (λb hb=>x0.block b (k0 b hb))) (by omega) ?_)
     intro v' W2 z0 k1;have C1:Bq w W2:=(x0.alloc I0 _).grown k1 (by simp;omega) (λg hg=>y0.lt g hg);have d0:Ut S w.heap.size W2 v' ((l.take (k+1)).flatMap (Fl.aI (Fl.bz p vs d) p vs u)):=(by rw[q0.out,HM.out];exact z0);have J0:=Zz d0;clear z0 d0 k1 HM y0 q0 B1 r0 r4 r5 G0 H0 F0;go_wp2
     go_roundw
     case rel=>exact⟨k+1,by have:=f1.out;omega,by go_num,J0,C1⟩
     case measure=>simp[intOf];omega
   obtain⟨m1,R0⟩:=nmE (Fl.bz p vs d s.aX lv);obtain⟨m2,S0⟩:=nmE (Fl.bz p vs d s.aJ lv);have HM:Hid (Fl.aI (Fl.bz p vs d) p vs u s=m1++m2):=(by show _=_;unfold Fl.aI;rw[if_neg (by omega),if_pos j1,F0.out,R0,S0]);have l1:Hid (((l.take k).flatMap (Fl.aI (Fl.bz p vs d) p vs u)).length+(m1.length+m2.length)<=3538960):=by
    have:=m0 (k+1);rw[q0.out,HM.out,List.length_append,List.length_append]at this;exact this
   have D1:Hid (∀W,Bq w W->Cq 119 #[Pq Fb,fv,Iq lv] W (zxy S W m1)):=λW hW=>by rw[R0];exact N0 W hW fv s.aX lv (G0 W hW).1 H0.1 b1
   have E1:Hid (∀W,Bq w W->Cq 119 #[Pq Fb,ev,Iq lv] W (zxy S W m2)):=λW hW=>by rw[S0];exact N0 W hW ev s.aJ lv (G0 W hW).2 H0.2 b1
   generalize hms:(l.take k).flatMap (Fl.aI (Fl.bz p vs d) p vs u)=ms at*;clear R0 S0 G0 H0 F0 N0 r5;rcases j1 with h5|h6
   all_goals
    first|(rw[h5]at r0;clear h5)|(rw[h6]at r0;clear h6)
    go_wp2_with fail
    refine(D1 _ x0).mono ?_;rintro e W2 ⟨v2,rfl,hA,hB⟩;have HA:=Zz hA;have T0:Hid (Bq w W2):=x0.trans (hB.mono I0);have n1:w.heap.size<=W2.heap.size:=T0.size;have U0:Hid (Ut S w.heap.size W2 u7 ms):=y0.aM hB (λb hb=>Qj (k0 b hb) I0);have o1:ms.length+m1.length<=4000000:=(by have:=l1.out;omega);clear hA hB y0
    go_wp2_with (at_builtin;refine zs4 rfl (.tmp 48) (.tmp 55) rfl k0 n1 rfl rfl U0 HA o1 ?_)
    intro v3 W3 d0 A0;have K0:Hid (Bq w W3):=T0.grown A0 (by omega) (λg hg=>U0.lt g hg);have p1:w.heap.size<=W3.heap.size:=K0.size;have J0:=Zz d0;have r5:Cl W3 sb 5 ev:=z1 _ K0.out;clear d0 A0 U0 HA T0 n1 o1 r4
    go_wp2_with fail
    refine(E1 _ K0).mono ?_;rintro e W4 ⟨v4,rfl,hA,hB⟩;have HA:=Zz hA;have V0:Hid (Bq w W4):=K0.trans (hB.mono p1);have q1:w.heap.size<=W4.heap.size:=V0.size;have W0:Hid (Ut S w.heap.size W4 v3 (ms++m1)):=J0.aM hB (λb hb=>Qj (k0 b hb) p1);have r1:(ms++m1).length+m2.length<=4000000:=(by have:=l1.out;rw[List.length_append];omega);clear hA hB J0 r5
    go_wp2_with (at_builtin;refine zs4 rfl (.tmp 57) (.tmp 64) rfl k0 q1 rfl rfl W0 HA r1 ?_)
    intro v5 W5 B0 C0;have F1:Bq w W5:=V0.grown C0 (by omega) (λg hg=>W0.lt g hg);have G1:Hid (Ut S w.heap.size W5 v5 ((l.take (k+1)).flatMap (Fl.aI (Fl.bz p vs d) p vs u))):=(by rw[q0.out,HM.out];exact B0);clear B0 C0 HM W0 q0 HA V0 q1 r1 r0;go_wp2
    go_roundw
    case rel=>exact⟨k+1,by have:=f1.out;omega,by go_num,G1,F1⟩
    case measure=>simp[intOf];omega
  have s1:k=l.length:=(by omega);have HF:Hid (Ut S w.heap.size wr u7 ((l.take l.length).flatMap (Fl.aI (Fl.bz p vs d) p vs u))):=(by rw[<-s1];exact E0);clear E0 s1;go_wp2;go_ret;exact⟨_,rfl,by rw[M0.out];exact HF.out,a0⟩
def yz7(u:Nat):Cq 119 #[Pq Fb,Zq,Iq u] w (zxy S w []):=by
 go_enter func119,ntmps119
 go_wp2
 go_loopw [7,13] (λv i wr=>i=Iq 0/\v=Zq/\wr=w) (λ_ i _=>0)
 case atStart=>exact⟨rfl,rfl,rfl⟩
 case round=>
  obtain⟨rfl,rfl,rfl⟩:=hrel;go_wp2;go_ret;exact⟨_,rfl,Ut.nil _ _ _,Below.refl _ _⟩
def zk1:∀(d:Nat),d<=4->∀(w:World),Vb w Fb Pb Lb bD bF bv vv S p vs->∀(v:Value) (l:List Fl.aa) (u:Nat),Zh d S w v l->Fl.aT vs.length p.aj.length d l->u<p.n->
  Cq 119 #[Pq Fb,v,Iq u] w (zxy S w (Fl.bz p vs d l u))
 |0,_,w,_,v,l,u,hl,_,_=>by
  obtain⟨rfl,rfl⟩:=hl;exact yz7 u
 |d+1,hd,w,h,v,l,u,hl,ho,hu=>yz6 d (by omega) (λW hW v l u a b c=>zk1 d (by omega) W (h.below hW) v l u a b c) h v l u hl ho hu
def zd6(h:Vb w Fb Pb Lb bD bF bv vv S p vs):Cq 64 #[Pq Fb] w (zxy S w (Fl.bz p vs 4 p.aX (Fl.aM p))):=by
 have hF:=h.hF;have hP:=h.lv.hz.1;have HS:Hid (∀W,Bq w W->Cl W Fb 0 (Pq Pb)/\Cl W Pb 4 bv/\Cl W Pb 0 (Pq Lb)):=λW hW=>⟨(h.below hW).c0,(h.below hW).p4,(h.below hW).lv.p0⟩;obtain⟨lw,a0⟩:=nmE (Fl.dC p.n p.leq)
 have HL:Hid (∀W,Bq w W->Cq 63 #[Pq Lb] W λe w'=>e=.returned (Iq lw)/\w'=W):=λW hW=>by rw[a0];exact zt4 (h.below hW).lv.la
 have b0:lw<p.n:=by have:=h.lv.lv.aM;unfold Fl.aM at this;omega
 have e1:Fl.aM p=(lw:Int):=by unfold Fl.aM;rw[a0]
 have d0:Fl.aT vs.length p.aj.length 4 p.aX:=by rw[h.ok.1];exact h.pk.aX
 have HC:Hid (∀W,Bq w W->Cq 119 #[Pq Fb,bv,Iq lw] W (zxy S W (Fl.bz p vs 4 p.aX (Fl.aM p)))):=λW hW=>by
  rw[e1];exact zk1 4 (by omega) W (h.below hW) bv p.aX lw (h.below hW).bo d0 b0
 generalize Fl.bz p vs 4 p.aX (Fl.aM p)=aV at*;have e0:=h.hS;have f0:=Zz e0;clear h a0 e1 d0 b0 e0
 go_enter func64,ntmps64
 go_wp2_with fail
 refine Zp HS dA [15,16] [] [] (by kernel_rfl) (λc a d v w h=>by cases d<;>exact h) (λops _=>?_)
 iterate 15 refine Zw rfl (by rintro _ ⟨_,_,_⟩;go_simp<;>rfl) (by go_simp<;>rfl) ?_
 refine Zt ?_
 go_wp2_with fail
 refine(HL _ dA).mono ?_;rintro e1 W1 ⟨rfl,rfl⟩
 go_wp2_with fail
 refine⟨HS _ dA,?_⟩;refine Zt ?_
 go_wp2_with fail
 refine(HC _ dA).mono ?_;rintro e2 W2 ⟨v2,rfl,hA,hB⟩;have HB:Hid (Bq w W2):=dA.trans hB;have HA:=Zz hA;clear hA hB
 go_wp2_with fail
 refine⟨HS _ HB,?_⟩;refine Zw rfl (by rintro _ ⟨_,_,_⟩;go_simp<;>rfl) (by go_simp<;>rfl) ?_;refine Zu ?_;go_wp2;go_ret;exact⟨_,rfl,HA,HB⟩
end
def zy6{p:Fl.aS}{vs:List Int}(h:p.Lv)(ok:Fl.dX p vs):∀(d:Nat) (l:List Fl.aa) (u:Nat),Fl.aT vs.length p.aj.length d l->u<p.n->∀m∈Fl.bz p vs d l u,PlOk p vs m.1/\∃k:Nat,k<p.n/\m.2=(k:Int)
 |0,_,_,_,_,m,hm=>by cases hm
 |d+1,l,u,ho,hu,m,hm=>by
  obtain⟨s,hs,hm⟩:=List.mem_flatMap.1 (show m∈l.flatMap (Fl.aI (Fl.bz p vs d) p vs u) from hm);obtain⟨hk,he,h1,h2⟩:=ho s hs;obtain⟨vl,b0,evl⟩:=zv7 h ok he;obtain⟨lv,a0,elv⟩:=h.join hu b0;have ej:Fl.jn p u (Fl.br p vs s.e)=(lv:Int):=(by unfold Fl.jn;rw[evl];exact elv);unfold Fl.aI at hm;rw[ej]at hm
  split at hm
  ·rename_i c0
   rw[List.mem_singleton]at hm;subst hm;refine⟨?_,lv,a0,rfl⟩;rcases hk with h|h|h|h
   ·exact .inl h
   ·exact .inr h
   ·omega
   omega
  split at hm
  ·rcases List.mem_append.1 hm with hm|hm
   ·exact zy6 h ok d _ lv h1 a0 m hm
   exact zy6 h ok d _ lv h2 a0 m hm
  cases hm
def zh4{α:Type}{f:α->Bool}{l:List α}(h:∀t,(ht:t<l.length)->f l[t]=false):l.find? f=none:=by
 rw[List.find?_eq_none];intro x hx;obtain⟨i,hi,rfl⟩:=List.getElem_of_mem hx;rw[h i hi];simp
def zl8{α:Type}{f:α->Bool}:∀{l:List α} {k:Nat} (hk:k<l.length),(∀t,(ht:t<k)->f (l[t]'(by omega))=false)->f l[k]=true->l.find? f=some l[k]
 |a::l,0,_,_,h=>by simp only[List.getElem_cons_zero]at h⊢;rw[List.find?_cons,h]
 |a::l,k+1,hk,hb,h=>by
  have h0:=hb 0 (by omega);simp only[List.getElem_cons_zero]at h0;rw[List.find?_cons,h0];simp only[List.getElem_cons_succ];exact zl8 (by simpa using hk) (λt ht=>by have:=hb (t+1) (by omega);simpa using this) (by simpa using h)
section
def zbz(h:Vb w Fb Pb Lb bD bF bv vv S p vs):Cq 36 #[Pq Fb] w λe w'=>e=.returned (Iq (Fl.cf p vs))/\Bq w w':=by
 have E0:Fl.aT vs.length p.aj.length 4 p.aX:=by rw[h.ok.1];exact h.pk.aX
 obtain⟨lw,c0,elw⟩:∃lw:Nat,lw<p.n/\Fl.aM p=(lw:Int):=⟨(Fl.aM p).toNat,by have:=h.lv.lv.aM;omega,by have:=h.lv.lv.aM;omega⟩;have q0:=zy6 h.lv.lv h.ok 4 p.aX lw E0 c0;have r0:(Fl.bz p vs 4 p.aX lw).length<=48 ^ 4:=Fl.eU p vs 4 p.aX lw (Zh.small _ _ _ h.bo);rw[<-elw]at q0 r0;have HC:Hid (Cq 64 #[Pq Fb] w (zxy S w (Fl.bz p vs 4 p.aX (Fl.aM p)))):=zd6 h;have HD:Hid (Fl.cf p vs=match (Fl.bz p vs 4 p.aX (Fl.aM p)).find? (λm=> !Fl.bR p vs m) with|some m=>m.1.aq|none=>0):=rfl;obtain⟨ms,F0⟩:=nmE (Fl.bz p vs 4 p.aX (Fl.aM p));rw[<-F0]at q0 r0 HC HD;have I0:=Zz q0;have hle':ms.length<=5308416:=r0;have HH:=Zz h;obtain⟨aV,l0⟩:=nmE (Fl.cf p vs);rw[<-l0]at HD⊢;clear h E0 c0 elw q0 r0 F0 l0
 go_enter func36,ntmps36
 go_wp2_with fail
 refine HC.mono ?_;rintro e W1 ⟨v,rfl,x0,m0⟩;have J0:=Zz x0;have n0:=Zz m0;obtain⟨ao,cap,K0,L0⟩:∃ao cap,v=.slice ao ms.length cap/\ms.length<=cap:=by
  obtain⟨qs,h1,-,-⟩:=x0;rcases h1.2 with⟨rfl,h0⟩|⟨g,cap,cur,rfl,-,-,hc,-⟩
  ·exact⟨none,0,by rw[h0],by omega⟩
  exact⟨_,cap,rfl,hc⟩
 subst K0;clear HC x0 m0
 go_wp2_with fail
 go_loopw [8] (λi wr=>∃(k:Nat),k<=ms.length/\i=Iq k/\(∀t,(ht:t<k)->(ht':t<ms.length)->Fl.bR p vs ms[t]=true)/\Bq W1 wr) (λi _=>ms.length - (intOf i).toNat)
 case atStart=>exact⟨0,by omega,rfl,λt ht=>absurd ht (by omega),Below.refl _ _⟩
 case round=>
  obtain⟨k,hk,rfl,b0,o0⟩:=hrel
  by_cases c0:k<ms.length
  ·obtain⟨qs,h1,h2,-⟩:=J0.aM o0 (λb hb=>Qj (HH.hS b hb) n0.size)
   obtain⟨mk,d0⟩:=nmE (ms[k]'c0);obtain⟨q,y0,z0,s0⟩:=h2.get k mk (by rw[d0];exact Qb c0);obtain⟨A0,lk,B0,elk⟩:=I0 mk (by rw[d0];exact List.getElem_mem c0);obtain⟨c1,c2⟩:=yz4 qs k q y0;rcases id h1.2 with⟨e0,h0⟩|⟨g,cap',cur,e0,G0,H0,-⟩
   ·omega
   injection e0 with e0 e00 e01;subst e0;subst e01;have a0:=h1.cells (g:=g) rfl _ _ c1;have a1:=h1.cells (g:=g) rfl _ _ c2
   have ad:∀j,((Aq g 0):Addr).add j=(Aq g j):=λj=>by unfold Addr.add;split<;>simp_all
   rw[ad]at a0 a1;obtain⟨sb,eq1,M0,k0,k1,k2⟩:=id s0;rw[eq1]at a0;rw[z0,elk]at a1;have N0:(k:Int)<(ms.length:Int):=(by omega);have C0:Hid (Bq w wr):=n0.trans (o0.mono n0.size);have u0:=C0.size;have cF:sb<wr.heap.size:=Qj (HH.hS sb M0) u0
   have g0:Hid (∀W,Bq wr W->Cq 66 #[Pq Fb,.agg #[Pq sb,Iq lk]] W λr w'=>r=.returned (.bool (Fl.bR p vs mk))/\Bq W w'):=λW hW=>by
    have h5:=zd5 (HH.below (C0.trans (hW.mono u0))) (s0.kept (λ_ h=>h) (λb hb=>hW.block b (Qj (HH.hS b hb) u0))) lk B0 A0;rw[eq1,<-elk]at h5;rw[elk]at h5;rw[show mk=(mk.1,(lk:Int)) from by rw[<-elk]];exact h5
   have D0:Hid (∀W,Bq wr W->Cl W sb 1 (Iq mk.1.aq)):=λW hW=>(hW.cell (p:=(Aq sb 1)) cF).trans k1;have p0:=Zz b0;obtain⟨W2,f0⟩:=nmE (wr.alloc (.cells #[Pq sb,Iq lk] 158));have i0:Hid (Bq wr W2):=(by show Below _ _ _;rw[f0];exact bA);have t0:W2.cell? (Aq wr.heap.size 0)=some (Pq sb):=(by rw[f0];simp);have O0:wr.heap.size<W2.heap.size:=(by rw[f0];simp);have P0:=Zz c0
   cases hf:Fl.bR p vs mk
   ·have HR:Hid (aV=mk.1.aq):=by
     have h5:=HD.out;rw[zl8 (f:=λm=> !Fl.bR p vs m) c0 (λt ht=>by show (!Fl.bR p vs _)=false;rw[p0 t ht (by omega)];rfl) (by show (!Fl.bR p vs _)=true;rw[<-d0];exact congrArg (λb=> !b) hf)]at h5;rw[d0];exact h5
    rw[hf]at g0;generalize mk.1.aq=ln at*;clear b0 hf d0 h1 h2 y0 z0 s0 A0 c1 c2 G0 H0 ad k0 k1 k2 eq1 elk B0
    go_wp2_with fail
    rw[<-f0];refine(g0 _ i0).mono ?_;rintro e W3 ⟨rfl,j0⟩;have v0:Hid (Bq wr W3):=i0.trans (j0.mono i0.size);have t3:Cl W3 wr.heap.size 0 (Pq sb):=(j0.cell (p:=(Aq wr.heap.size 0)) O0).trans t0;have l3:Cl W3 sb 1 (Iq ln):=D0 _ v0.out;clear j0 f0 a0 a1 t0 D0 g0;go_wp2;go_ret;exact⟨by first|(rw[HR.out];done)|(have h6:=HR.out;subst h6;rfl)|(rw[HR.out];rfl),C0.trans (v0.mono u0)⟩
   have HN:Hid (∀t,(ht:t<k+1)->(ht':t<ms.length)->Fl.bR p vs ms[t]=true):=λt ht ht'=>by
    by_cases Q0:t=k
    ·subst Q0;rw[<-d0];exact hf
    exact p0 t (by omega) ht'
   rw[hf]at g0;clear b0 hf d0 h1 h2 y0 z0 s0 A0 c1 c2 G0 H0 ad k0 k1 k2 eq1 elk B0
   go_wp2_with fail
   rw[<-f0];refine(g0 _ i0).mono ?_;rintro e W3 ⟨rfl,j0⟩;have v0:Hid (Bq wr W3):=i0.trans (j0.mono i0.size);have R0:Bq W1 W3:=o0.trans (v0.mono o0.size);clear j0 f0 a0 a1 t0 D0 g0;go_wp2
   go_roundw
   case rel=>exact⟨k+1,by have:=P0.out;omega,by go_num,λt ht S0=>HN t ht S0,R0⟩
   case measure=>simp[intOf];omega
  have HR:Hid (aV=0):=by
   have h5:=HD.out;rw[zh4 (f:=λm=> !Fl.bR p vs m) (λt ht=>by show (!Fl.bR p vs _)=false;rw[b0 t (by omega) ht];rfl)]at h5;exact h5
  clear b0;go_wp2;go_ret;exact⟨by rw[HR.out];rfl,n0.trans (o0.mono n0.size)⟩
end
end Go.Proofs.YtfhpibppblbgcaaGreatDoor
namespace Go.Proofs.YtfhpibppblbgcaaGreatDoor
open Go.Proofs.Tryz
variable{S:Nat->Prop}{w w':World}{v bD bF bv vv:Value}{s:Fl.aa}{p:Fl.aS}{i Fb Pb Lb base k:Nat}{vs:List Int}{e:Fl.dd}{ops:Array Oper}{rest:List Oper}{o:Oper}{a:Act}{Q:Exit->Act->World->Prop}
namespace Fl
def kh{α:Type}{f g:α->Bool}:∀(l:List α),(∀x∈l,f x=true->g x=true)->(l.filter f).length<=(l.filter g).length
 |[],_=>Nat.le_refl _
 |a::l,h=>by
  have ih:=kh l (λx hx=>h x (by simp[hx]));have h0:=h a (by simp);rw[List.filter_cons,List.filter_cons]
  cases hf:f a
  ·cases g a<;>simp<;>omega
  rw[h0 hf];simp;exact ih
def kg{α:Type}{f g:α->Bool}:∀(l:List α) (y:α),y∈l->(∀x∈l,f x=true->g x=true)->g y=true->f y=false->(l.filter f).length<(l.filter g).length
 |[],_,hy,_,_,_=>by cases hy
 |a::l,y,hy,h,hg,hf=>by
  rcases List.mem_cons.1 hy with rfl|hy
  ·have:=kh l (λx hx=>h x (by simp[hx]))
   rw[List.filter_cons,List.filter_cons,hg,hf];simp;omega
  have ih:=kg l y hy (λx hx=>h x (by simp[hx])) hg hf;have h0:=h a (by simp);rw[List.filter_cons,List.filter_cons]
  cases a0:f a
  ·cases g a<;>simp<;>omega
  rw[h0 a0];simp;exact ih
def ik(p:aS)(v:Int):Nat:=((List.range p.n).filter λy=>p.leq v.toNat y).length
def lJ(p:aS)(v:Int):ik p v<=p.n:=by
 unfold ik;have:=List.length_filter_le (λy=>p.leq v.toNat y) (List.range p.n);rw[List.length_range]at this;exact this
def lI{p:aS}(h:p.Lv){a b:Int}(ha:0<=a/\a<p.n)(hb:0<=b/\b<p.n)(hn:p.leq b.toNat a.toNat=false):ik p (Fl.jn p a b)<ik p a:=by
 obtain⟨k,h1,h2,h3,h4,h5⟩:=h.fT.ki a.toNat b.toNat (by omega) (by omega)
 have e:(Fl.jn p a b).toNat=k:=by unfold Fl.jn;rw[h2];simp
 unfold ik;rw[e];refine kg _ a.toNat (by simp;omega) (λx hx hk=>?_) (h.fT.refl _ (by omega)) ?_
 ·rw[List.mem_range]at hx
  exact h.fT.trans a.toNat k x (by omega) h1 hx h3 hk
 cases hc:p.leq k a.toNat
 ·rfl
 have:=h.fT.trans b.toNat k a.toNat (by omega) h1 (by omega) h4 hc
 rw[hn]at this;cases this
def ij(p:aS)(vs:List Int):Nat:=((vs.drop p.cells.length).map (ik p)).sum
def ke{f:Int->Nat}{v:Int}:∀(l:List Int) (i:Nat) (h:i<l.length),f v<f l[i]->((l.set i v).map f).sum<(l.map f).sum
 |a::l,0,_,hv=>by simp at hv⊢;omega
 |a::l,i+1,h,hv=>by
  have ih:=ke l i (by simpa using h) (by simpa using hv);rw[List.set_cons_succ,List.map_cons,List.map_cons,List.sum_cons,List.sum_cons];omega
def lH{f:Int->Nat}{c:Nat}:∀(l:List Int),(∀x,f x<=c)->(l.map f).sum<=l.length*c
 |[],_=>by simp
 |a::l,h=>by
  have:=lH l h;have:=h a;simp[Nat.succ_mul];omega
def kZ{p:aS}(h:p.Lv)(ho:p.Ok)(hv:dX p vs):ij p vs<25:=by
 have h1:=lH (f:=ik p) (c:=6) (vs.drop p.cells.length) (λx=>Nat.le_trans (lJ p x) h.n6)
 have h2:(vs.drop p.cells.length).length<=4:=by rw[List.length_drop,hv.1];have:=ho.lo;omega
 unfold ij;omega
def lG{p:aS}(hv:dX p vs)(x:Nat){v:Int}(h:0<=v/\v<p.n):dX p (vs.set x v):=by
 refine⟨by rw[List.length_set];exact hv.1,λi hi=>?_⟩;rw[List.length_set]at hi;rw[Qa,List.getElem?_set]
 split
 ·split
  ·exact h
  omega
 have:=hv.2 i hi;rw[Qa]at this;exact this
def hZ{p:aS}(h:p.Lv)(hv:dX p vs){m:aa×Int}(hm:PlOk p vs m.1/\∃k:Nat,k<p.n/\m.2=(k:Int))(hl:bU p m.1=true)(hf:bR p vs m=false):
  dX p (vs.set m.1.x (jn p (vs.getD m.1.x 0) m.2))/\ij p (vs.set m.1.x (jn p (vs.getD m.1.x 0) m.2))<ij p vs:=by
 obtain⟨hp,k,hk,ek⟩:=hm;unfold bU at hl;rw[Bool.and_eq_true,decide_eq_true_eq,decide_eq_true_eq]at hl
 have hx:m.1.x<vs.length:=by rcases hp with h|h<;>omega
 have a0:=hv.2 m.1.x hx
 have b0:0<=m.2/\m.2<p.n:=by rw[ek];omega
 refine⟨lG hv _ (h.jn a0 b0),?_⟩;unfold bR aL at hf;rw[if_neg (by omega)]at hf;have h1:=lI h a0 b0 hf;unfold ij;rw[List.drop_set,if_neg (by omega)]
 have hi:m.1.x - p.cells.length<(vs.drop p.cells.length).length:=by rw[List.length_drop];omega
 refine ke _ _ hi ?_;have e:(vs.drop p.cells.length)[m.1.x - p.cells.length]=vs.getD m.1.x 0:=by
  rw[List.getElem_drop,Qa];have e2:p.cells.length+(m.1.x - p.cells.length)=m.1.x:=(by omega);simp only[e2];rw[Qb hx];rfl
 rw[e];exact h1
end Fl
open Go.RowKit
def zq8{P:Program}{c':Code}(l:Nat)(J:Act->World->Prop)(μ:Act->World->Nat)(hJ:J a w)
  (pass:∀a w,J a w->c'.wp P (Exit.jump l (λa' w'=>J a' w'/\μ a' w'<μ a w) Q) a w):(Code.scope ((Code.label l).seq c')).wp P Q a w:=by
 refine wp_scope_jumps l J μ (rest:=.seq .skip c') (by simp[findLabel]) ?_ (λa w h=>?_)
 ·apply wp_seq
  apply wp_label
  refine wp_mono (pass a w hJ) (λe a w h=>?_)
  cases e<;>first|exact h|exact⟨h.1,h.2.1⟩
 apply wp_seq
 apply wp_skip
 exact pass a w h
end Go.Proofs.YtfhpibppblbgcaaGreatDoor

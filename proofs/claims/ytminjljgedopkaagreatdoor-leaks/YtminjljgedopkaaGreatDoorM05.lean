import Derived.Test.YtminjljgedopkaaGreatDoorM04
import Derived.Laws.AppendOwnNone
set_option linter.all false
set_option maxRecDepth 100000
set_option maxHeartbeats 40000000
namespace Go.Proofs.YtminjljgedopkaaGreatDoor
open Go.Proofs.Tryz
namespace Fl
def number_le(l:List UInt8)(h:(number l 9).2=true):(number l 9).1<=999999999:=by
 unfold number at h⊢
 split at h
 ·rename_i hd
  rw[if_pos hd];simp only[numOk,Bool.and_eq_true,decide_eq_true_eq]at h;have hl:l.length<=9:=h.2.1;show val (l.take 9)<=999999999;rw[List.take_of_length_le hl,val_eq];have h1:=valF_digits l 0 hd;have h2:10 ^ l.length<=10 ^ 9:=Nat.pow_le_pow_right (by decide) hl;omega
 cases h
def RS.nv(r:RS):Nat:=r.cells.length+r.locals.length
def RS.atom_ok(r:RS)(s:List UInt8){a:Atom}(h:r.atom s=some a):AtomOk r.nv a:=by
 unfold RS.atom at h;have hc:=place_cases r.cells s;have hl:=place_cases r.locals s;unfold AtomOk RS.nv
 split at h
 ·rename_i hn
  simp only[Option.some.injEq]at h;subst h;simp only[Bool.false_eq_true,if_false];exact number_le s hn
 split at h
 ·simp only[Option.some.injEq]at h;subst h
  simp only[if_true];omega
 split at h
 ·simp only[Option.some.injEq]at h;subst h
  simp only[if_true];omega
 cases h
def RS.value_ok(r:RS)(ws:List (List UInt8)){e:Expr}(h:r.value ws=some e):ExprOk r.nv e:=by
 match ws,h with
 |[a],h=>
  simp only[RS.value,Option.map_eq_some_iff]at h;obtain⟨x,hx,rfl⟩:=h;exact⟨(show (-1:Int)<= -1 by decide),(show (-1:Int)<=4 by decide),r.atom_ok a hx,by unfold AtomOk no0;simp⟩
 |[a,o,b],h=>
  simp only[RS.value,Option.bind_eq_some_iff,Option.map_eq_some_iff]at h;obtain⟨x,hx,y,hy,rfl⟩:=h;have ho:=place_cases signs o;have hs:signs.length=5:=rfl;exact⟨by simp only;omega,by simp only;omega,r.atom_ok a hx,r.atom_ok b hy⟩
structure FrOk(nv nc d:Nat)(f:Frame):Prop where
 kd:f.kind=5\/(f.kind=6/\f.had=false)
 no:f.had=false->f.els=[]
 ex:ExprOk nv f.e
 fi:StmtsOk nv nc d f.first
 el:StmtsOk nv nc d f.els
def FrOk.mono{nv nv' nc d:Nat}(h:nv<=nv'){f:Frame}(hf:FrOk nv nc d f):FrOk nv' nc d f:=⟨hf.kd,hf.no,hf.ex.mono h,hf.fi.mono h,hf.el.mono h⟩
def FrsOk(nv nc:Nat):Nat->List Frame->Prop
 |_,[]=>True
 |d,f::fs=>FrOk nv nc (d+1) f/\FrsOk nv nc (d+1) fs
def FrsOk.mono{nv nv' nc:Nat}(h:nv<=nv'):∀{d:Nat} {fs:List Frame},FrsOk nv nc d fs->FrsOk nv' nc d fs
 |_,[],_=>trivial
 |_,_::_,hf=>⟨hf.1.mono h,FrsOk.mono h hf.2⟩
def StmtsOk.snoc{nv nc d:Nat}{l:List Stmt}{s:Stmt}(h:StmtsOk nv nc (d+1) l)(hs:KindOk nv nc s/\ExprOk nv s.e/\StmtsOk nv nc d s.body/\StmtsOk nv nc d s.other):StmtsOk nv nc (d+1) (l++[s]):=λx hx=>by
 rcases List.mem_append.1 hx with h1|h1
 ·exact h x h1
 simp only[List.mem_singleton]at h1;subst h1;exact hs
def StmtsOk.nil(nv nc d:Nat):StmtsOk nv nc d []:=by
 cases d with
 |zero=>rfl
 |succ d=>exact λs hs=>(by cases hs)
def FrOk.snoc{nv nc d:Nat}{f:Frame}{s:Stmt}(h:FrOk nv nc (d+1) f)(hs:KindOk nv nc s/\ExprOk nv s.e/\StmtsOk nv nc d s.body/\StmtsOk nv nc d s.other):FrOk nv nc (d+1) (if f.had then{f with els:=f.els++[s]} else{f with first:=f.first++[s]}):=by
 cases hd:f.had with
 |true=>
  simp only[if_true];refine⟨?_,λq=>(by cases q),h.ex,h.fi,h.el.snoc hs⟩;rcases h.kd with h5|⟨_,h6⟩
  ·exact .inl h5
  rw[hd]at h6;cases h6
 |false=>
  simp only[Bool.false_eq_true,if_false];refine⟨?_,λ_=>h.no hd,h.ex,h.fi.snoc hs,h.el⟩;rcases h.kd with h5|⟨h6,_⟩
  ·exact .inl h5
  exact .inr ⟨h6,rfl⟩
structure RS.Fine(r:RS):Prop where
 ce:r.cells.length<=6
 ch:r.chans.length<=3
 lo:r.locals.length<=4
 cl:r.cellLv.length=r.cells.length
 hl:r.chanLv.length=r.chans.length
 fr:r.fr.length<=3
 head:r.begun=false->r.locals=[]/\r.top=[]/\r.fr=[]
 top:StmtsOk r.nv r.chans.length 4 r.top
 frs:FrsOk r.nv r.chans.length (3 - r.fr.length) r.fr
def fine0:RS.zero.Fine:=⟨by decide,by decide,by decide,rfl,rfl,by decide,λ_=>⟨rfl,rfl,rfl⟩,StmtsOk.nil _ _ _,trivial⟩
def RS.Fine.headed{r r':RS}(h:r.Fine)(hb:r.begun=false)(e1:r'.top=r.top)(e2:r'.fr=r.fr)(e3:r'.locals=r.locals)(ce:r'.cells.length<=6)(ch:r'.chans.length<=3)(cl:r'.cellLv.length=r'.cells.length)(hl:r'.chanLv.length=r'.chans.length):r'.Fine:=by
 obtain⟨h1,h2,h3⟩:=h.head hb;refine⟨ce,ch,by rw[e3];exact h.lo,cl,hl,by rw[e2];exact h.fr,λ_=>⟨by rw[e3];exact h1,by rw[e1];exact h2,by rw[e2];exact h3⟩,?_,?_⟩
 ·rw[e1,h2];exact StmtsOk.nil _ _ _
 rw[e2,h3];trivial
def RS.Fine.head_ok{r:RS}(h:r.Fine)(hb:r.begun=false)(w:List (List UInt8))(h0:(r.head w).1=0):(r.head w).2.Fine:=by
 match w,h0 with
 |[],h0=>cases h0
 |[k],h0=>
  simp only[RS.head]at h0⊢
  split at h0
  ·rename_i hl;rw[if_pos hl];exact h.headed hb rfl rfl rfl h.ce h.ch h.cl h.hl
  cases h0
 |[k,n],h0=>
  simp only[RS.head]at h0⊢
  split at h0
  ·cases h0
  rename_i h1;rw[if_neg h1]
  split at h0
  ·cases h0
  rename_i h2;rw[if_neg h2];exact h.headed hb rfl rfl rfl h.ce h.ch h.cl h.hl
 |[k,n,l],h0=>
  simp only[RS.head]at h0⊢
  split at h0
  ·rename_i hk;rw[if_pos hk]
   split at h0
   ·cases h0
   rename_i h1;rw[if_neg h1];exact h.headed hb rfl rfl rfl h.ce h.ch h.cl h.hl
  rename_i hk;rw[if_neg hk]
  split at h0
  ·cases h0
  rename_i h1;rw[if_neg h1]
  split at h0
  ·rename_i hc;rw[if_pos hc]
   split at h0
   ·cases h0
   rename_i h6;rw[if_neg h6];exact h.headed hb rfl rfl rfl (by have:=h.ce;simp;omega) h.ch (by have:=h.cl;simp;omega) h.hl
  rename_i hc;rw[if_neg hc]
  split at h0
  ·cases h0
  rename_i h3;rw[if_neg h3];exact h.headed hb rfl rfl rfl h.ce (by have:=h.ch;simp;omega) h.cl (by have:=h.hl;simp;omega)
 |_::_::_::_::_,h0=>cases h0
def RS.Fine.put{r:RS}(h:r.Fine)(hb:r.begun=true){s:Stmt}(hk:KindOk r.nv r.chans.length s)(he:ExprOk r.nv s.e)(h1:s.body=[])(h2:s.other=[]):(r.put s).Fine:=by
 unfold RS.put;have hs:∀d,KindOk r.nv r.chans.length s/\ExprOk r.nv s.e/\StmtsOk r.nv r.chans.length d s.body/\StmtsOk r.nv r.chans.length d s.other:=λd=>⟨hk,he,by rw[h1];exact StmtsOk.nil _ _ _,by rw[h2];exact StmtsOk.nil _ _ _⟩
 cases hf:r.fr with
 |nil=>exact⟨h.ce,h.ch,h.lo,h.cl,h.hl,Nat.zero_le _,λhh=>(by have:r.begun=false:=hh;rw[hb]at this;cases this),h.top.snoc (hs 3),trivial⟩
 |cons f fs=>
  have hh:=h.frs;rw[hf]at hh;have hl:=h.fr;rw[hf]at hl;exact⟨h.ce,h.ch,h.lo,h.cl,h.hl,hl,λhh=>(by have:r.begun=false:=hh;rw[hb]at this;cases this),h.top,hh.1.snoc (hs _),hh.2⟩
def RS.Fine.local{r:RS}(h:r.Fine)(hb:r.begun=true)(n:List UInt8)(hl:r.locals.length<4):({r with locals:=r.locals++[n]}:RS).Fine:=by
 have e:r.nv<=({r with locals:=r.locals++[n]}:RS).nv:=by simp[RS.nv]
 exact⟨h.ce,h.ch,by simp;omega,h.cl,h.hl,h.fr,λhh=>(by have:r.begun=false:=hh;rw[hb]at this;cases this),h.top.mono e,h.frs.mono e⟩
def RS.Fine.stmt_ok{r:RS}(h:r.Fine)(hb:r.begun=true)(at_:Nat)(w:List (List UInt8))(h0:(r.stmt at_ w).1=0):(r.stmt at_ w).2.Fine/\(r.stmt at_ w).2.begun=true:=by
 have hn:∀x:RS,x.begun=true->∀P:Prop,x.begun=false->P:=λx h1 P h2=>by rw[h1]at h2;cases h2
 match w,h0 with
 |[],h0=>cases h0
 |[k],h0=>
  simp only[RS.stmt]at h0⊢
  cases hf:r.fr with
  |nil=>rw[hf]at h0;cases h0
  |cons f fs=>
   rw[hf]at h0;simp only at h0⊢;have hh:=h.frs;rw[hf]at hh;have hl:=h.fr;rw[hf]at hl
   split at h0
   ·rename_i hk;rw[if_pos hk]
    split at h0
    ·rename_i hq;rw[if_pos hq]
     unfold RS.elses;rw[hf];refine⟨⟨h.ce,h.ch,h.lo,h.cl,h.hl,hl,hn _ hb _,h.top,?_⟩,hb⟩;exact⟨⟨.inl hq.1,λq=>(by cases q),hh.1.ex,hh.1.fi,hh.1.el⟩,hh.2⟩
    cases h0
   rename_i hk;rw[if_neg hk];unfold RS.ends;rw[hf]
   have a0:∀d,StmtsOk r.nv r.chans.length d f.first->StmtsOk r.nv r.chans.length d f.els->KindOk r.nv r.chans.length f.done/\ExprOk r.nv f.done.e/\StmtsOk r.nv r.chans.length d f.done.body/\StmtsOk r.nv r.chans.length d f.done.other:=λd h1 h2=>by
    refine⟨?_,hh.1.ex,h1,h2⟩;rcases hh.1.kd with h5|⟨h6,h7⟩
    ·exact .inr (.inr (.inl h5))
    exact .inr (.inr (.inr ⟨h6,hh.1.no h7⟩))
   cases fs with
   |nil=>
    exact⟨⟨h.ce,h.ch,h.lo,h.cl,h.hl,by simp,hn _ hb _,h.top.snoc (a0 3 hh.1.fi hh.1.el),trivial⟩,hb⟩
   |cons g gs=>
    simp only[List.length_cons]at hl hh;have e1:3 - (gs.length+1+1)+1=3 - (gs.length+1):=(by omega);have hg:=hh.2.1;have hd:=a0 _ hh.1.fi hh.1.el;refine⟨⟨h.ce,h.ch,h.lo,h.cl,h.hl,by simp;omega,hn _ hb _,h.top,?_⟩,hb⟩;simp only[List.length_cons];rw[<-e1];exact⟨hg.snoc hd,hh.2.2⟩
 |[k,a],h0=>
  simp only[RS.stmt]at h0⊢
  cases hv:r.value [a] with
  |none=>rw[hv]at h0;cases h0
  |some e=>
   rw[hv]at h0;simp only at h0⊢
   split at h0
   ·cases h0
   rename_i hq;rw[if_neg hq];have e1:3 - (r.fr.length+1)+1=3 - r.fr.length:=(by omega);refine⟨⟨h.ce,h.ch,h.lo,h.cl,h.hl,by simp[RS.opens];omega,hn _ hb _,h.top,?_⟩,hb⟩;simp only[RS.opens,List.length_cons];refine⟨⟨?_,λ_=>rfl,r.value_ok _ hv,StmtsOk.nil _ _ _,StmtsOk.nil _ _ _⟩,by rw[e1];exact h.frs⟩;show (if(k==wIf)=true then 5 else 6)=5\/((if(k==wIf)=true then 5 else 6)=6/\false=false)
   cases (k==wIf)<;>simp
 |k::n::v1::v,h0=>
  simp only[RS.stmt]at h0⊢
  cases hv:r.value (v1::v) with
  |none=>rw[hv]at h0;cases h0
  |some e=>
   rw[hv]at h0;simp only at h0⊢;have he:=r.value_ok _ hv
   have b0:∀(x:RS) (s:Stmt),x.begun=true->(x.put s).begun=true:=λx s hx=>by unfold RS.put;split<;>exact hx
   split at h0
   ·rename_i hk;rw[if_pos hk]
    split at h0
    ·cases h0
    rename_i hp;rw[if_neg hp]
    split at h0
    ·cases h0
    rename_i h6;rw[if_neg h6];have hc:=place_cases r.chans n;exact⟨h.put hb (.inr (.inl ⟨rfl,by simp only;omega⟩)) he rfl rfl,b0 _ _ hb⟩
   rename_i hk;rw[if_neg hk]
   split at h0
   ·cases h0
   rename_i hp;rw[if_neg hp]
   cases ht:r.target n with
   |none=>rw[ht]at h0;cases h0
   |some p=>
    obtain⟨x,r'⟩:=p;rw[ht]at h0;simp only at h0⊢
    split at h0
    ·cases h0
    rename_i h6;rw[if_neg h6];have hc:=place_cases r.cells n;have c0:=place_cases r.locals n;unfold RS.target at ht
    split at ht
    ·simp only[Option.some.injEq,Prod.mk.injEq]at ht
     obtain⟨rfl,rfl⟩:=ht;exact⟨h.put hb (.inl ⟨rfl,by simp only[RS.nv];omega⟩) he rfl rfl,b0 _ _ hb⟩
    split at ht
    ·simp only[Option.some.injEq,Prod.mk.injEq]at ht
     obtain⟨rfl,rfl⟩:=ht;exact⟨h.put hb (.inl ⟨rfl,by simp only[RS.nv];omega⟩) he rfl rfl,b0 _ _ hb⟩
    split at ht
    ·cases ht
    rename_i h4;simp only[Option.some.injEq,Prod.mk.injEq]at ht;obtain⟨rfl,rfl⟩:=ht;have hF:=h.local hb n (by have:=h.lo;omega);exact⟨hF.put hb (.inl ⟨rfl,by simp[RS.nv]⟩) (he.mono (by simp[RS.nv])) rfl rfl,b0 _ _ hb⟩
def RS.Fine.row_ok{r:RS}(h:r.Fine)(w:List (List UInt8))(at_:Nat)(h0:(r.row w at_).1=0):(r.row w at_).2.Fine:=by
 unfold RS.row at h0⊢
 split at h0
 ·cases h0
 rename_i h1;rw[if_neg h1]
 split at h0
 ·rename_i h2;rw[if_pos h2]
  refine h.head_ok ?_ w h0;rw[h2]at h1
  cases hb:r.begun with
  |false=>rfl
  |true=>exact absurd hb.symm h1
 rename_i h2;rw[if_neg h2];refine(h.stmt_ok ?_ at_ w h0).1
 cases hb:r.begun with
 |true=>rfl
 |false=>exact absurd ((by simpa using h2:isHead (w.getD 0 [])=false).trans hb.symm) h1
def rows_ok:∀(ls:List (List UInt8)) (r:RS) (i:Nat),r.Fine->(rows r i ls).1=0->(rows r i ls).2.2.Fine/\(rows r i ls).2.2.begun=true/\(rows r i ls).2.2.fr=[]/\(rows r i ls).2.1=0
 |[],r,i,h,h0=>by cases h0
 |[l],r,i,h,h0=>by
  rw[rows]at h0⊢
  split at h0
  ·rename_i h1;rw[if_pos h1]
   split at h0
   ·rename_i h2;rw[if_pos h2];exact⟨h,h2.1,h2.2,rfl⟩
   cases h0
  cases h0
 |l::m::ls,r,i,h,h0=>by
  rw[rows]at h0⊢
  split at h0
  ·cases h0
  rename_i h1;rw[if_neg h1]
  split at h0
  ·rename_i h2;exact absurd h0 h2
  rename_i h2;rw[if_neg h2];exact rows_ok (m::ls) _ (i+1) (h.row_ok _ _ (by simpa using h2)) h0
structure Prog.Ok(p:Prog):Prop where
 ce:p.cells.length<=6
 ch:p.chans.length<=3
 lo:p.locals<=4
 body:StmtsOk (p.cells.length+p.locals) p.chans.length 4 p.body
def readProg_ok(s:List UInt8)(h0:(readProg s).1=0):(readProg s).2.2.Ok/\(readProg s).2.1=0/\s.length<=1200:=by
 unfold readProg at h0⊢
 by_cases hs:1200<s.length
 ·rw[if_pos hs]at h0;cases h0
 rw[if_neg hs]at h0⊢;obtain⟨h1,h2,h3,h4⟩:=rows_ok _ RS.zero 0 fine0 h0;refine⟨⟨?_,?_,h1.lo,?_⟩,h4,by omega⟩
 ·show (rows RS.zero 0 (cutR 10 s)).2.2.cellLv.length<=6;rw[h1.cl];exact h1.ce
 ·show (rows RS.zero 0 (cutR 10 s)).2.2.chanLv.length<=3;rw[h1.hl];exact h1.ch
 have:=h1.top;unfold RS.nv at this;show StmtsOk ((rows RS.zero 0 (cutR 10 s)).2.2.cellLv.length+_) ((rows RS.zero 0 (cutR 10 s)).2.2.chanLv.length) 4 _;rw[h1.cl,h1.hl];exact this
end Fl
open Go.RowKit
structure Xy(w:World)(Fb Pb Lb:Nat)(clv chv bv vv:Value)(S:Nat->Prop)(p:Fl.Prog)(vs:List Int):Prop where
 hF:Fb<w.heap.size
 c0:w.cell? ⟨Fb,0,none⟩=some (.pointer (some ⟨Pb,0,none⟩))
 c1:w.cell? ⟨Fb,1,none⟩=some vv
 lv:LvIn w Pb Lb p
 p1:w.cell? ⟨Pb,1,none⟩=some clv
 p2:w.cell? ⟨Pb,2,none⟩=some chv
 p4:w.cell? ⟨Pb,4,none⟩=some bv
 ce:∃ao cap,clv=.slice ao p.cells.length cap
 ch:Zy w.heap.size w chv (p.chans.map λ(y:Nat)=>(y:Int))
 vi:Zy w.heap.size w vv vs
 bo:Zt 4 S w bv p.body
 hS:∀b,S b->b<w.heap.size
 ok:Fl.LvOk p vs
 pk:p.Ok
def Xy.below{w w':World}{Fb Pb Lb:Nat}{clv chv bv vv:Value}{S:Nat->Prop}{p:Fl.Prog}{vs:List Int}(h:Xy w Fb Pb Lb clv chv bv vv S p vs)(hb:Below w.heap.size w w'):Xy w' Fb Pb Lb clv chv bv vv S p vs where
 hF:=Nat.lt_of_lt_of_le h.hF hb.size
 c0:=(hb.cell (p:=⟨Fb,0,none⟩) h.hF).trans h.c0
 c1:=(hb.cell (p:=⟨Fb,1,none⟩) h.hF).trans h.c1
 lv:=h.lv.below hb
 p1:=(hb.cell (p:=⟨Pb,1,none⟩) h.lv.hz.1).trans h.p1
 p2:=(hb.cell (p:=⟨Pb,2,none⟩) h.lv.hz.1).trans h.p2
 p4:=(hb.cell (p:=⟨Pb,4,none⟩) h.lv.hz.1).trans h.p4
 ce:=h.ce
 ch:=(h.ch.below hb).mono hb.size
 vi:=(h.vi.below hb).mono hb.size
 bo:=Zt.kept (λ_ h=>h) (λb hs=>hb.block b (h.hS b hs)) _ _ _ h.bo
 hS:=λb hs=>Nat.lt_of_lt_of_le (h.hS b hs) hb.size
 ok:=h.ok
 pk:=h.pk
def zw6(S:Nat->Prop)(w:World)(v:Value)(s:Fl.Stmt):Prop:=
 ∃sb,v=.pointer (some ⟨sb,0,none⟩)/\S sb/\w.cell? ⟨sb,0,none⟩=some (.int .i64 s.kind)/\w.cell? ⟨sb,1,none⟩=some (.int .i64 s.line)/\w.cell? ⟨sb,2,none⟩=some (.int .i64 s.x)
def zw6.kept{S S':Nat->Prop}{w w':World}{v:Value}{s:Fl.Stmt}(h:zw6 S w v s)(hS:∀b,S b->S' b)(hw:∀b,S b->w'.heap[b]?=w.heap[b]?):zw6 S' w' v s:=by
 obtain⟨sb,e,h1,h2,h3,h4⟩:=h;have q:∀j,w'.cell? ⟨sb,j,none⟩=w.cell? ⟨sb,j,none⟩:=λj=>World.cell?_of_block (a:=⟨sb,j,none⟩) (hw sb h1);exact⟨sb,e,hS _ h1,(q 0).trans h2,(q 1).trans h3,(q 2).trans h4⟩
def zf4{p:Fl.Prog}(h:p.Lv){i:Nat}(hi:i<p.chans.length):∃k:Nat,k<p.n/\(p.chans.map λ(y:Nat)=>(y:Int)).getD i 0=(k:Int):=
 ⟨p.chans[i],h.ch _ (List.getElem_mem hi),by rw[List.getD_eq_getElem?_getD,List.getElem?_map,List.getElem?_eq_getElem hi];rfl⟩
def za5{p:Fl.Prog}{vs:List Int}(h:Fl.LvOk p vs){i:Nat}(hi:i<vs.length):∃k:Nat,k<p.n/\vs.getD i 0=(k:Int):=⟨(vs.getD i 0).toNat,by have:=h.2 i hi;omega,by have:=h.2 i hi;omega⟩
section
variable{w:World}{Fb Pb Lb:Nat}{clv chv bv vv:Value}{S:Nat->Prop}{p:Fl.Prog}{vs:List Int}
def zw7(h:Xy w Fb Pb Lb clv chv bv vv S p vs){v:Value}{e:Fl.Expr}(he:zz3 S w v e)(ho:Fl.ExprOk vs.length e):
  Calls prog 191 #[.pointer (some ⟨Fb,0,none⟩),v] w λr w'=>r=.returned (.int .i64 (Fl.valLv p vs e))/\Below w.heap.size w w':=by
 have hF:=h.hF;have c0:=h.c0;have c1:=h.c1;have HS:Hid (∀W,Below w.heap.size w W->W.cell? ⟨Fb,0,none⟩=some (.pointer (some ⟨Pb,0,none⟩))/\W.cell? ⟨Fb,1,none⟩=some vv):=λW hW=>⟨(h.below hW).c0,(h.below hW).c1⟩
 have HC:Hid (∀W,Below w.heap.size w W->Calls prog 209 #[.pointer (some ⟨Pb,0,none⟩),v,vv] W λr w'=>r=.returned (.int .i64 (Fl.valLv p vs e))/\Below W.heap.size W w'):=λW hW=>
  zb0 (h.below hW).lv (h.below hW).vi h.ok.2 (h.below hW).hS (he.kept (λ_ h=>h) (λb hb=>hW.block b (h.hS b hb))) (zkz ho)
 generalize Fl.valLv p vs e=res at*;clear h he ho
 go_enter func191,ntmps191
 go_wp2_with fail
 refine Yy HS (Below.refl _ _).drew [9] [] [] (by kernel_rfl) (λc a d v w h=>by cases d<;>exact h) (λops _=>?_)
 iterate 9 refine Ze rfl (by rintro _ ⟨_,_⟩;go_simp<;>rfl) (by go_simp<;>rfl) ?_
 refine Zs ?_
 go_wp2_with fail
 refine(HC.out _ (Below.refl _ _).drew).mono ?_;rintro e1 W1 ⟨rfl,hB1⟩;have HB1:Hid (Below w.heap.size w W1):=(Below.refl _ _).drew.trans hB1;clear hB1
 go_wp2_with fail
 refine⟨HS.out _ HB1.out,?_⟩;refine Ze rfl (by rintro _ ⟨_,_⟩;go_simp<;>rfl) (by go_simp<;>rfl) ?_;refine Yt ?_;go_wp2;go_ret;exact⟨rfl,HB1.out⟩
def zg0(h:Xy w Fb Pb Lb clv chv bv vv S p vs){v:Value}{s:Fl.Stmt}(hs:zw6 S w v s)(hx:s.x<=100):
  Calls prog 110 #[.pointer (some ⟨Fb,0,none⟩),v] w λr w'=>r=.returned (.bool (Fl.ofLocal p s))/\Below w.heap.size w w':=by
 obtain⟨sb,rfl,hsb,k0,-,k2⟩:=hs;have hF:=h.hF;have c0:=h.c0;have p1:=h.p1;have hP:=h.lv.hz.1;have hcl:p.cells.length<=6:=h.pk.ce;have hsz:sb<w.heap.size:=h.hS sb hsb;obtain⟨ao,cap,rfl⟩:=h.ce;obtain⟨nc,hnc⟩:∃nc,nc=p.cells.length:=⟨_,rfl⟩
 have HE:Hid (Fl.ofLocal p s=(decide (s.kind=3) && decide (nc<=s.x))):=by show _=_;unfold Fl.ofLocal;rw[hnc]
 rw[<-hnc]at p1 hcl;obtain⟨res,hres⟩:∃res,res=Fl.ofLocal p s:=⟨_,rfl⟩;rw[<-hres]at HE⊢;obtain⟨kd,hkd⟩:∃kd,kd=s.kind:=⟨_,rfl⟩;obtain⟨xx,hxx⟩:∃xx,xx=s.x:=⟨_,rfl⟩;rw[<-hkd]at k0 HE;rw[<-hxx]at k2 HE hx;clear h hnc hres hkd hxx hsb
 have hclI:(nc:Int)<=6:=by omega
 by_cases h3:kd=3
 ·have b3:((kd:Int)==3)=true:=by rw[h3];rfl
  rw[decide_eq_true h3,Bool.true_and]at HE;clear h3
  by_cases hle:nc<=xx
  ·have hleI:(nc:Int)<=(xx:Int):=by omega
   rw[decide_eq_true hle]at HE
   go_enter func110,ntmps110
   go_wp2_with fail
   refine zxy [(5,10)] (by kernel_rfl) (by kernel_rfl) rfl (λops hG=>?_);have g1:=hG (5,10) (by simp);simp only at g1;clear hG
   iterate 21 still_step
   refine wpStill_nil ?_;go_wp2;go_ret;exact⟨cbE HE.out,(Below.refl _ _).drew⟩
  ·have hleI:¬(nc:Int)<=(xx:Int):=by omega
   have hleI2:(xx:Int)<(nc:Int):=(by omega);rw[decide_eq_false hle]at HE
   go_enter func110,ntmps110
   go_wp2_with fail
   refine zxy [(5,10)] (by kernel_rfl) (by kernel_rfl) rfl (λops hG=>?_);have g1:=hG (5,10) (by simp);simp only at g1;clear hG
   iterate 21 still_step
   refine wpStill_nil ?_;go_wp2;go_ret;exact⟨cbE HE.out,(Below.refl _ _).drew⟩
 ·have b3:((kd:Int)==3)=false:=beq_eq_false_iff_ne.2 (by omega)
  rw[decide_eq_false h3,Bool.false_and]at HE;clear h3
  go_enter func110,ntmps110
  go_wp2_with fail
  refine zxy [(5,10)] (by kernel_rfl) (by kernel_rfl) rfl (λops hG=>?_);have g1:=hG (5,10) (by simp);simp only at g1;clear hG
  iterate 21 still_step
  refine wpStill_nil ?_;go_wp2;go_ret;exact⟨cbE HE.out,(Below.refl _ _).drew⟩
def PlOk(p:Fl.Prog)(vs:List Int)(s:Fl.Stmt):Prop:=(s.kind=3/\s.x<vs.length)\/(s.kind=4/\s.x<p.chans.length)
def zi2(h:Xy w Fb Pb Lb clv chv bv vv S p vs){v:Value}{s:Fl.Stmt}(hs:zw6 S w v s)(lvl:Nat)(hl:lvl<p.n)(hk:PlOk p vs s):
  Calls prog 111 #[.pointer (some ⟨Fb,0,none⟩),.agg #[v,.int .i64 lvl]] w λr w'=>r=.returned (.bool (Fl.fitsM p vs (s,(lvl:Int))))/\Below w.heap.size w w':=by
 obtain⟨sb,rfl,hsb,k0,-,k2⟩:=hs;have hF:=h.hF;have c0:=h.c0;have c1:=h.c1;have p0:=h.lv.p0;have p2:=h.p2;have hP:=h.lv.hz.1;have hsz:sb<w.heap.size:=h.hS sb hsb;obtain⟨W0,hW0⟩:∃W0,W0=w.alloc (.cells #[.pointer (some ⟨sb,0,none⟩),.int .i64 lvl] 222):=⟨_,rfl⟩
 have HB0:Hid (Below w.heap.size w W0):=by show Below _ _ _;rw[hW0];exact bA
 have t0:W0.cell? ⟨w.heap.size,0,none⟩=some (.pointer (some ⟨sb,0,none⟩)):=by rw[hW0];simp
 have t1:W0.cell? ⟨w.heap.size,1,none⟩=some (.int .i64 lvl):=by rw[hW0];simp
 have key:∀(k:Nat) (b off:Nat),k<p.n->b<w.heap.size->w.cell? ⟨b,off+s.x,none⟩=some (.int .i64 (k:Nat))->
   Hid (∀W,Below W0.heap.size W0 W->W.cell? ⟨Fb,0,none⟩=some (.pointer (some ⟨Pb,0,none⟩))/\W.cell? ⟨Pb,0,none⟩=some (.pointer (some ⟨Lb,0,none⟩))/\W.cell? ⟨w.heap.size,0,none⟩=some (.pointer (some ⟨sb,0,none⟩))/\W.cell? ⟨w.heap.size,1,none⟩=some (.int .i64 lvl)/\W.cell? ⟨sb,2,none⟩=some (.int .i64 s.x)/\W.cell? ⟨b,off+s.x,none⟩=some (.int .i64 (k:Nat)))/\
   Hid (∀W,Below W0.heap.size W0 W->Calls prog 156 #[.pointer (some ⟨Lb,0,none⟩),.int .i64 lvl,.int .i64 (k:Nat)] W λe w'=>e=.returned (.bool (p.leq lvl k))/\w'=W):=λk b off hkn hb hc=>by
  have hz0:W0.heap.size=w.heap.size+1:=(by rw[hW0];simp);refine⟨λW hW=>?_,λW hW=>?_⟩
  ·have hW2:Below w.heap.size w W:=HB0.out.trans (hW.mono (by omega))
   exact⟨(hW2.cell (p:=⟨Fb,0,none⟩) hF).trans c0,(hW2.cell (p:=⟨Pb,0,none⟩) hP).trans p0,(hW.cell (p:=⟨w.heap.size,0,none⟩) (by show w.heap.size<_;omega)).trans t0,(hW.cell (p:=⟨w.heap.size,1,none⟩) (by show w.heap.size<_;omega)).trans t1,(hW2.cell (p:=⟨sb,2,none⟩) hsz).trans k2,(hW2.cell (p:=⟨b,off+s.x,none⟩) hb).trans hc⟩
  ·have hW2:Below w.heap.size w W:=HB0.out.trans (hW.mono (by omega))
   exact yv5 (h.lv.below hW2).la h.lv.lv.n6 lvl k hl hkn
 rcases hk with⟨e3,hx⟩|⟨e4,hx⟩
 ·obtain⟨b,off,cap,rfl,q1,q2,q3,q4⟩:=zxz h.vi hx
  obtain⟨k,hkn,ek⟩:=za5 h.ok hx;rw[ek]at q4;obtain⟨HS,HC⟩:=key k b off hkn q3 q4;have HR:Hid (Fl.fitsM p vs (s,(lvl:Int))=p.leq lvl k):=(by show _=_;unfold Fl.fitsM Fl.under;simp only;rw[if_neg (by omega),ek];rfl);have hxI:(s.x:Int)<(vs.length:Int):=(by omega);generalize p.leq lvl k=res at*;have b4:((s.kind:Int)==4)=false:=beq_eq_false_iff_ne.2 (by omega);rw[HR.out];generalize s.x=xx at*;generalize s.kind=kd at*;clear h hsb key HR e3 hx ek hkn q1 q2 hl
  go_enter func111,ntmps111
  go_wp2_with fail
  rw[<-hW0];clear hW0 c0 c1 p0 p2 k2 q4 k0 t0 t1;refine Yy HS (Below.refl _ _).drew [17] [] [] (by kernel_rfl) (λc a d v w h=>by cases d<;>exact h) (λops _=>?_)
  iterate 17 refine Ze rfl (by rintro _ ⟨_,_,_,_,_,_⟩;go_simp<;>rfl) (by go_simp<;>rfl) ?_
  refine Zs ?_
  go_wp2_with fail
  refine(HC.out _ (Below.refl _ _).drew).mono ?_;rintro e1 W1 ⟨rfl,rfl⟩
  go_wp2_with fail
  refine⟨HS.out _ (Below.refl _ _).drew,?_⟩;refine Ze rfl (by rintro _ ⟨_,_,_,_,_,_⟩;go_simp<;>rfl) (by go_simp<;>rfl) ?_;refine Yt ?_;go_wp2;go_ret;exact⟨rfl,HB0.out.drew⟩
 ·obtain⟨b,off,cap,rfl,q1,q2,q3,q4⟩:=zxz h.ch (i:=s.x) (by simpa using hx)
  obtain⟨k,hkn,ek⟩:=zf4 h.lv.lv hx;rw[ek]at q4;obtain⟨HS,HC⟩:=key k b off hkn q3 q4;have HR:Hid (Fl.fitsM p vs (s,(lvl:Int))=p.leq lvl k):=(by show _=_;unfold Fl.fitsM Fl.under;simp only;rw[if_pos e4,ek];rfl);have hxI:(s.x:Int)<((p.chans.map λ(y:Nat)=>(y:Int)).length:Int):=(by simp;omega);generalize p.leq lvl k=res at*;have b4:((s.kind:Int)==4)=true:=(by rw[e4];rfl);rw[HR.out];generalize s.x=xx at*;generalize s.kind=kd at*;generalize (p.chans.map λ(y:Nat)=>(y:Int)).length=ln at*;clear h hsb key HR e4 hx ek hkn q1 q2 hl
  go_enter func111,ntmps111
  go_wp2_with fail
  rw[<-hW0];clear hW0 c0 c1 p0 p2 k2 q4 k0 t0 t1;refine Yy HS (Below.refl _ _).drew [17] [] [] (by kernel_rfl) (λc a d v w h=>by cases d<;>exact h) (λops _=>?_)
  iterate 17 refine Ze rfl (by rintro _ ⟨_,_,_,_,_,_⟩;go_simp<;>rfl) (by go_simp<;>rfl) ?_
  refine Zs ?_
  go_wp2_with fail
  refine(HC.out _ (Below.refl _ _).drew).mono ?_;rintro e1 W1 ⟨rfl,rfl⟩
  go_wp2_with fail
  refine⟨HS.out _ (Below.refl _ _).drew,?_⟩;refine Ze rfl (by rintro _ ⟨_,_,_,_,_,_⟩;go_simp<;>rfl) (by go_simp<;>rfl) ?_;refine Yt ?_;go_wp2;go_ret;exact⟨rfl,HB0.out.drew⟩
end
def Tryz.infoMove:(Tryz.prog.info? 222).map (λi=>(i.zero,i.size,i.bytes))=some (some (.agg #[.pointer none,.int .i64 0]),2,16):=by kernel_rfl
def zpy{w w':World}{base:Nat}{e:TypeId}{k:Nat}{v:Value}{n:Nat}{xs:List Value}(h:w.ownsRow base e k v n xs)(hb:Below w.heap.size w w'):w'.ownsRow base e k v n xs:=by
 have og:w.grownBy w' none:=⟨hb.os,hb.tape,hb.output,hb.size,λk hk _=>hb.block k hk⟩;exact h.kept og (by cases v.ownBlock<;>simp)
def mvC:List (Value×Int)->List Value
 |[]=>[]
 |q::l=>q.1:: .int .i64 q.2::mvC l
def za6:∀(l:List (Value×Int)),(mvC l).length=l.length*2
 |[]=>rfl
 |_::l=>by simp only[mvC,List.length_cons,za6 l];omega
def zm8:∀(l m:List (Value×Int)),mvC (l++m)=mvC l++mvC m
 |[],_=>rfl
 |_::l,m=>by simp only[List.cons_append,mvC,zm8 l m]
def zf5:∀(l:List (Value×Int)) (i:Nat) (q:Value×Int),l[i]?=some q->(mvC l)[i*2]?=some q.1/\(mvC l)[i*2+1]?=some (.int .i64 q.2)
 |[],_,_,h=>by cases h
 |q::l,0,q',h=>by cases h;exact⟨rfl,rfl⟩
 |q::l,i+1,q',h=>by
  have:=zf5 l i q' (by simpa using h);rw[show (i+1)*2=i*2+1+1 from by omega];exact this
def MvR(S:Nat->Prop)(w:World):List (Value×Int)->List (Fl.Stmt×Int)->Prop
 |[],[]=>True
 |q::qs,m::ms=>(q.2=m.2/\zw6 S w q.1 m.1)/\MvR S w qs ms
 |_,_=>False
def MvR.len{S:Nat->Prop}{w:World}:∀{qs:List (Value×Int)} {ms:List (Fl.Stmt×Int)},MvR S w qs ms->qs.length=ms.length
 |[],[],_=>rfl
 |_::_,_::_,h=>by simp only[List.length_cons,MvR.len h.2]
def MvR.append{S:Nat->Prop}{w:World}:∀{qs:List (Value×Int)} {ms:List (Fl.Stmt×Int)} {qs':List (Value×Int)} {ms':List (Fl.Stmt×Int)},MvR S w qs ms->MvR S w qs' ms'->MvR S w (qs++qs') (ms++ms')
 |[],[],_,_,_,h=>h
 |_::_,_::_,_,_,h,h'=>⟨h.1,MvR.append h.2 h'⟩
def MvR.kept{S:Nat->Prop}{w w':World}(hw:∀b,S b->w'.heap[b]?=w.heap[b]?):∀{qs:List (Value×Int)} {ms:List (Fl.Stmt×Int)},MvR S w qs ms->MvR S w' qs ms
 |[],[],_=>trivial
 |_::_,_::_,h=>⟨⟨h.1.1,h.1.2.kept (λ_ h=>h) hw⟩,MvR.kept hw h.2⟩
def MvR.one{S:Nat->Prop}{w:World}:∀{qs:List (Value×Int)} {ms:List (Fl.Stmt×Int)},MvR S w qs ms->∀u∈mvC qs,u.oneCell'=true
 |[],[],_,_,h=>by cases h
 |q::_,_::_,h,u,hu=>by
  simp only[mvC,List.mem_cons]at hu;rcases hu with rfl|rfl|hu
  ·obtain⟨sb,e,-⟩:=h.1.2;rw[e];rfl
  ·rfl
  ·exact MvR.one h.2 u hu
def MvR.get{S:Nat->Prop}{w:World}:∀{qs:List (Value×Int)} {ms:List (Fl.Stmt×Int)},MvR S w qs ms->∀(i:Nat) (m:Fl.Stmt×Int),ms[i]?=some m->∃q,qs[i]?=some q/\q.2=m.2/\zw6 S w q.1 m.1
 |[],[],_,_,_,h=>by cases h
 |q::_,_::_,h,0,m,hm=>by cases hm;exact⟨q,rfl,h.1.1,h.1.2⟩
 |_::_,_::_,h,i+1,m,hm=>by
  obtain⟨q,h1,h2⟩:=MvR.get h.2 i m (by simpa using hm);exact⟨q,by simpa using h1,h2⟩
def Ya(S:Nat->Prop)(base:Nat)(w:World)(v:Value)(ms:List (Fl.Stmt×Int)):Prop:=
 ∃qs,w.ownsRow base 222 2 v ms.length (mvC qs)/\MvR S w qs ms/\(ms=[]->v=.slice none 0 0)
def Ya.nil(S:Nat->Prop)(base:Nat)(w:World):Ya S base w (.slice none 0 0) []:=⟨[],World.ownsRow_nil _ _ _ _,trivial,λ_=>rfl⟩
def Ya.low{S:Nat->Prop}{base:Nat}{w w':World}{v:Value}{ms:List (Fl.Stmt×Int)}(h:Ya S base w v ms)(hb:Below w.heap.size w w')(hS:∀b,S b->b<w.heap.size):Ya S base w' v ms:=by
 obtain⟨qs,h1,h2,h3⟩:=h;exact⟨qs,zpy h1 hb,h2.kept (λb hs=>hb.block b (hS b hs)),h3⟩
def Ya.lt{S:Nat->Prop}{base:Nat}{w:World}{v:Value}{ms:List (Fl.Stmt×Int)}(h:Ya S base w v ms):∀g,v.ownBlock=some g->base<=g:=by
 obtain⟨qs,h1,-⟩:=h;exact λg hg=>(h1.lt g hg).1
def Ya.push{S:Nat->Prop}{base:Nat}{w w':World}{v v':Value}{ms ms':List (Fl.Stmt×Int)}{qs qs':List (Value×Int)}(hS:∀b,S b->b<base)(hb:base<=w.heap.size)(h1:w.ownsRow base 222 2 v ms.length (mvC qs))(h2:MvR S w qs ms)(h3:MvR S w qs' ms')(hne:ms'≠[])
  (ho:w'.ownsRow base 222 2 v' (ms.length+ms'.length) (mvC qs++mvC qs')) (hg:w.grownBy w' v.ownBlock):Ya S base w' v' (ms++ms'):=by
 have hk:∀b,S b->w'.heap[b]?=w.heap[b]?:=λb hs=>hg.block b (by have:=hS b hs;omega) (λhh=>by have:=(h1.lt b hh.symm).1;have:=hS b hs;omega);refine⟨qs++qs',by rw[List.length_append,zm8];exact ho,(h2.kept hk).append (h3.kept hk),λh=>?_⟩;exact absurd (List.append_eq_nil_iff.1 h).2 hne
section
variable{w:World}
def zv1{ops:Array Oper}{rest:List Oper}{o:Oper}{a:Act}{Q:Exit->Act->World->Prop}(hgd:o.guard=none)(s x:Operand)
  (ho:o.op=.call {callee:=.builtin .append,args:=#[s,x],argTypes:=#[218,218]}) {S:Nat->Prop} {base base':Nat} (hS:∀b,S b->b<base) (hb:base<=w.heap.size)
  {v v2:Value} {ms ms':List (Fl.Stmt×Int)} (hs:a.eval s=v) (hx:a.eval x=v2) (h1:Ya S base w v ms) (h2:Ya S base' w v2 ms') (hl:ms.length+ms'.length<=4000000)
  (h:∀v' w',Ya S base w' v' (ms++ms')->w.grownBy w' v.ownBlock->wpList prog ops Q rest (a.put o.dst v') w'):wpList prog ops Q (o::rest) a w:=by
 obtain⟨i0,hi0,hz0,hzs,hzb⟩:=info_parts Tryz.infoMove;obtain⟨qs,k1,k2,k3⟩:=h1;obtain⟨qs',m1,m2,m3⟩:=h2
 by_cases he:ms'=[]
 ·subst he
  refine wpList_append_own_none hgd s x 218 ho base 222 i0 2 underlying218 hi0 v _ _ hs k1 (hx.trans (m3 rfl)) (h v w (by rw[List.append_nil];exact⟨qs,k1,k2,k3⟩) ?_);exact World.grownBy.refl _ _
 ·rcases id m1.2 with⟨rfl,h0⟩|⟨g,cap,cur,rfl,hg,-⟩
  ·exact absurd (List.eq_nil_of_length_eq_zero h0) he
  ·refine Zk _ hgd s x 218 ho base 222 i0 (.agg #[.pointer none,.int .i64 0]) 2 16 underlying218 hi0 hz0 hzs hzb rfl (by decide) v _ _ hs k1 ⟨g,0,none⟩ ms'.length cap (mvC qs') hx (by rw[za6,m2.len]) (by have:ms'.length≠0:=λh=>he (List.eq_nil_of_length_eq_zero h);omega) (λj u hj=>m1.cells (g:=g) rfl j u hj) m2.one (by unfold maxLen;omega) (by omega) hb (λv' w' o1 o2 _=>h v' w' (Ya.push hS hb k1 k2 m2 he o1 o2) o2)
def zf6{e:TypeId}{l:List Value}:∀j u,l[j]?=some u->(w.alloc (.cells l.toArray e)).cell? ((⟨w.heap.size,0,none⟩:Addr).add j)=some u:=by
 intro j u hj
 have h2:(⟨w.heap.size,0,none⟩:Addr).add j=⟨w.heap.size,j,none⟩:=by unfold Addr.add;split<;>simp_all
 rw[h2,World.cell?_alloc_new];simpa using hj
def zo1{ops:Array Oper}{rest:List Oper}{o:Oper}{a:Act}{Q:Exit->Act->World->Prop}(hgd:o.guard=none)(s x:Operand)
  (ho:o.op=.call {callee:=.builtin .append,args:=#[s,x],argTypes:=#[218,218]}) {S:Nat->Prop} {base:Nat} (hS:∀b,S b->b<base) (hb:base<=w.heap.size)
  {v:Value} {ms:List (Fl.Stmt×Int)} (pv:Value) (st:Fl.Stmt) (lv:Int) (hs:a.eval s=v) (hx:a.eval x=.slice (some ⟨w.heap.size,0,none⟩) 1 1) (h1:Ya S base w v ms) (h2:zw6 S w pv st) (hl:ms.length<=4000000)
  (h:∀v' w',Ya S base w' v' (ms++[(st,lv)])->(w.alloc (.cells #[pv,.int .i64 lv] 222)).grownBy w' v.ownBlock->wpList prog ops Q rest (a.put o.dst v') w'):wpList prog ops Q (o::rest) a (w.alloc (.cells #[pv,.int .i64 lv] 222)):=by
 obtain⟨i0,hi0,hz0,hzs,hzb⟩:=info_parts Tryz.infoMove;have hbl:Below w.heap.size w (w.alloc (.cells #[pv,.int .i64 lv] 222)):=bA;obtain⟨qs,k1,k2,k3⟩:=h1.low hbl (λb hs=>by have:=hS b hs;omega);have h3:MvR S (w.alloc (.cells #[pv,.int .i64 lv] 222)) [(pv,lv)] [(st,lv)]:=⟨⟨rfl,h2.kept (λ_ h=>h) (λb hs=>hbl.block b (by have:=hS b hs;omega))⟩,trivial⟩
 have hz:base<=(w.alloc (.cells #[pv,.int .i64 lv] 222)).heap.size:=by simp;omega
 refine Zk _ hgd s x 218 ho base 222 i0 (.agg #[.pointer none,.int .i64 0]) 2 16 underlying218 hi0 hz0 hzs hzb rfl (by decide) v _ _ hs k1 ⟨w.heap.size,0,none⟩ 1 1 [pv,.int .i64 lv] hx rfl (by decide) zf6 (h3.one) (by unfold maxLen;omega) (by omega) hz (λv' w' o1 o2 _=>h v' w' (Ya.push hS hz k1 k2 h3 (by simp) o1 o2) o2)
end
namespace Fl
def Small:Nat->List Stmt->Prop
 |0,l=>l=[]
 |d+1,l=>l.length<=16/\∀s∈l,Small d s.body/\Small d s.other
def flatMap_len{f:Stmt->List (Stmt×Int)}{c:Nat}:∀(l:List Stmt),(∀s∈l,(f s).length<=c)->(l.flatMap f).length<=l.length*c
 |[],_=>by simp
 |s::l,h=>by
  have h1:=h s (by simp);have h2:=flatMap_len l (λx hx=>h x (by simp[hx]));rw[List.flatMap_cons,List.length_append,List.length_cons,Nat.succ_mul];omega
def movesOne_len{p:Prog}{vs:List Int}{K:List Stmt->Int->List (Stmt×Int)}{c:Nat}(s:Stmt)(u:Int)(h1:∀u,(K s.body u).length<=c)(h2:∀u,(K s.other u).length<=c):(movesOne K p vs u s).length<=1+2*c:=by
 unfold movesOne
 split
 ·simp
 ·split
  ·rw[List.length_append]
   have:=h1 (jn p u (valLv p vs s.e));have:=h2 (jn p u (valLv p vs s.e));omega
  ·simp
def moves_len(p:Prog)(vs:List Int):∀(d:Nat) (l:List Stmt) (u:Int),Small d l->(moves p vs d l u).length<=48 ^ d
 |0,_,_,_=>by simp[moves]
 |d+1,l,u,h=>by
  have hp:0<48 ^ d:=Nat.pow_pos (by decide)
  have h1:∀s∈l,(movesOne (moves p vs d) p vs u s).length<=3*48 ^ d:=λs hs=>by
   have:=movesOne_len (p:=p) (vs:=vs) (c:=48 ^ d) s u (λu=>moves_len p vs d _ u (h.2 s hs).1) (λu=>moves_len p vs d _ u (h.2 s hs).2);omega
  have h2:=flatMap_len l h1;have h3:l.length*(3*48 ^ d)<=16*(3*48 ^ d):=Nat.mul_le_mul_right _ h.1;rw[Nat.pow_succ];show (l.flatMap _).length<=_;omega
def take_flat{f:Stmt->List (Stmt×Int)}{l:List Stmt}{k:Nat}(h:k<l.length):(l.take (k+1)).flatMap f=(l.take k).flatMap f++f (l.getD k noS):=by
 rw[List.take_succ_eq_append_getElem h,List.flatMap_append,List.getD_eq_getElem?_getD,List.getElem?_eq_getElem h];simp
end Fl
def Zt.small{S:Nat->Prop}{w:World}:∀(d:Nat) (v:Value) (l:List Fl.Stmt),Zt d S w v l->Fl.Small d l
 |0,_,_,h=>h.1
 |d+1,v,l,h=>by
  obtain⟨ao,cap,-,-,-,h16,hc⟩:=h;refine⟨h16,λs hs=>?_⟩;obtain⟨i,hi,rfl⟩:=List.getElem_of_mem hs;obtain⟨b,off,-,-,h1⟩:=hc (by intro e;rw[e]at hi;cases hi);obtain⟨p,-,sb,vp,fv,ev,-,-,-,-,h2,h3⟩:=h1 i hi;rw[List.getD_eq_getElem?_getD,List.getElem?_eq_getElem hi]at h2 h3;exact⟨Zt.small d _ _ h2,Zt.small d _ _ h3⟩
def Jw(S:Nat->Prop)(w:World)(ms:List (Fl.Stmt×Int))(e:Ending)(w':World):Prop:=∃v,e=.returned v/\Ya S w.heap.size w' v ms/\Below w.heap.size w w'
def zy9{p:Fl.Prog}{vs:List Int}(h:p.Lv)(ok:Fl.LvOk p vs){e:Fl.Expr}(ho:Fl.ExprOk vs.length e):∃k:Nat,k<p.n/\Fl.valLv p vs e=(k:Int):=by
 have hv:=zkz ho;obtain⟨a,ha,ea⟩:=Jx h ok.2 hv.1;unfold Fl.valLv
 by_cases h0:e.op<0
 ·rw[if_pos h0];exact⟨a,ha,ea⟩
 ·rw[if_neg h0]
  obtain⟨b,hb,eb⟩:=Jx h ok.2 (hv.2 (by omega));obtain⟨k,h1,h2⟩:=h.join ha hb;exact⟨k,h1,by unfold Fl.jn;rw[ea,eb];exact h2⟩
section
variable{w:World}{Fb Pb Lb:Nat}{clv chv bv vv:Value}{S:Nat->Prop}{p:Fl.Prog}{vs:List Int}
def zf7(d:Nat)(hd:d<=3)(IH:∀W,Below w.heap.size w W->∀(v:Value) (l:List Fl.Stmt) (u:Nat),Zt d S W v l->Fl.StmtsOk vs.length p.chans.length d l->u<p.n->Calls prog 155 #[.pointer (some ⟨Fb,0,none⟩),v,.int .i64 u] W (Jw S W (Fl.moves p vs d l u)))
  (h:Xy w Fb Pb Lb clv chv bv vv S p vs) (v:Value) (l:List Fl.Stmt) (u:Nat) (hl:Zt (d+1) S w v l) (ho:Fl.StmtsOk vs.length p.chans.length (d+1) l) (hu:u<p.n):
  Calls prog 155 #[.pointer (some ⟨Fb,0,none⟩),v,.int .i64 u] w (Jw S w (Fl.moves p vs (d+1) l u)):=by
 have hsm:=Zt.small _ _ _ hl;have hc48:48 ^ d<=110592:=by
  have:d=0\/d=1\/d=2\/d=3:=by omega
  rcases this with rfl|rfl|rfl|rfl<;>decide
 have hone:∀s∈l,(Fl.movesOne (Fl.moves p vs d) p vs u s).length<=221185:=λs hs=>by
  have:=Fl.movesOne_len (p:=p) (vs:=vs) (c:=48 ^ d) s u (λu=>Fl.moves_len p vs d _ u (hsm.2 s hs).1) (λu=>Fl.moves_len p vs d _ u (hsm.2 s hs).2);omega
 have h16:=hsm.1
 have HLEN:Hid (∀k,((l.take k).flatMap (Fl.movesOne (Fl.moves p vs d) p vs u)).length<=3538960):=λk=>by
  have h1:=Fl.flatMap_len (l.take k) (λs hs=>hone s (List.mem_of_mem_take hs));have h2:(l.take k).length<=16:=(by rw[List.length_take];omega);have h3:(l.take k).length*221185<=16*221185:=Nat.mul_le_mul_right _ h2;omega
 have HRES:Hid (Fl.moves p vs (d+1) l u=(l.take l.length).flatMap (Fl.movesOne (Fl.moves p vs d) p vs u)):=by show _=_;rw[List.take_length];rfl
 obtain⟨ao,cap,rfl,hcap,hcm,-,hrow⟩:=id hl;have HROW:Hid (l≠[]->∃b off,ao=some ⟨b,off,none⟩/\S b/\∀i,i<l.length->∃p,w.cell? ⟨b,off+i,none⟩=some p/\Vj (Zt d) S w p (l.getD i noS)):=hrow;have HH:Hid (Xy w Fb Pb Lb clv chv bv vv S p vs):=h;have HIH:Hid (∀W,Below w.heap.size w W->∀(v:Value) (l:List Fl.Stmt) (u:Nat),Zt d S W v l->Fl.StmtsOk vs.length p.chans.length d l->u<p.n->Calls prog 155 #[.pointer (some ⟨Fb,0,none⟩),v,.int .i64 u] W (Jw S W (Fl.moves p vs d l u))):=IH;have HO:Hid (Fl.StmtsOk vs.length p.chans.length (d+1) l):=ho
 have hlI:(l.length:Int)<=16:=by omega
 unfold maxLen at hcm;clear h IH ho hrow hl hone hc48 hsm
 go_enter func155,ntmps155
 go_wp2
 go_loopw [7,13] (λv i wr=>∃(k:Nat),k<=l.length/\i=.int .i64 k/\Ya S w.heap.size wr v ((l.take k).flatMap (Fl.movesOne (Fl.moves p vs d) p vs u))/\Below w.heap.size w wr) (λ_ i _=>l.length - (intOf i).toNat)
 case atStart=>exact⟨0,by omega,rfl,Ya.nil _ _ _,Below.refl _ _⟩
 case round=>
  obtain⟨k,hk,rfl,hmv,hbel⟩:=hrel
  by_cases hlt:k<l.length
  ·obtain⟨b,off,rfl,hSb,hcell⟩:=HROW.out (by intro e;rw[e]at hlt;cases hlt)
   obtain⟨pv,hpc,hst⟩:=hcell k hlt;obtain⟨s,hs⟩:∃s,s=l.getD k noS:=⟨_,rfl⟩;have hmem:s∈l:=(by rw[hs,List.getD_eq_getElem?_getD,List.getElem?_eq_getElem hlt];exact List.getElem_mem hlt);have HNX:Hid ((l.take (k+1)).flatMap (Fl.movesOne (Fl.moves p vs d) p vs u)=(l.take k).flatMap (Fl.movesOne (Fl.moves p vs d) p vs u)++Fl.movesOne (Fl.moves p vs d) p vs u s):=(by rw[hs];exact Fl.take_flat hlt);rw[<-hs]at hst;obtain⟨sb,vp,fv,ev,rfl,hSs,hcs,hval,hfi,hel⟩:=hst;obtain⟨hkind,hexpr,hok1,hok2⟩:=HO.out s hmem;have hbz:b<w.heap.size:=HH.out.hS b hSb;have hsz:sb<w.heap.size:=HH.out.hS sb hSs;have hbs:=hbel.size;have q:∀j,wr.cell? ⟨sb,j,none⟩=w.cell? ⟨sb,j,none⟩:=λj=>hbel.cell (p:=⟨sb,j,none⟩) hsz;have f0:wr.cell? ⟨b,off+k,none⟩=some (.pointer (some ⟨sb,0,none⟩)):=(hbel.cell (p:=⟨b,off+k,none⟩) hbz).trans hpc;have s0:wr.cell? ⟨sb,0,none⟩=some (.int .i64 s.kind):=(q 0).trans (hcs.c 0 (by omega));have k5:w.cell? ⟨sb,5,none⟩=some ev:=hcs.c 5 (by omega);have s3:wr.cell? ⟨sb,3,none⟩=some vp:=(q 3).trans (hcs.c 3 (by omega));have s4:wr.cell? ⟨sb,4,none⟩=some fv:=(q 4).trans (hcs.c 4 (by omega));have s5:wr.cell? ⟨sb,5,none⟩=some ev:=(q 5).trans (hcs.c 5 (by omega));have HSH:Hid (zw6 S w (.pointer (some ⟨sb,0,none⟩)) s):=⟨sb,rfl,hSs,hcs.c 0 (by omega),hcs.c 1 (by omega),hcs.c 2 (by omega)⟩;have HR:Hid (Xy wr Fb Pb Lb clv chv bv vv S p vs):=HH.out.below hbel;obtain⟨vl,hvl,evl⟩:=zy9 HH.out.lv.lv HH.out.ok hexpr;obtain⟨lv,hlv,elv⟩:=HH.out.lv.lv.join hu hvl;have HJN:Hid (Fl.jn p u (Fl.valLv p vs s.e)=(lv:Int)):=(by show _=_;unfold Fl.jn;rw[evl];exact elv);have c0:=HR.out.c0;have p0:=HR.out.lv.p0;have hF:=HR.out.hF;have hP:=HR.out.lv.hz.1;have HS:Hid (∀W,Below wr.heap.size wr W->W.cell? ⟨Fb,0,none⟩=some (.pointer (some ⟨Pb,0,none⟩))/\W.cell? ⟨Pb,0,none⟩=some (.pointer (some ⟨Lb,0,none⟩))/\W.cell? ⟨sb,3,none⟩=some vp):=λW hW=>⟨(hW.cell (p:=⟨Fb,0,none⟩) hF).trans c0,(hW.cell (p:=⟨Pb,0,none⟩) hP).trans p0,(hW.cell (p:=⟨sb,3,none⟩) (by show sb<_;omega)).trans s3⟩
   have HLV:Hid (∀W,Below wr.heap.size wr W->Calls prog 191 #[.pointer (some ⟨Fb,0,none⟩),vp] W λr w'=>r=.returned (.int .i64 (vl:Nat))/\Below W.heap.size W w'):=λW hW=>by
    have hW2:Below w.heap.size w W:=hbel.trans (hW.mono hbs);have:=zw7 (HR.out.below hW) (hval.kept (λ_ h=>h) (λb hb=>hW2.block b (HH.out.hS b hb))) hexpr;rw[evl]at this;exact this
   have HJ:Hid (∀W,Below wr.heap.size wr W->Calls prog 112 #[.pointer (some ⟨Lb,0,none⟩),.int .i64 u,.int .i64 vl] W λr w'=>r=.returned (.int .i64 (lv:Nat))/\w'=W):=λW hW=>by
    have:=zs1 (HR.out.lv.below hW).la HH.out.lv.lv.n6 u vl hu hvl;rw[elv]at this;exact this
   have HFI:Hid (∀W,Below w.heap.size w W->Zt d S W fv s.body/\Zt d S W ev s.other):=λW hW=>⟨Zt.kept (λ_ h=>h) (λb hb=>hW.block b (HH.out.hS b hb)) _ _ _ hfi,Zt.kept (λ_ h=>h) (λb hb=>hW.block b (HH.out.hS b hb)) _ _ _ hel⟩;have HOK:Hid (Fl.StmtsOk vs.length p.chans.length d s.body/\Fl.StmtsOk vs.length p.chans.length d s.other):=⟨hok1,hok2⟩;have HSb:Hid (∀b,S b->b<w.heap.size):=HH.out.hS;have HMV:Hid (Ya S w.heap.size wr u7 ((l.take k).flatMap (Fl.movesOne (Fl.moves p vs d) p vs u))):=hmv;have hltI:(k:Int)<(l.length:Int):=(by omega);have HLT:Hid (k<l.length):=hlt;clear hcell hpc hSb hcs hval hfi hel hok1 hok2 hexpr hmem hmv evl elv q hs hSs hlt
   go_wp2_with fail
   refine Yy HS (Below.refl _ _).drew [13,14] [] [] (by kernel_rfl) (λc a d v w h=>by cases d<;>exact h) (λops _=>?_)
   iterate 13 refine Ze rfl (by rintro _ ⟨_,_,_⟩;go_simp<;>rfl) (by go_simp<;>rfl) ?_
   refine Zs ?_
   go_wp2_with fail
   refine(HLV.out _ (Below.refl _ _).drew).mono ?_;rintro e1 W9 ⟨rfl,hB1⟩;have HB1:Hid (Below wr.heap.size wr W9):=(Below.refl _ _).drew.trans hB1;clear hB1
   go_wp2_with fail
   refine⟨HS.out _ HB1.out,?_⟩;refine Zs ?_
   go_wp2_with fail
   refine(HJ.out _ HB1.out).mono ?_;rintro e2 W1 ⟨rfl,rfl⟩
   go_wp2_with fail
   refine⟨HS.out _ HB1.out,?_⟩;refine Ze rfl (by rintro _ ⟨_,_,_⟩;go_simp<;>rfl) (by go_simp<;>rfl) ?_;refine Yt ?_;have HW1:Hid (Below w.heap.size w W1):=hbel.trans (HB1.out.mono hbs);have hz1:w.heap.size<=W1.heap.size:=HW1.out.size;have HM1:Hid (Ya S w.heap.size W1 u7 ((l.take k).flatMap (Fl.movesOne (Fl.moves p vs d) p vs u))):=HMV.out.low HB1.out (λb hb=>Nat.lt_of_lt_of_le (HSb.out b hb) hbs);have r0:W1.cell? ⟨sb,0,none⟩=some (.int .i64 s.kind):=(HB1.out.cell (p:=⟨sb,0,none⟩) (by show sb<_;omega)).trans s0;have r4:W1.cell? ⟨sb,4,none⟩=some fv:=(HB1.out.cell (p:=⟨sb,4,none⟩) (by show sb<_;omega)).trans s4;have r5:W1.cell? ⟨sb,5,none⟩=some ev:=(HB1.out.cell (p:=⟨sb,5,none⟩) (by show sb<_;omega)).trans s5;have HK5:Hid (∀W,Below w.heap.size w W->W.cell? ⟨sb,5,none⟩=some ev):=λW hW=>(hW.cell (p:=⟨sb,5,none⟩) hsz).trans k5;clear s0 s3 s4 s5 c0 p0 f0 k5 HLV HJ HS HB1 HR HMV hF hP hvl HROW HH
   have hkd:(s.kind=3\/s.kind=4)\/(s.kind=5\/s.kind=6):=by rcases hkind with h|h|h|h<;>omega
   clear hkind;rcases hkd with h34|h56
   ·have HM:Hid (Fl.movesOne (Fl.moves p vs d) p vs u s=[(s,(lv:Int))]):=by show _=_;unfold Fl.movesOne;rw[if_pos h34,HJN.out]
    have HL1:=HLEN.out k;rcases h34 with h3|h4
    all_goals
     first|(rw[h3]at r0;clear h3)|(rw[h4]at r0;clear h4)
     go_wp2_with (at_builtin;refine zo1 rfl (.tmp 39) (.tmp 43) rfl HSb.out hz1 (.pointer (some ⟨sb,0,none⟩)) s (lv:Int) rfl rfl HM1.out (HSH.out.kept (λ_ h=>h) (λb hb=>HW1.out.block b (HSb.out b hb))) (by omega) ?_)
     intro v' W2 hmv2 hgr;have hb2:Below w.heap.size w W2:=(HW1.out.alloc hz1 _).grown hgr (by simp;omega) (λg hg=>HM1.out.lt g hg);have hmv3:Ya S w.heap.size W2 v' ((l.take (k+1)).flatMap (Fl.movesOne (Fl.moves p vs d) p vs u)):=(by rw[HNX.out,HM.out];exact hmv2);have HM3:Hid (Ya S w.heap.size W2 v' ((l.take (k+1)).flatMap (Fl.movesOne (Fl.moves p vs d) p vs u))):=hmv3;clear hmv2 hmv3 hgr HM HM1 HNX HL1 r0 r4 r5 HFI HOK HJN;go_wp2
     go_roundw
     case rel=>exact⟨k+1,by have:=HLT.out;omega,by go_num,HM3.out,hb2⟩
     case measure=>simp[intOf];omega
   ·obtain⟨m1,hm1⟩:∃m1,m1=Fl.moves p vs d s.body lv:=⟨_,rfl⟩
    obtain⟨m2,hm2⟩:∃m2,m2=Fl.moves p vs d s.other lv:=⟨_,rfl⟩;have HM:Hid (Fl.movesOne (Fl.moves p vs d) p vs u s=m1++m2):=(by show _=_;unfold Fl.movesOne;rw[if_neg (by omega),if_pos h56,HJN.out,hm1,hm2]);have HL2:Hid (((l.take k).flatMap (Fl.movesOne (Fl.moves p vs d) p vs u)).length+(m1.length+m2.length)<=3538960):=by
     have:=HLEN.out (k+1);rw[HNX.out,HM.out,List.length_append,List.length_append]at this;exact this
    have HC1:Hid (∀W,Below w.heap.size w W->Calls prog 155 #[.pointer (some ⟨Fb,0,none⟩),fv,.int .i64 lv] W (Jw S W m1)):=λW hW=>by rw[hm1];exact HIH.out W hW fv s.body lv (HFI.out W hW).1 HOK.out.1 hlv
    have HC2:Hid (∀W,Below w.heap.size w W->Calls prog 155 #[.pointer (some ⟨Fb,0,none⟩),ev,.int .i64 lv] W (Jw S W m2)):=λW hW=>by rw[hm2];exact HIH.out W hW ev s.other lv (HFI.out W hW).2 HOK.out.2 hlv
    generalize hms:(l.take k).flatMap (Fl.movesOne (Fl.moves p vs d) p vs u)=ms at*;clear hm1 hm2 HFI HOK HJN HIH r5;rcases h56 with h5|h6
    all_goals
     first|(rw[h5]at r0;clear h5)|(rw[h6]at r0;clear h6)
     go_wp2_with fail
     refine(HC1.out _ HW1.out).mono ?_;rintro e W2 ⟨v2,rfl,hA,hB⟩;have HA:Hid (Ya S W1.heap.size W2 v2 m1):=hA;have HB2:Hid (Below w.heap.size w W2):=HW1.out.trans (hB.mono hz1);have hz2:w.heap.size<=W2.heap.size:=HB2.out.size;have HM2:Hid (Ya S w.heap.size W2 u7 ms):=HM1.out.low hB (λb hb=>Nat.lt_of_lt_of_le (HSb.out b hb) hz1);have hl2:ms.length+m1.length<=4000000:=(by have:=HL2.out;omega);clear hA hB HM1
     go_wp2_with (at_builtin;refine zv1 rfl (.tmp 48) (.tmp 55) rfl HSb.out hz2 rfl rfl HM2.out HA.out hl2 ?_)
     intro v3 W3 hmv3 hgr3;have HB3:Hid (Below w.heap.size w W3):=HB2.out.grown hgr3 (by omega) (λg hg=>HM2.out.lt g hg);have hz3:w.heap.size<=W3.heap.size:=HB3.out.size;have HM3:Hid (Ya S w.heap.size W3 v3 (ms++m1)):=hmv3;have r5:W3.cell? ⟨sb,5,none⟩=some ev:=HK5.out _ HB3.out;clear hmv3 hgr3 HM2 HA HB2 hz2 hl2 r4
     go_wp2_with fail
     refine(HC2.out _ HB3.out).mono ?_;rintro e W4 ⟨v4,rfl,hA,hB⟩;have HA:Hid (Ya S W3.heap.size W4 v4 m2):=hA;have HB4:Hid (Below w.heap.size w W4):=HB3.out.trans (hB.mono hz3);have hz4:w.heap.size<=W4.heap.size:=HB4.out.size;have HM4:Hid (Ya S w.heap.size W4 v3 (ms++m1)):=HM3.out.low hB (λb hb=>Nat.lt_of_lt_of_le (HSb.out b hb) hz3);have hl4:(ms++m1).length+m2.length<=4000000:=(by have:=HL2.out;rw[List.length_append];omega);clear hA hB HM3 r5
     go_wp2_with (at_builtin;refine zv1 rfl (.tmp 57) (.tmp 64) rfl HSb.out hz4 rfl rfl HM4.out HA.out hl4 ?_)
     intro v5 W5 hmv5 hgr5;have hb5:Below w.heap.size w W5:=HB4.out.grown hgr5 (by omega) (λg hg=>HM4.out.lt g hg);have HM5:Hid (Ya S w.heap.size W5 v5 ((l.take (k+1)).flatMap (Fl.movesOne (Fl.moves p vs d) p vs u))):=(by rw[HNX.out,HM.out];exact hmv5);clear hmv5 hgr5 HM HM4 HNX HA HB4 hz4 hl4 r0;go_wp2
     go_roundw
     case rel=>exact⟨k+1,by have:=HLT.out;omega,by go_num,HM5.out,hb5⟩
     case measure=>simp[intOf];omega
  ·have hke:k=l.length:=by omega
   have HF:Hid (Ya S w.heap.size wr u7 ((l.take l.length).flatMap (Fl.movesOne (Fl.moves p vs d) p vs u))):=(by rw[<-hke];exact hmv);clear hmv hke;go_wp2;go_ret;exact⟨_,rfl,by rw[HRES.out];exact HF.out,hbel⟩
def zf8(u:Nat):Calls prog 155 #[.pointer (some ⟨Fb,0,none⟩),.slice none 0 0,.int .i64 u] w (Jw S w []):=by
 go_enter func155,ntmps155
 go_wp2
 go_loopw [7,13] (λv i wr=>i=.int .i64 0/\v=.slice none 0 0/\wr=w) (λ_ i _=>0)
 case atStart=>exact⟨rfl,rfl,rfl⟩
 case round=>
  obtain⟨rfl,rfl,rfl⟩:=hrel;go_wp2;go_ret;exact⟨_,rfl,Ya.nil _ _ _,Below.refl _ _⟩
def zo3:∀(d:Nat),d<=4->∀(w:World),Xy w Fb Pb Lb clv chv bv vv S p vs->∀(v:Value) (l:List Fl.Stmt) (u:Nat),Zt d S w v l->Fl.StmtsOk vs.length p.chans.length d l->u<p.n->
  Calls prog 155 #[.pointer (some ⟨Fb,0,none⟩),v,.int .i64 u] w (Jw S w (Fl.moves p vs d l u))
 |0,_,w,_,v,l,u,hl,_,_=>by
  obtain⟨rfl,rfl⟩:=hl;exact zf8 u
 |d+1,hd,w,h,v,l,u,hl,ho,hu=>zf7 d (by omega) (λW hW v l u a b c=>zo3 d (by omega) W (h.below hW) v l u a b c) h v l u hl ho hu
def zi3(h:Xy w Fb Pb Lb clv chv bv vv S p vs):Calls prog 109 #[.pointer (some ⟨Fb,0,none⟩)] w (Jw S w (Fl.moves p vs 4 p.body (Fl.low p))):=by
 have hF:=h.hF;have hP:=h.lv.hz.1;have HS:Hid (∀W,Below w.heap.size w W->W.cell? ⟨Fb,0,none⟩=some (.pointer (some ⟨Pb,0,none⟩))/\W.cell? ⟨Pb,4,none⟩=some bv/\W.cell? ⟨Pb,0,none⟩=some (.pointer (some ⟨Lb,0,none⟩))):=λW hW=>⟨(h.below hW).c0,(h.below hW).p4,(h.below hW).lv.p0⟩;obtain⟨lw,hlw⟩:∃lw,lw=Fl.bottom p.n p.leq:=⟨_,rfl⟩
 have HL:Hid (∀W,Below w.heap.size w W->Calls prog 108 #[.pointer (some ⟨Lb,0,none⟩)] W λe w'=>e=.returned (.int .i64 lw)/\w'=W):=λW hW=>by rw[hlw];exact zw5 (h.below hW).lv.la
 have hlt:lw<p.n:=by have:=h.lv.lv.low;unfold Fl.low at this;omega
 have e1:Fl.low p=(lw:Int):=by unfold Fl.low;rw[hlw]
 have hso:Fl.StmtsOk vs.length p.chans.length 4 p.body:=by rw[h.ok.1];exact h.pk.body
 have HC:Hid (∀W,Below w.heap.size w W->Calls prog 155 #[.pointer (some ⟨Fb,0,none⟩),bv,.int .i64 lw] W (Jw S W (Fl.moves p vs 4 p.body (Fl.low p)))):=λW hW=>by
  rw[e1];exact zo3 4 (by omega) W (h.below hW) bv p.body lw (h.below hW).bo hso hlt
 generalize Fl.moves p vs 4 p.body (Fl.low p)=res at*;have HSb:=h.hS;have HSS:Hid (∀b,S b->b<w.heap.size):=HSb;clear h hlw e1 hso hlt HSb
 go_enter func109,ntmps109
 go_wp2_with fail
 refine Yy HS (Below.refl _ _).drew [15,16] [] [] (by kernel_rfl) (λc a d v w h=>by cases d<;>exact h) (λops _=>?_)
 iterate 15 refine Ze rfl (by rintro _ ⟨_,_,_⟩;go_simp<;>rfl) (by go_simp<;>rfl) ?_
 refine Zs ?_
 go_wp2_with fail
 refine(HL.out _ (Below.refl _ _).drew).mono ?_;rintro e1 W1 ⟨rfl,rfl⟩
 go_wp2_with fail
 refine⟨HS.out _ (Below.refl _ _).drew,?_⟩;refine Zs ?_
 go_wp2_with fail
 refine(HC.out _ (Below.refl _ _).drew).mono ?_;rintro e2 W2 ⟨v2,rfl,hA,hB⟩;have HB:Hid (Below w.heap.size w W2):=(Below.refl _ _).drew.trans hB;have HA:Hid (Ya S w.heap.size W2 v2 res):=hA;clear hA hB
 go_wp2_with fail
 refine⟨HS.out _ HB.out,?_⟩;refine Ze rfl (by rintro _ ⟨_,_,_⟩;go_simp<;>rfl) (by go_simp<;>rfl) ?_;refine Yt ?_;go_wp2;go_ret;exact⟨_,rfl,HA.out,HB.out⟩
end
def zv2{p:Fl.Prog}{vs:List Int}(h:p.Lv)(ok:Fl.LvOk p vs):∀(d:Nat) (l:List Fl.Stmt) (u:Nat),Fl.StmtsOk vs.length p.chans.length d l->u<p.n->∀m∈Fl.moves p vs d l u,PlOk p vs m.1/\∃k:Nat,k<p.n/\m.2=(k:Int)
 |0,_,_,_,_,m,hm=>by cases hm
 |d+1,l,u,ho,hu,m,hm=>by
  obtain⟨s,hs,hm⟩:=List.mem_flatMap.1 (show m∈l.flatMap (Fl.movesOne (Fl.moves p vs d) p vs u) from hm);obtain⟨hk,he,h1,h2⟩:=ho s hs;obtain⟨vl,hvl,evl⟩:=zy9 h ok he;obtain⟨lv,hlv,elv⟩:=h.join hu hvl;have ej:Fl.jn p u (Fl.valLv p vs s.e)=(lv:Int):=(by unfold Fl.jn;rw[evl];exact elv);unfold Fl.movesOne at hm;rw[ej]at hm
  split at hm
  ·rename_i h34
   rw[List.mem_singleton]at hm;subst hm;refine⟨?_,lv,hlv,rfl⟩;rcases hk with h|h|h|h
   ·exact .inl h
   ·exact .inr h
   ·omega
   ·omega
  ·split at hm
   ·rcases List.mem_append.1 hm with hm|hm
    ·exact zv2 h ok d _ lv h1 hlv m hm
    ·exact zv2 h ok d _ lv h2 hlv m hm
   ·cases hm
def m0:Fl.Stmt×Int:=(noS,0)
def zm9{α:Type}{f:α->Bool}{l:List α}(h:∀t,(ht:t<l.length)->f l[t]=false):l.find? f=none:=by
 rw[List.find?_eq_none];intro x hx;obtain⟨i,hi,rfl⟩:=List.getElem_of_mem hx;rw[h i hi];simp
def zpx{α:Type}{f:α->Bool}:∀{l:List α} {k:Nat} (hk:k<l.length),(∀t,(ht:t<k)->f (l[t]'(by omega))=false)->f l[k]=true->l.find? f=some l[k]
 |a::l,0,_,_,h=>by simp only[List.getElem_cons_zero]at h⊢;rw[List.find?_cons,h]
 |a::l,k+1,hk,hb,h=>by
  have h0:=hb 0 (by omega);simp only[List.getElem_cons_zero]at h0;rw[List.find?_cons,h0];simp only[List.getElem_cons_succ];exact zpx (by simpa using hk) (λt ht=>by have:=hb (t+1) (by omega);simpa using this) (by simpa using h)
section
variable{w:World}{Fb Pb Lb:Nat}{clv chv bv vv:Value}{S:Nat->Prop}{p:Fl.Prog}{vs:List Int}
def zg1(h:Xy w Fb Pb Lb clv chv bv vv S p vs):Calls prog 65 #[.pointer (some ⟨Fb,0,none⟩)] w λe w'=>e=.returned (.int .i64 (Fl.firstDown p vs))/\Below w.heap.size w w':=by
 have hso:Fl.StmtsOk vs.length p.chans.length 4 p.body:=by rw[h.ok.1];exact h.pk.body
 obtain⟨lw,hlt,elw⟩:∃lw:Nat,lw<p.n/\Fl.low p=(lw:Int):=⟨(Fl.low p).toNat,by have:=h.lv.lv.low;omega,by have:=h.lv.lv.low;omega⟩;have hin:=zv2 h.lv.lv h.ok 4 p.body lw hso hlt;have hle:(Fl.moves p vs 4 p.body lw).length<=48 ^ 4:=Fl.moves_len p vs 4 p.body lw (Zt.small _ _ _ h.bo);rw[<-elw]at hin hle;have HC:Hid (Calls prog 109 #[.pointer (some ⟨Fb,0,none⟩)] w (Jw S w (Fl.moves p vs 4 p.body (Fl.low p)))):=zi3 h;have HD:Hid (Fl.firstDown p vs=match (Fl.moves p vs 4 p.body (Fl.low p)).find? (λm=> !Fl.fitsM p vs m) with|some m=>m.1.line|none=>0):=rfl;obtain⟨ms,hms⟩:∃ms,ms=Fl.moves p vs 4 p.body (Fl.low p):=⟨_,rfl⟩;rw[<-hms]at hin hle HC HD;have HIN:Hid (∀m∈ms,PlOk p vs m.1/\∃k:Nat,k<p.n/\m.2=(k:Int)):=hin;have hle':ms.length<=5308416:=hle;have HH:Hid (Xy w Fb Pb Lb clv chv bv vv S p vs):=h;obtain⟨res,hres⟩:∃res,res=Fl.firstDown p vs:=⟨_,rfl⟩;rw[<-hres]at HD⊢;clear h hso hlt elw hin hle hms hres
 go_enter func65,ntmps65
 go_wp2_with fail
 refine HC.out.mono ?_;rintro e W1 ⟨v,rfl,hmv,hbel⟩;have HMV:Hid (Ya S w.heap.size W1 v ms):=hmv;have HB1:Hid (Below w.heap.size w W1):=hbel;obtain⟨ao,cap,hva,hcap⟩:∃ao cap,v=.slice ao ms.length cap/\ms.length<=cap:=by
  obtain⟨qs,h1,-,-⟩:=hmv;rcases h1.2 with⟨rfl,h0⟩|⟨g,cap,cur,rfl,-,-,hc,-⟩
  ·exact⟨none,0,by rw[h0],by omega⟩
  ·exact⟨_,cap,rfl,hc⟩
 subst hva;clear HC hmv hbel
 go_wp2_with fail
 go_loopw [8] (λi wr=>∃(k:Nat),k<=ms.length/\i=.int .i64 k/\(∀t,(ht:t<k)->(ht':t<ms.length)->Fl.fitsM p vs ms[t]=true)/\Below W1.heap.size W1 wr) (λi _=>ms.length - (intOf i).toNat)
 case atStart=>exact⟨0,by omega,rfl,λt ht=>absurd ht (by omega),Below.refl _ _⟩
 case round=>
  obtain⟨k,hk,rfl,hfit,hbr⟩:=hrel
  by_cases hlt:k<ms.length
  ·obtain⟨qs,h1,h2,-⟩:=HMV.out.low hbr (λb hb=>Nat.lt_of_lt_of_le (HH.out.hS b hb) HB1.out.size)
   obtain⟨mk,hmk⟩:∃mk,mk=ms[k]'hlt:=⟨_,rfl⟩;obtain⟨q,hq1,hq2,hq3⟩:=h2.get k mk (by rw[hmk];exact List.getElem?_eq_getElem hlt);obtain⟨hpl,lk,hlk,elk⟩:=HIN.out mk (by rw[hmk];exact List.getElem_mem hlt);obtain⟨c1,c2⟩:=zf5 qs k q hq1;rcases id h1.2 with⟨e0,h0⟩|⟨g,cap',cur,e0,hg1,hg2,-⟩
   ·omega
   ·injection e0 with e0 e00 e01
    subst e0;subst e01;have a0:=h1.cells (g:=g) rfl _ _ c1;have a1:=h1.cells (g:=g) rfl _ _ c2
    have ad:∀j,(⟨g,0,none⟩:Addr).add j=⟨g,j,none⟩:=λj=>by unfold Addr.add;split<;>simp_all
    rw[ad]at a0 a1;obtain⟨sb,eq1,hSs,k0,k1,k2⟩:=id hq3;rw[eq1]at a0;rw[hq2,elk]at a1;have hltI:(k:Int)<(ms.length:Int):=(by omega);have HBR:Hid (Below w.heap.size w wr):=HB1.out.trans (hbr.mono HB1.out.size);have hbs:=HBR.out.size;have hsz:sb<wr.heap.size:=Nat.lt_of_lt_of_le (HH.out.hS sb hSs) hbs
    have HFT:Hid (∀W,Below wr.heap.size wr W->Calls prog 111 #[.pointer (some ⟨Fb,0,none⟩),.agg #[.pointer (some ⟨sb,0,none⟩),.int .i64 lk]] W λr w'=>r=.returned (.bool (Fl.fitsM p vs mk))/\Below W.heap.size W w'):=λW hW=>by
     have h5:=zi2 (HH.out.below (HBR.out.trans (hW.mono hbs))) (hq3.kept (λ_ h=>h) (λb hb=>hW.block b (Nat.lt_of_lt_of_le (HH.out.hS b hb) hbs))) lk hlk hpl;rw[eq1,<-elk]at h5;rw[elk]at h5;rw[show mk=(mk.1,(lk:Int)) from by rw[<-elk]];exact h5
    have HLN:Hid (∀W,Below wr.heap.size wr W->W.cell? ⟨sb,1,none⟩=some (.int .i64 mk.1.line)):=λW hW=>(hW.cell (p:=⟨sb,1,none⟩) hsz).trans k1;have HFIT:Hid (∀t,(ht:t<k)->(ht':t<ms.length)->Fl.fitsM p vs ms[t]=true):=hfit;obtain⟨W2,hW2⟩:∃W2,W2=wr.alloc (.cells #[.pointer (some ⟨sb,0,none⟩),.int .i64 lk] 222):=⟨_,rfl⟩;have HB2:Hid (Below wr.heap.size wr W2):=(by show Below _ _ _;rw[hW2];exact bA);have t0:W2.cell? ⟨wr.heap.size,0,none⟩=some (.pointer (some ⟨sb,0,none⟩)):=(by rw[hW2];simp);have hz2:wr.heap.size<W2.heap.size:=(by rw[hW2];simp);have HLT:Hid (k<ms.length):=hlt
    cases hf:Fl.fitsM p vs mk
    ·have HR:Hid (res=mk.1.line):=by
      have h5:=HD.out;rw[zpx (f:=λm=> !Fl.fitsM p vs m) hlt (λt ht=>by show (!Fl.fitsM p vs _)=false;rw[HFIT.out t ht (by omega)];rfl) (by show (!Fl.fitsM p vs _)=true;rw[<-hmk];exact congrArg (λb=> !b) hf)]at h5;rw[hmk];exact h5
     rw[hf]at HFT;generalize mk.1.line=ln at*;clear hfit hf hmk h1 h2 hq1 hq2 hq3 hpl c1 c2 hg1 hg2 ad k0 k1 k2 eq1 elk hlk
     go_wp2_with fail
     rw[<-hW2];refine(HFT.out _ HB2.out).mono ?_;rintro e W3 ⟨rfl,hB3⟩;have HB3:Hid (Below wr.heap.size wr W3):=HB2.out.trans (hB3.mono HB2.out.size);have t3:W3.cell? ⟨wr.heap.size,0,none⟩=some (.pointer (some ⟨sb,0,none⟩)):=(hB3.cell (p:=⟨wr.heap.size,0,none⟩) hz2).trans t0;have l3:W3.cell? ⟨sb,1,none⟩=some (.int .i64 ln):=HLN.out _ HB3.out;clear hB3 hW2 a0 a1 t0 HLN HFT;go_wp2;go_ret;exact⟨by first|(rw[HR.out];done)|(have h6:=HR.out;subst h6;rfl)|(rw[HR.out];rfl),HBR.out.trans (HB3.out.mono hbs)⟩
    ·have HN:Hid (∀t,(ht:t<k+1)->(ht':t<ms.length)->Fl.fitsM p vs ms[t]=true):=λt ht ht'=>by
      by_cases htk:t=k
      ·subst htk;rw[<-hmk];exact hf
      ·exact HFIT.out t (by omega) ht'
     rw[hf]at HFT;clear hfit hf hmk h1 h2 hq1 hq2 hq3 hpl c1 c2 hg1 hg2 ad k0 k1 k2 eq1 elk hlk
     go_wp2_with fail
     rw[<-hW2];refine(HFT.out _ HB2.out).mono ?_;rintro e W3 ⟨rfl,hB3⟩;have HB3:Hid (Below wr.heap.size wr W3):=HB2.out.trans (hB3.mono HB2.out.size);have hb3:Below W1.heap.size W1 W3:=hbr.trans (HB3.out.mono hbr.size);clear hB3 hW2 a0 a1 t0 HLN HFT;go_wp2
     go_roundw
     case rel=>exact⟨k+1,by have:=HLT.out;omega,by go_num,λt ht ht2=>HN.out t ht ht2,hb3⟩
     case measure=>simp[intOf];omega
  ·have HR:Hid (res=0):=by
    have h5:=HD.out;rw[zm9 (f:=λm=> !Fl.fitsM p vs m) (λt ht=>by show (!Fl.fitsM p vs _)=false;rw[hfit t (by omega) ht];rfl)]at h5;exact h5
   clear hfit;go_wp2;go_ret;exact⟨by rw[HR.out];rfl,HB1.out.trans (hbr.mono HB1.out.size)⟩
end
end Go.Proofs.YtminjljgedopkaaGreatDoor

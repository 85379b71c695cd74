import Derived.Test.YtjekbnmnjeoagaaGreatDoorM05
import Derived.Laws.AppendOwnNone
set_option linter.all false
set_option maxRecDepth 100000
set_option maxHeartbeats 40000000
namespace Go.Proofs.YtjekbnmnjeoagaaGreatDoor
open Go.Proofs.Tryz
variable{a:Act}{e:Fl.Expr}{l:List Fl.Stmt}{s:Fl.Stmt}{S:Nat->Prop}{w w':World}{v clv chv bv vv:Value}{i Fb Pb Lb base k:Nat}{vs:List Int}{ops:Array Oper}{rest:List Oper}{o:Oper}{Q:Exit->Act->World->Prop}
namespace Fl
def number_le(l:List UInt8)(h:(number l 9).2=true):(number l 9).1<=999999999:=by
 unfold number at h⊢
 split at h
 ·rename_i hd
  rw[if_pos hd];simp only[numOk,Bool.and_eq_true,decide_eq_true_eq]at h;have hl:l.length<=9:=h.2.1;show val (l.take 9)<=999999999;rw[List.take_of_length_le hl,val_eq];have h1:=valF_digits l 0 hd;have h2:10 ^ l.length<=10 ^ 9:=Nat.pow_le_pow_right (by decide) hl;omega
 cases h
def RS.nv(r:RS):Nat:=r.cells.length+r.locals.length
def RS.atom_ok(r:RS)(s:List UInt8){a:Atom}(h:r.atom s=some a):AtomOk r.nv a:=by
 unfold RS.atom at h;have hc:=place_cases r.cells s;have hl:=place_cases r.locals s;unfold AtomOk RS.nv
 split at h
 ·rename_i hn
  simp only[Option.some.injEq]at h;subst h;simp only[Bool.false_eq_true,if_false];exact number_le s hn
 split at h
 ·simp only[Option.some.injEq]at h;subst h
  simp only[if_true];omega
 split at h
 ·simp only[Option.some.injEq]at h;subst h
  simp only[if_true];omega
 cases h
def RS.value_ok(r:RS)(ws:List (List UInt8))(h:r.value ws=some e):ExprOk r.nv e:=by
 match ws,h with
 |[a],h=>
  simp only[RS.value,Option.map_eq_some_iff]at h;obtain⟨x,hx,rfl⟩:=h;exact⟨(show (-1:Int)<= -1 by decide),(show (-1:Int)<=4 by decide),r.atom_ok a hx,by unfold AtomOk no0;simp⟩
 |[a,o,b],h=>
  simp only[RS.value,Option.bind_eq_some_iff,Option.map_eq_some_iff]at h;obtain⟨x,hx,y,hy,rfl⟩:=h;have ho:=place_cases signs o;have hs:signs.length=5:=rfl;exact⟨by simp only;omega,by simp only;omega,r.atom_ok a hx,r.atom_ok b hy⟩
structure FrOk(nv nc d:Nat)(f:Frame):Prop where
 kd:f.kind=5\/(f.kind=6/\f.had=false)
 no:f.had=false->f.els=[]
 ex:ExprOk nv f.e
 fi:StmtsOk nv nc d f.first
 el:StmtsOk nv nc d f.els
def FrOk.mono{nv nv' nc d:Nat}(h:nv<=nv'){f:Frame}(hf:FrOk nv nc d f):FrOk nv' nc d f:=⟨hf.kd,hf.no,hf.ex.mono h,hf.fi.mono h,hf.el.mono h⟩
def FrsOk(nv nc:Nat):Nat->List Frame->Prop
 |_,[]=>True
 |d,f::fs=>FrOk nv nc (d+1) f/\FrsOk nv nc (d+1) fs
def FrsOk.mono{nv nv' nc:Nat}(h:nv<=nv'):∀{d:Nat} {fs:List Frame},FrsOk nv nc d fs->FrsOk nv' nc d fs
 |_,[],_=>trivial
 |_,_::_,hf=>⟨hf.1.mono h,FrsOk.mono h hf.2⟩
def StmtsOk.snoc{nv nc d:Nat}(h:StmtsOk nv nc (d+1) l)(hs:KindOk nv nc s/\ExprOk nv s.e/\StmtsOk nv nc d s.body/\StmtsOk nv nc d s.other):StmtsOk nv nc (d+1) (l++[s]):=λx hx=>by
 rcases List.mem_append.1 hx with h1|h1
 ·exact h x h1
 simp only[List.mem_singleton]at h1;subst h1;exact hs
def StmtsOk.nil(nv nc d:Nat):StmtsOk nv nc d []:=by
 cases d with
 |zero=>rfl
 |succ d=>exact λs hs=>(by cases hs)
def FrOk.snoc{nv nc d:Nat}{f:Frame}{s:Stmt}(h:FrOk nv nc (d+1) f)(hs:KindOk nv nc s/\ExprOk nv s.e/\StmtsOk nv nc d s.body/\StmtsOk nv nc d s.other):FrOk nv nc (d+1) (if f.had then{f with els:=f.els++[s]} else{f with first:=f.first++[s]}):=by
 cases hd:f.had with
 |true=>
  simp only[if_true];refine⟨?_,λq=>(by cases q),h.ex,h.fi,h.el.snoc hs⟩;rcases h.kd with h5|⟨_,h6⟩
  ·exact .inl h5
  rw[hd]at h6;cases h6
 |false=>
  simp only[Bool.false_eq_true,if_false];refine⟨?_,λ_=>h.no hd,h.ex,h.fi.snoc hs,h.el⟩;rcases h.kd with h5|⟨h6,_⟩
  ·exact .inl h5
  exact .inr ⟨h6,rfl⟩
structure RS.Fine(r:RS):Prop where
 ce:r.cells.length<=6
 ch:r.chans.length<=3
 lo:r.locals.length<=4
 cl:r.cellLv.length=r.cells.length
 hl:r.chanLv.length=r.chans.length
 fr:r.fr.length<=3
 head:r.begun=false->r.locals=[]/\r.top=[]/\r.fr=[]
 top:StmtsOk r.nv r.chans.length 4 r.top
 frs:FrsOk r.nv r.chans.length (3 - r.fr.length) r.fr
def fine0:RS.zero.Fine:=⟨by decide,by decide,by decide,rfl,rfl,by decide,λ_=>⟨rfl,rfl,rfl⟩,StmtsOk.nil _ _ _,trivial⟩
def RS.Fine.headed{r r':RS}(h:r.Fine)(hb:r.begun=false)(e1:r'.top=r.top)(e2:r'.fr=r.fr)(e3:r'.locals=r.locals)(ce:r'.cells.length<=6)(ch:r'.chans.length<=3)(cl:r'.cellLv.length=r'.cells.length)(hl:r'.chanLv.length=r'.chans.length):r'.Fine:=by
 obtain⟨h1,h2,h3⟩:=h.head hb;refine⟨ce,ch,by rw[e3];exact h.lo,cl,hl,by rw[e2];exact h.fr,λ_=>⟨by rw[e3];exact h1,by rw[e1];exact h2,by rw[e2];exact h3⟩,?_,?_⟩
 ·rw[e1,h2];exact StmtsOk.nil _ _ _
 rw[e2,h3];trivial
def RS.Fine.head_ok{r:RS}(h:r.Fine)(hb:r.begun=false)(w:List (List UInt8))(h0:(r.head w).1=0):(r.head w).2.Fine:=by
 match w,h0 with
 |[],h0=>cases h0
 |[k],h0=>
  simp only[RS.head]at h0⊢
  split at h0
  ·rename_i hl;rw[if_pos hl];exact h.headed hb rfl rfl rfl h.ce h.ch h.cl h.hl
  cases h0
 |[k,n],h0=>
  simp only[RS.head]at h0⊢
  split at h0
  ·cases h0
  rename_i h1;rw[if_neg h1]
  split at h0
  ·cases h0
  rename_i h2;rw[if_neg h2];exact h.headed hb rfl rfl rfl h.ce h.ch h.cl h.hl
 |[k,n,l],h0=>
  simp only[RS.head]at h0⊢
  split at h0
  ·rename_i hk;rw[if_pos hk]
   split at h0
   ·cases h0
   rename_i h1;rw[if_neg h1];exact h.headed hb rfl rfl rfl h.ce h.ch h.cl h.hl
  rename_i hk;rw[if_neg hk]
  split at h0
  ·cases h0
  rename_i h1;rw[if_neg h1]
  split at h0
  ·rename_i hc;rw[if_pos hc]
   split at h0
   ·cases h0
   rename_i h6;rw[if_neg h6];exact h.headed hb rfl rfl rfl (by have:=h.ce;simp;omega) h.ch (by have:=h.cl;simp;omega) h.hl
  rename_i hc;rw[if_neg hc]
  split at h0
  ·cases h0
  rename_i h3;rw[if_neg h3];exact h.headed hb rfl rfl rfl h.ce (by have:=h.ch;simp;omega) h.cl (by have:=h.hl;simp;omega)
 |_::_::_::_::_,h0=>cases h0
def RS.Fine.put{r:RS}(h:r.Fine)(hb:r.begun=true){s:Stmt}(hk:KindOk r.nv r.chans.length s)(he:ExprOk r.nv s.e)(h1:s.body=[])(h2:s.other=[]):(r.put s).Fine:=by
 unfold RS.put;have hs:∀d,KindOk r.nv r.chans.length s/\ExprOk r.nv s.e/\StmtsOk r.nv r.chans.length d s.body/\StmtsOk r.nv r.chans.length d s.other:=λd=>⟨hk,he,by rw[h1];exact StmtsOk.nil _ _ _,by rw[h2];exact StmtsOk.nil _ _ _⟩
 cases hf:r.fr with
 |nil=>exact⟨h.ce,h.ch,h.lo,h.cl,h.hl,Nat.zero_le _,λhh=>(by have:r.begun=false:=hh;rw[hb]at this;cases this),h.top.snoc (hs 3),trivial⟩
 |cons f fs=>
  have hh:=h.frs;rw[hf]at hh;have hl:=h.fr;rw[hf]at hl;exact⟨h.ce,h.ch,h.lo,h.cl,h.hl,hl,λhh=>(by have:r.begun=false:=hh;rw[hb]at this;cases this),h.top,hh.1.snoc (hs _),hh.2⟩
def RS.Fine.local{r:RS}(h:r.Fine)(hb:r.begun=true)(n:List UInt8)(hl:r.locals.length<4):({r with locals:=r.locals++[n]}:RS).Fine:=by
 have e:r.nv<=({r with locals:=r.locals++[n]}:RS).nv:=by simp[RS.nv]
 exact⟨h.ce,h.ch,by simp;omega,h.cl,h.hl,h.fr,λhh=>(by have:r.begun=false:=hh;rw[hb]at this;cases this),h.top.mono e,h.frs.mono e⟩
def RS.Fine.stmt_ok{r:RS}(h:r.Fine)(hb:r.begun=true)(at_:Nat)(w:List (List UInt8))(h0:(r.stmt at_ w).1=0):(r.stmt at_ w).2.Fine/\(r.stmt at_ w).2.begun=true:=by
 have hn:∀x:RS,x.begun=true->∀P:Prop,x.begun=false->P:=λx h1 P h2=>by rw[h1]at h2;cases h2
 match w,h0 with
 |[],h0=>cases h0
 |[k],h0=>
  simp only[RS.stmt]at h0⊢
  cases hf:r.fr with
  |nil=>rw[hf]at h0;cases h0
  |cons f fs=>
   rw[hf]at h0;simp only at h0⊢;have hh:=h.frs;rw[hf]at hh;have hl:=h.fr;rw[hf]at hl
   split at h0
   ·rename_i hk;rw[if_pos hk]
    split at h0
    ·rename_i hq;rw[if_pos hq]
     unfold RS.elses;rw[hf];refine⟨⟨h.ce,h.ch,h.lo,h.cl,h.hl,hl,hn _ hb _,h.top,?_⟩,hb⟩;exact⟨⟨.inl hq.1,λq=>(by cases q),hh.1.ex,hh.1.fi,hh.1.el⟩,hh.2⟩
    cases h0
   rename_i hk;rw[if_neg hk];unfold RS.ends;rw[hf]
   have a0:∀d,StmtsOk r.nv r.chans.length d f.first->StmtsOk r.nv r.chans.length d f.els->KindOk r.nv r.chans.length f.done/\ExprOk r.nv f.done.e/\StmtsOk r.nv r.chans.length d f.done.body/\StmtsOk r.nv r.chans.length d f.done.other:=λd h1 h2=>by
    refine⟨?_,hh.1.ex,h1,h2⟩;rcases hh.1.kd with h5|⟨h6,h7⟩
    ·exact .inr (.inr (.inl h5))
    exact .inr (.inr (.inr ⟨h6,hh.1.no h7⟩))
   cases fs with
   |nil=>
    exact⟨⟨h.ce,h.ch,h.lo,h.cl,h.hl,by simp,hn _ hb _,h.top.snoc (a0 3 hh.1.fi hh.1.el),trivial⟩,hb⟩
   |cons g gs=>
    simp only[List.length_cons]at hl hh;have e1:3 - (gs.length+1+1)+1=3 - (gs.length+1):=(by omega);have hg:=hh.2.1;have hd:=a0 _ hh.1.fi hh.1.el;refine⟨⟨h.ce,h.ch,h.lo,h.cl,h.hl,by simp;omega,hn _ hb _,h.top,?_⟩,hb⟩;simp only[List.length_cons];rw[<-e1];exact⟨hg.snoc hd,hh.2.2⟩
 |[k,a],h0=>
  simp only[RS.stmt]at h0⊢
  cases hv:r.value [a] with
  |none=>rw[hv]at h0;cases h0
  |some e=>
   rw[hv]at h0;simp only at h0⊢
   split at h0
   ·cases h0
   rename_i hq;rw[if_neg hq];have e1:3 - (r.fr.length+1)+1=3 - r.fr.length:=(by omega);refine⟨⟨h.ce,h.ch,h.lo,h.cl,h.hl,by simp[RS.opens];omega,hn _ hb _,h.top,?_⟩,hb⟩;simp only[RS.opens,List.length_cons];refine⟨⟨?_,λ_=>rfl,r.value_ok _ hv,StmtsOk.nil _ _ _,StmtsOk.nil _ _ _⟩,by rw[e1];exact h.frs⟩;show (if(k==wIf)=true then 5 else 6)=5\/((if(k==wIf)=true then 5 else 6)=6/\false=false)
   cases (k==wIf)<;>simp
 |k::n::v1::v,h0=>
  simp only[RS.stmt]at h0⊢
  cases hv:r.value (v1::v) with
  |none=>rw[hv]at h0;cases h0
  |some e=>
   rw[hv]at h0;simp only at h0⊢;have he:=r.value_ok _ hv
   have b0:∀(x:RS) (s:Stmt),x.begun=true->(x.put s).begun=true:=λx s hx=>by unfold RS.put;split<;>exact hx
   split at h0
   ·rename_i hk;rw[if_pos hk]
    split at h0
    ·cases h0
    rename_i hp;rw[if_neg hp]
    split at h0
    ·cases h0
    rename_i h6;rw[if_neg h6];have hc:=place_cases r.chans n;exact⟨h.put hb (.inr (.inl ⟨rfl,by simp only;omega⟩)) he rfl rfl,b0 _ _ hb⟩
   rename_i hk;rw[if_neg hk]
   split at h0
   ·cases h0
   rename_i hp;rw[if_neg hp]
   cases ht:r.target n with
   |none=>rw[ht]at h0;cases h0
   |some p=>
    obtain⟨x,r'⟩:=p;rw[ht]at h0;simp only at h0⊢
    split at h0
    ·cases h0
    rename_i h6;rw[if_neg h6];have hc:=place_cases r.cells n;have c0:=place_cases r.locals n;unfold RS.target at ht
    split at ht
    ·simp only[Option.some.injEq,Prod.mk.injEq]at ht
     obtain⟨rfl,rfl⟩:=ht;exact⟨h.put hb (.inl ⟨rfl,by simp only[RS.nv];omega⟩) he rfl rfl,b0 _ _ hb⟩
    split at ht
    ·simp only[Option.some.injEq,Prod.mk.injEq]at ht
     obtain⟨rfl,rfl⟩:=ht;exact⟨h.put hb (.inl ⟨rfl,by simp only[RS.nv];omega⟩) he rfl rfl,b0 _ _ hb⟩
    split at ht
    ·cases ht
    rename_i h4;simp only[Option.some.injEq,Prod.mk.injEq]at ht;obtain⟨rfl,rfl⟩:=ht;have hF:=h.local hb n (by have:=h.lo;omega);exact⟨hF.put hb (.inl ⟨rfl,by simp[RS.nv]⟩) (he.mono (by simp[RS.nv])) rfl rfl,b0 _ _ hb⟩
def RS.Fine.row_ok{r:RS}(h:r.Fine)(w:List (List UInt8))(at_:Nat)(h0:(r.row w at_).1=0):(r.row w at_).2.Fine:=by
 unfold RS.row at h0⊢
 split at h0
 ·cases h0
 rename_i h1;rw[if_neg h1]
 split at h0
 ·rename_i h2;rw[if_pos h2]
  refine h.head_ok ?_ w h0;rw[h2]at h1
  cases hb:r.begun with
  |false=>rfl
  |true=>exact absurd hb.symm h1
 rename_i h2;rw[if_neg h2];refine(h.stmt_ok ?_ at_ w h0).1
 cases hb:r.begun with
 |true=>rfl
 |false=>exact absurd ((by simpa using h2:isHead (w.getD 0 [])=false).trans hb.symm) h1
def rows_ok:∀(ls:List (List UInt8)) (r:RS) (i:Nat),r.Fine->(rows r i ls).1=0->(rows r i ls).2.2.Fine/\(rows r i ls).2.2.begun=true/\(rows r i ls).2.2.fr=[]/\(rows r i ls).2.1=0
 |[],r,i,h,h0=>by cases h0
 |[l],r,i,h,h0=>by
  rw[rows]at h0⊢
  split at h0
  ·rename_i h1;rw[if_pos h1]
   split at h0
   ·rename_i h2;rw[if_pos h2];exact⟨h,h2.1,h2.2,rfl⟩
   cases h0
  cases h0
 |l::m::ls,r,i,h,h0=>by
  rw[rows]at h0⊢
  split at h0
  ·cases h0
  rename_i h1;rw[if_neg h1]
  split at h0
  ·rename_i h2;exact absurd h0 h2
  rename_i h2;rw[if_neg h2];exact rows_ok (m::ls) _ (i+1) (h.row_ok _ _ (by simpa using h2)) h0
structure Prog.Ok(p:Prog):Prop where
 ce:p.cells.length<=6
 ch:p.chans.length<=3
 lo:p.locals<=4
 body:StmtsOk (p.cells.length+p.locals) p.chans.length 4 p.body
def readProg_ok(s:List UInt8)(h0:(readProg s).1=0):(readProg s).2.2.Ok/\(readProg s).2.1=0/\s.length<=1200:=by
 unfold readProg at h0⊢
 by_cases hs:1200<s.length
 ·rw[if_pos hs]at h0;cases h0
 rw[if_neg hs]at h0⊢;obtain⟨h1,h2,h3,h4⟩:=rows_ok _ RS.zero 0 fine0 h0;refine⟨⟨?_,?_,h1.lo,?_⟩,h4,by omega⟩
 ·show (rows RS.zero 0 (cutR 10 s)).2.2.cellLv.length<=6;rw[h1.cl];exact h1.ce
 ·show (rows RS.zero 0 (cutR 10 s)).2.2.chanLv.length<=3;rw[h1.hl];exact h1.ch
 have:=h1.top;unfold RS.nv at this;show StmtsOk ((rows RS.zero 0 (cutR 10 s)).2.2.cellLv.length+_) ((rows RS.zero 0 (cutR 10 s)).2.2.chanLv.length) 4 _;rw[h1.cl,h1.hl];exact this
end Fl
open Go.RowKit
structure Vo(w:World)(Fb Pb Lb:Nat)(clv chv bv vv:Value)(S:Nat->Prop)(p:Fl.Prog)(vs:List Int):Prop where
 hF:Fb<w.heap.size
 c0:w.cell? (Aq Fb 0)=some (Pq Pb)
 c1:w.cell? (Aq Fb 1)=some vv
 lv:LvIn w Pb Lb p
 p1:w.cell? (Aq Pb 1)=some clv
 p2:w.cell? (Aq Pb 2)=some chv
 p4:w.cell? (Aq Pb 4)=some bv
 ce:∃ao cap,clv=.slice ao p.cells.length cap
 ch:Zw w.heap.size w chv (p.chans.map λ(y:Nat)=>(y:Int))
 vi:Zw w.heap.size w vv vs
 bo:Zg 4 S w bv p.body
 hS:∀b,S b->b<w.heap.size
 ok:Fl.LvOk p vs
 pk:p.Ok
def Vo.below{w w':World}{Fb Pb Lb:Nat}{clv chv bv vv:Value}{S:Nat->Prop}{p:Fl.Prog}{vs:List Int}(h:Vo w Fb Pb Lb clv chv bv vv S p vs)(hb:Bq w w'):Vo w' Fb Pb Lb clv chv bv vv S p vs where
 hF:=Qj h.hF hb.size
 c0:=(hb.cell (p:=(Aq Fb 0)) h.hF).trans h.c0
 c1:=(hb.cell (p:=(Aq Fb 1)) h.hF).trans h.c1
 lv:=h.lv.below hb
 p1:=(hb.cell (p:=(Aq Pb 1)) h.lv.hz.1).trans h.p1
 p2:=(hb.cell (p:=(Aq Pb 2)) h.lv.hz.1).trans h.p2
 p4:=(hb.cell (p:=(Aq Pb 4)) h.lv.hz.1).trans h.p4
 ce:=h.ce
 ch:=(h.ch.below hb).mono hb.size
 vi:=(h.vi.below hb).mono hb.size
 bo:=Zg.kept (λ_ h=>h) (λb hs=>hb.block b (h.hS b hs)) _ _ _ h.bo
 hS:=λb hs=>Qj (h.hS b hs) hb.size
 ok:=h.ok
 pk:=h.pk
def zu6(S:Nat->Prop)(w:World)(v:Value)(s:Fl.Stmt):Prop:=
 ∃sb,v=Pq sb/\S sb/\w.cell? (Aq sb 0)=some (Iq s.kind)/\w.cell? (Aq sb 1)=some (Iq s.line)/\w.cell? (Aq sb 2)=some (Iq s.x)
def zu6.kept{S':Nat->Prop}(h:zu6 S w v s)(hS:∀b,S b->S' b)(hw:∀b,S b->w'.heap[b]?=w.heap[b]?):zu6 S' w' v s:=by
 obtain⟨sb,e,h1,h2,h3,h4⟩:=h;have q:∀j,w'.cell? (Aq sb j)=w.cell? (Aq sb j):=λj=>Qc (a:=(Aq sb j)) (hw sb h1);exact⟨sb,e,hS _ h1,(q 0).trans h2,(q 1).trans h3,(q 2).trans h4⟩
def zdv{p:Fl.Prog}(h:p.Lv)(hi:i<p.chans.length):∃k:Nat,k<p.n/\(p.chans.map λ(y:Nat)=>(y:Int)).getD i 0=(k:Int):=
 ⟨p.chans[i],h.ch _ (List.getElem_mem hi),by rw[Qa,List.getElem?_map,Qb hi];rfl⟩
def yxv{p:Fl.Prog}(h:Fl.LvOk p vs)(hi:i<vs.length):∃k:Nat,k<p.n/\vs.getD i 0=(k:Int):=⟨(vs.getD i 0).toNat,by have:=h.2 i hi;omega,by have:=h.2 i hi;omega⟩
section
variable{p:Fl.Prog}
def zu7(h:Vo w Fb Pb Lb clv chv bv vv S p vs)(he:zw9 S w v e)(ho:Fl.ExprOk vs.length e):
  Cq 241 #[Pq Fb,v] w λr w'=>r=.returned (Iq (Fl.valLv p vs e))/\Bq w w':=by
 have hF:=h.hF;have c0:=h.c0;have c1:=h.c1;have HS:Hid (∀W,Bq w W->W.cell? (Aq Fb 0)=some (Pq Pb)/\W.cell? (Aq Fb 1)=some vv):=λW hW=>⟨(h.below hW).c0,(h.below hW).c1⟩
 have HC:Hid (∀W,Bq w W->Cq 257 #[Pq Pb,v,vv] W λr w'=>r=.returned (Iq (Fl.valLv p vs e))/\Bq W w'):=λW hW=>
  yzw (h.below hW).lv (h.below hW).vi h.ok.2 (h.below hW).hS (he.kept (λ_ h=>h) (λb hb=>hW.block b (h.hS b hb))) (zwz ho)
 generalize Fl.valLv p vs e=res at*;clear h he ho
 go_enter func241,ntmps241
 go_wp2_with fail
 refine Yz HS dA [9] [] [] (by kernel_rfl) (λc a d v w h=>by cases d<;>exact h) (λops _=>?_)
 iterate 9 refine Zs rfl (by rintro _ ⟨_,_⟩;go_simp<;>rfl) (by go_simp<;>rfl) ?_
 refine Zu ?_
 go_wp2_with fail
 refine(HC.out _ dA).mono ?_;rintro e1 W1 ⟨rfl,a0⟩;have b0:Hid (Bq w W1):=dA.trans a0;clear a0
 go_wp2_with fail
 refine⟨HS.out _ b0.out,?_⟩;refine Zs rfl (by rintro _ ⟨_,_⟩;go_simp<;>rfl) (by go_simp<;>rfl) ?_;refine Zl ?_;go_wp2;go_ret;exact⟨rfl,b0.out⟩
def ze9(h:Vo w Fb Pb Lb clv chv bv vv S p vs)(hs:zu6 S w v s)(hx:s.x<=100):
  Cq 136 #[Pq Fb,v] w λr w'=>r=.returned (.bool (Fl.ofLocal p s))/\Bq w w':=by
 obtain⟨sb,rfl,e0,k0,-,k2⟩:=hs;have hF:=h.hF;have c0:=h.c0;have p1:=h.p1;have hP:=h.lv.hz.1;have j0:p.cells.length<=6:=h.pk.ce;have hsz:sb<w.heap.size:=h.hS sb e0;obtain⟨ao,cap,rfl⟩:=h.ce;obtain⟨nc,b0⟩:=nmE (p.cells.length)
 have HE:Hid (Fl.ofLocal p s=(decide (s.kind=3) && decide (nc<=s.x))):=by show _=_;unfold Fl.ofLocal;rw[b0]
 rw[<-b0]at p1 j0;obtain⟨res,a0⟩:=nmE (Fl.ofLocal p s);rw[<-a0]at HE⊢;obtain⟨kd,f0⟩:=nmE (s.kind);obtain⟨xx,g0⟩:=nmE (s.x);rw[<-f0]at k0 HE;rw[<-g0]at k2 HE hx;clear h b0 a0 f0 g0 e0
 have l0:(nc:Int)<=6:=by omega
 by_cases h3:kd=3
 ·have b3:((kd:Int)==3)=true:=by rw[h3];rfl
  rw[decide_eq_true h3,Bool.true_and]at HE;clear h3
  by_cases h0:nc<=xx
  ·have d0:(nc:Int)<=(xx:Int):=by omega
   rw[decide_eq_true h0]at HE
   go_enter func136,ntmps136
   go_wp2_with fail
   refine Uv [(5,10)] (by kernel_rfl) (by kernel_rfl) rfl (λops hG=>?_);have g1:=hG (5,10) (by simp);simp only at g1;clear hG
   iterate 21 still_step
   refine wpStill_nil ?_;go_wp2;go_ret;exact⟨cbE HE.out,dA⟩
  have d0:¬(nc:Int)<=(xx:Int):=(by omega);have i0:(xx:Int)<(nc:Int):=(by omega);rw[decide_eq_false h0]at HE
  go_enter func136,ntmps136
  go_wp2_with fail
  refine Uv [(5,10)] (by kernel_rfl) (by kernel_rfl) rfl (λops hG=>?_);have g1:=hG (5,10) (by simp);simp only at g1;clear hG
  iterate 21 still_step
  refine wpStill_nil ?_;go_wp2;go_ret;exact⟨cbE HE.out,dA⟩
 have b3:((kd:Int)==3)=false:=beq_eq_false_iff_ne.2 (by omega);rw[decide_eq_false h3,Bool.false_and]at HE;clear h3
 go_enter func136,ntmps136
 go_wp2_with fail
 refine Uv [(5,10)] (by kernel_rfl) (by kernel_rfl) rfl (λops hG=>?_);have g1:=hG (5,10) (by simp);simp only at g1;clear hG
 iterate 21 still_step
 refine wpStill_nil ?_;go_wp2;go_ret;exact⟨cbE HE.out,dA⟩
def PlOk(p:Fl.Prog)(vs:List Int)(s:Fl.Stmt):Prop:=(s.kind=3/\s.x<vs.length)\/(s.kind=4/\s.x<p.chans.length)
def zg7(h:Vo w Fb Pb Lb clv chv bv vv S p vs)(hs:zu6 S w v s)(lvl:Nat)(hl:lvl<p.n)(hk:PlOk p vs s):
  Cq 137 #[Pq Fb,.agg #[v,Iq lvl]] w λr w'=>r=.returned (.bool (Fl.fitsM p vs (s,(lvl:Int))))/\Bq w w':=by
 obtain⟨sb,rfl,f0,k0,-,k2⟩:=hs;have hF:=h.hF;have c0:=h.c0;have c1:=h.c1;have p0:=h.lv.p0;have p2:=h.p2;have hP:=h.lv.hz.1;have hsz:sb<w.heap.size:=h.hS sb f0;obtain⟨W0,a0⟩:=nmE (w.alloc (.cells #[Pq sb,Iq lvl] 253))
 have e0:Hid (Bq w W0):=by show Below _ _ _;rw[a0];exact bA
 have t0:W0.cell? (Aq w.heap.size 0)=some (Pq sb):=by rw[a0];simp
 have t1:W0.cell? (Aq w.heap.size 1)=some (Iq lvl):=by rw[a0];simp
 have key:∀(k:Nat) (b off:Nat),k<p.n->b<w.heap.size->w.cell? (Aq b (off+s.x))=some (Iq (k:Nat))->
   Hid (∀W,Bq W0 W->W.cell? (Aq Fb 0)=some (Pq Pb)/\W.cell? (Aq Pb 0)=some (Pq Lb)/\W.cell? (Aq w.heap.size 0)=some (Pq sb)/\W.cell? (Aq w.heap.size 1)=some (Iq lvl)/\W.cell? (Aq sb 2)=some (Iq s.x)/\W.cell? (Aq b (off+s.x))=some (Iq (k:Nat)))/\
   Hid (∀W,Bq W0 W->Cq 201 #[Pq Lb,Iq lvl,Iq (k:Nat)] W λe w'=>e=.returned (.bool (p.leq lvl k))/\w'=W):=λk b off b0 hb hc=>by
  have h0:W0.heap.size=w.heap.size+1:=(by rw[a0];simp);refine⟨λW hW=>?_,λW hW=>?_⟩
  ·have d0:Bq w W:=e0.out.trans (hW.mono (by omega))
   exact⟨(d0.cell (p:=(Aq Fb 0)) hF).trans c0,(d0.cell (p:=(Aq Pb 0)) hP).trans p0,(hW.cell (p:=(Aq w.heap.size 0)) (by show w.heap.size<_;omega)).trans t0,(hW.cell (p:=(Aq w.heap.size 1)) (by show w.heap.size<_;omega)).trans t1,(d0.cell (p:=(Aq sb 2)) hsz).trans k2,(d0.cell (p:=(Aq b (off+s.x))) hb).trans hc⟩
  have d0:Bq w W:=e0.out.trans (hW.mono (by omega));exact yq2 (h.lv.below d0).la h.lv.lv.n6 lvl k hl b0
 rcases hk with⟨e3,hx⟩|⟨e4,hx⟩
 ·obtain⟨b,off,cap,rfl,q1,q2,q3,q4⟩:=zvy h.vi hx
  obtain⟨k,b0,ek⟩:=yxv h.ok hx;rw[ek]at q4;obtain⟨HS,HC⟩:=key k b off b0 q3 q4;have HR:Hid (Fl.fitsM p vs (s,(lvl:Int))=p.leq lvl k):=(by show _=_;unfold Fl.fitsM Fl.under;simp only;rw[if_neg (by omega),ek];rfl);have g0:(s.x:Int)<(vs.length:Int):=(by omega);generalize p.leq lvl k=res at*;have b4:((s.kind:Int)==4)=false:=beq_eq_false_iff_ne.2 (by omega);rw[HR.out];generalize s.x=xx at*;generalize s.kind=kd at*;clear h f0 key HR e3 hx ek b0 q1 q2 hl
  go_enter func137,ntmps137
  go_wp2_with fail
  rw[<-a0];clear a0 c0 c1 p0 p2 k2 q4 k0 t0 t1;refine Yz HS dA [17] [] [] (by kernel_rfl) (λc a d v w h=>by cases d<;>exact h) (λops _=>?_)
  iterate 17 refine Zs rfl (by rintro _ ⟨_,_,_,_,_,_⟩;go_simp<;>rfl) (by go_simp<;>rfl) ?_
  refine Zu ?_
  go_wp2_with fail
  refine(HC.out _ dA).mono ?_;rintro e1 W1 ⟨rfl,rfl⟩
  go_wp2_with fail
  refine⟨HS.out _ dA,?_⟩;refine Zs rfl (by rintro _ ⟨_,_,_,_,_,_⟩;go_simp<;>rfl) (by go_simp<;>rfl) ?_;refine Zl ?_;go_wp2;go_ret;exact⟨rfl,e0.out.drew⟩
 obtain⟨b,off,cap,rfl,q1,q2,q3,q4⟩:=zvy h.ch (i:=s.x) (by simpa using hx);obtain⟨k,b0,ek⟩:=zdv h.lv.lv hx;rw[ek]at q4;obtain⟨HS,HC⟩:=key k b off b0 q3 q4
 have HR:Hid (Fl.fitsM p vs (s,(lvl:Int))=p.leq lvl k):=by show _=_;unfold Fl.fitsM Fl.under;simp only;rw[if_pos e4,ek];rfl
 have g0:(s.x:Int)<((p.chans.map λ(y:Nat)=>(y:Int)).length:Int):=by simp;omega
 generalize p.leq lvl k=res at*
 have b4:((s.kind:Int)==4)=true:=by rw[e4];rfl
 rw[HR.out];generalize s.x=xx at*;generalize s.kind=kd at*;generalize (p.chans.map λ(y:Nat)=>(y:Int)).length=ln at*;clear h f0 key HR e4 hx ek b0 q1 q2 hl
 go_enter func137,ntmps137
 go_wp2_with fail
 rw[<-a0];clear a0 c0 c1 p0 p2 k2 q4 k0 t0 t1;refine Yz HS dA [17] [] [] (by kernel_rfl) (λc a d v w h=>by cases d<;>exact h) (λops _=>?_)
 iterate 17 refine Zs rfl (by rintro _ ⟨_,_,_,_,_,_⟩;go_simp<;>rfl) (by go_simp<;>rfl) ?_
 refine Zu ?_
 go_wp2_with fail
 refine(HC.out _ dA).mono ?_;rintro e1 W1 ⟨rfl,rfl⟩
 go_wp2_with fail
 refine⟨HS.out _ dA,?_⟩;refine Zs rfl (by rintro _ ⟨_,_,_,_,_,_⟩;go_simp<;>rfl) (by go_simp<;>rfl) ?_;refine Zl ?_;go_wp2;go_ret;exact⟨rfl,e0.out.drew⟩
end
def Tryz.infoMove:(Tryz.prog.info? 253).map (λi=>(i.zero,i.size,i.bytes))=some (some (.agg #[.pointer none,Iq 0]),2,16):=by kernel_rfl
def Je{e:TypeId}{n:Nat}{xs:List Value}(h:w.ownsRow base e k v n xs)(hb:Bq w w'):w'.ownsRow base e k v n xs:=by
 have og:w.grownBy w' none:=⟨hb.os,hb.tape,hb.output,hb.size,λk hk _=>hb.block k hk⟩;exact h.kept og (by cases v.ownBlock<;>simp)
def mvC:List (Value×Int)->List Value
 |[]=>[]
 |q::l=>q.1:: Iq q.2::mvC l
def yw0:∀(l:List (Value×Int)),(mvC l).length=l.length*2
 |[]=>rfl
 |_::l=>by simp only[mvC,List.length_cons,yw0 l];omega
def zkw:∀(l m:List (Value×Int)),mvC (l++m)=mvC l++mvC m
 |[],_=>rfl
 |_::l,m=>by simp only[List.cons_append,mvC,zkw l m]
def zc0:∀(l:List (Value×Int)) (i:Nat) (q:Value×Int),l[i]?=some q->(mvC l)[i*2]?=some q.1/\(mvC l)[i*2+1]?=some (Iq q.2)
 |[],_,_,h=>by cases h
 |q::l,0,q',h=>by cases h;exact⟨rfl,rfl⟩
 |q::l,i+1,q',h=>by
  have:=zc0 l i q' (by simpa using h);rw[show (i+1)*2=i*2+1+1 from by omega];exact this
def MvR(S:Nat->Prop)(w:World):List (Value×Int)->List (Fl.Stmt×Int)->Prop
 |[],[]=>True
 |q::qs,m::ms=>(q.2=m.2/\zu6 S w q.1 m.1)/\MvR S w qs ms
 |_,_=>False
def MvR.len{S:Nat->Prop}{w:World}:∀{qs:List (Value×Int)} {ms:List (Fl.Stmt×Int)},MvR S w qs ms->qs.length=ms.length
 |[],[],_=>rfl
 |_::_,_::_,h=>by simp only[List.length_cons,MvR.len h.2]
def MvR.append{S:Nat->Prop}{w:World}:∀{qs:List (Value×Int)} {ms:List (Fl.Stmt×Int)} {qs':List (Value×Int)} {ms':List (Fl.Stmt×Int)},MvR S w qs ms->MvR S w qs' ms'->MvR S w (qs++qs') (ms++ms')
 |[],[],_,_,_,h=>h
 |_::_,_::_,_,_,h,h'=>⟨h.1,MvR.append h.2 h'⟩
def MvR.kept{S:Nat->Prop}{w w':World}(hw:∀b,S b->w'.heap[b]?=w.heap[b]?):∀{qs:List (Value×Int)} {ms:List (Fl.Stmt×Int)},MvR S w qs ms->MvR S w' qs ms
 |[],[],_=>trivial
 |_::_,_::_,h=>⟨⟨h.1.1,h.1.2.kept (λ_ h=>h) hw⟩,MvR.kept hw h.2⟩
def MvR.one{S:Nat->Prop}{w:World}:∀{qs:List (Value×Int)} {ms:List (Fl.Stmt×Int)},MvR S w qs ms->∀u∈mvC qs,u.oneCell'=true
 |[],[],_,_,h=>by cases h
 |q::_,_::_,h,u,hu=>by
  simp only[mvC,List.mem_cons]at hu;rcases hu with rfl|rfl|hu
  ·obtain⟨sb,e,-⟩:=h.1.2;rw[e];rfl
  ·rfl
  exact MvR.one h.2 u hu
def MvR.get{S:Nat->Prop}{w:World}:∀{qs:List (Value×Int)} {ms:List (Fl.Stmt×Int)},MvR S w qs ms->∀(i:Nat) (m:Fl.Stmt×Int),ms[i]?=some m->∃q,qs[i]?=some q/\q.2=m.2/\zu6 S w q.1 m.1
 |[],[],_,_,_,h=>by cases h
 |q::_,_::_,h,0,m,hm=>by cases hm;exact⟨q,rfl,h.1.1,h.1.2⟩
 |_::_,_::_,h,i+1,m,hm=>by
  obtain⟨q,h1,h2⟩:=MvR.get h.2 i m (by simpa using hm);exact⟨q,by simpa using h1,h2⟩
def Vg(S:Nat->Prop)(base:Nat)(w:World)(v:Value)(ms:List (Fl.Stmt×Int)):Prop:=
 ∃qs,w.ownsRow base 253 2 v ms.length (mvC qs)/\MvR S w qs ms/\(ms=[]->v=Zq)
def Vg.nil(S:Nat->Prop)(base:Nat)(w:World):Vg S base w Zq []:=⟨[],World.ownsRow_nil _ _ _ _,trivial,λ_=>rfl⟩
def Vg.low{ms:List (Fl.Stmt×Int)}(h:Vg S base w v ms)(hb:Bq w w')(hS:∀b,S b->b<w.heap.size):Vg S base w' v ms:=by
 obtain⟨qs,h1,h2,h3⟩:=h;exact⟨qs,Je h1 hb,h2.kept (λb hs=>hb.block b (hS b hs)),h3⟩
def Vg.lt{S:Nat->Prop}{base:Nat}{w:World}{v:Value}{ms:List (Fl.Stmt×Int)}(h:Vg S base w v ms):∀g,v.ownBlock=some g->base<=g:=by
 obtain⟨qs,h1,-⟩:=h;exact λg hg=>(h1.lt g hg).1
def Vg.push{v':Value}{ms ms':List (Fl.Stmt×Int)}{qs qs':List (Value×Int)}(hS:∀b,S b->b<base)(hb:base<=w.heap.size)(h1:w.ownsRow base 253 2 v ms.length (mvC qs))(h2:MvR S w qs ms)(h3:MvR S w qs' ms')(a0:ms'≠[])
  (ho:w'.ownsRow base 253 2 v' (ms.length+ms'.length) (mvC qs++mvC qs')) (hg:w.grownBy w' v.ownBlock):Vg S base w' v' (ms++ms'):=by
 have hk:∀b,S b->w'.heap[b]?=w.heap[b]?:=λb hs=>hg.block b (by have:=hS b hs;omega) (λhh=>by have:=(h1.lt b hh.symm).1;have:=hS b hs;omega);refine⟨qs++qs',by rw[List.length_append,zkw];exact ho,(h2.kept hk).append (h3.kept hk),λh=>?_⟩;exact absurd (List.append_eq_nil_iff.1 h).2 a0
section
def zt2(a0:o.guard=none)(s x:Operand)
  (ho:o.op=.call {callee:=.builtin .append,args:=#[s,x],argTypes:=#[249,249]})  {base':Nat} (hS:∀b,S b->b<base) (hb:base<=w.heap.size)
  {v2:Value} {ms ms':List (Fl.Stmt×Int)} (hs:a.eval s=v) (hx:a.eval x=v2) (h1:Vg S base w v ms) (h2:Vg S base' w v2 ms') (hl:ms.length+ms'.length<=4000000)
  (h:∀v' w',Vg S base w' v' (ms++ms')->w.grownBy w' v.ownBlock->wpList prog ops Q rest (a.put o.dst v') w'):wpList prog ops Q (o::rest) a w:=by
 obtain⟨i0,b0,c0,d0,e0⟩:=info_parts Tryz.infoMove;obtain⟨qs,k1,k2,k3⟩:=h1;obtain⟨qs',m1,m2,m3⟩:=h2
 by_cases he:ms'=[]
 ·subst he
  refine wpList_append_own_none a0 s x 249 ho base 253 i0 2 underlying249 b0 v _ _ hs k1 (hx.trans (m3 rfl)) (h v w (by rw[List.append_nil];exact⟨qs,k1,k2,k3⟩) ?_);exact World.grownBy.refl _ _
 rcases id m1.2 with⟨rfl,h0⟩|⟨g,cap,cur,rfl,hg,-⟩
 ·exact absurd (Qi h0) he
 refine Zn _ a0 s x 249 ho base 253 i0 (.agg #[.pointer none,Iq 0]) 2 16 underlying249 b0 c0 d0 e0 rfl (by decide) v _ _ hs k1 (Aq g 0) ms'.length cap (mvC qs') hx (by rw[yw0,m2.len]) (by have:ms'.length≠0:=λh=>he (Qi h);omega) (λj u hj=>m1.cells (g:=g) rfl j u hj) m2.one (by unfold maxLen;omega) (by omega) hb (λv' w' o1 o2 _=>h v' w' (Vg.push hS hb k1 k2 m2 he o1 o2) o2)
def zsx{e:TypeId}{l:List Value}:∀j u,l[j]?=some u->(w.alloc (.cells l.toArray e)).cell? (((Aq w.heap.size 0):Addr).add j)=some u:=by
 intro j u hj
 have h2:((Aq w.heap.size 0):Addr).add j=(Aq w.heap.size j):=by unfold Addr.add;split<;>simp_all
 rw[h2,World.cell?_alloc_new];simpa using hj
def znw(b0:o.guard=none)(s x:Operand)
  (ho:o.op=.call {callee:=.builtin .append,args:=#[s,x],argTypes:=#[249,249]})   (hS:∀b,S b->b<base) (hb:base<=w.heap.size)
   {ms:List (Fl.Stmt×Int)} (pv:Value) (st:Fl.Stmt) (lv:Int) (hs:a.eval s=v) (hx:a.eval x=.slice (some (Aq w.heap.size 0)) 1 1) (h1:Vg S base w v ms) (h2:zu6 S w pv st) (hl:ms.length<=4000000)
  (h:∀v' w',Vg S base w' v' (ms++[(st,lv)])->(w.alloc (.cells #[pv,Iq lv] 253)).grownBy w' v.ownBlock->wpList prog ops Q rest (a.put o.dst v') w'):wpList prog ops Q (o::rest) a (w.alloc (.cells #[pv,Iq lv] 253)):=by
 obtain⟨i0,c0,d0,e0,f0⟩:=info_parts Tryz.infoMove;have a0:Bq w (w.alloc (.cells #[pv,Iq lv] 253)):=bA;obtain⟨qs,k1,k2,k3⟩:=h1.low a0 (λb hs=>by have:=hS b hs;omega);have h3:MvR S (w.alloc (.cells #[pv,Iq lv] 253)) [(pv,lv)] [(st,lv)]:=⟨⟨rfl,h2.kept (λ_ h=>h) (λb hs=>a0.block b (by have:=hS b hs;omega))⟩,trivial⟩
 have hz:base<=(w.alloc (.cells #[pv,Iq lv] 253)).heap.size:=by simp;omega
 refine Zn _ b0 s x 249 ho base 253 i0 (.agg #[.pointer none,Iq 0]) 2 16 underlying249 c0 d0 e0 f0 rfl (by decide) v _ _ hs k1 (Aq w.heap.size 0) 1 1 [pv,Iq lv] hx rfl (by decide) zsx (h3.one) (by unfold maxLen;omega) (by omega) hz (λv' w' o1 o2 _=>h v' w' (Vg.push hS hz k1 k2 h3 (by simp) o1 o2) o2)
end
namespace Fl
def Small:Nat->List Stmt->Prop
 |0,l=>l=[]
 |d+1,l=>l.length<=16/\∀s∈l,Small d s.body/\Small d s.other
def flatMap_len{f:Stmt->List (Stmt×Int)}{c:Nat}:∀(l:List Stmt),(∀s∈l,(f s).length<=c)->(l.flatMap f).length<=l.length*c
 |[],_=>by simp
 |s::l,h=>by
  have h1:=h s (by simp);have h2:=flatMap_len l (λx hx=>h x (by simp[hx]));rw[List.flatMap_cons,List.length_append,List.length_cons,Nat.succ_mul];omega
def movesOne_len{p:Prog}{K:List Stmt->Int->List (Stmt×Int)}{c:Nat}(s:Stmt)(u:Int)(h1:∀u,(K s.body u).length<=c)(h2:∀u,(K s.other u).length<=c):(movesOne K p vs u s).length<=1+2*c:=by
 unfold movesOne
 split
 ·simp
 split
 ·rw[List.length_append]
  have:=h1 (jn p u (valLv p vs s.e));have:=h2 (jn p u (valLv p vs s.e));omega
 simp
def moves_len(p:Prog)(vs:List Int):∀(d:Nat) (l:List Stmt) (u:Int),Small d l->(moves p vs d l u).length<=48 ^ d
 |0,_,_,_=>by simp[moves]
 |d+1,l,u,h=>by
  have hp:0<48 ^ d:=Nat.pow_pos (by decide)
  have h1:∀s∈l,(movesOne (moves p vs d) p vs u s).length<=3*48 ^ d:=λs hs=>by
   have:=movesOne_len (p:=p) (vs:=vs) (c:=48 ^ d) s u (λu=>moves_len p vs d _ u (h.2 s hs).1) (λu=>moves_len p vs d _ u (h.2 s hs).2);omega
  have h2:=flatMap_len l h1;have h3:l.length*(3*48 ^ d)<=16*(3*48 ^ d):=Nat.mul_le_mul_right _ h.1;rw[Nat.pow_succ];show (l.flatMap _).length<=_;omega
def take_flat{f:Stmt->List (Stmt×Int)}(h:k<l.length):(l.take (k+1)).flatMap f=(l.take k).flatMap f++f (l.getD k noS):=by
 rw[List.take_succ_eq_append_getElem h,List.flatMap_append,Qa,Qb h];simp
end Fl
def Zg.small{S:Nat->Prop}{w:World}:∀(d:Nat) (v:Value) (l:List Fl.Stmt),Zg d S w v l->Fl.Small d l
 |0,_,_,h=>h.1
 |d+1,v,l,h=>by
  obtain⟨ao,cap,-,-,-,a0,hc⟩:=h;refine⟨a0,λs hs=>?_⟩;obtain⟨i,hi,rfl⟩:=List.getElem_of_mem hs;obtain⟨b,off,-,-,h1⟩:=hc (by intro e;rw[e]at hi;cases hi);obtain⟨p,-,sb,vp,fv,ev,-,-,-,-,h2,h3⟩:=h1 i hi;rw[Qa,Qb hi]at h2 h3;exact⟨Zg.small d _ _ h2,Zg.small d _ _ h3⟩
def zx2(S:Nat->Prop)(w:World)(ms:List (Fl.Stmt×Int))(e:Ending)(w':World):Prop:=∃v,e=.returned v/\Vg S w.heap.size w' v ms/\Bq w w'
def zwy{p:Fl.Prog}(h:p.Lv)(ok:Fl.LvOk p vs)(ho:Fl.ExprOk vs.length e):∃k:Nat,k<p.n/\Fl.valLv p vs e=(k:Int):=by
 have hv:=zwz ho;obtain⟨a,ha,ea⟩:=zzy h ok.2 hv.1;unfold Fl.valLv
 by_cases h0:e.op<0
 ·rw[if_pos h0];exact⟨a,ha,ea⟩
 rw[if_neg h0];obtain⟨b,hb,eb⟩:=zzy h ok.2 (hv.2 (by omega));obtain⟨k,h1,h2⟩:=h.join ha hb;exact⟨k,h1,by unfold Fl.jn;rw[ea,eb];exact h2⟩
section
variable{p:Fl.Prog}
def zc1(d:Nat)(hd:d<=3)(IH:∀W,Bq w W->∀(v:Value) (l:List Fl.Stmt) (u:Nat),Zg d S W v l->Fl.StmtsOk vs.length p.chans.length d l->u<p.n->Cq 200 #[Pq Fb,v,Iq u] W (zx2 S W (Fl.moves p vs d l u)))
  (h:Vo w Fb Pb Lb clv chv bv vv S p vs) (v:Value) (l:List Fl.Stmt) (u:Nat) (hl:Zg (d+1) S w v l) (ho:Fl.StmtsOk vs.length p.chans.length (d+1) l) (hu:u<p.n):
  Cq 200 #[Pq Fb,v,Iq u] w (zx2 S w (Fl.moves p vs (d+1) l u)):=by
 have D0:=Zg.small _ _ _ hl;have L0:48 ^ d<=110592:=by
  have:d=0\/d=1\/d=2\/d=3:=by omega
  rcases this with rfl|rfl|rfl|rfl<;>decide
 have l0:∀s∈l,(Fl.movesOne (Fl.moves p vs d) p vs u s).length<=221185:=λs hs=>by
  have:=Fl.movesOne_len (p:=p) (vs:=vs) (c:=48 ^ d) s u (λu=>Fl.moves_len p vs d _ u (D0.2 s hs).1) (λu=>Fl.moves_len p vs d _ u (D0.2 s hs).2);omega
 have H1:=D0.1
 have m0:Hid (∀k,((l.take k).flatMap (Fl.movesOne (Fl.moves p vs d) p vs u)).length<=3538960):=λk=>by
  have h1:=Fl.flatMap_len (l.take k) (λs hs=>l0 s (List.mem_of_mem_take hs));have h2:(l.take k).length<=16:=(by rw[List.length_take];omega);have h3:(l.take k).length*221185<=16*221185:=Nat.mul_le_mul_right _ h2;omega
 have M0:Hid (Fl.moves p vs (d+1) l u=(l.take l.length).flatMap (Fl.movesOne (Fl.moves p vs d) p vs u)):=by show _=_;rw[List.take_length];rfl
 obtain⟨ao,cap,rfl,t1,u1,-,n0⟩:=id hl;have o0:=Zz n0;have HH:=Zz h;have N0:=Zz IH;have HO:=Zz ho
 have I1:(l.length:Int)<=16:=by omega
 unfold maxLen at u1;clear h IH ho n0 hl l0 L0 D0
 go_enter func200,ntmps200
 go_wp2
 go_loopw [7,13] (λv i wr=>∃(k:Nat),k<=l.length/\i=Iq k/\Vg S w.heap.size wr v ((l.take k).flatMap (Fl.movesOne (Fl.moves p vs d) p vs u))/\Bq w wr) (λ_ i _=>l.length - (intOf i).toNat)
 case atStart=>exact⟨0,by omega,rfl,Vg.nil _ _ _,Below.refl _ _⟩
 case round=>
  obtain⟨k,hk,rfl,E0,a0⟩:=hrel
  by_cases h0:k<l.length
  ·obtain⟨b,off,rfl,X0,i0⟩:=o0.out (by intro e;rw[e]at h0;cases h0)
   obtain⟨pv,Y0,hst⟩:=i0 k h0;obtain⟨s,hs⟩:=nmE (l.getD k noS);have hmem:s∈l:=(by rw[hs,Qa,Qb h0];exact List.getElem_mem h0);have q0:Hid ((l.take (k+1)).flatMap (Fl.movesOne (Fl.moves p vs d) p vs u)=(l.take k).flatMap (Fl.movesOne (Fl.moves p vs d) p vs u)++Fl.movesOne (Fl.moves p vs d) p vs u s):=(by rw[hs];exact Fl.take_flat h0);rw[<-hs]at hst;obtain⟨sb,vp,fv,ev,rfl,O0,e0,t0,Z0,a1⟩:=hst;obtain⟨j0,b0,u0,v0⟩:=HO.out s hmem;have hbz:b<w.heap.size:=HH.out.hS b X0;have hsz:sb<w.heap.size:=HH.out.hS sb O0;have P0:=a0.size;have q:∀j,wr.cell? (Aq sb j)=w.cell? (Aq sb j):=λj=>a0.cell (p:=(Aq sb j)) hsz;have f0:wr.cell? (Aq b (off+k))=some (Pq sb):=(a0.cell (p:=(Aq b (off+k))) hbz).trans Y0;have s0:wr.cell? (Aq sb 0)=some (Iq s.kind):=(q 0).trans (e0.c 0 (by omega));have k5:w.cell? (Aq sb 5)=some ev:=e0.c 5 (by omega);have s3:wr.cell? (Aq sb 3)=some vp:=(q 3).trans (e0.c 3 (by omega));have s4:wr.cell? (Aq sb 4)=some fv:=(q 4).trans (e0.c 4 (by omega));have s5:wr.cell? (Aq sb 5)=some ev:=(q 5).trans (e0.c 5 (by omega));have v1:Hid (zu6 S w (Pq sb) s):=⟨sb,rfl,O0,e0.c 0 (by omega),e0.c 1 (by omega),e0.c 2 (by omega)⟩;have HR:Hid (Vo wr Fb Pb Lb clv chv bv vv S p vs):=HH.out.below a0;obtain⟨vl,Q0,evl⟩:=zwy HH.out.lv.lv HH.out.ok b0;obtain⟨lv,b1,elv⟩:=HH.out.lv.lv.join hu Q0;have F0:Hid (Fl.jn p u (Fl.valLv p vs s.e)=(lv:Int)):=(by show _=_;unfold Fl.jn;rw[evl];exact elv);have c0:=HR.out.c0;have p0:=HR.out.lv.p0;have hF:=HR.out.hF;have hP:=HR.out.lv.hz.1;have HS:Hid (∀W,Bq wr W->W.cell? (Aq Fb 0)=some (Pq Pb)/\W.cell? (Aq Pb 0)=some (Pq Lb)/\W.cell? (Aq sb 3)=some vp):=λW hW=>⟨(hW.cell (p:=(Aq Fb 0)) hF).trans c0,(hW.cell (p:=(Aq Pb 0)) hP).trans p0,(hW.cell (p:=(Aq sb 3)) (by show sb<_;omega)).trans s3⟩
   have c1:Hid (∀W,Bq wr W->Cq 241 #[Pq Fb,vp] W λr w'=>r=.returned (Iq (vl:Nat))/\Bq W w'):=λW hW=>by
    have x1:Bq w W:=a0.trans (hW.mono P0);have:=zu7 (HR.out.below hW) (t0.kept (λ_ h=>h) (λb hb=>x1.block b (HH.out.hS b hb))) b0;rw[evl]at this;exact this
   have HJ:Hid (∀W,Bq wr W->Cq 138 #[Pq Lb,Iq u,Iq vl] W λr w'=>r=.returned (Iq (lv:Nat))/\w'=W):=λW hW=>by
    have:=zrw (HR.out.lv.below hW).la HH.out.lv.lv.n6 u vl hu Q0;rw[elv]at this;exact this
   have G0:Hid (∀W,Bq w W->Zg d S W fv s.body/\Zg d S W ev s.other):=λW hW=>⟨Zg.kept (λ_ h=>h) (λb hb=>hW.block b (HH.out.hS b hb)) _ _ _ Z0,Zg.kept (λ_ h=>h) (λb hb=>hW.block b (HH.out.hS b hb)) _ _ _ a1⟩;have H0:Hid (Fl.StmtsOk vs.length p.chans.length d s.body/\Fl.StmtsOk vs.length p.chans.length d s.other):=⟨u0,v0⟩;have k0:=Zz HH.out.hS;have d1:=Zz E0;have y1:(k:Int)<(l.length:Int):=(by omega);have f1:=Zz h0;clear i0 Y0 X0 e0 t0 Z0 a1 u0 v0 b0 hmem E0 evl elv q hs O0 h0
   go_wp2_with fail
   refine Yz HS dA [13,14] [] [] (by kernel_rfl) (λc a d v w h=>by cases d<;>exact h) (λops _=>?_)
   iterate 13 refine Zs rfl (by rintro _ ⟨_,_,_⟩;go_simp<;>rfl) (by go_simp<;>rfl) ?_
   refine Zu ?_
   go_wp2_with fail
   refine(c1.out _ dA).mono ?_;rintro e1 W9 ⟨rfl,g1⟩;have g0:Hid (Bq wr W9):=dA.trans g1;clear g1
   go_wp2_with fail
   refine⟨HS.out _ g0.out,?_⟩;refine Zu ?_
   go_wp2_with fail
   refine(HJ.out _ g0.out).mono ?_;rintro e2 W1 ⟨rfl,rfl⟩
   go_wp2_with fail
   refine⟨HS.out _ g0.out,?_⟩;refine Zs rfl (by rintro _ ⟨_,_,_⟩;go_simp<;>rfl) (by go_simp<;>rfl) ?_;refine Zl ?_;have x0:Hid (Bq w W1):=a0.trans (g0.out.mono P0);have I0:w.heap.size<=W1.heap.size:=x0.out.size;have y0:Hid (Vg S w.heap.size W1 u7 ((l.take k).flatMap (Fl.movesOne (Fl.moves p vs d) p vs u))):=d1.out.low g0.out (λb hb=>Qj (k0.out b hb) P0);have r0:W1.cell? (Aq sb 0)=some (Iq s.kind):=(g0.out.cell (p:=(Aq sb 0)) (by show sb<_;omega)).trans s0;have r4:W1.cell? (Aq sb 4)=some fv:=(g0.out.cell (p:=(Aq sb 4)) (by show sb<_;omega)).trans s4;have r5:W1.cell? (Aq sb 5)=some ev:=(g0.out.cell (p:=(Aq sb 5)) (by show sb<_;omega)).trans s5;have z1:Hid (∀W,Bq w W->W.cell? (Aq sb 5)=some ev):=λW hW=>(hW.cell (p:=(Aq sb 5)) hsz).trans k5;clear s0 s3 s4 s5 c0 p0 f0 k5 c1 HJ HS g0 HR d1 hF hP Q0 o0 HH
   have A1:(s.kind=3\/s.kind=4)\/(s.kind=5\/s.kind=6):=by rcases j0 with h|h|h|h<;>omega
   clear j0;rcases A1 with i1|j1
   ·have HM:Hid (Fl.movesOne (Fl.moves p vs d) p vs u s=[(s,(lv:Int))]):=by show _=_;unfold Fl.movesOne;rw[if_pos i1,F0.out]
    have B1:=m0.out k;rcases i1 with h3|h4
    all_goals
     first|(rw[h3]at r0;clear h3)|(rw[h4]at r0;clear h4)
     go_wp2_with (at_builtin;refine znw rfl (.tmp 39) (.tmp 43) rfl k0.out I0 (Pq sb) s (lv:Int) rfl rfl y0.out (v1.out.kept (λ_ h=>h) (λb hb=>x0.out.block b (k0.out b hb))) (by omega) ?_)
     intro v' W2 z0 k1;have C1:Bq w W2:=(x0.out.alloc I0 _).grown k1 (by simp;omega) (λg hg=>y0.out.lt g hg);have d0:Vg S w.heap.size W2 v' ((l.take (k+1)).flatMap (Fl.movesOne (Fl.moves p vs d) p vs u)):=(by rw[q0.out,HM.out];exact z0);have J0:=Zz d0;clear z0 d0 k1 HM y0 q0 B1 r0 r4 r5 G0 H0 F0;go_wp2
     go_roundw
     case rel=>exact⟨k+1,by have:=f1.out;omega,by go_num,J0.out,C1⟩
     case measure=>simp[intOf];omega
   obtain⟨m1,R0⟩:=nmE (Fl.moves p vs d s.body lv);obtain⟨m2,S0⟩:=nmE (Fl.moves p vs d s.other lv);have HM:Hid (Fl.movesOne (Fl.moves p vs d) p vs u s=m1++m2):=(by show _=_;unfold Fl.movesOne;rw[if_neg (by omega),if_pos j1,F0.out,R0,S0]);have l1:Hid (((l.take k).flatMap (Fl.movesOne (Fl.moves p vs d) p vs u)).length+(m1.length+m2.length)<=3538960):=by
    have:=m0.out (k+1);rw[q0.out,HM.out,List.length_append,List.length_append]at this;exact this
   have D1:Hid (∀W,Bq w W->Cq 200 #[Pq Fb,fv,Iq lv] W (zx2 S W m1)):=λW hW=>by rw[R0];exact N0.out W hW fv s.body lv (G0.out W hW).1 H0.out.1 b1
   have E1:Hid (∀W,Bq w W->Cq 200 #[Pq Fb,ev,Iq lv] W (zx2 S W m2)):=λW hW=>by rw[S0];exact N0.out W hW ev s.other lv (G0.out W hW).2 H0.out.2 b1
   generalize hms:(l.take k).flatMap (Fl.movesOne (Fl.moves p vs d) p vs u)=ms at*;clear R0 S0 G0 H0 F0 N0 r5;rcases j1 with h5|h6
   all_goals
    first|(rw[h5]at r0;clear h5)|(rw[h6]at r0;clear h6)
    go_wp2_with fail
    refine(D1.out _ x0.out).mono ?_;rintro e W2 ⟨v2,rfl,hA,hB⟩;have HA:=Zz hA;have T0:Hid (Bq w W2):=x0.out.trans (hB.mono I0);have n1:w.heap.size<=W2.heap.size:=T0.out.size;have U0:Hid (Vg S w.heap.size W2 u7 ms):=y0.out.low hB (λb hb=>Qj (k0.out b hb) I0);have o1:ms.length+m1.length<=4000000:=(by have:=l1.out;omega);clear hA hB y0
    go_wp2_with (at_builtin;refine zt2 rfl (.tmp 48) (.tmp 55) rfl k0.out n1 rfl rfl U0.out HA.out o1 ?_)
    intro v3 W3 d0 A0;have K0:Hid (Bq w W3):=T0.out.grown A0 (by omega) (λg hg=>U0.out.lt g hg);have p1:w.heap.size<=W3.heap.size:=K0.out.size;have J0:=Zz d0;have r5:W3.cell? (Aq sb 5)=some ev:=z1.out _ K0.out;clear d0 A0 U0 HA T0 n1 o1 r4
    go_wp2_with fail
    refine(E1.out _ K0.out).mono ?_;rintro e W4 ⟨v4,rfl,hA,hB⟩;have HA:=Zz hA;have V0:Hid (Bq w W4):=K0.out.trans (hB.mono p1);have q1:w.heap.size<=W4.heap.size:=V0.out.size;have W0:Hid (Vg S w.heap.size W4 v3 (ms++m1)):=J0.out.low hB (λb hb=>Qj (k0.out b hb) p1);have r1:(ms++m1).length+m2.length<=4000000:=(by have:=l1.out;rw[List.length_append];omega);clear hA hB J0 r5
    go_wp2_with (at_builtin;refine zt2 rfl (.tmp 57) (.tmp 64) rfl k0.out q1 rfl rfl W0.out HA.out r1 ?_)
    intro v5 W5 B0 C0;have F1:Bq w W5:=V0.out.grown C0 (by omega) (λg hg=>W0.out.lt g hg);have G1:Hid (Vg S w.heap.size W5 v5 ((l.take (k+1)).flatMap (Fl.movesOne (Fl.moves p vs d) p vs u))):=(by rw[q0.out,HM.out];exact B0);clear B0 C0 HM W0 q0 HA V0 q1 r1 r0;go_wp2
    go_roundw
    case rel=>exact⟨k+1,by have:=f1.out;omega,by go_num,G1.out,F1⟩
    case measure=>simp[intOf];omega
  have s1:k=l.length:=(by omega);have HF:Hid (Vg S w.heap.size wr u7 ((l.take l.length).flatMap (Fl.movesOne (Fl.moves p vs d) p vs u))):=(by rw[<-s1];exact E0);clear E0 s1;go_wp2;go_ret;exact⟨_,rfl,by rw[M0.out];exact HF.out,a0⟩
def zc2(u:Nat):Cq 200 #[Pq Fb,Zq,Iq u] w (zx2 S w []):=by
 go_enter func200,ntmps200
 go_wp2
 go_loopw [7,13] (λv i wr=>i=Iq 0/\v=Zq/\wr=w) (λ_ i _=>0)
 case atStart=>exact⟨rfl,rfl,rfl⟩
 case round=>
  obtain⟨rfl,rfl,rfl⟩:=hrel;go_wp2;go_ret;exact⟨_,rfl,Vg.nil _ _ _,Below.refl _ _⟩
def zm1:∀(d:Nat),d<=4->∀(w:World),Vo w Fb Pb Lb clv chv bv vv S p vs->∀(v:Value) (l:List Fl.Stmt) (u:Nat),Zg d S w v l->Fl.StmtsOk vs.length p.chans.length d l->u<p.n->
  Cq 200 #[Pq Fb,v,Iq u] w (zx2 S w (Fl.moves p vs d l u))
 |0,_,w,_,v,l,u,hl,_,_=>by
  obtain⟨rfl,rfl⟩:=hl;exact zc2 u
 |d+1,hd,w,h,v,l,u,hl,ho,hu=>zc1 d (by omega) (λW hW v l u a b c=>zm1 d (by omega) W (h.below hW) v l u a b c) h v l u hl ho hu
def zg8(h:Vo w Fb Pb Lb clv chv bv vv S p vs):Cq 135 #[Pq Fb] w (zx2 S w (Fl.moves p vs 4 p.body (Fl.low p))):=by
 have hF:=h.hF;have hP:=h.lv.hz.1;have HS:Hid (∀W,Bq w W->W.cell? (Aq Fb 0)=some (Pq Pb)/\W.cell? (Aq Pb 4)=some bv/\W.cell? (Aq Pb 0)=some (Pq Lb)):=λW hW=>⟨(h.below hW).c0,(h.below hW).p4,(h.below hW).lv.p0⟩;obtain⟨lw,a0⟩:=nmE (Fl.bottom p.n p.leq)
 have HL:Hid (∀W,Bq w W->Cq 134 #[Pq Lb] W λe w'=>e=.returned (Iq lw)/\w'=W):=λW hW=>by rw[a0];exact zu5 (h.below hW).lv.la
 have b0:lw<p.n:=by have:=h.lv.lv.low;unfold Fl.low at this;omega
 have e1:Fl.low p=(lw:Int):=by unfold Fl.low;rw[a0]
 have d0:Fl.StmtsOk vs.length p.chans.length 4 p.body:=by rw[h.ok.1];exact h.pk.body
 have HC:Hid (∀W,Bq w W->Cq 200 #[Pq Fb,bv,Iq lw] W (zx2 S W (Fl.moves p vs 4 p.body (Fl.low p)))):=λW hW=>by
  rw[e1];exact zm1 4 (by omega) W (h.below hW) bv p.body lw (h.below hW).bo d0 b0
 generalize Fl.moves p vs 4 p.body (Fl.low p)=res at*;have e0:=h.hS;have f0:=Zz e0;clear h a0 e1 d0 b0 e0
 go_enter func135,ntmps135
 go_wp2_with fail
 refine Yz HS dA [15,16] [] [] (by kernel_rfl) (λc a d v w h=>by cases d<;>exact h) (λops _=>?_)
 iterate 15 refine Zs rfl (by rintro _ ⟨_,_,_⟩;go_simp<;>rfl) (by go_simp<;>rfl) ?_
 refine Zu ?_
 go_wp2_with fail
 refine(HL.out _ dA).mono ?_;rintro e1 W1 ⟨rfl,rfl⟩
 go_wp2_with fail
 refine⟨HS.out _ dA,?_⟩;refine Zu ?_
 go_wp2_with fail
 refine(HC.out _ dA).mono ?_;rintro e2 W2 ⟨v2,rfl,hA,hB⟩;have HB:Hid (Bq w W2):=dA.trans hB;have HA:=Zz hA;clear hA hB
 go_wp2_with fail
 refine⟨HS.out _ HB.out,?_⟩;refine Zs rfl (by rintro _ ⟨_,_,_⟩;go_simp<;>rfl) (by go_simp<;>rfl) ?_;refine Zl ?_;go_wp2;go_ret;exact⟨_,rfl,HA.out,HB.out⟩
end
def zx9{p:Fl.Prog}{vs:List Int}(h:p.Lv)(ok:Fl.LvOk p vs):∀(d:Nat) (l:List Fl.Stmt) (u:Nat),Fl.StmtsOk vs.length p.chans.length d l->u<p.n->∀m∈Fl.moves p vs d l u,PlOk p vs m.1/\∃k:Nat,k<p.n/\m.2=(k:Int)
 |0,_,_,_,_,m,hm=>by cases hm
 |d+1,l,u,ho,hu,m,hm=>by
  obtain⟨s,hs,hm⟩:=List.mem_flatMap.1 (show m∈l.flatMap (Fl.movesOne (Fl.moves p vs d) p vs u) from hm);obtain⟨hk,he,h1,h2⟩:=ho s hs;obtain⟨vl,b0,evl⟩:=zwy h ok he;obtain⟨lv,a0,elv⟩:=h.join hu b0;have ej:Fl.jn p u (Fl.valLv p vs s.e)=(lv:Int):=(by unfold Fl.jn;rw[evl];exact elv);unfold Fl.movesOne at hm;rw[ej]at hm
  split at hm
  ·rename_i c0
   rw[List.mem_singleton]at hm;subst hm;refine⟨?_,lv,a0,rfl⟩;rcases hk with h|h|h|h
   ·exact .inl h
   ·exact .inr h
   ·omega
   omega
  split at hm
  ·rcases List.mem_append.1 hm with hm|hm
   ·exact zx9 h ok d _ lv h1 a0 m hm
   exact zx9 h ok d _ lv h2 a0 m hm
  cases hm
def m0:Fl.Stmt×Int:=(noS,0)
def zkv{α:Type}{f:α->Bool}{l:List α}(h:∀t,(ht:t<l.length)->f l[t]=false):l.find? f=none:=by
 rw[List.find?_eq_none];intro x hx;obtain⟨i,hi,rfl⟩:=List.getElem_of_mem hx;rw[h i hi];simp
def zn6{α:Type}{f:α->Bool}:∀{l:List α} {k:Nat} (hk:k<l.length),(∀t,(ht:t<k)->f (l[t]'(by omega))=false)->f l[k]=true->l.find? f=some l[k]
 |a::l,0,_,_,h=>by simp only[List.getElem_cons_zero]at h⊢;rw[List.find?_cons,h]
 |a::l,k+1,hk,hb,h=>by
  have h0:=hb 0 (by omega);simp only[List.getElem_cons_zero]at h0;rw[List.find?_cons,h0];simp only[List.getElem_cons_succ];exact zn6 (by simpa using hk) (λt ht=>by have:=hb (t+1) (by omega);simpa using this) (by simpa using h)
section
variable{p:Fl.Prog}
def zez(h:Vo w Fb Pb Lb clv chv bv vv S p vs):Cq 97 #[Pq Fb] w λe w'=>e=.returned (Iq (Fl.firstDown p vs))/\Bq w w':=by
 have E0:Fl.StmtsOk vs.length p.chans.length 4 p.body:=by rw[h.ok.1];exact h.pk.body
 obtain⟨lw,c0,elw⟩:∃lw:Nat,lw<p.n/\Fl.low p=(lw:Int):=⟨(Fl.low p).toNat,by have:=h.lv.lv.low;omega,by have:=h.lv.lv.low;omega⟩;have q0:=zx9 h.lv.lv h.ok 4 p.body lw E0 c0;have r0:(Fl.moves p vs 4 p.body lw).length<=48 ^ 4:=Fl.moves_len p vs 4 p.body lw (Zg.small _ _ _ h.bo);rw[<-elw]at q0 r0;have HC:Hid (Cq 135 #[Pq Fb] w (zx2 S w (Fl.moves p vs 4 p.body (Fl.low p)))):=zg8 h;have HD:Hid (Fl.firstDown p vs=match (Fl.moves p vs 4 p.body (Fl.low p)).find? (λm=> !Fl.fitsM p vs m) with|some m=>m.1.line|none=>0):=rfl;obtain⟨ms,F0⟩:=nmE (Fl.moves p vs 4 p.body (Fl.low p));rw[<-F0]at q0 r0 HC HD;have I0:=Zz q0;have hle':ms.length<=5308416:=r0;have HH:=Zz h;obtain⟨res,l0⟩:=nmE (Fl.firstDown p vs);rw[<-l0]at HD⊢;clear h E0 c0 elw q0 r0 F0 l0
 go_enter func97,ntmps97
 go_wp2_with fail
 refine HC.out.mono ?_;rintro e W1 ⟨v,rfl,x0,m0⟩;have J0:=Zz x0;have n0:=Zz m0;obtain⟨ao,cap,K0,L0⟩:∃ao cap,v=.slice ao ms.length cap/\ms.length<=cap:=by
  obtain⟨qs,h1,-,-⟩:=x0;rcases h1.2 with⟨rfl,h0⟩|⟨g,cap,cur,rfl,-,-,hc,-⟩
  ·exact⟨none,0,by rw[h0],by omega⟩
  exact⟨_,cap,rfl,hc⟩
 subst K0;clear HC x0 m0
 go_wp2_with fail
 go_loopw [8] (λi wr=>∃(k:Nat),k<=ms.length/\i=Iq k/\(∀t,(ht:t<k)->(ht':t<ms.length)->Fl.fitsM p vs ms[t]=true)/\Bq W1 wr) (λi _=>ms.length - (intOf i).toNat)
 case atStart=>exact⟨0,by omega,rfl,λt ht=>absurd ht (by omega),Below.refl _ _⟩
 case round=>
  obtain⟨k,hk,rfl,b0,o0⟩:=hrel
  by_cases c0:k<ms.length
  ·obtain⟨qs,h1,h2,-⟩:=J0.out.low o0 (λb hb=>Qj (HH.out.hS b hb) n0.out.size)
   obtain⟨mk,d0⟩:=nmE (ms[k]'c0);obtain⟨q,y0,z0,s0⟩:=h2.get k mk (by rw[d0];exact Qb c0);obtain⟨A0,lk,B0,elk⟩:=I0.out mk (by rw[d0];exact List.getElem_mem c0);obtain⟨c1,c2⟩:=zc0 qs k q y0;rcases id h1.2 with⟨e0,h0⟩|⟨g,cap',cur,e0,G0,H0,-⟩
   ·omega
   injection e0 with e0 e00 e01;subst e0;subst e01;have a0:=h1.cells (g:=g) rfl _ _ c1;have a1:=h1.cells (g:=g) rfl _ _ c2
   have ad:∀j,((Aq g 0):Addr).add j=(Aq g j):=λj=>by unfold Addr.add;split<;>simp_all
   rw[ad]at a0 a1;obtain⟨sb,eq1,M0,k0,k1,k2⟩:=id s0;rw[eq1]at a0;rw[z0,elk]at a1;have N0:(k:Int)<(ms.length:Int):=(by omega);have C0:Hid (Bq w wr):=n0.out.trans (o0.mono n0.out.size);have u0:=C0.out.size;have hsz:sb<wr.heap.size:=Qj (HH.out.hS sb M0) u0
   have g0:Hid (∀W,Bq wr W->Cq 137 #[Pq Fb,.agg #[Pq sb,Iq lk]] W λr w'=>r=.returned (.bool (Fl.fitsM p vs mk))/\Bq W w'):=λW hW=>by
    have h5:=zg7 (HH.out.below (C0.out.trans (hW.mono u0))) (s0.kept (λ_ h=>h) (λb hb=>hW.block b (Qj (HH.out.hS b hb) u0))) lk B0 A0;rw[eq1,<-elk]at h5;rw[elk]at h5;rw[show mk=(mk.1,(lk:Int)) from by rw[<-elk]];exact h5
   have D0:Hid (∀W,Bq wr W->W.cell? (Aq sb 1)=some (Iq mk.1.line)):=λW hW=>(hW.cell (p:=(Aq sb 1)) hsz).trans k1;have p0:=Zz b0;obtain⟨W2,f0⟩:=nmE (wr.alloc (.cells #[Pq sb,Iq lk] 253));have i0:Hid (Bq wr W2):=(by show Below _ _ _;rw[f0];exact bA);have t0:W2.cell? (Aq wr.heap.size 0)=some (Pq sb):=(by rw[f0];simp);have O0:wr.heap.size<W2.heap.size:=(by rw[f0];simp);have P0:=Zz c0
   cases hf:Fl.fitsM p vs mk
   ·have HR:Hid (res=mk.1.line):=by
     have h5:=HD.out;rw[zn6 (f:=λm=> !Fl.fitsM p vs m) c0 (λt ht=>by show (!Fl.fitsM p vs _)=false;rw[p0.out t ht (by omega)];rfl) (by show (!Fl.fitsM p vs _)=true;rw[<-d0];exact congrArg (λb=> !b) hf)]at h5;rw[d0];exact h5
    rw[hf]at g0;generalize mk.1.line=ln at*;clear b0 hf d0 h1 h2 y0 z0 s0 A0 c1 c2 G0 H0 ad k0 k1 k2 eq1 elk B0
    go_wp2_with fail
    rw[<-f0];refine(g0.out _ i0.out).mono ?_;rintro e W3 ⟨rfl,j0⟩;have v0:Hid (Bq wr W3):=i0.out.trans (j0.mono i0.out.size);have t3:W3.cell? (Aq wr.heap.size 0)=some (Pq sb):=(j0.cell (p:=(Aq wr.heap.size 0)) O0).trans t0;have l3:W3.cell? (Aq sb 1)=some (Iq ln):=D0.out _ v0.out;clear j0 f0 a0 a1 t0 D0 g0;go_wp2;go_ret;exact⟨by first|(rw[HR.out];done)|(have h6:=HR.out;subst h6;rfl)|(rw[HR.out];rfl),C0.out.trans (v0.out.mono u0)⟩
   have HN:Hid (∀t,(ht:t<k+1)->(ht':t<ms.length)->Fl.fitsM p vs ms[t]=true):=λt ht ht'=>by
    by_cases Q0:t=k
    ·subst Q0;rw[<-d0];exact hf
    exact p0.out t (by omega) ht'
   rw[hf]at g0;clear b0 hf d0 h1 h2 y0 z0 s0 A0 c1 c2 G0 H0 ad k0 k1 k2 eq1 elk B0
   go_wp2_with fail
   rw[<-f0];refine(g0.out _ i0.out).mono ?_;rintro e W3 ⟨rfl,j0⟩;have v0:Hid (Bq wr W3):=i0.out.trans (j0.mono i0.out.size);have R0:Bq W1 W3:=o0.trans (v0.out.mono o0.size);clear j0 f0 a0 a1 t0 D0 g0;go_wp2
   go_roundw
   case rel=>exact⟨k+1,by have:=P0.out;omega,by go_num,λt ht S0=>HN.out t ht S0,R0⟩
   case measure=>simp[intOf];omega
  have HR:Hid (res=0):=by
   have h5:=HD.out;rw[zkv (f:=λm=> !Fl.fitsM p vs m) (λt ht=>by show (!Fl.fitsM p vs _)=false;rw[b0 t (by omega) ht];rfl)]at h5;exact h5
  clear b0;go_wp2;go_ret;exact⟨by rw[HR.out];rfl,n0.out.trans (o0.mono n0.out.size)⟩
end
end Go.Proofs.YtjekbnmnjeoagaaGreatDoor
namespace Go.Proofs.YtjekbnmnjeoagaaGreatDoor
open Go.Proofs.Tryz
variable{a:Act}{e:Fl.Expr}{l:List Fl.Stmt}{s:Fl.Stmt}{S:Nat->Prop}{w w':World}{v clv chv bv vv:Value}{i Fb Pb Lb base k:Nat}{vs:List Int}{ops:Array Oper}{rest:List Oper}{o:Oper}{Q:Exit->Act->World->Prop}
namespace Fl
def filt_le{α:Type}{f g:α->Bool}:∀(l:List α),(∀x∈l,f x=true->g x=true)->(l.filter f).length<=(l.filter g).length
 |[],_=>Nat.le_refl _
 |a::l,h=>by
  have ih:=filt_le l (λx hx=>h x (by simp[hx]));have h0:=h a (by simp);rw[List.filter_cons,List.filter_cons]
  cases hf:f a
  ·cases g a<;>simp<;>omega
  rw[h0 hf];simp;exact ih
def filt_lt{α:Type}{f g:α->Bool}:∀(l:List α) (y:α),y∈l->(∀x∈l,f x=true->g x=true)->g y=true->f y=false->(l.filter f).length<(l.filter g).length
 |[],_,hy,_,_,_=>by cases hy
 |a::l,y,hy,h,hg,hf=>by
  rcases List.mem_cons.1 hy with rfl|hy
  ·have:=filt_le l (λx hx=>h x (by simp[hx]))
   rw[List.filter_cons,List.filter_cons,hg,hf];simp;omega
  have ih:=filt_lt l y hy (λx hx=>h x (by simp[hx])) hg hf;have h0:=h a (by simp);rw[List.filter_cons,List.filter_cons]
  cases a0:f a
  ·cases g a<;>simp<;>omega
  rw[h0 a0];simp;exact ih
def above(p:Prog)(v:Int):Nat:=((List.range p.n).filter λy=>p.leq v.toNat y).length
def above_le(p:Prog)(v:Int):above p v<=p.n:=by
 unfold above;have:=List.length_filter_le (λy=>p.leq v.toNat y) (List.range p.n);rw[List.length_range]at this;exact this
def above_lt{p:Prog}(h:p.Lv){a b:Int}(ha:0<=a/\a<p.n)(hb:0<=b/\b<p.n)(hn:p.leq b.toNat a.toNat=false):above p (Fl.jn p a b)<above p a:=by
 obtain⟨k,h1,h2,h3,h4,h5⟩:=h.lat.joins a.toNat b.toNat (by omega) (by omega)
 have e:(Fl.jn p a b).toNat=k:=by unfold Fl.jn;rw[h2];simp
 unfold above;rw[e];refine filt_lt _ a.toNat (by simp;omega) (λx hx hk=>?_) (h.lat.refl _ (by omega)) ?_
 ·rw[List.mem_range]at hx
  exact h.lat.trans a.toNat k x (by omega) h1 hx h3 hk
 cases hc:p.leq k a.toNat
 ·rfl
 have:=h.lat.trans b.toNat k a.toNat (by omega) h1 (by omega) h4 hc
 rw[hn]at this;cases this
def rank(p:Prog)(vs:List Int):Nat:=((vs.drop p.cells.length).map (above p)).sum
def sum_set{f:Int->Nat}{v:Int}:∀(l:List Int) (i:Nat) (h:i<l.length),f v<f l[i]->((l.set i v).map f).sum<(l.map f).sum
 |a::l,0,_,hv=>by simp at hv⊢;omega
 |a::l,i+1,h,hv=>by
  have ih:=sum_set l i (by simpa using h) (by simpa using hv);rw[List.set_cons_succ,List.map_cons,List.map_cons,List.sum_cons,List.sum_cons];omega
def sum_le{f:Int->Nat}{c:Nat}:∀(l:List Int),(∀x,f x<=c)->(l.map f).sum<=l.length*c
 |[],_=>by simp
 |a::l,h=>by
  have:=sum_le l h;have:=h a;simp[Nat.succ_mul];omega
def rank_le{p:Prog}(h:p.Lv)(ho:p.Ok)(hv:LvOk p vs):rank p vs<25:=by
 have h1:=sum_le (f:=above p) (c:=6) (vs.drop p.cells.length) (λx=>Nat.le_trans (above_le p x) h.n6)
 have h2:(vs.drop p.cells.length).length<=4:=by rw[List.length_drop,hv.1];have:=ho.lo;omega
 unfold rank;omega
def set_ok{p:Prog}(hv:LvOk p vs)(x:Nat){v:Int}(h:0<=v/\v<p.n):LvOk p (vs.set x v):=by
 refine⟨by rw[List.length_set];exact hv.1,λi hi=>?_⟩;rw[List.length_set]at hi;rw[Qa,List.getElem?_set]
 split
 ·split
  ·exact h
  omega
 have:=hv.2 i hi;rw[Qa]at this;exact this
def rise_ok{p:Prog}(h:p.Lv)(hv:LvOk p vs){m:Stmt×Int}(hm:PlOk p vs m.1/\∃k:Nat,k<p.n/\m.2=(k:Int))(hl:ofLocal p m.1=true)(hf:fitsM p vs m=false):
  LvOk p (vs.set m.1.x (jn p (vs.getD m.1.x 0) m.2))/\rank p (vs.set m.1.x (jn p (vs.getD m.1.x 0) m.2))<rank p vs:=by
 obtain⟨hp,k,hk,ek⟩:=hm;unfold ofLocal at hl;rw[Bool.and_eq_true,decide_eq_true_eq,decide_eq_true_eq]at hl
 have hx:m.1.x<vs.length:=by rcases hp with h|h<;>omega
 have a0:=hv.2 m.1.x hx
 have b0:0<=m.2/\m.2<p.n:=by rw[ek];omega
 refine⟨set_ok hv _ (h.jn a0 b0),?_⟩;unfold fitsM under at hf;rw[if_neg (by omega)]at hf;have h1:=above_lt h a0 b0 hf;unfold rank;rw[List.drop_set,if_neg (by omega)]
 have hi:m.1.x - p.cells.length<(vs.drop p.cells.length).length:=by rw[List.length_drop];omega
 refine sum_set _ _ hi ?_;have e:(vs.drop p.cells.length)[m.1.x - p.cells.length]=vs.getD m.1.x 0:=by
  rw[List.getElem_drop,Qa];have e2:p.cells.length+(m.1.x - p.cells.length)=m.1.x:=(by omega);simp only[e2];rw[Qb hx];rfl
 rw[e];exact h1
end Fl
open Go.RowKit
def zsw{P:Program}{c':Code}(l:Nat)(J:Act->World->Prop)(μ:Act->World->Nat)(hJ:J a w)
  (pass:∀a w,J a w->c'.wp P (Exit.jump l (λa' w'=>J a' w'/\μ a' w'<μ a w) Q) a w):(Code.scope ((Code.label l).seq c')).wp P Q a w:=by
 refine wp_scope_jumps l J μ (rest:=.seq .skip c') (by simp[findLabel]) ?_ (λa w h=>?_)
 ·apply wp_seq
  apply wp_label
  refine wp_mono (pass a w hJ) (λe a w h=>?_)
  cases e<;>first|exact h|exact⟨h.1,h.2.1⟩
 apply wp_seq
 apply wp_skip
 exact pass a w h
end Go.Proofs.YtjekbnmnjeoagaaGreatDoor

import Derived.Test.YtaaejabalinojaaGreatDoorM04
set_option linter.all false
set_option maxRecDepth 100000
set_option maxHeartbeats 40000000
namespace Go.Proofs.YtaaejabalinojaaGreatDoor
open Go.Proofs.Tryz
namespace Fl
def number_le(l:List UInt8)(h:(number l 9).2=true):(number l 9).1<=999999999:=by
 unfold number at h⊢
 split at h
 ·rename_i hd
  rw[if_pos hd];simp only[numOk,Bool.and_eq_true,decide_eq_true_eq]at h;have hl:l.length<=9:=h.2.1;show val (l.take 9)<=999999999;rw[List.take_of_length_le hl,val_eq];have h1:=valF_digits l 0 hd;have h2:10 ^ l.length<=10 ^ 9:=Nat.pow_le_pow_right (by decide) hl;omega
 cases h
def RS.nv(r:RS):Nat:=r.cells.length+r.locals.length
def RS.atom_ok(r:RS)(s:List UInt8){a:Atom}(h:r.atom s=some a):AtomOk r.nv a:=by
 unfold RS.atom at h;have hc:=place_cases r.cells s;have hl:=place_cases r.locals s;unfold AtomOk RS.nv
 split at h
 ·rename_i hn
  simp only[Option.some.injEq]at h;subst h;simp only[Bool.false_eq_true,if_false];exact number_le s hn
 split at h
 ·simp only[Option.some.injEq]at h;subst h
  simp only[if_true];omega
 split at h
 ·simp only[Option.some.injEq]at h;subst h
  simp only[if_true];omega
 cases h
def RS.value_ok(r:RS)(ws:List (List UInt8)){e:Expr}(h:r.value ws=some e):ExprOk r.nv e:=by
 match ws,h with
 |[a],h=>
  simp only[RS.value,Option.map_eq_some_iff]at h;obtain⟨x,hx,rfl⟩:=h;exact⟨(show (-1:Int)<= -1 by decide),(show (-1:Int)<=4 by decide),r.atom_ok a hx,by unfold AtomOk no0;simp⟩
 |[a,o,b],h=>
  simp only[RS.value,Option.bind_eq_some_iff,Option.map_eq_some_iff]at h;obtain⟨x,hx,y,hy,rfl⟩:=h;have ho:=place_cases signs o;have hs:signs.length=5:=rfl;exact⟨by simp only;omega,by simp only;omega,r.atom_ok a hx,r.atom_ok b hy⟩
structure FrOk(nv nc d:Nat)(f:Frame):Prop where
 kd:f.kind=5\/(f.kind=6/\f.had=false)
 no:f.had=false->f.els=[]
 ex:ExprOk nv f.e
 fi:StmtsOk nv nc d f.first
 el:StmtsOk nv nc d f.els
def FrOk.mono{nv nv' nc d:Nat}(h:nv<=nv'){f:Frame}(hf:FrOk nv nc d f):FrOk nv' nc d f:=⟨hf.kd,hf.no,hf.ex.mono h,hf.fi.mono h,hf.el.mono h⟩
def FrsOk(nv nc:Nat):Nat->List Frame->Prop
 |_,[]=>True
 |d,f::fs=>FrOk nv nc (d+1) f/\FrsOk nv nc (d+1) fs
def FrsOk.mono{nv nv' nc:Nat}(h:nv<=nv'):∀{d:Nat} {fs:List Frame},FrsOk nv nc d fs->FrsOk nv' nc d fs
 |_,[],_=>trivial
 |_,_::_,hf=>⟨hf.1.mono h,FrsOk.mono h hf.2⟩
def StmtsOk.snoc{nv nc d:Nat}{l:List Stmt}{s:Stmt}(h:StmtsOk nv nc (d+1) l)(hs:KindOk nv nc s/\ExprOk nv s.e/\StmtsOk nv nc d s.body/\StmtsOk nv nc d s.other):StmtsOk nv nc (d+1) (l++[s]):=λx hx=>by
 rcases List.mem_append.1 hx with h1|h1
 ·exact h x h1
 simp only[List.mem_singleton]at h1;subst h1;exact hs
def StmtsOk.nil(nv nc d:Nat):StmtsOk nv nc d []:=by
 cases d with
 |zero=>rfl
 |succ d=>exact λs hs=>(by cases hs)
def FrOk.snoc{nv nc d:Nat}{f:Frame}{s:Stmt}(h:FrOk nv nc (d+1) f)(hs:KindOk nv nc s/\ExprOk nv s.e/\StmtsOk nv nc d s.body/\StmtsOk nv nc d s.other):FrOk nv nc (d+1) (if f.had then{f with els:=f.els++[s]} else{f with first:=f.first++[s]}):=by
 cases hd:f.had with
 |true=>
  simp only[if_true];refine⟨?_,λq=>(by cases q),h.ex,h.fi,h.el.snoc hs⟩;rcases h.kd with h5|⟨_,h6⟩
  ·exact .inl h5
  rw[hd]at h6;cases h6
 |false=>
  simp only[Bool.false_eq_true,if_false];refine⟨?_,λ_=>h.no hd,h.ex,h.fi.snoc hs,h.el⟩;rcases h.kd with h5|⟨h6,_⟩
  ·exact .inl h5
  exact .inr ⟨h6,rfl⟩
structure RS.Fine(r:RS):Prop where
 ce:r.cells.length<=6
 ch:r.chans.length<=3
 lo:r.locals.length<=4
 cl:r.cellLv.length=r.cells.length
 hl:r.chanLv.length=r.chans.length
 fr:r.fr.length<=3
 head:r.begun=false->r.locals=[]/\r.top=[]/\r.fr=[]
 top:StmtsOk r.nv r.chans.length 4 r.top
 frs:FrsOk r.nv r.chans.length (3 - r.fr.length) r.fr
def fine0:RS.zero.Fine:=⟨by decide,by decide,by decide,rfl,rfl,by decide,λ_=>⟨rfl,rfl,rfl⟩,StmtsOk.nil _ _ _,trivial⟩
def RS.Fine.headed{r r':RS}(h:r.Fine)(hb:r.begun=false)(e1:r'.top=r.top)(e2:r'.fr=r.fr)(e3:r'.locals=r.locals)(ce:r'.cells.length<=6)(ch:r'.chans.length<=3)(cl:r'.cellLv.length=r'.cells.length)(hl:r'.chanLv.length=r'.chans.length):r'.Fine:=by
 obtain⟨h1,h2,h3⟩:=h.head hb;refine⟨ce,ch,by rw[e3];exact h.lo,cl,hl,by rw[e2];exact h.fr,λ_=>⟨by rw[e3];exact h1,by rw[e1];exact h2,by rw[e2];exact h3⟩,?_,?_⟩
 ·rw[e1,h2];exact StmtsOk.nil _ _ _
 rw[e2,h3];trivial
def RS.Fine.head_ok{r:RS}(h:r.Fine)(hb:r.begun=false)(w:List (List UInt8))(h0:(r.head w).1=0):(r.head w).2.Fine:=by
 match w,h0 with
 |[],h0=>cases h0
 |[k],h0=>
  simp only[RS.head]at h0⊢
  split at h0
  ·rename_i hl;rw[if_pos hl];exact h.headed hb rfl rfl rfl h.ce h.ch h.cl h.hl
  cases h0
 |[k,n],h0=>
  simp only[RS.head]at h0⊢
  split at h0
  ·cases h0
  rename_i h1;rw[if_neg h1]
  split at h0
  ·cases h0
  rename_i h2;rw[if_neg h2];exact h.headed hb rfl rfl rfl h.ce h.ch h.cl h.hl
 |[k,n,l],h0=>
  simp only[RS.head]at h0⊢
  split at h0
  ·rename_i hk;rw[if_pos hk]
   split at h0
   ·cases h0
   rename_i h1;rw[if_neg h1];exact h.headed hb rfl rfl rfl h.ce h.ch h.cl h.hl
  rename_i hk;rw[if_neg hk]
  split at h0
  ·cases h0
  rename_i h1;rw[if_neg h1]
  split at h0
  ·rename_i hc;rw[if_pos hc]
   split at h0
   ·cases h0
   rename_i h6;rw[if_neg h6];exact h.headed hb rfl rfl rfl (by have:=h.ce;simp;omega) h.ch (by have:=h.cl;simp;omega) h.hl
  rename_i hc;rw[if_neg hc]
  split at h0
  ·cases h0
  rename_i h3;rw[if_neg h3];exact h.headed hb rfl rfl rfl h.ce (by have:=h.ch;simp;omega) h.cl (by have:=h.hl;simp;omega)
 |_::_::_::_::_,h0=>cases h0
def RS.Fine.put{r:RS}(h:r.Fine)(hb:r.begun=true){s:Stmt}(hk:KindOk r.nv r.chans.length s)(he:ExprOk r.nv s.e)(h1:s.body=[])(h2:s.other=[]):(r.put s).Fine:=by
 unfold RS.put;have hs:∀d,KindOk r.nv r.chans.length s/\ExprOk r.nv s.e/\StmtsOk r.nv r.chans.length d s.body/\StmtsOk r.nv r.chans.length d s.other:=λd=>⟨hk,he,by rw[h1];exact StmtsOk.nil _ _ _,by rw[h2];exact StmtsOk.nil _ _ _⟩
 cases hf:r.fr with
 |nil=>exact⟨h.ce,h.ch,h.lo,h.cl,h.hl,Nat.zero_le _,λhh=>(by have:r.begun=false:=hh;rw[hb]at this;cases this),h.top.snoc (hs 3),trivial⟩
 |cons f fs=>
  have hh:=h.frs;rw[hf]at hh;have hl:=h.fr;rw[hf]at hl;exact⟨h.ce,h.ch,h.lo,h.cl,h.hl,hl,λhh=>(by have:r.begun=false:=hh;rw[hb]at this;cases this),h.top,hh.1.snoc (hs _),hh.2⟩
def RS.Fine.local{r:RS}(h:r.Fine)(hb:r.begun=true)(n:List UInt8)(hl:r.locals.length<4):({r with locals:=r.locals++[n]}:RS).Fine:=by
 have e:r.nv<=({r with locals:=r.locals++[n]}:RS).nv:=by simp[RS.nv]
 exact⟨h.ce,h.ch,by simp;omega,h.cl,h.hl,h.fr,λhh=>(by have:r.begun=false:=hh;rw[hb]at this;cases this),h.top.mono e,h.frs.mono e⟩
def RS.Fine.stmt_ok{r:RS}(h:r.Fine)(hb:r.begun=true)(at_:Nat)(w:List (List UInt8))(h0:(r.stmt at_ w).1=0):(r.stmt at_ w).2.Fine/\(r.stmt at_ w).2.begun=true:=by
 have hn:∀x:RS,x.begun=true->∀P:Prop,x.begun=false->P:=λx h1 P h2=>by rw[h1]at h2;cases h2
 match w,h0 with
 |[],h0=>cases h0
 |[k],h0=>
  simp only[RS.stmt]at h0⊢
  cases hf:r.fr with
  |nil=>rw[hf]at h0;cases h0
  |cons f fs=>
   rw[hf]at h0;simp only at h0⊢;have hh:=h.frs;rw[hf]at hh;have hl:=h.fr;rw[hf]at hl
   split at h0
   ·rename_i hk;rw[if_pos hk]
    split at h0
    ·rename_i hq;rw[if_pos hq]
     unfold RS.elses;rw[hf];refine⟨⟨h.ce,h.ch,h.lo,h.cl,h.hl,hl,hn _ hb _,h.top,?_⟩,hb⟩;exact⟨⟨.inl hq.1,λq=>(by cases q),hh.1.ex,hh.1.fi,hh.1.el⟩,hh.2⟩
    cases h0
   rename_i hk;rw[if_neg hk];unfold RS.ends;rw[hf]
   have a0:∀d,StmtsOk r.nv r.chans.length d f.first->StmtsOk r.nv r.chans.length d f.els->KindOk r.nv r.chans.length f.done/\ExprOk r.nv f.done.e/\StmtsOk r.nv r.chans.length d f.done.body/\StmtsOk r.nv r.chans.length d f.done.other:=λd h1 h2=>by
    refine⟨?_,hh.1.ex,h1,h2⟩;rcases hh.1.kd with h5|⟨h6,h7⟩
    ·exact .inr (.inr (.inl h5))
    exact .inr (.inr (.inr ⟨h6,hh.1.no h7⟩))
   cases fs with
   |nil=>
    exact⟨⟨h.ce,h.ch,h.lo,h.cl,h.hl,by simp,hn _ hb _,h.top.snoc (a0 3 hh.1.fi hh.1.el),trivial⟩,hb⟩
   |cons g gs=>
    simp only[List.length_cons]at hl hh;have e1:3 - (gs.length+1+1)+1=3 - (gs.length+1):=(by omega);have hg:=hh.2.1;have hd:=a0 _ hh.1.fi hh.1.el;refine⟨⟨h.ce,h.ch,h.lo,h.cl,h.hl,by simp;omega,hn _ hb _,h.top,?_⟩,hb⟩;simp only[List.length_cons];rw[<-e1];exact⟨hg.snoc hd,hh.2.2⟩
 |[k,a],h0=>
  simp only[RS.stmt]at h0⊢
  cases hv:r.value [a] with
  |none=>rw[hv]at h0;cases h0
  |some e=>
   rw[hv]at h0;simp only at h0⊢
   split at h0
   ·cases h0
   rename_i hq;rw[if_neg hq];have e1:3 - (r.fr.length+1)+1=3 - r.fr.length:=(by omega);refine⟨⟨h.ce,h.ch,h.lo,h.cl,h.hl,by simp[RS.opens];omega,hn _ hb _,h.top,?_⟩,hb⟩;simp only[RS.opens,List.length_cons];refine⟨⟨?_,λ_=>rfl,r.value_ok _ hv,StmtsOk.nil _ _ _,StmtsOk.nil _ _ _⟩,by rw[e1];exact h.frs⟩;show (if(k==wIf)=true then 5 else 6)=5\/((if(k==wIf)=true then 5 else 6)=6/\false=false)
   cases (k==wIf)<;>simp
 |k::n::v1::v,h0=>
  simp only[RS.stmt]at h0⊢
  cases hv:r.value (v1::v) with
  |none=>rw[hv]at h0;cases h0
  |some e=>
   rw[hv]at h0;simp only at h0⊢;have he:=r.value_ok _ hv
   have b0:∀(x:RS) (s:Stmt),x.begun=true->(x.put s).begun=true:=λx s hx=>by unfold RS.put;split<;>exact hx
   split at h0
   ·rename_i hk;rw[if_pos hk]
    split at h0
    ·cases h0
    rename_i hp;rw[if_neg hp]
    split at h0
    ·cases h0
    rename_i h6;rw[if_neg h6];have hc:=place_cases r.chans n;exact⟨h.put hb (.inr (.inl ⟨rfl,by simp only;omega⟩)) he rfl rfl,b0 _ _ hb⟩
   rename_i hk;rw[if_neg hk]
   split at h0
   ·cases h0
   rename_i hp;rw[if_neg hp]
   cases ht:r.target n with
   |none=>rw[ht]at h0;cases h0
   |some p=>
    obtain⟨x,r'⟩:=p;rw[ht]at h0;simp only at h0⊢
    split at h0
    ·cases h0
    rename_i h6;rw[if_neg h6];have hc:=place_cases r.cells n;have c0:=place_cases r.locals n;unfold RS.target at ht
    split at ht
    ·simp only[Option.some.injEq,Prod.mk.injEq]at ht
     obtain⟨rfl,rfl⟩:=ht;exact⟨h.put hb (.inl ⟨rfl,by simp only[RS.nv];omega⟩) he rfl rfl,b0 _ _ hb⟩
    split at ht
    ·simp only[Option.some.injEq,Prod.mk.injEq]at ht
     obtain⟨rfl,rfl⟩:=ht;exact⟨h.put hb (.inl ⟨rfl,by simp only[RS.nv];omega⟩) he rfl rfl,b0 _ _ hb⟩
    split at ht
    ·cases ht
    rename_i h4;simp only[Option.some.injEq,Prod.mk.injEq]at ht;obtain⟨rfl,rfl⟩:=ht;have hF:=h.local hb n (by have:=h.lo;omega);exact⟨hF.put hb (.inl ⟨rfl,by simp[RS.nv]⟩) (he.mono (by simp[RS.nv])) rfl rfl,b0 _ _ hb⟩
def RS.Fine.row_ok{r:RS}(h:r.Fine)(w:List (List UInt8))(at_:Nat)(h0:(r.row w at_).1=0):(r.row w at_).2.Fine:=by
 unfold RS.row at h0⊢
 split at h0
 ·cases h0
 rename_i h1;rw[if_neg h1]
 split at h0
 ·rename_i h2;rw[if_pos h2]
  refine h.head_ok ?_ w h0;rw[h2]at h1
  cases hb:r.begun with
  |false=>rfl
  |true=>exact absurd hb.symm h1
 rename_i h2;rw[if_neg h2];refine(h.stmt_ok ?_ at_ w h0).1
 cases hb:r.begun with
 |true=>rfl
 |false=>exact absurd ((by simpa using h2:isHead (w.getD 0 [])=false).trans hb.symm) h1
def rows_ok:∀(ls:List (List UInt8)) (r:RS) (i:Nat),r.Fine->(rows r i ls).1=0->(rows r i ls).2.2.Fine/\(rows r i ls).2.2.begun=true/\(rows r i ls).2.2.fr=[]/\(rows r i ls).2.1=0
 |[],r,i,h,h0=>by cases h0
 |[l],r,i,h,h0=>by
  rw[rows]at h0⊢
  split at h0
  ·rename_i h1;rw[if_pos h1]
   split at h0
   ·rename_i h2;rw[if_pos h2];exact⟨h,h2.1,h2.2,rfl⟩
   cases h0
  cases h0
 |l::m::ls,r,i,h,h0=>by
  rw[rows]at h0⊢
  split at h0
  ·cases h0
  rename_i h1;rw[if_neg h1]
  split at h0
  ·rename_i h2;exact absurd h0 h2
  rename_i h2;rw[if_neg h2];exact rows_ok (m::ls) _ (i+1) (h.row_ok _ _ (by simpa using h2)) h0
structure Prog.Ok(p:Prog):Prop where
 ce:p.cells.length<=6
 ch:p.chans.length<=3
 lo:p.locals<=4
 body:StmtsOk (p.cells.length+p.locals) p.chans.length 4 p.body
def readProg_ok(s:List UInt8)(h0:(readProg s).1=0):(readProg s).2.2.Ok/\(readProg s).2.1=0/\s.length<=1200:=by
 unfold readProg at h0⊢
 by_cases hs:1200<s.length
 ·rw[if_pos hs]at h0;cases h0
 rw[if_neg hs]at h0⊢;obtain⟨h1,h2,h3,h4⟩:=rows_ok _ RS.zero 0 fine0 h0;refine⟨⟨?_,?_,h1.lo,?_⟩,h4,by omega⟩
 ·show (rows RS.zero 0 (cutR 10 s)).2.2.cellLv.length<=6;rw[h1.cl];exact h1.ce
 ·show (rows RS.zero 0 (cutR 10 s)).2.2.chanLv.length<=3;rw[h1.hl];exact h1.ch
 have:=h1.top;unfold RS.nv at this;show StmtsOk ((rows RS.zero 0 (cutR 10 s)).2.2.cellLv.length+_) ((rows RS.zero 0 (cutR 10 s)).2.2.chanLv.length) 4 _;rw[h1.cl,h1.hl];exact this
end Fl
open Go.RowKit
structure Zd(w:World)(b n:Nat)(f:Nat->Value):Prop where
 c:∀j,j<n->w.cell? ⟨b,j,none⟩=some (f j)
 z:∀j,w.frozen? ⟨b,j,none⟩=false
abbrev rw_(l:List Value):Nat->Value:=λi=>l.getD i undef
def ptr(b:Nat):Value:=.pointer (some ⟨b,0,none⟩)
def Zd.block{w w':World}{b n:Nat}{f:Nat->Value}(h:Zd w b n f)(hb:w'.heap[b]?=w.heap[b]?):Zd w' b n f:=
 ⟨λj hj=>(Qc (a:=⟨b,j,none⟩) hb).trans (h.c j hj),λj=>(Qd (a:=⟨b,j,none⟩) hb).trans (h.z j)⟩
def Zd.set{w:World}{b n:Nat}{f:Nat->Value}(h:Zd w b n f){j:Nat}(hj:j<n)(v:Value):Zd (w.setCell ⟨b,j,none⟩ v) b n (λi=>if i=j then v else f i):=by
 refine⟨λi hi=>?_,λi=>by rw[World.frozen?_setCell];exact h.z i⟩
 by_cases a0:i=j
 ·subst a0;rw[if_pos rfl];exact World.cell?_setCell_same' _ _ _ (by simp[h.c i hi])
 rw[if_neg a0];refine(Qg _ _ _ _ ?_).trans (h.c i hi);intro hh;injection hh with _ h2;exact a0 (by omega)
def Zd.lt{w:World}{b n:Nat}{f:Nat->Value}(h:Zd w b n f)(hn:0<n):b<w.heap.size:=Qe w ⟨b,0,none⟩ (h.c 0 hn)
def Zd.new(w:World)(l:List Value)(t:TypeId):Zd (w.alloc (.cells l.toArray t)) w.heap.size l.length (rw_ l):=by
 refine⟨λj hj=>?_,λj=>by rw[World.frozen?,heap_alloc_new];simp⟩;rw[World.cell?_alloc_new];simp[rw_,Qa,hj]
def Zd.congr{w:World}{b n:Nat}{f g:Nat->Value}(h:Zd w b n f)(hg:∀j,j<n->f j=g j):Zd w b n g:=⟨λj hj=>by rw[<-hg j hj];exact h.c j hj,h.z⟩
def Zx(w:World)(b j:Nat)(v:Value)(k:Nat)(hk:k≠b):(w.setCell ⟨b,j,none⟩ v).heap[k]?=w.heap[k]?:=Below.heap_setCell w ⟨b,j,none⟩ v k hk
def Zy(w:World)(a:Addr)(v:Value):(w.setCell a v).heap.size=w.heap.size:=by simp[World.setCell]
def Xp(S:Nat->Prop)(w:World)(p:Value)(a:Fl.Atom):Prop:=
 ∃vb,p=ptr vb/\S vb/\Zd w vb 4 (rw_ [.int .i64 (if a.var then 1 else 0),.int .i64 a.v,.pointer none,.pointer none])
def zu6(S:Nat->Prop)(w:World)(p:Value)(e:Fl.Expr):Prop:=
 (e.op= -1/\Xp S w p e.a)\/(0<=e.op/\∃vb x y,p=ptr vb/\S vb/\Zd w vb 4 (rw_ [.int .i64 2,.int .i64 e.op,x,y])/\Xp S w x e.a/\Xp S w y e.b)
def zx0(K:(Nat->Prop)->World->Value->List Fl.Stmt->Prop)(S:Nat->Prop)(w:World)(p:Value)(s:Fl.Stmt):Prop:=
 ∃sb vp fv ev,p=ptr sb/\S sb/\Zd w sb 6 (rw_ [.int .i64 s.kind,.int .i64 s.line,.int .i64 s.x,vp,fv,ev])/\zu6 S w vp s.e/\K S w fv s.body/\K S w ev s.other
def noS:Fl.Stmt:=⟨0,0,0,⟨-1,⟨false,0⟩,⟨false,0⟩⟩,[],[]⟩
def Yr:Nat->(Nat->Prop)->World->Value->List Fl.Stmt->Prop
 |0,_,_,v,l=>l=[]/\v=.slice none 0 0
 |d+1,S,w,v,l=>∃ao cap,v=.slice ao l.length cap/\l.length<=cap/\cap<=maxLen/\l.length<=16/\
   (l≠[]->∃b off,ao=some ⟨b,off,none⟩/\S b/\∀i,i<l.length->∃p,w.cell? ⟨b,off+i,none⟩=some p/\zx0 (Yr d) S w p (l.getD i noS))
section
variable{S S':Nat->Prop}{w w':World}
def Xp.kept{p:Value}{a:Fl.Atom}(h:Xp S w p a)(hS:∀b,S b->S' b)(hw:∀b,S b->w'.heap[b]?=w.heap[b]?):Xp S' w' p a:=by
 obtain⟨vb,h1,h2,h3⟩:=h;exact⟨vb,h1,hS _ h2,h3.block (hw _ h2)⟩
def zu6.kept{p:Value}{e:Fl.Expr}(h:zu6 S w p e)(hS:∀b,S b->S' b)(hw:∀b,S b->w'.heap[b]?=w.heap[b]?):zu6 S' w' p e:=by
 rcases h with⟨h1,h2⟩|⟨h1,vb,x,y,h2,h3,h4,h5,h6⟩
 ·exact .inl ⟨h1,h2.kept hS hw⟩
 exact .inr ⟨h1,vb,x,y,h2,hS _ h3,h4.block (hw _ h3),h5.kept hS hw,h6.kept hS hw⟩
def zx0.kept{K:(Nat->Prop)->World->Value->List Fl.Stmt->Prop}(hK:∀v l,K S w v l->K S' w' v l){p:Value}{s:Fl.Stmt}(h:zx0 K S w p s)(hS:∀b,S b->S' b)(hw:∀b,S b->w'.heap[b]?=w.heap[b]?):zx0 K S' w' p s:=by
 obtain⟨sb,vp,fv,ev,h1,h2,h3,h4,h5,h6⟩:=h;exact⟨sb,vp,fv,ev,h1,hS _ h2,h3.block (hw _ h2),h4.kept hS hw,hK _ _ h5,hK _ _ h6⟩
def Yr.kept(hS:∀b,S b->S' b)(hw:∀b,S b->w'.heap[b]?=w.heap[b]?):∀(d:Nat) (v:Value) (l:List Fl.Stmt),Yr d S w v l->Yr d S' w' v l
 |0,_,_,h=>h
 |d+1,v,l,h=>by
  obtain⟨ao,cap,h1,h2,h3,h4,h5⟩:=h;refine⟨ao,cap,h1,h2,h3,h4,λa0=>?_⟩;obtain⟨b,off,e,hb,hc⟩:=h5 a0;refine⟨b,off,e,hS b hb,λi hi=>?_⟩;obtain⟨p,hp,b0⟩:=hc i hi;exact⟨p,(Qc (a:=⟨b,off+i,none⟩) (hw b hb)).trans hp,b0.kept (λv l h=>Yr.kept hS hw d v l h) hS hw⟩
end
def Yr.nil(d:Nat)(S:Nat->Prop)(w:World):Yr d S w (.slice none 0 0) []:=by
 cases d with
 |zero=>exact⟨rfl,rfl⟩
 |succ d=>exact⟨none,0,rfl,by simp,by simp[maxLen],by simp,λh=>absurd rfl h⟩
def Yp(d:Nat)(S:Nat->Prop)(base:Nat)(w:World)(v:Value)(ts:List Fl.Stmt)(tl:List Value):Prop:=
 ∃ps:List Value,w.ownsRow base 187 1 v (ps.length+tl.length) (ps++tl)/\ps.length=ts.length/\∀i,i<ts.length->zx0 (Yr d) S w (ps.getD i undef) (ts.getD i noS)
def Yp.kept{d:Nat}{S S':Nat->Prop}{base:Nat}{w w':World}{v:Value}{ts:List Fl.Stmt}{tl:List Value}(h:Yp d S base w v ts tl)(hS:∀b,S b->S' b)(hw:∀b,S b->w'.heap[b]?=w.heap[b]?)(hv:∀b,v.ownBlock=some b->w'.heap[b]?=w.heap[b]?):Yp d S' base w' v ts tl:=by
 obtain⟨ps,h1,h2,h3⟩:=h;refine⟨ps,⟨h1.1,?_⟩,h2,λi hi=>(h3 i hi).kept (λv l h=>Yr.kept hS hw d v l h) hS hw⟩;rcases h1.2 with⟨rfl,h0⟩|⟨g,cap,cur,rfl,hb,hg,hr⟩
 ·exact .inl ⟨rfl,h0⟩
 exact .inr ⟨g,cap,cur,rfl,hb,by rw[hv g rfl];exact hg,hr⟩
def Yp.closed{d:Nat}{S:Nat->Prop}{base:Nat}{w:World}{v:Value}{ts:List Fl.Stmt}(h:Yp d S base w v ts [])(hv:∀b,v.ownBlock=some b->S b)(hl:ts.length<=16):Yr (d+1) S w v ts:=by
 obtain⟨ps,h1,h2,h3⟩:=h;simp only[List.append_nil,List.length_nil,Nat.add_zero]at h1;rcases h1.2 with⟨rfl,h0⟩|⟨g,cap,cur,rfl,hb,hg,b0,a0,c0,ht⟩
 ·have:ts=[]:=Qi (by omega)
  subst this;exact Yr.nil _ _ _
 refine⟨_,cap,by rw[<-h2],by omega,a0,hl,λd0=>⟨g,0,rfl,hv g rfl,λi hi=>⟨ps.getD i undef,?_,h3 i hi⟩⟩⟩;have h4:=h1.cells (g:=g) rfl i (ps.getD i undef) (by rw[Qa,Qb (by omega)];simp)
 have h5:(⟨g,0,none⟩:Addr).add i=⟨g,0+i,none⟩:=by unfold Addr.add;split<;>simp_all
 rw[h5]at h4;exact h4
structure GF where
 sb:Nat
 ob:Nat
 vp:Value
 fv:Value
 ev:Value
def GF.act(g:GF)(f:Fl.Frame):Value:=if f.had then g.ev else g.fv
structure zxz(who:Nat->Nat)(base:Nat)(w:World)(d i:Nat)(tl:List Value)(f:Fl.Frame)(g:GF):Prop where
 ts:who g.sb=10+3*i
 to:who g.ob=11+3*i
 ta:∀b,(g.act f).ownBlock=some b->who b=12+3*i
 co:Zd w g.ob 2 (rw_ [ptr g.sb,.bool f.had])
 cs:Zd w g.sb 6 (rw_ [.int .i64 f.kind,.int .i64 f.line,.int .i64 0,g.vp,g.fv,g.ev])
 hv:zu6 (λb=>who b=0) w g.vp f.e
 pa:Yp d (λb=>who b=0) base w (g.act f) (if f.had then f.els else f.first) tl
 pf:f.had=true->Yr (d+1) (λb=>who b=0) w g.fv f.first
 pe:f.had=false->g.ev=.slice none 0 0/\f.els=[]
def Vn(who:Nat->Nat)(base:Nat)(w:World):Nat->List Value->List Fl.Frame->List GF->Prop
 |_,_,[],[]=>True
 |d,tl,f::fs,g::gs=>zxz who base w d fs.length tl f g/\Vn who base w (d+1) [ptr g.sb] fs gs
 |_,_,_,_=>False
def zxz.kept{who who':Nat->Nat}{base:Nat}{w w':World}{d i:Nat}{tl:List Value}{f:Fl.Frame}{g:GF}(h:zxz who base w d i tl f g)(hS:∀b,who b=0\/who b=10+3*i\/who b=11+3*i\/who b=12+3*i->who' b=who b/\w'.heap[b]?=w.heap[b]?):zxz who' base w' d i tl f g:=by
 have h0:∀b,who b=0->who' b=0:=λb hb=>by rw[(hS b (.inl hb)).1];exact hb
 have h1:∀b,who b=0->w'.heap[b]?=w.heap[b]?:=λb hb=>(hS b (.inl hb)).2;exact⟨by rw[(hS _ (.inr (.inl h.ts))).1];exact h.ts,by rw[(hS _ (.inr (.inr (.inl h.to)))).1];exact h.to,λb hb=>by have:=h.ta b hb;rw[(hS b (.inr (.inr (.inr this)))).1];exact this,h.co.block (hS _ (.inr (.inr (.inl h.to)))).2,h.cs.block (hS _ (.inr (.inl h.ts))).2,h.hv.kept h0 h1,h.pa.kept h0 h1 (λb hb=>(hS b (.inr (.inr (.inr (h.ta b hb))))).2),λhh=>Yr.kept h0 h1 _ _ _ (h.pf hh),h.pe⟩
def Vn.kept{who who':Nat->Nat}{base:Nat}{w w':World}:∀{d:Nat} {tl:List Value} {fs:List Fl.Frame} {gs:List GF},Vn who base w d tl fs gs->(∀b,who b=0\/(10<=who b/\who b<10+3*fs.length)->who' b=who b/\w'.heap[b]?=w.heap[b]?)->Vn who' base w' d tl fs gs
 |_,_,[],[],_,_=>trivial
 |d,tl,f::fs,g::gs,h,hS=>by
  refine⟨h.1.kept (λb hb=>hS b ?_),Vn.kept h.2 (λb hb=>hS b ?_)⟩
  ·simp only[List.length_cons];omega
  simp only[List.length_cons];omega
 |_,_,[],_::_,h,_=>h.elim
 |_,_,_::_,[],h,_=>h.elim
def Vn.len{who:Nat->Nat}{base:Nat}{w:World}:∀{d:Nat} {tl:List Value} {fs:List Fl.Frame} {gs:List GF},Vn who base w d tl fs gs->gs.length=fs.length
 |_,_,[],[],_=>rfl
 |d,tl,f::fs,g::gs,h=>by simp[Vn.len h.2]
 |_,_,[],_::_,h=>h.elim
 |_,_,_::_,[],h=>h.elim
structure Jl(w:World)(Lb n:Nat)(t:Fl.Tab):Prop where
 z:∀j,w.frozen? ⟨Lb,j,none⟩=false
 c0:w.cell? ⟨Lb,0,none⟩=some (.int .i64 n)
 cu:∀i j,i<n->j<n->w.cell? ⟨Lb,1+6*i+j,none⟩=some (.bool (t i j))
 cj:∀i j,i<n->j<n->w.cell? ⟨Lb,37+6*i+j,none⟩=some (.int .i64 (Fl.join n t i j))
 cl:w.cell? ⟨Lb,73,none⟩=some (.int .i64 (Fl.bottom n t))
def Jl.block{w w':World}{Lb n:Nat}{t:Fl.Tab}(h:Jl w Lb n t)(hb:w'.heap[Lb]?=w.heap[Lb]?):Jl w' Lb n t:=
 have q:∀j,w'.cell? ⟨Lb,j,none⟩=w.cell? ⟨Lb,j,none⟩:=λj=>Qc (a:=⟨Lb,j,none⟩) hb
 ⟨λj=>(Qd (a:=⟨Lb,j,none⟩) hb).trans (h.z j),(q _).trans h.c0,λi j hi hj=>(q _).trans (h.cu i j hi hj),λi j hi hj=>(q _).trans (h.cj i j hi hj),(q _).trans h.cl⟩
structure Xv where
 who:Nat->Nat
 pl:Value
 clv:Value
 chv:Value
 bv:Value
 ov:Value
 gs:List GF
 t:Fl.Tab
def Xa(Pb lm vm cm:Nat)(line:Int)(r:Fl.RS)(m:Xv)(j:Nat):Value:=
 if j=0 then ptr Pb else if j=1 then .int .i64 line else if j=2 then .bool r.begun else if j=3 then .int .i64 r.levels.length
 else if j=40 then .map (some lm) else if j=41 then .map (some vm) else if j=42 then .map (some cm) else if j=43 then m.ov else if j=44 then .int .i64 r.stmts
 else .bool (m.t ((j - 4) / 6) ((j - 4) % 6))
def Yk(l:List Nat):List Value:=l.map λ(x:Nat)=>Value.int .i64 (x:Int)
def Jk(k:Nat):Nat->List Fl.Frame->Prop
 |_,[]=>True
 |t,f::fs=>f.first.length+(if f.had then 0 else t)<=k/\f.els.length+(if f.had then t else 0)<=k/\Jk k 1 fs
def Jk.mono{k k':Nat}(hk:k<=k'):∀{t t':Nat} {fs:List Fl.Frame},t'<=t->Jk k t fs->Jk k' t' fs
 |_,_,[],_,_=>trivial
 |t,t',f::fs,ht,h=>by
  refine⟨?_,?_,Jk.mono hk (Nat.le_refl _) h.2.2⟩
  ·have:=h.1;split at this<;>simp_all<;>omega
  have:=h.2.1;split at this<;>simp_all<;>omega
def zn9(k:Nat)(fs:List Fl.Frame)(n:Nat):Prop:=n+min fs.length 1<=k/\Jk k 0 fs
def zn9.mono{k k':Nat}{fs:List Fl.Frame}{n:Nat}(h:zn9 k fs n)(hk:k<=k'):zn9 k' fs n:=⟨by have:=h.1;omega,Jk.mono hk (Nat.le_refl _) h.2⟩
structure RsOk(r:Fl.RS):Prop where
 cn:zn9 r.stmts r.fr r.top.length
 lv:r.levels.length<=6
 ce:r.cells.length<=6
 ch:r.chans.length<=3
 lo:r.locals.length<=4
 st:r.stmts<=16
 fr:r.fr.length<=3
 cl:r.cellLv.length=r.cells.length
 hl:r.chanLv.length=r.chans.length
 pairs:r.low.length=r.high.length
 below:∀p∈r.low.zip r.high,p.1<r.levels.length/\p.2<r.levels.length
 clv:∀x∈r.cellLv,x<r.levels.length
 chv:∀x∈r.chanLv,x<r.levels.length
 kinds:∀f∈r.fr,f.kind=5\/f.kind=6
 head:r.begun=false->r.locals=[]/\r.stmts=0/\r.top=[]/\r.fr=[]
 lat:r.begun=true->Fl.lattice r.levels.length r.tab=true
def Vj:List GF->List Value
 |[]=>[]
 |g::gs=>match Vj gs with
  |[]=>[ptr g.sb]
  |v::_=>[v]
structure zu0(base:Nat)(w:World)(r:Fl.RS)(m:Xv):Prop where
 wh:∀b,m.who b≠5->base<=b/\b<w.heap.size
 oc:w.ownsRow base 3 1 m.clv r.cellLv.length (Yk r.cellLv)
 tc:∀b,m.clv.ownBlock=some b->m.who b=3
 oh:w.ownsRow base 3 1 m.chv r.chanLv.length (Yk r.chanLv)
 th:∀b,m.chv.ownBlock=some b->m.who b=4
 pb:Yp 3 (λb=>m.who b=0) base w m.bv r.top (Vj m.gs)
 tb:∀b,m.bv.ownBlock=some b->m.who b=1
 fa:Vn m.who base w (3 - r.fr.length) [] r.fr m.gs
 oo:w.ownsRow base 223 1 m.ov r.fr.length ((m.gs.map λg=>ptr g.ob).reverse)
 to:∀b,m.ov.ownBlock=some b->m.who b=2
 la:r.begun=true->∃Lb,m.pl=ptr Lb/\m.who Lb=0/\Jl w Lb r.levels.length r.tab
structure Zr(lo base R Pb lm vm cm:Nat)(w0 w:World)(r:Fl.RS)(line:Int)(m:Xv):Prop where
 ok:RsOk r
 bel:Below lo w0 w
 fx:∀b,b<base->b≠R->b≠Pb->b≠lm->b≠vm->b≠cm->w.heap[b]?=w0.heap[b]?
 hlo:lo<=R/\lo<=Pb/\lo<=lm/\lo<=vm/\lo<=cm
 hba:R<base/\Pb<base/\lm<base/\vm<base/\cm<base/\base<=w.heap.size
 nd:R≠Pb/\R≠lm/\R≠vm/\R≠cm/\Pb≠lm/\Pb≠vm/\Pb≠cm/\lm≠vm/\lm≠cm/\vm≠cm
 cR:Zd w R 45 (Xa Pb lm vm cm line r m)
 cP:Zd w Pb 5 (rw_ [m.pl,m.clv,m.chv,.int .i64 r.locals.length,m.bv])
 nl:Yu w lm r.levels
 nv:Yu w vm (r.cells++r.locals)
 nc:Yu w cm r.chans
 tab:∀i j,i<6->j<6->m.t i j=(decide (i<r.levels.length) && Fl.tab0 r.low r.high i j)
 re:zu0 base w r m
def Yy{w w':World}{base:Nat}{e:TypeId}{k:Nat}{v:Value}{n:Nat}{xs:List Value}(h:w.ownsRow base e k v n xs)(hv:∀b,v.ownBlock=some b->w'.heap[b]?=w.heap[b]?):w'.ownsRow base e k v n xs:=by
 refine⟨h.1,?_⟩;rcases h.2 with⟨rfl,h0⟩|⟨g,cap,cur,rfl,hb,hg,hr⟩
 ·exact .inl ⟨rfl,h0⟩
 exact .inr ⟨g,cap,cur,rfl,hb,by rw[hv g rfl];exact hg,hr⟩
def zu0.kept{base:Nat}{w w':World}{r:Fl.RS}{m:Xv}(h:zu0 base w r m)(hz:w.heap.size<=w'.heap.size)(qw:∀b,m.who b≠5->w'.heap[b]?=w.heap[b]?):zu0 base w' r m:=
 {wh:=λb hw=>by have:=h.wh b hw;omega,oc:=Yy h.oc (λb hv=>qw b (by rw[h.tc b hv];decide)),tc:=h.tc,oh:=Yy h.oh (λb hv=>qw b (by rw[h.th b hv];decide)),th:=h.th,pb:=h.pb.kept (λ_ h=>h) (λb hv=>qw b (by rw[hv];decide)) (λb hv=>qw b (by rw[h.tb b hv];decide)),tb:=h.tb,fa:=h.fa.kept (λb hv=>⟨rfl,qw b (by omega)⟩),oo:=Yy h.oo (λb hv=>qw b (by rw[h.to b hv];decide)),to:=h.to,la:=λhg=>by obtain⟨Lb,l1,l2,l3⟩:=h.la hg;exact⟨Lb,l1,l2,l3.block (qw Lb (by rw[l2];decide))⟩}
section
variable{lo base R Pb lm vm cm:Nat}{w0 w w':World}{r:Fl.RS}{line:Int}{m:Xv}
def Zr.below(h:Zr lo base R Pb lm vm cm w0 w r line m)(hb:Below w.heap.size w w'):Zr lo base R Pb lm vm cm w0 w' r line m:=by
 obtain⟨b1,b2,b3,b4,b5,b6⟩:=h.hba;have hz:=hb.size;have q:∀b,b<w.heap.size->w'.heap[b]?=w.heap[b]?:=λb a0=>hb.block b a0;exact{ok:=h.ok,bel:=h.bel.trans (hb.mono (by have:=h.hlo;omega)),fx:=λb f1 f2 f3 f4 f5 f6=>(q b (by omega)).trans (h.fx b f1 f2 f3 f4 f5 f6),hlo:=h.hlo,hba:=⟨b1,b2,b3,b4,b5,by omega⟩,nd:=h.nd,cR:=h.cR.block (q _ (by omega)),cP:=h.cP.block (q _ (by omega)),nl:=h.nl.block (q _ (by omega)),nv:=h.nv.block (q _ (by omega)),nc:=h.nc.block (q _ (by omega)),tab:=h.tab,re:=h.re.kept hz (λb hw=>q b (h.re.wh b hw).2)}
def Zr.drew(h:Zr lo base R Pb lm vm cm w0 w r line m):Zr lo base R Pb lm vm cm w0 w.drew r line m:=h.below (Below.refl _ _).drew
end
def Vu(s:Fl.Stmt)(bv ov:Value):List Value:=[.int .i64 s.kind,.int .i64 s.x,.int .i64 s.line,.int .i64 s.e.op,.bool s.e.a.var,.int .i64 s.e.a.v,.bool s.e.b.var,.int .i64 s.e.b.v,bv,ov]
def Yx:Nat->(Nat->Prop)->World->Value->List Fl.Stmt->Prop
 |0,_,_,v,l=>l=[]/\v=.slice none 0 0
 |d+1,S,w,v,l=>∃ao cap,v=.slice ao l.length cap/\l.length<=cap/\cap<=maxLen/\l.length<=16/\
   (l≠[]->∃b,ao=some ⟨b,0,none⟩/\S b/\∀i,i<l.length->∃bv ov,(∀j,j<10->w.cell? ⟨b,i*10+j,none⟩=some ((Vu (l.getD i noS) bv ov).getD j undef))/\Yx d S w bv (l.getD i noS).body/\Yx d S w ov (l.getD i noS).other)
def Yx.kept{S S':Nat->Prop}{w w':World}(hS:∀b,S b->S' b)(hw:∀b,S b->w'.heap[b]?=w.heap[b]?):∀(d:Nat) (v:Value) (l:List Fl.Stmt),Yx d S w v l->Yx d S' w' v l
 |0,_,_,h=>h
 |d+1,v,l,h=>by
  obtain⟨ao,cap,h1,h2,h3,h4,h5⟩:=h;refine⟨ao,cap,h1,h2,h3,h4,λa0=>?_⟩;obtain⟨b,e,hb,hc⟩:=h5 a0;refine⟨b,e,hS b hb,λi hi=>?_⟩;obtain⟨bv,ov,g1,g2,g3⟩:=hc i hi;exact⟨bv,ov,λj hj=>(Qc (a:=⟨b,i*10+j,none⟩) (hw b hb)).trans (g1 j hj),Yx.kept hS hw d bv _ g2,Yx.kept hS hw d ov _ g3⟩
def Yx.slice{d:Nat}{S:Nat->Prop}{w:World}{v:Value}{l:List Fl.Stmt}(h:Yx d S w v l):∃a n c,v=.slice a n c:=by
 cases d with
 |zero=>exact⟨_,_,_,h.2⟩
 |succ d=>obtain⟨ao,c,h1,-⟩:=h;exact⟨_,_,_,h1⟩
def exV(x:Fl.Expr):Value:=.agg #[.int .i64 x.op,.bool x.a.var,.int .i64 x.a.v,.bool x.b.var,.int .i64 x.b.v]
structure Yj(base:Nat)(w:World)(Lq:Nat)(rb:Nat->Nat)(n:Nat)(t:Fl.Tab):Prop where
 c:∀i,i<n->w.cell? ⟨Lq,i,none⟩=some (.slice (some ⟨rb i,0,none⟩) n n)
 r:∀i j,i<n->j<n->w.cell? ⟨rb i,j,none⟩=some (.bool (t i j))
 z:∀i j,i<n->w.frozen? ⟨rb i,j,none⟩=false
 inj:∀i j,i<n->j<n->i≠j->rb i≠rb j
 ge:base<=Lq/\∀i,i<n->base<=rb i/\rb i≠Lq
def Yj.lt{base:Nat}{w:World}{Lq:Nat}{rb:Nat->Nat}{n:Nat}{t:Fl.Tab}(h:Yj base w Lq rb n t)(hn:0<n):Lq<w.heap.size/\∀i,i<n->rb i<w.heap.size:=
 ⟨Qe w _ (h.c 0 hn),λi hi=>Qe w _ (h.r i 0 hi hn)⟩
def Yj.kept{base:Nat}{w w':World}{Lq:Nat}{rb:Nat->Nat}{n:Nat}{t:Fl.Tab}(h:Yj base w Lq rb n t)(hk:∀b,base<=b->b<w.heap.size->w'.heap[b]?=w.heap[b]?):Yj base w' Lq rb n t:=
 ⟨λi hi=>(Qc (a:=⟨Lq,i,none⟩) (hk _ h.ge.1 (h.lt (by omega)).1)).trans (h.c i hi),λi j hi hj=>(Qc (a:=⟨rb i,j,none⟩) (hk _ (h.ge.2 i hi).1 ((h.lt (by omega)).2 i hi))).trans (h.r i j hi hj),λi j hi=>(Qd (a:=⟨rb i,j,none⟩) (hk _ (h.ge.2 i hi).1 ((h.lt (by omega)).2 i hi))).trans (h.z i j hi),h.inj,h.ge⟩
def Yj.moved{base:Nat}{w w':World}{Lq:Nat}{rb:Nat->Nat}{n:Nat}{t:Fl.Tab}(h:Yj base w Lq rb n t)(hL:0<n->w'.heap[Lq]?=w.heap[Lq]?)(hr:∀i,i<n->w'.heap[rb i]?=w.heap[rb i]?):Yj base w' Lq rb n t:=
 ⟨λi hi=>(Qc (a:=⟨Lq,i,none⟩) (hL (by omega))).trans (h.c i hi),λi j hi hj=>(Qc (a:=⟨rb i,j,none⟩) (hr i hi)).trans (h.r i j hi hj),λi j hi=>(Qd (a:=⟨rb i,j,none⟩) (hr i hi)).trans (h.z i j hi),h.inj,h.ge⟩
end Go.Proofs.YtaaejabalinojaaGreatDoor
namespace Go.Proofs.YtaaejabalinojaaGreatDoor
open Go.Proofs.Tryz
namespace Fl
def nd(x:List Node)(k:Int):Node:=nth x k.toNat
def role(k:Int):Nat:=if k<=2 then 0 else if k<=6 then 1 else 2
def vars(p:Prog)(ls:List Int):List Int:=p.cells.map (λ(x:Nat)=>(x:Int))++ls
def under(p:Prog)(a b:Int):Bool:=p.leq a.toNat b.toNat
def mayGo(p:Prog)(x:List Node)(n:Node)(lv:List Int):Bool:=
 decide (n.a<lv.length) && (decide (role (nd x n.b).kind=0) && (under p (nd x n.b).level (lv.getD n.a.toNat 0) && under p n.level (lv.getD n.a.toNat 0)))
def guards(p:Prog)(x:List Node)(n:Node)(w:Int):Bool:=
 decide (role (nd x n.a).kind=0) && (decide (role (nd x w).kind=2) && (under p (nd x n.a).level (nd x w).level && under p n.level (nd x w).level))
def ruleOf(p:Prog)(ls:List Int)(x:List Node)(n:Node):Bool:=
 if n.kind=0 then true
 else if n.kind=1 then decide (n.a<(vars p ls).length) && under p ((vars p ls).getD n.a.toNat 0) n.level
 else if n.kind=2 then decide (n.a<5) && (decide (role (nd x n.b).kind=0) && (decide (role (nd x n.c).kind=0) && (under p (nd x n.b).level n.level && under p (nd x n.c).level n.level)))
 else if n.kind=3 then mayGo p x n (vars p ls)
 else if n.kind=4 then mayGo p x n (p.chans.map λ(y:Nat)=>(y:Int))
 else if n.kind=5 then guards p x n n.b && guards p x n n.c
 else if n.kind=6 then guards p x n n.b
 else n.list.all λk=>decide (role (nd x k).kind=1) && under p n.level (nd x k).level
def follows(p:Prog)(ls:List Int)(x:List Node)(n:Node):Bool:=decide (n.level<p.n) && ruleOf p ls x n
def ofAtom(x:List Node)(k:Int)(a:Atom):Bool:=decide ((nd x k).kind=if a.var then 1 else 0) && decide ((nd x k).a=a.v)
def ofExpr(x:List Node)(k:Int)(e:Expr):Bool:=
 if e.op<0 then ofAtom x k e.a else decide ((nd x k).kind=2) && (decide ((nd x k).a=e.op) && (ofAtom x (nd x k).b e.a && ofAtom x (nd x k).c e.b))
def ofOne(K:Int->List Stmt->Bool)(x:List Node)(k:Int)(s:Stmt):Bool:=
  decide ((nd x k).kind=s.kind) &&
  (if s.kind=5 then ofExpr x (nd x k).a s.e && (K (nd x k).b s.body && K (nd x k).c s.other)
   else if s.kind=6 then ofExpr x (nd x k).a s.e && K (nd x k).b s.body
   else decide ((nd x k).a=s.x) && ofExpr x (nd x k).b s.e)
def ofAll:Nat->List Node->Int->List Stmt->Bool
 |0,x,k,l=>decide ((nd x k).kind=7) && (decide ((nd x k).list=[]) && decide (l=[]))
 |d+1,x,k,l=>decide ((nd x k).kind=7) && (decide ((nd x k).list.length=l.length) && (List.range l.length).all λi=>ofOne (ofAll d x) x ((nd x k).list.getD i 0) (l.getD i noS))
def check(p:Prog)(ls:List Int)(x:List Node):Nat×Int:=
 if ls.length≠p.locals\/(ls.any λv=>decide ((p.n:Int)<=v))=true then(10,-1)
 else match (List.range x.length).find? (λk=> !follows p ls x (nth x k)) with
  |some k=>(9,(k:Int))
  |none=>if ofAll 4 x ((x.length:Int) - 1) p.body then(0,-1) else(10,-1)
end Fl
open Go.RowKit
def zrv(k:Nat):Int:=if k<=2 then 0 else if k<=6 then 1 else 2
def zj7(k:Nat):FuncId:=if k=0 then 82 else if k=1 then 83 else if k=2 then 84 else if k=3 then 85 else if k=4 then 86 else if k=5 then 87 else if k=6 then 88 else 89
structure Ya(w:World)(Cb Pb Lb Rl:Nat)(vv nv hv:Value)(p:Fl.Prog)(vs:List Int)(x:List Fl.Node):Prop where
 hz:Cb<w.heap.size/\Pb<w.heap.size/\Lb<w.heap.size/\Rl<w.heap.size
 c0:w.cell? ⟨Cb,0,none⟩=some (.pointer (some ⟨Pb,0,none⟩))
 c1:w.cell? ⟨Cb,1,none⟩=some vv
 c2:w.cell? ⟨Cb,2,none⟩=some nv
 c3:w.cell? ⟨Cb,3,none⟩=some (.slice (some ⟨Rl,0,none⟩) 8 8)
 p0:w.cell? ⟨Pb,0,none⟩=some (.pointer (some ⟨Lb,0,none⟩))
 p2:w.cell? ⟨Pb,2,none⟩=some hv
 la:Jl w Lb p.n p.leq
 vi:Zv w.heap.size w vv vs
 hi:Zv w.heap.size w hv (p.chans.map λ(y:Nat)=>(y:Int))
 no:Yv w.heap.size w nv x
 ru:∀k,k<8->w.cell? ⟨Rl,k*2,none⟩=some (.int .i64 (zrv k))/\w.cell? ⟨Rl,k*2+1,none⟩=some (.func (.func (zj7 k)) #[] #[])
 n6:p.n<=6
def Ya.below{w w':World}{Cb Pb Lb Rl:Nat}{vv nv hv:Value}{p:Fl.Prog}{vs:List Int}{x:List Fl.Node}(h:Ya w Cb Pb Lb Rl vv nv hv p vs x)(hb:Below w.heap.size w w'):Ya w' Cb Pb Lb Rl vv nv hv p vs x:=by
 obtain⟨z1,z2,z3,z4⟩:=h.hz;have hz:=hb.size;have q:∀b i,b<w.heap.size->w'.cell? ⟨b,i,none⟩=w.cell? ⟨b,i,none⟩:=λb i a0=>hb.cell (p:=⟨b,i,none⟩) a0;exact{hz:=⟨by omega,by omega,by omega,by omega⟩,c0:=(q _ _ z1).trans h.c0,c1:=(q _ _ z1).trans h.c1,c2:=(q _ _ z1).trans h.c2,c3:=(q _ _ z1).trans h.c3,p0:=(q _ _ z2).trans h.p0,p2:=(q _ _ z2).trans h.p2,la:=h.la.block (hb.block _ z3),vi:=(h.vi.below hb).mono hz,hi:=(h.hi.below hb).mono hz,no:=(h.no.below hb).mono hz,ru:=λk hk=>⟨(q _ _ z4).trans (h.ru k hk).1,(q _ _ z4).trans (h.ru k hk).2⟩,n6:=h.n6}
section
variable{w:World}{Lb n:Nat}{t:Fl.Tab}
def yvx(h:Jl w Lb n t)(v:Int):Calls prog 80 #[.pointer (some ⟨Lb,0,none⟩),.int .i64 v] w λe w'=>e=.returned (.bool (decide (0<=v/\v<n)))/\w'=w:=by
 have c0:=h.c0;clear h
 by_cases h1:0<=v
 ·by_cases h2:v<n
  ·have e:decide (0<=v/\v<n)=true:=decide_eq_true ⟨h1,h2⟩
   rw[e];clear e
   go_enter func80,ntmps80
   go_wp2;go_ret;exact⟨rfl,rfl⟩
  have e:decide (0<=v/\v<n)=false:=decide_eq_false (λh=>h2 h.2);rw[e];clear e
  go_enter func80,ntmps80
  go_wp2;go_ret;exact⟨rfl,rfl⟩
 have e:decide (0<=v/\v<n)=false:=decide_eq_false (λh=>h1 h.1);rw[e];clear e
 go_enter func80,ntmps80
 go_wp2;go_ret;exact⟨rfl,rfl⟩
def ypx(h:Jl w Lb n t)(hn:n<=6)(a b:Nat)(ha:a<n)(hb:b<n):Calls prog 138 #[.pointer (some ⟨Lb,0,none⟩),.int .i64 a,.int .i64 b] w λe w'=>e=.returned (.bool (t a b))/\w'=w:=by
 have c:=h.cu a b ha hb
 have a0:(a:Int)<6:=by omega
 have b0:(b:Int)<6:=by omega
 have e:1+6*a+b=1+a*6+b:=by omega
 rw[e]at c;clear h e
 go_enter func138,ntmps138
 go_wp2;go_ret;exact⟨rfl,rfl⟩
end
def yvw(r ro:Nat):decide (r=ro)=(((r:Nat):Int)==(ro:Int)):=by
 by_cases h:r=ro
 ·subst h;simp
 rw[decide_eq_false h];symm;rw[Qh];omega
def yk2(k:Nat):zrv k=((Fl.role (k:Int):Nat):Int):=by
 unfold zrv Fl.role
 by_cases h1:k<=2
 ·rw[if_pos h1,if_pos (by omega)];rfl
 by_cases h2:k<=6
 ·rw[if_neg h1,if_pos h2,if_neg (by omega),if_pos (by omega)];rfl
 rw[if_neg h1,if_neg h2,if_neg (by omega),if_neg (by omega)];rfl
section
variable{w:World}{Cb Pb Lb Rl:Nat}{vv nv hv:Value}{p:Fl.Prog}{vs:List Int}{x:List Fl.Node}
def Ya.node(h:Ya w Cb Pb Lb Rl vv nv hv p vs x)(k:Nat)(hk:k<x.length):∃b off cap,nv=.slice (some ⟨b,off,none⟩) x.length cap/\b<w.heap.size/\w.cell? ⟨b,off+k*6,none⟩=some (.int .i64 (Fl.nth x k).kind)/\w.cell? ⟨b,off+k*6+1,none⟩=some (.int .i64 (Fl.nth x k).level):=by
 obtain⟨ao,cap,e,-,-,h4⟩:=h.no;obtain⟨b,off,e2,hb,hc⟩:=h4 (by rintro rfl;simp at hk);obtain⟨lv,-,h5,h6,-⟩:=hc k hk;exact⟨b,off,cap,by rw[e,e2],hb,h5,h6⟩
def ys3(h:Ya w Cb Pb Lb Rl vv nv hv p vs x)(k:Nat)(hk:k<x.length):Calls prog 115 #[.pointer (some ⟨Cb,0,none⟩),.int .i64 k] w λe w'=>e=.returned (.int .i64 (Fl.nth x k).level)/\w'=w:=by
 obtain⟨b,off,cap,rfl,-,-,c1⟩:=h.node k hk;have c2:=h.c2
 have a0:(k:Int)<(x.length:Int):=by omega
 clear h
 go_enter func115,ntmps115
 go_wp2;go_ret;exact⟨rfl,rfl⟩
def is_any(h:Ya w Cb Pb Lb Rl vv nv hv p vs x)(ro:Nat)(k:Nat)(hk:k<x.length)(e0:0<=(Fl.nth x k).kind/\(Fl.nth x k).kind<=7):Calls prog 114 #[.pointer (some ⟨Cb,0,none⟩),.int .i64 ro,.int .i64 k] w λe w'=>e=.returned (.bool (decide (Fl.role (Fl.nth x k).kind=ro)))/\w'=w.drew:=by
 obtain⟨b,off,cap,rfl,-,c0,-⟩:=h.node k hk;have c2:w.drew.cell? ⟨Cb,2,none⟩=some (.slice (some ⟨b,off,none⟩) x.length cap):=h.c2;have c3:w.drew.cell? ⟨Cb,3,none⟩=some (.slice (some ⟨Rl,0,none⟩) 8 8):=h.c3;obtain⟨kd,a0⟩:∃kd:Nat,(kd:Int)=(Fl.nth x k).kind:=⟨(Fl.nth x k).kind.toNat,by omega⟩
 have f0:kd<8:=by omega
 have cr:w.drew.cell? ⟨Rl,kd*2,none⟩=some (.int .i64 (zrv kd)):=(h.ru kd f0).1
 have c0':w.drew.cell? ⟨b,off+k*6,none⟩=some (.int .i64 (kd:Int)):=by rw[a0];exact c0
 have h0:(k:Int)<(x.length:Int):=by omega
 have g0:(kd:Int)<8:=by omega
 have HR:Hid (decide (Fl.role (Fl.nth x k).kind=ro)=(zrv kd==(ro:Int))):=by
  show _=_;rw[<-a0];rw[yk2];exact yvw _ _
 obtain⟨rl,d0⟩:=nmE (zrv kd);rw[<-d0]at cr HR;obtain⟨res,b0⟩:=nmE (decide (Fl.role (Fl.nth x k).kind=ro));rw[<-b0]at HR⊢;clear h e0 a0 c0 d0 b0
 go_enter func114,ntmps114
 go_wp2_with fail
 refine Zi (λW=>W.cell? ⟨Cb,2,none⟩=some (.slice (some ⟨b,off,none⟩) x.length cap)/\W.cell? ⟨Cb,3,none⟩=some (.slice (some ⟨Rl,0,none⟩) 8 8)/\W.cell? ⟨Rl,kd*2,none⟩=some (.int .i64 rl)/\W.cell? ⟨b,off+k*6,none⟩=some (.int .i64 (kd:Int))) [] [] [] ⟨c2,c3,cr,c0'⟩ (by kernel_rfl) (λc a d v w h=>by cases d<;>exact h) (λops hG=>?_);clear hG c2 c3 cr c0'
 iterate 18 refine Zw rfl (by rintro _ ⟨_,_,_,_⟩;go_simp<;>rfl) (by go_simp<;>rfl) ?_
 refine Zs ?_;go_wp2;go_ret;exact⟨cbE HR.out,rfl⟩
def zo3(h:Ya w Cb Pb Lb Rl vv nv hv p vs x)(top:Nat)(ht:top<p.n)(v:Value)(ls:List Int)(hl:Zv w.heap.size w v ls)(n0:ls.length<=100)(hr:∀y∈ls,0<=y/\y<p.n):Calls prog 113 #[.pointer (some ⟨Cb,0,none⟩),.int .i64 top,v] w λe w'=>e=.returned (.bool (ls.all λy=>Fl.under p y top))/\w'=w:=by
 obtain⟨ao,cap,rfl,hc,-,a0⟩:=hl;have c0:=h.c0;have p0:=h.p0;have j0:Hid (∀(a:Nat),a<p.n->Calls prog 138 #[.pointer (some ⟨Lb,0,none⟩),.int .i64 a,.int .i64 top] w λe w'=>e=.returned (.bool (p.leq a top))/\w'=w):=λa ha=>ypx h.la h.n6 a top ha ht
 have k0:Hid (∀i,(hi:i<ls.length)->∃b off,ao=some ⟨b,off,none⟩/\∃y:Nat,(y:Int)=ls[i]/\y<p.n/\w.cell? ⟨b,off+i,none⟩=some (.int .i64 (y:Int))):=λi hi=>by
  obtain⟨b,off,e,-,hc⟩:=a0 (by rintro rfl;simp at hi);have h1:=hr ls[i] (List.getElem_mem hi);refine⟨b,off,e,ls[i].toNat,by omega,by omega,?_⟩;rw[hc i hi,Qa,Qb hi];simp only[Option.getD_some];rw[show ((ls[i].toNat:Nat):Int)=ls[i] by omega]
 have o0:(ls.length:Int)<=100:=by omega
 have q0:(ls.length:Int)<=(cap:Int):=by omega
 clear h a0 hr
 go_enter func113,ntmps113
 go_wp2_with fail
 go_loopw [11] (λi wr=>wr=w/\∃k:Nat,k<=ls.length/\i=.int .i64 k/\(ls.take k).all (λy=>Fl.under p y top)=true) (λi _=>ls.length - (intOf i).toNat)
 case atStart=>exact⟨rfl,0,Nat.zero_le _,rfl,rfl⟩
 case round=>
  obtain⟨h0,k,hk,rfl,hall⟩:=hrel;have b0:=Zz hall;rw[h0];clear h0 hall wr
  by_cases f0:k<ls.length
  ·have l0:(k:Int)<(ls.length:Int):=by omega
   obtain⟨b,off,rfl,y,hy,m0,cy⟩:=k0.out k f0;obtain⟨yk,g0⟩:=nmE (ls[k]);have d0:Hid (yk∈ls/\ls.take (k+1)=ls.take k++[yk]):=(by rw[g0];exact⟨List.getElem_mem f0,List.take_succ_eq_append_getElem f0⟩);have HU:Hid (Fl.under p yk top=p.leq y top):=(by show _=_;unfold Fl.under;rw[g0,<-hy];simp);have e0:Hid (Calls prog 138 #[.pointer (some ⟨Lb,0,none⟩),.int .i64 y,.int .i64 top] w λe w'=>e=.returned (.bool (p.leq y top))/\w'=w):=j0.out y m0;generalize p.leq y top=bb at*;clear hy g0
   go_wp2_with fail
   refine e0.out.mono ?_;rintro e w1 ⟨rfl,i0⟩;rw[i0];clear i0 w1
   cases bb with
   |false=>
    have HE:Hid ((ls.all λy=>Fl.under p y top)=false):=by
     show _=_;rw[List.all_eq_false];exact⟨yk,d0.out.1,by rw[HU.out];simp⟩
    go_wp2;go_ret;exact⟨cbE HE.out,rfl⟩
   |true=>
    have HN:Hid ((ls.take (k+1)).all (λy=>Fl.under p y top)=true):=by
     show _=_;rw[d0.out.2,List.all_append,b0.out,List.all_cons,HU.out];rfl
    go_wp2
    go_roundw
    case rel=>exact⟨by first|rfl|trivial,k+1,by omega,by go_num,HN.out⟩
    case measure=>simp[intOf];omega
  have l0:¬(k:Int)<(ls.length:Int):=(by omega);have HE:Hid ((ls.all λy=>Fl.under p y top)=true):=by
   show _=_;have h1:=b0.out;rw[List.take_of_length_le (by omega)]at h1;exact h1
  go_wp2;go_ret;exact⟨cbE HE.out,rfl⟩
end
section
variable{P:Program}{ops:Array Oper}{Q:Exit->Act->World->Prop}{S:World->Prop}
def Zp{o:Oper}{l:List (Nat×Oper)}{a:Act}{w:World}{j:Nat}{b c:Bool}(hg:o.guard=some (j,b))(hy:yielded ops a.tmps j=some c)(a0:(some c==some b)=false)(hS:S w)
  (h:Yi P ops S Q l (a.put o.dst undef) w):Yi P ops S Q ((1,o)::l) a w:=wpList_skip (by simpa [Region.wanted,hg,hy] using a0) ⟨hS,h⟩
def zb6{o:Oper}{l:List (Nat×Oper)}{a:Act}{w:World}{j:Nat}{b:Bool}(hg:o.guard=some (j,b))(hy:yielded ops a.tmps j=none)(hS:S w)
  (h:Yi P ops S Q l (a.put o.dst undef) w):Yi P ops S Q ((1,o)::l) a w:=wpList_skip (by simp[Region.wanted,hg,hy]) ⟨hS,h⟩
def Zc{l:List (Nat×Oper)}{a:Act}{w:World}{dst:Option Tmp}{op:Op}{ty:TypeId}{pos:String}{after:Array Edge}{guard:Option (Nat×Bool)}
  (hw:Region.wanted {dst:=dst,op:=op,type:=ty,pos:=pos,after:=after,guard:=guard} (yielded ops a.tmps)=true) (h:wpList P ops (Exit.then (λa1 w1=>S w1/\Yi P ops S Q l a1 w1) Q) [{dst:=dst,op:=op,type:=ty,pos:=pos,after:=after,guard:=none}] a w):
  Yi P ops S Q ((1,{dst:=dst,op:=op,type:=ty,pos:=pos,after:=after,guard:=guard})::l) a w:=Us hw h
end
structure Jy(w:World)(nb no:Nat)(n:Fl.Node)(lv:Value):Prop where
 hz:nb<w.heap.size
 c0:w.cell? ⟨nb,no,none⟩=some (.int .i64 n.kind)
 c1:w.cell? ⟨nb,no+1,none⟩=some (.int .i64 n.level)
 c2:w.cell? ⟨nb,no+2,none⟩=some (.int .i64 n.a)
 c3:w.cell? ⟨nb,no+3,none⟩=some (.int .i64 n.b)
 c4:w.cell? ⟨nb,no+4,none⟩=some (.int .i64 n.c)
 c5:w.cell? ⟨nb,no+5,none⟩=some lv
 li:Zv w.heap.size w lv n.list
def Jy.below{w w':World}{nb no:Nat}{n:Fl.Node}{lv:Value}(h:Jy w nb no n lv)(hb:Below w.heap.size w w'):Jy w' nb no n lv:=
 have q:∀i,w'.cell? ⟨nb,i,none⟩=w.cell? ⟨nb,i,none⟩:=λi=>hb.cell (p:=⟨nb,i,none⟩) h.hz
 ⟨Nat.lt_of_lt_of_le h.hz hb.size,(q _).trans h.c0,(q _).trans h.c1,(q _).trans h.c2,(q _).trans h.c3,(q _).trans h.c4,(q _).trans h.c5,(h.li.below hb).mono hb.size⟩
def POk(p:Fl.Prog)(x:List Fl.Node)(j:Int):Prop:=0<=j/\j.toNat<x.length/\0<=(Fl.nd x j).level/\(Fl.nd x j).level<p.n/\0<=(Fl.nd x j).kind/\(Fl.nd x j).kind<=7
def zl0(W:World)(y:Int):Zv (W.alloc (.cells #[.int .i64 y] 3)).heap.size (W.alloc (.cells #[.int .i64 y] 3)) (.slice (some ⟨W.heap.size,0,none⟩) 1 1) [y]:=
 ⟨_,1,rfl,by simp,by simp[maxLen],λ_=>⟨W.heap.size,0,rfl,by simp,λi hi=>by
  have:i=0:=by simpa using hi
  subst this;simp⟩⟩
def zl1(W:World)(y z:Int):Zv (W.alloc (.cells #[.int .i64 y,.int .i64 z] 3)).heap.size (W.alloc (.cells #[.int .i64 y,.int .i64 z] 3)) (.slice (some ⟨W.heap.size,0,none⟩) 2 2) [y,z]:=
 ⟨_,2,rfl,by simp,by simp[maxLen],λ_=>⟨W.heap.size,0,rfl,by simp,λi hi=>by
  have:i<2:=hi
  match i,this with
  |0,_=>simp
  |1,_=>simp⟩⟩
section
variable{w:World}{Cb Pb Lb Rl nb no:Nat}{vv nv hv lv:Value}{p:Fl.Prog}{vs:List Int}{x:List Fl.Node}{n:Fl.Node}
def zh7(h:Ya w Cb Pb Lb Rl vv nv hv p vs x)(hn:Jy w nb no n lv)(ha:0<=n.a)(hl:0<=n.level/\n.level<p.n)(e0:∀y∈vs,0<=y/\y<p.n)(p0:vs.length<=100):
  Calls prog 83 #[.pointer (some ⟨Cb,0,none⟩),.pointer (some ⟨nb,no,none⟩)] w λe w'=>e=.returned (.bool (decide (n.a<vs.length) && Fl.under p (vs.getD n.a.toNat 0) n.level))/\Below w.heap.size w w':=by
 obtain⟨lvl,b0⟩:∃lvl:Nat,(lvl:Int)=n.level:=⟨n.level.toNat,by omega⟩;obtain⟨an,f0⟩:∃an:Nat,(an:Int)=n.a:=⟨n.a.toNat,by omega⟩;have n0:=h.hz.1;have j0:=hn.hz;obtain⟨ao,cap,g0,hc,-,a0⟩:=h.vi;have c1:=h.c1;rw[g0]at c1;have n1:=hn.c1;have n2:=hn.c2;rw[<-b0]at n1;rw[<-f0]at n2
 have o0:(vs.length:Int)<=100:=by omega
 by_cases d0:an<vs.length
 ·obtain⟨b,off,rfl,hbz,k0⟩:=a0 (by rintro rfl;simp at d0)
  have cy:=k0 an d0;obtain⟨y,hy⟩:=nmE (vs.getD an 0);have l0:0<=y/\y<p.n:=by
   have h1:=e0 vs[an] (List.getElem_mem d0);rw[hy,Qa,Qb d0];exact h1
  rw[<-hy]at cy;have h0:(an:Int)<(vs.length:Int):=(by omega);have HS:Hid (∀W,Below w.heap.size w W->W.cell? ⟨nb,no+2,none⟩=some (.int .i64 (an:Nat))/\W.cell? ⟨Cb,1,none⟩=some (.slice (some ⟨b,off,none⟩) vs.length cap)/\W.cell? ⟨nb,no+1,none⟩=some (.int .i64 (lvl:Nat))/\W.cell? ⟨b,off+an,none⟩=some (.int .i64 y)):=λW hW=>⟨(hW.cell (p:=⟨nb,no+2,none⟩) j0).trans n2,(hW.cell (p:=⟨Cb,1,none⟩) n0).trans c1,(hW.cell (p:=⟨nb,no+1,none⟩) j0).trans n1,(hW.cell (p:=⟨b,off+an,none⟩) hbz).trans cy⟩;have HB:Hid (Below w.heap.size w (w.alloc (.cells #[.int .i64 y] 3)).drew):=(bA).drew;have HU:Hid (Calls prog 113 #[.pointer (some ⟨Cb,0,none⟩),.int .i64 (lvl:Nat),.slice (some ⟨w.heap.size,0,none⟩) 1 1] (w.alloc (.cells #[.int .i64 y] 3)).drew λe w'=>e=.returned (.bool (Fl.under p y n.level))/\w'=(w.alloc (.cells #[.int .i64 y] 3)).drew):=by
   have h1:=zo3 (h.below HB.out) lvl (by omega) (.slice (some ⟨w.heap.size,0,none⟩) 1 1) [y] (zl0 w y) (by simp) (by intro z hz;simp at hz;subst hz;exact l0);show Calls _ _ _ _ _;rw[<-b0];simpa using h1
  have c0:Hid ((decide (n.a<vs.length) && Fl.under p (vs.getD n.a.toNat 0) n.level)=Fl.under p y n.level):=by
   show _=_;rw[decide_eq_true (show n.a<vs.length by omega),Bool.true_and,hy,show n.a.toNat=an by omega]
  generalize Fl.under p y n.level=res at*;clear h hn a0 k0 e0 hy l0 b0 f0 c1 n1 n2 cy g0
  go_enter func83,ntmps83
  go_wp2_with fail
  refine Zn HS ((Below.refl _ _).drew) [26,27] [] [(10,15)] (by kernel_rfl) (λc a d v w h=>by cases d<;>exact h) (λops ⟨g1,_⟩=>?_)
  iterate 26 refine Zw (by first|rfl|simp[Region.wanted,yielded,g1,Act.put]) (by rintro _ ⟨_,_,_,_⟩;go_simp<;>rfl) (by go_simp<;>rfl) ?_
  refine Zc (by simp[Region.wanted,yielded,g1,Act.put]) ?_
  go_wp2_with fail
  refine⟨HS.out _ HB.out,?_⟩;refine Zc (by simp[Region.wanted,yielded,g1,Act.put]) ?_
  go_wp2_with fail
  refine HU.out.mono ?_;rintro e W1 ⟨rfl,m0⟩;rw[m0];clear m0 W1
  go_wp2_with fail
  refine⟨HS.out _ HB.out,?_⟩
  iterate 2 refine Zw rfl (by rintro _ ⟨_,_,_,_⟩;go_simp<;>rfl) (by go_simp<;>rfl) ?_
  refine Zs ?_;go_wp2;go_ret;exact⟨cbE c0.out,HB.out⟩
 have h0:¬(an:Int)<(vs.length:Int):=by omega
 have i0:Hid (w.drew.cell? ⟨nb,no+2,none⟩=some (.int .i64 (an:Nat))/\w.drew.cell? ⟨Cb,1,none⟩=some (.slice ao vs.length cap)/\w.drew.cell? ⟨nb,no+1,none⟩=some (.int .i64 (lvl:Nat))/\True):=⟨n2,c1,n1,trivial⟩;have c0:Hid ((decide (n.a<vs.length) && Fl.under p (vs.getD n.a.toNat 0) n.level)=false):=by
  show _=_;rw[decide_eq_false (show ¬n.a<vs.length by omega),Bool.false_and]
 clear h hn a0 e0 b0 f0 c1 n1 n2 g0
 go_enter func83,ntmps83
 go_wp2_with fail
 refine Zi (λW=>W.cell? ⟨nb,no+2,none⟩=some (.int .i64 (an:Nat))/\W.cell? ⟨Cb,1,none⟩=some (.slice ao vs.length cap)/\W.cell? ⟨nb,no+1,none⟩=some (.int .i64 (lvl:Nat))/\True) [26,27] [] [(10,15)] i0.out (by kernel_rfl) (λc a d v w h=>by cases d<;>exact h) (λops ⟨g1,_⟩=>?_)
 iterate 11 refine Zw rfl (by rintro _ ⟨_,_,_,_⟩;go_simp<;>rfl) (by go_simp<;>rfl) ?_
 iterate 15
  refine Ys rfl (c:=false) (by simp[yielded,g1,Act.put]) (by decide) ?_
 refine Zp rfl (c:=false) (by simp[yielded,g1,Act.put]) (by decide) i0.out ?_;refine Zp rfl (c:=false) (by simp[yielded,g1,Act.put]) (by decide) i0.out ?_
 iterate 2 refine Zw rfl (by rintro _ ⟨_,_,_,_⟩;go_simp<;>rfl) (by go_simp<;>rfl) ?_
 refine Zs ?_;go_wp2;go_ret;exact⟨cbE c0.out,(Below.refl _ _).drew⟩
end
end Go.Proofs.YtaaejabalinojaaGreatDoor

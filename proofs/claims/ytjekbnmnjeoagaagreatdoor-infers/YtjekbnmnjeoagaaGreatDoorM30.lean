import Derived.Test.YtjekbnmnjeoagaaGreatDoorM17
set_option linter.all false
set_option maxRecDepth 100000
set_option maxHeartbeats 40000000
namespace Go.Proofs.YtjekbnmnjeoagaaGreatDoor
open Go.Proofs.Tryz
variable{p:Fl.Prog}{vs:List Int}{d:Nat}{ws:List Fl.Node}
namespace Fl
def cnt:Nat->List Stmt->Nat
 |0,_=>0
 |d+1,l=>(l.map λs=>1+cnt d s.body+cnt d s.other).sum
def cnt_nil(d:Nat):cnt d []=0:=by cases d<;>rfl
def cnt_cons(d:Nat)(s:Stmt)(l:List Stmt):cnt (d+1) (s::l)=1+cnt d s.body+cnt d s.other+cnt (d+1) l:=by
 show ((s::l).map λs=>1+cnt d s.body+cnt d s.other).sum=_;rw[List.map_cons,List.sum_cons];rfl
def cnt_snoc(d:Nat)(s:Stmt):∀l,cnt (d+1) (l++[s])=cnt (d+1) l+(1+cnt d s.body+cnt d s.other)
 |[]=>by show cnt (d+1) [s]=_;rw[cnt_cons,cnt_nil];omega
 |x::l=>by rw[List.cons_append,cnt_cons,cnt_snoc d s l,cnt_cons];omega
def cnt_mono:∀(d:Nat) (l:List Stmt),cnt d l<=cnt (d+1) l
 |0,l=>by rw[cnt];exact Nat.zero_le _
 |d+1,[]=>by rw[cnt_nil];exact Nat.zero_le _
 |d+1,s::l=>by
  have h1:=cnt_mono d s.body;have h2:=cnt_mono d s.other;have h3:=cnt_mono (d+1) l;rw[cnt_cons,cnt_cons];omega
def cntF(d:Nat):List Frame->Nat
 |[]=>0
 |f::fs=>1+cnt d f.first+cnt d f.els+cntF d fs
def RS.Cn(r:RS):Prop:=r.stmts<=16/\∀d,cnt d r.top+cntF d r.fr<=r.stmts
def cnt_snoc_le(d:Nat)(l:List Stmt)(s:Stmt):cnt d (l++[s])<=cnt d l+(1+cnt d s.body+cnt d s.other):=by
 cases d with
 |zero=>rw[cnt,cnt];omega
 |succ d=>
  rw[cnt_snoc];have h1:=cnt_mono d s.body;have h2:=cnt_mono d s.other;omega
def RS.Cn.put{r:RS}(h:r.Cn)(a0:¬16<=r.stmts){s:Stmt}(h1:s.body=[])(h2:s.other=[]):(r.put s).Cn:=by
 unfold RS.put
 split
 ·rename_i hf
  refine⟨by show r.stmts+1<=16;omega,λd=>?_⟩;have h3:=h.2 d;have h4:=cnt_snoc_le d r.top s;rw[h1,h2,cnt_nil]at h4;rw[hf]at h3⊢;show cnt d (r.top++[s])+cntF d []<=r.stmts+1;omega
 rename_i f fs hf;refine⟨by show r.stmts+1<=16;omega,λd=>?_⟩;have h3:=h.2 d;have h4:=cnt_snoc_le d f.els s;have h5:=cnt_snoc_le d f.first s;rw[h1,h2,cnt_nil]at h4 h5;rw[hf]at h3;unfold cntF at h3;show cnt d r.top+cntF d ((if f.had then{f with els:=f.els++[s]} else{f with first:=f.first++[s]})::fs)<=r.stmts+1
 cases f.had
 ·simp only[Bool.false_eq_true,if_false]
  unfold cntF;simp only;omega
 simp only[if_true];unfold cntF;simp only;omega
def RS.Cn.ends{r:RS}(h:r.Cn):r.ends.Cn:=by
 unfold RS.ends
 split
 ·exact h
 ·rename_i f hf
  refine⟨h.1,λd=>?_⟩;have h3:=h.2 d;rw[hf]at h3;have h4:=cnt_snoc_le d r.top f.done;unfold cntF at h3⊢;show cnt d (r.top++[f.done])+0<=r.stmts;unfold cntF at h3;simp only[Frame.done]at h4⊢;omega
 rename_i f g fs hf;refine⟨h.1,λd=>?_⟩;have h3:=h.2 d;rw[hf]at h3;have h4:=cnt_snoc_le d g.els f.done;have h5:=cnt_snoc_le d g.first f.done;unfold cntF at h3;unfold cntF at h3;show cnt d r.top+cntF d ((if g.had then{g with els:=g.els++[f.done]} else{g with first:=g.first++[f.done]})::fs)<=r.stmts;simp only[Frame.done]at h4 h5⊢
 cases g.had
 ·simp only[Bool.false_eq_true,if_false]
  unfold cntF;simp only;omega
 simp only[if_true];unfold cntF;simp only;omega
def RS.Cn.elses{r:RS}(h:r.Cn):r.elses.Cn:=by
 unfold RS.elses
 split
 ·exact h
 rename_i f fs hf;refine⟨h.1,λd=>?_⟩;have h3:=h.2 d;rw[hf]at h3;exact h3
def RS.Cn.same{r r':RS}(h:r.Cn)(e:r'.top=r.top/\r'.fr=r.fr/\r'.stmts=r.stmts):r'.Cn:=⟨by rw[e.2.2];exact h.1,λd=>by rw[e.1,e.2.1,e.2.2];exact h.2 d⟩
def RS.target_st(r:RS)(n:List UInt8){x:Nat}{r':RS}(h:r.target n=some (x,r')):r'.top=r.top/\r'.fr=r.fr/\r'.stmts=r.stmts:=by
 unfold RS.target at h
 split at h
 ·simp only[Option.some.injEq,Prod.mk.injEq]at h;rw[<-h.2];exact⟨rfl,rfl,rfl⟩
 split at h
 ·simp only[Option.some.injEq,Prod.mk.injEq]at h;rw[<-h.2];exact⟨rfl,rfl,rfl⟩
 split at h
 ·cases h
 simp only[Option.some.injEq,Prod.mk.injEq]at h;rw[<-h.2];exact⟨rfl,rfl,rfl⟩
def RS.Cn.stmt{r:RS}(h:r.Cn){a:Nat}(w:List (List UInt8)):(r.stmt a w).2.Cn:=by
 unfold RS.stmt
 split
 ·split
  ·exact h
  split
  ·split
   ·exact h.elses
   exact h
  exact h.ends
 ·split
  ·exact h
  split
  ·exact h
  rename_i hh;refine⟨by show r.stmts+1<=16;omega,λd=>?_⟩;have h3:=h.2 d;show cnt d r.top+(1+cnt d []+cnt d []+cntF d r.fr)<=r.stmts+1;rw[cnt_nil];omega
 ·split
  ·exact h
  split
  ·split
   ·exact h
   split
   ·exact h
   exact h.put (by assumption) rfl rfl
  split
  ·exact h
  split
  ·exact h
  rename_i hh
  split
  ·exact h
  have h1:=r.target_st _ hh;exact(h.same h1).put (by rw[h1.2.2];assumption) rfl rfl
 exact h
def RS.head_st(r:RS)(w:List (List UInt8)):(r.head w).2.top=r.top/\(r.head w).2.fr=r.fr/\(r.head w).2.stmts=r.stmts:=by
 unfold RS.head
 repeat' split
 all_goals exact⟨rfl,rfl,rfl⟩
def RS.Cn.row{r:RS}(h:r.Cn)(w:List (List UInt8))(a:Nat):(r.row w a).2.Cn:=by
 unfold RS.row
 split
 ·exact h
 split
 ·exact h.same (r.head_st w)
 exact h.stmt w
def rows_cn:∀(ls:List (List UInt8)) (r:RS) (i:Nat),r.Cn->(rows r i ls).2.2.Cn
 |[],r,i,h=>h
 |[l],r,i,h=>by
  rw[rows]
  split
  ·split<;>exact h
  exact h
 |l::m::ls,r,i,h=>by
  rw[rows]
  split
  ·exact h
  split
  ·exact h
  exact rows_cn (m::ls) _ (i+1) (h.row _ _)
def cn0:RS.zero.Cn:=⟨by decide,λd=>by show cnt d []+0<=0;rw[cnt_nil];omega⟩
def readProg_cnt(s:List UInt8)(d:Nat):cnt d (readProg s).2.2.body<=16:=by
 unfold readProg
 split
 ·have h:=cn0.2 d
  have h1:=cn0.1;show cnt d RS.zero.top<=16;omega
 have h:=rows_cn (cutR 10 s) RS.zero 0 cn0;have h1:=h.2 d;have h2:=h.1;show cnt d (rows RS.zero 0 (cutR 10 s)).2.2.top<=16;omega
def cnt_len:∀(d:Nat) (l:List Stmt),l.length<=cnt (d+1) l
 |d,[]=>Nat.zero_le _
 |d,s::l=>by
  have:=cnt_len d l;rw[cnt_cons,List.length_cons];omega
def cnt_one{d:Nat}:∀{l:List Stmt} {s:Stmt},s∈l->cnt d s.body+cnt d s.other<=cnt (d+1) l
 |x::l,s,h=>by
  rw[cnt_cons];rcases List.mem_cons.1 h with rfl|h
  ·omega
  have:=cnt_one (d:=d) h;omega
def zput_len(ws:List Node)(n:Node):(put1 ws n).2.length<=ws.length+1:=by
 unfold put1
 split
 ·simp
 simp
def zval_len(p:Prog)(vs:List Int)(ws:List Node)(e:Expr):(wVal p vs ws e).2.length<=ws.length+3:=by
 unfold wVal wAtom
 split
 ·have:=zput_len ws ⟨if e.a.var then 1 else 0,atomLv p vs e.a,e.a.v,0,0,[]⟩
  omega
 have h1:=zput_len ws ⟨if e.a.var then 1 else 0,atomLv p vs e.a,e.a.v,0,0,[]⟩;generalize put1 ws ⟨if e.a.var then 1 else 0,atomLv p vs e.a,e.a.v,0,0,[]⟩=A at*;have h2:=zput_len A.2 ⟨if e.b.var then 1 else 0,atomLv p vs e.b,e.b.v,0,0,[]⟩;generalize put1 A.2 ⟨if e.b.var then 1 else 0,atomLv p vs e.b,e.b.v,0,0,[]⟩=B at*;have h3:=zput_len B.2 ⟨2,valLv p vs e,e.op,A.1,B.1,[]⟩;omega
def zall_len{W:List Node->Stmt->Int×List Node}{d:Nat}(hW:∀ws s,(W ws s).2.length<=ws.length+6*(1+cnt d s.body+cnt d s.other)):∀(l:List Stmt) (ws:List Node),(wAll W ws l).2.length<=ws.length+6*cnt (d+1) l
 |[],ws=>by rw[wAll];simp
 |s::l,ws=>by
  have h1:=hW ws s;have h2:=zall_len hW l (W ws s).2;rw[wAll,cnt_cons];show (wAll W (W ws s).2 l).2.length<=_;omega
def zstmt_of{K:List Node->List Stmt->Int->Int×List Node}(IH:∀(ws:List Node) (l:List Stmt) (u:Int),(K ws l u).2.length<=ws.length+6*cnt d l+1)(u:Int)(ws:List Node)(s:Stmt):(wStmt K p vs u ws s).2.length<=ws.length+6*(1+cnt d s.body+cnt d s.other):=by
 unfold wStmt;simp only;have h0:=zval_len p vs ws s.e;generalize wVal p vs ws s.e=v at*;generalize jn p u (valLv p vs s.e)=L;have h1:=IH v.2 s.body L;generalize K v.2 s.body L=B1 at*
 split
 ·have h2:=IH B1.2 s.other L
  generalize K B1.2 s.other L=B2 at*;have h3:=zput_len B2.2 ⟨5,u,v.1,B1.1,B2.1,[]⟩;omega
 split
 ·have h3:=zput_len B1.2 ⟨6,u,v.1,B1.1,0,[]⟩
  omega
 have h3:=zput_len v.2 ⟨s.kind,u,s.x,v.1,0,[]⟩;omega
def zblock_len(p:Prog)(vs:List Int):∀(d:Nat) (ws:List Node) (l:List Stmt) (u:Int),(wBlock p vs d ws l u).2.length<=ws.length+6*cnt d l+1
 |0,ws,l,u=>by
  unfold wBlock;have:=zput_len ws ⟨7,u,0,0,0,[]⟩;omega
 |d+1,ws,l,u=>by
  unfold wBlock;have h1:=zall_len (W:=wStmt (wBlock p vs d) p vs u) (d:=d) (zstmt_of (zblock_len p vs d) u) l ws;generalize wAll (wStmt (wBlock p vs d) p vs u) ws l=r at*;have h2:=zput_len r.2 ⟨7,u,0,0,0,r.1⟩;omega
def zstmt_len(p:Prog)(vs:List Int)(d:Nat)(u:Int)(ws:List Node)(s:Stmt):(wStmt (wBlock p vs d) p vs u ws s).2.length<=ws.length+6*(1+cnt d s.body+cnt d s.other):=zstmt_of (zblock_len p vs d) u ws s
def Sh(n:Node):Prop:=(0<=n.level/\n.level<6)/\
  (((n.kind=0\/n.kind=1)/\(0<=n.a/\n.a<2147483648)/\n.b=0/\n.c=0/\n.list=[])\/
   (n.kind=2/\(0<=n.a/\n.a<2147483648)/\n.list=[])\/
   ((n.kind=3\/n.kind=4)/\(0<=n.a/\n.a<2147483648)/\n.c=0/\n.list=[])\/
   (n.kind=5/\n.list=[])\/(n.kind=6/\n.c=0/\n.list=[])\/
   (n.kind=7/\n.a=0/\n.b=0/\n.c=0/\n.list.length<=16))
def zinR{x:Int}(h:0<=x/\x<2147483648):inR x=true:=by
 unfold inR;rw[decide_eq_true h.1,decide_eq_true h.2];rfl
def Sh.sound{n:Node}(h:Sh n)(hp:∀i∈prem n,0<=i/\i<2147483648):sound n=true:=by
 obtain⟨kind,level,a,b,c,list⟩:=n;obtain⟨hl,h⟩:=h;unfold Fl.sound okV;rcases h with⟨h0,ha,hb,hc,a0⟩|⟨h0,ha,a0⟩|⟨h0,ha,hc,a0⟩|⟨h0,a0⟩|⟨h0,hc,a0⟩|⟨h0,ha,hb,hc,a0⟩
 ·simp only at h0 ha hb hc a0 hl
  subst hb hc a0;rcases h0 with rfl|rfl<;>simp[fields,inR]<;>omega
 ·simp only at h0 ha a0 hl
  subst h0 a0;have h1:=hp b (by simp[prem]);have h2:=hp c (by simp[prem]);simp[fields,inR];omega
 ·simp only at h0 ha hc a0 hl
  subst hc a0;have h1:=hp b (by rcases h0 with rfl|rfl<;>simp[prem]);rcases h0 with rfl|rfl<;>simp[fields,inR]<;>omega
 ·simp only at h0 a0 hl
  subst h0 a0;have h1:=hp a (by simp[prem]);have h2:=hp b (by simp[prem]);have h3:=hp c (by simp[prem]);simp[fields,inR];omega
 ·simp only at h0 hc a0 hl
  subst h0 hc a0;have h1:=hp a (by simp[prem]);have h2:=hp b (by simp[prem]);simp[fields,inR];omega
 simp only at h0 ha hb hc a0 hl;subst h0 ha hb hc;have h1:list.all inR=true:=List.all_eq_true.2 (λx hx=>zinR (hp x (by simpa [prem] using hx)));rw[h1];simp[fields,inR];omega
def Ds(ws:List Node):Prop:=∀k,k<ws.length->Sh (nth ws k)/\(∀i∈prem (nth ws k),0<=i/\i<(k:Int))/\∀i,i<k->nth ws i≠nth ws k
def UsedIn(l:List Node)(k:Int):Prop:=∃j,k<(j:Nat)/\j<l.length/\k∈prem (nth l j)
def UsedIn.ext{l t:List Node}{k:Int}(h:UsedIn l k):UsedIn (l++t) k:=by
 obtain⟨j,h1,h2,h3⟩:=h;exact⟨j,h1,by simp;omega,by rw[nth_ext h2];exact h3⟩
structure Kp(ws:List Node)(r:Int×List Node):Prop where
 ext:∃t,r.2=ws++t
 rng:0<=r.1/\r.1<r.2.length
 ds:Ds r.2
 us:∀k:Nat,ws.length<=k->k<r.2.length->(k:Int)=r.1\/UsedIn r.2 k
def Kp.len{r:Int×List Node}(h:Kp ws r):ws.length<=r.2.length:=by
 obtain⟨t,e⟩:=h.ext;rw[e];simp
def put1_kp(h:Ds ws){n:Node}(hs:Sh n)(hp:∀i∈prem n,0<=i/\i<(ws.length:Int)):Kp ws (put1 ws n)/\∀i∈prem n,UsedIn (put1 ws n).2 i:=by
 unfold put1
 split
 ·rename_i i hi
  have h1:eqNode (nth ws i) n=true:=List.find?_some (p:=λi=>eqNode (nth ws i) n) hi;have h2:i<ws.length:=(by have:=List.mem_of_find?_eq_some hi;simpa using this);have h3:=(eqNode_iff _ _).1 h1;refine⟨⟨⟨[],by simp⟩,⟨by simp,by simp;omega⟩,h,λk c0 a0=>by simp only at a0;omega⟩,λj hj=>?_⟩;rw[<-h3]at hj;exact⟨i,((h i h2).2.1 j hj).2,h2,hj⟩
 rename_i hn;rw[List.find?_eq_none]at hn
 have e:nth (ws++[n]) ws.length=n:=by unfold nth;simp[Qa]
 refine⟨⟨⟨[n],rfl⟩,⟨by simp,by simp;omega⟩,λk hk=>?_,λk c0 a0=> .inl (by simp only[List.length_append,List.length_cons,List.length_nil]at a0⊢;omega)⟩,λj hj=>⟨ws.length,(hp j hj).2,by simp,by rw[e];exact hj⟩⟩
 by_cases b0:k<ws.length
 ·rw[nth_ext b0]
  obtain⟨a1,a2,a3⟩:=h k b0;exact⟨a1,a2,λi hi=>by rw[nth_ext (by omega)];exact a3 i hi⟩
 have d0:k=ws.length:=by simp at hk;omega
 subst d0;rw[e];refine⟨hs,hp,λi hi=>?_⟩;rw[nth_ext hi];intro hh;exact hn i (by simpa using hi) ((eqNode_iff _ _).2 hh)
def Kp.comp{r r':Int×List Node}(h:Kp ws r)(h':Kp r.2 r')(hu:UsedIn r'.2 r.1):Kp ws r':=by
 obtain⟨t,e⟩:=h.ext;obtain⟨t',e'⟩:=h'.ext;refine⟨⟨t++t',by rw[e',e,List.append_assoc]⟩,h'.rng,h'.ds,λk h1 h2=>?_⟩
 by_cases h3:r.2.length<=k
 ·exact h'.us k h3 h2
 rcases h.us k h1 (by omega) with h4|h4
 ·exact .inr (by rw[h4];exact hu)
 exact .inr (by rw[e'];exact h4.ext)
section
def wAtom_kp(lv:p.Lv)(ok:LvOk p vs)(b0:vs.length<=10)(h:Ds ws){a:Atom}(ho:AtomOk vs.length a):Kp ws (wAtom p vs ws a):=by
 have hi:zy5 vs a:=λhv=>by unfold AtomOk at ho;rwa [if_pos hv]at ho
 have h1:=atomLv_rng lv ok hi;have h6:=lv.n6;have hv:a.v<=999999999:=by
  unfold AtomOk at ho
  split at ho<;>omega
 unfold wAtom;refine(put1_kp h ⟨⟨h1.1,by show atomLv p vs a<6;omega⟩,.inl ⟨by cases a.var<;>simp,⟨by simp,by simp only;omega⟩,rfl,rfl,rfl⟩⟩ (λi hi=>?_)).1;unfold prem at hi
 cases a0:a.var<;>rw[a0]at hi<;>simp at hi
def wVal_kp(lv:p.Lv)(ok:LvOk p vs)(a0:vs.length<=10)(h:Ds ws){e:Expr}(ho:ExprOk vs.length e):Kp ws (wVal p vs ws e):=by
 have h1:=valLv_rng lv ok ho;have h6:=lv.n6;obtain⟨o1,o2,o3,o4⟩:=ho;unfold wVal
 split
 ·exact wAtom_kp lv ok a0 h o3
 rename_i h0;have ha:=wAtom_kp lv ok a0 h o3;generalize wAtom p vs ws e.a=A at*;have hb:=wAtom_kp lv ok a0 ha.ds o4;generalize wAtom p vs A.2 e.b=B at*;have ra:=ha.rng;have rb:=hb.rng;have lb:=hb.len
 have b0:prem (⟨2,valLv p vs e,e.op,A.1,B.1,[]⟩:Node)=[A.1,B.1]:=by simp[prem]
 obtain⟨g1,g2⟩:=put1_kp (n:=⟨2,valLv p vs e,e.op,A.1,B.1,[]⟩) hb.ds ⟨⟨h1.1,by show valLv p vs e<6;omega⟩,.inr (.inl ⟨rfl,⟨by simp only;omega,by simp only;omega⟩,rfl⟩)⟩ (λi hi=>by
  rw[b0]at hi;simp only[List.mem_cons,List.not_mem_nil,or_false]at hi
  rcases hi with rfl|rfl<;>omega)
 rw[b0]at g2;exact ha.comp (hb.comp g1 (g2 _ (by simp))) (g2 _ (by simp))
def wStmt_kp(lv:p.Lv)(ok:LvOk p vs)(c0:vs.length<=10)(e0:p.chans.length<=3)
  (IH:∀(ws:List Node) (l:List Stmt) (u:Int),Ds ws->StmtsOk vs.length p.chans.length d l->cnt d l<=16->(0<=u/\u<p.n)->Kp ws (wBlock p vs d ws l u))
   (h:Ds ws) {u:Int} (hu:0<=u/\u<p.n) {s:Stmt} (hk:KindOk vs.length p.chans.length s) (he:ExprOk vs.length s.e) (h1:StmtsOk vs.length p.chans.length d s.body) (h2:StmtsOk vs.length p.chans.length d s.other) (hc:cnt d s.body+cnt d s.other<=16):
  Kp ws (wStmt (wBlock p vs d) p vs u ws s):=by
 have b0:=wVal_kp lv ok c0 h he;have d0:=valLv_rng lv ok he;have hj:=lv.jn hu d0;have h6:=lv.n6;have vr:=b0.rng;unfold wStmt;simp only;generalize wVal p vs ws s.e=v at*;generalize jn p u (valLv p vs s.e)=L at*;have b1:=IH v.2 s.body L b0.ds h1 (by omega) hj;generalize wBlock p vs d v.2 s.body L=B1 at*;have r1:=b1.rng;have l1:=b1.len
 split
 ·have b2:=IH B1.2 s.other L b1.ds h2 (by omega) hj
  generalize wBlock p vs d B1.2 s.other L=B2 at*;have r2:=b2.rng;have l2:=b2.len;have a0:prem (⟨5,u,v.1,B1.1,B2.1,[]⟩:Node)=[v.1,B1.1,B2.1]:=(by simp[prem])
  obtain⟨g1,g2⟩:=put1_kp (n:=⟨5,u,v.1,B1.1,B2.1,[]⟩) b2.ds ⟨⟨hu.1,by show u<6;omega⟩,.inr (.inr (.inr (.inl ⟨rfl,rfl⟩)))⟩ (λi hi=>by
   rw[a0]at hi;simp only[List.mem_cons,List.not_mem_nil,or_false]at hi
   rcases hi with rfl|rfl|rfl<;>omega)
  rw[a0]at g2;exact b0.comp (b1.comp (b2.comp g1 (g2 _ (by simp))) (g2 _ (by simp))) (g2 _ (by simp))
 rename_i k5
 split
 ·have a0:prem (⟨6,u,v.1,B1.1,0,[]⟩:Node)=[v.1,B1.1]:=by simp[prem]
  obtain⟨g1,g2⟩:=put1_kp (n:=⟨6,u,v.1,B1.1,0,[]⟩) b1.ds ⟨⟨hu.1,by show u<6;omega⟩,.inr (.inr (.inr (.inr (.inl ⟨rfl,rfl,rfl⟩))))⟩ (λi hi=>by
   rw[a0]at hi;simp only[List.mem_cons,List.not_mem_nil,or_false]at hi
   rcases hi with rfl|rfl<;>omega)
  rw[a0]at g2;exact b0.comp (b1.comp g1 (g2 _ (by simp))) (g2 _ (by simp))
 rename_i k6
 have f0:s.kind=3\/s.kind=4:=by rcases hk with e|e|e|e<;>omega
 have hx:s.x<10:=by rcases hk with e|e|e|e<;>omega
 have a0:prem (⟨s.kind,u,s.x,v.1,0,[]⟩:Node)=[v.1]:=by unfold prem;simp only;rw[if_neg (by omega),if_pos (by omega)]
 obtain⟨g1,g2⟩:=put1_kp (n:=⟨s.kind,u,s.x,v.1,0,[]⟩) b0.ds ⟨⟨hu.1,by show u<6;omega⟩,.inr (.inr (.inl ⟨by simp only;omega,⟨by simp,by simp only;omega⟩,rfl,rfl⟩))⟩ (λi hi=>by
  rw[a0]at hi;simp only[List.mem_singleton]at hi
  omega)
 rw[a0]at g2;exact b0.comp g1 (g2 _ (by simp))
structure KpL(ws:List Node)(l:List Stmt)(r:List Int×List Node):Prop where
 ext:∃t,r.2=ws++t
 len:r.1.length=l.length
 rng:∀k∈r.1,0<=k/\k<(r.2.length:Int)
 ds:Ds r.2
 us:∀k:Nat,ws.length<=k->k<r.2.length->(k:Int)∈r.1\/UsedIn r.2 k
def wAll_kp{W:List Node->Stmt->Int×List Node}:∀(l:List Stmt) (ws:List Node),Ds ws->(∀s∈l,∀ws,Ds ws->Kp ws (W ws s))->KpL ws l (wAll W ws l)
 |[],ws,h,_=>⟨⟨[],by simp[wAll]⟩,rfl,λk hk=>by simp[wAll]at hk,h,λk h1 h2=>by simp only[wAll]at h2;omega⟩
 |s::l,ws,h,hW=>by
  have h1:=hW s (by simp) ws h;have h2:=wAll_kp l (W ws s).2 h1.ds (λs hs'=>hW s (by simp[hs']));rw[wAll];generalize wAll W (W ws s).2 l=q at*;generalize W ws s=r at*;obtain⟨t1,e1⟩:=h1.ext;obtain⟨t2,e2⟩:=h2.ext;have r1:=h1.rng;have hl:r.2.length<=q.2.length:=(by rw[e2];simp);refine⟨⟨t1++t2,by rw[e2,e1,List.append_assoc]⟩,by simp[h2.len],λk hk=>?_,h2.ds,λk a1 a2=>?_⟩
  ·rcases List.mem_cons.1 hk with rfl|hk
   ·simp only;omega
   exact h2.rng k hk
  by_cases h3:r.2.length<=k
  ·rcases h2.us k h3 a2 with h4|h4
   ·exact .inl (List.mem_cons_of_mem _ h4)
   exact .inr h4
  rcases h1.us k a1 (by omega) with h4|h4
  ·exact .inl (by rw[h4];simp)
  exact .inr (by show UsedIn q.2 k;rw[e2];exact h4.ext)
def wBlock_kp(lv:p.Lv)(ok:LvOk p vs)(a0:vs.length<=10)(b0:p.chans.length<=3):∀(d:Nat) (ws:List Node) (l:List Stmt) (u:Int),Ds ws->StmtsOk vs.length p.chans.length d l->cnt d l<=16->(0<=u/\u<p.n)->Kp ws (wBlock p vs d ws l u)
 |0,ws,l,u,h,hs,hc,hu=>by
  have h6:=lv.n6;unfold wBlock;exact(put1_kp (n:=⟨7,u,0,0,0,[]⟩) h ⟨⟨hu.1,by show u<6;omega⟩,.inr (.inr (.inr (.inr (.inr ⟨rfl,rfl,rfl,rfl,by simp⟩))))⟩ (λi hi=>by simp[prem]at hi)).1
 |d+1,ws,l,u,h,hs,hc,hu=>by
  have h6:=lv.n6
  have hL:=wAll_kp (W:=wStmt (wBlock p vs d) p vs u) l ws h (λs hs' ws' h'=>by
   obtain⟨a1,a2,a3,a4⟩:=hs s hs'
   exact wStmt_kp lv ok a0 b0 (wBlock_kp lv ok a0 b0 d) h' hu a1 a2 a3 a4 (by have:=cnt_one (d:=d) hs';omega))
  unfold wBlock;generalize wAll (wStmt (wBlock p vs d) p vs u) ws l=r at*;have c0:prem (⟨7,u,0,0,0,r.1⟩:Node)=r.1:=(by simp[prem])
  obtain⟨g1,g2⟩:=put1_kp (n:=⟨7,u,0,0,0,r.1⟩) hL.ds ⟨⟨hu.1,by show u<6;omega⟩,.inr (.inr (.inr (.inr (.inr ⟨rfl,rfl,rfl,rfl,by have:=cnt_len d l;have:=hL.len;simp only;omega⟩))))⟩ (λi hi=>by
   rw[c0]at hi
   exact hL.rng i hi)
  rw[c0]at g2;obtain⟨t1,e1⟩:=hL.ext;obtain⟨t2,e2⟩:=g1.ext;refine⟨⟨t1++t2,by rw[e2,e1,List.append_assoc]⟩,g1.rng,g1.ds,λk a1 a2=>?_⟩
  by_cases h3:r.2.length<=k
  ·exact g1.us k h3 a2
  rcases hL.us k a1 (by omega) with h4|h4
  ·exact .inr (g2 _ h4)
  exact .inr (by rw[e2];exact h4.ext)
end
def infer_enc(lv:p.Lv)(ho:p.Ok)(hc:cnt 4 p.body<=16)(h0:(infer p).1=0):(encode (infer p).2.1 (infer p).2.2).2.1=true:=by
 unfold infer at h0⊢
 by_cases hd:0<firstDown p (found p)
 ·rw[if_pos hd]at h0;simp only at h0;omega
 rw[if_neg hd];obtain⟨hv,b0⟩:=found_ok lv ho;have c0:=ho.ce;have hlo:=ho.lo;have h6:=lv.n6;have hB:=wBlock_kp lv hv (by rw[hv.1];omega) ho.ch 4 [] p.body (low p) (λk hk=>by simp at hk) (by rw[hv.1];exact ho.body) hc lv.low;have hN:=zblock_len p (found p) 4 [] p.body (low p);simp only;generalize wBlock p (found p) 4 [] p.body (low p)=r at*;simp only[List.length_nil,Nat.zero_add]at hN;have rr:=hB.rng;have a0:r.1=(r.2.length:Int) - 1:=by
  rcases hB.us (r.2.length - 1) (by simp) (by omega) with h|h
  ·omega
  obtain⟨j,j1,j2,-⟩:=h;omega
 have hD:=hB.ds;unfold encode;rw[if_neg (by rw[List.length_drop,hv.1];omega),if_neg,if_neg]
 ·have h1:shaped r.2= -1:=by
   unfold shaped
   rw[find_none _ _ (λk hk=>by
    obtain⟨d1,d2,d3⟩:=hD k hk;unfold bad;rw[d1.sound (λi hi=>by have:=d2 i hi;omega)];have e1:((prem (nth r.2 k)).any λp=>decide ((k:Int)<=p))=false:=by
     rw[List.any_eq_false];intro i hi;have:=d2 i hi;simp only[decide_eq_true_eq];omega
    have e2:((List.range k).any λi=>eqNode (nth r.2 i) (nth r.2 k))=false:=by
     rw[List.any_eq_false];intro i hi;rw[List.mem_range]at hi;intro hh;exact d3 i hi ((eqNode_iff _ _).1 hh)
    rw[e1,e2]
    rfl)]
   simp only
   rw[find_none _ _ (λk hk=>by
    rcases hB.us k (by simp) (by omega) with h|h
    ·omega
    obtain⟨j,j1,j2,j3⟩:=h;have:used r.2 k=true:=by
     unfold used;rw[List.any_eq_true];refine⟨j,by rw[List.mem_range];exact j2,?_⟩;rw[Bool.and_eq_true,decide_eq_true_eq,List.any_eq_true];exact⟨by omega,_,j3,by simp⟩
    rw[this]
    rfl)]
  rw[h1]
  decide
 rw[Bool.not_eq_false,List.all_eq_true];intro x hx;obtain⟨i,hi,e⟩:=mem_getD (List.mem_of_mem_drop hx);have:=hv.2 i hi;exact zinR (by omega)
def readProg_enc{s:List UInt8}(h:(readProg s).1=0)(h0:(infer (readProg s).2.2).1=0):(encode (infer (readProg s).2.2).2.1 (infer (readProg s).2.2).2.2).2.1=true:=
 infer_enc (readProg_Lv s h) (readProg_ok s h).1 (readProg_cnt s 4) h0
end Fl
end Go.Proofs.YtjekbnmnjeoagaaGreatDoor

import Derived.Test.YtjekbnmnjeoagaaGreatDoorM17
import Derived.Test.YtjekbnmnjeoagaaGreatDoorM23
set_option linter.all false
set_option maxRecDepth 100000
set_option maxHeartbeats 40000000
namespace Go.Proofs.YtjekbnmnjeoagaaGreatDoor
open Go.RowKit Go.Proofs.Tryz
variable{w w' w0:World}{Pb Lq x:Nat}{rb:Nat->Nat}{clv hv bv lv:Value}{p:Fl.Prog}{ls:List Int}{a b c:Int}{e:Fl.Expr}{s:Fl.Stmt}
structure zy2(w:World)(Pb Lq:Nat)(rb:Nat->Nat)(clv hv bv:Value)(p:Fl.Prog):Prop where
 hz:Pb<w.heap.size
 p0:w.cell? (Aq Pb 0)=some (Iq p.n)
 p1:w.cell? (Aq Pb 1)=some (.slice (some (Aq Lq 0)) p.n p.n)
 p2:w.cell? (Aq Pb 2)=some clv
 p3:w.cell? (Aq Pb 3)=some hv
 p4:w.cell? (Aq Pb 4)=some (Iq p.locals)
 p5:w.cell? (Aq Pb 5)=some bv
 ci:Zw w.heap.size w clv (p.cells.map λ(y:Nat)=>(y:Int))
 hi:Zw w.heap.size w hv (p.chans.map λ(y:Nat)=>(y:Int))
 lq:Ym 0 w Lq rb p.n p.leq
 bs:Zf 4 (λb=>b<w.heap.size) w bv p.body
 lv:p.Lv
 ok:p.Ok
section
def zy2.below(h:zy2 w Pb Lq rb clv hv bv p)(hb:Bq w w'):zy2 w' Pb Lq rb clv hv bv p:=by
 have hz:=hb.size;have q:∀i,w'.cell? (Aq Pb i)=w.cell? (Aq Pb i):=λi=>hb.cell (p:=(Aq Pb i)) h.hz;exact{hz:=Qj h.hz hz,p0:=(q _).trans h.p0,p1:=(q _).trans h.p1,p2:=(q _).trans h.p2,p3:=(q _).trans h.p3,p4:=(q _).trans h.p4,p5:=(q _).trans h.p5,ci:=(h.ci.below hb).mono hz,hi:=(h.hi.below hb).mono hz,lq:=h.lq.kept (λb _ a0=>hb.block b a0),bs:=h.bs.kept (λb a0=>Qj a0 hz) (λb a0=>hb.block b a0) 4 _ _,lv:=h.lv,ok:=h.ok}
def zw8(t:Fl.Tab)(k j:Nat):Bool:=(List.range j).all λi=>t k i
def yr5(t:Fl.Tab)(k j:Nat):zw8 t k (j+1)=(zw8 t k j && t k j):=by
 unfold zw8;rw[List.range_succ,List.all_append];simp
def zm8(h:zy2 w Pb Lq rb clv hv bv p):Cq 29 #[Pq Pb] w λe w'=>e=.returned (Iq (Fl.low p))/\w'=w:=by
 have HL:=Zz h.lq;have p0:=h.p0;have p1:=h.p1;have a0:Hid (Fl.low p=((Fl.firstK (λk=>zw8 p.leq k p.n) p.n).toNat:Int)):=rfl;generalize Fl.low p=res at*;obtain⟨n,hn⟩:=nmE (p.n)
 have l0:(n:Int)<=6:=by have:=h.lv.n6;omega
 rw[<-hn]at HL p0 p1 a0;generalize p.leq=t at*;clear h hn
 go_enter func29,ntmps29
 go_wp2_with fail
 go_loopw [3] (λi wr=>wr=w/\∃k:Nat,k<=n/\i=Iq k/\∀x,x<k->zw8 t x n=false) (λi _=>n - (intOf i).toNat)
 case atStart=>exact⟨rfl,0,Nat.zero_le _,rfl,λx hx=>by omega⟩
 case round=>
  obtain⟨b0,k,hk,rfl,hno⟩:=hrel;have d0:=Zz hno;rw[b0];clear hno b0 wr
  by_cases e0:k<n
  ·have g0:(k:Int)<(n:Int):=by omega
   have ck:=HL.out.c k e0;have f0:=Zz e0
   go_wp2_with fail
   go_loopw [4,5] (λls i wr=>wr=w/\∃j:Nat,j<=n/\i=Iq j/\ls=.bool (zw8 t k j)) (λ_ i _=>n - (intOf i).toNat)
   case atStart=>exact⟨rfl,0,Nat.zero_le _,rfl,rfl⟩
   case round=>
    obtain⟨b0,j,hj,rfl,rfl⟩:=hrel;rw[b0];clear b0 wr
    by_cases h0:j<n
    ·have i0:(j:Int)<(n:Int):=by omega
     have z3:w.cell? (Aq (rb k) j)=some (.bool (t k j)):=HL.out.r k j f0.out h0;have HS:Hid (zw8 t k (j+1)=(zw8 t k j && t k j)):=yr5 t k j;generalize zw8 t k j=lj at*;generalize t k j=u3 at*
     cases lj<;>cases u3
     all_goals
      go_wp2
      go_roundw
      case rel=>exact⟨by first|rfl|trivial,j+1,by omega,by go_num,by rw[HS.out];rfl⟩
      case measure=>simp[intOf];omega
    have i0:¬(j:Int)<(n:Int):=(by omega)
    obtain rfl:j=n:=by omega
    cases c0:zw8 t k j with
    |true=>
     have HE:Hid (res=(k:Int)):=(by show _=_;rw[a0.out,zow _ _ _ f0.out c0 d0.out];simp);clear c0;go_wp2;go_ret;exact⟨by rw[HE.out];rfl,rfl⟩
    |false=>
     have j0:Hid (∀x,x<k+1->zw8 t x j=false):=λx hx=>by
      by_cases k0:x=k
      ·subst k0;exact c0
      exact d0.out x (by omega)
     clear c0;go_wp2
     go_roundw
     case rel=>exact⟨by first|rfl|trivial,k+1,by omega,by go_num,j0.out⟩
     case measure=>simp[intOf];omega
  have g0:¬(k:Int)<(n:Int):=(by omega);have HE:Hid (res=0):=(by show _=_;rw[a0.out,zsz _ _ (λx hx=>d0.out x (by omega))];rfl);go_wp2;go_ret;exact⟨by rw[HE.out];rfl,rfl⟩
def vars_at(p:Fl.Prog)(ls:List Int):(Fl.vars p ls).length=p.cells.length+ls.length/\(∀v,v<p.cells.length->(Fl.vars p ls).getD v 0=(p.cells.map λ(y:Nat)=>(y:Int)).getD v 0)/\∀v,p.cells.length<=v->(Fl.vars p ls).getD v 0=ls.getD (v - p.cells.length) 0:=by
 unfold Fl.vars;refine⟨by simp,λv hv=>?_,λv hv=>?_⟩
 ·rw[Qa,List.getElem?_append_left (by simpa using hv),Qa]
 rw[Qa,List.getElem?_append_right (by simpa using hv),List.length_map,Qa]
def ywz(h:zy2 w Pb Lq rb clv hv bv p)(hl:Zw w.heap.size w lv ls)(na:Option Addr)(nn nc:Nat){v:Nat}(c0:v<(Fl.vars p ls).length)(h4:ls.length<=4):
  Cq 61 #[Pq Pb,.agg #[lv,.slice na nn nc],Iq v] w λe w'=>e=.returned (Iq ((Fl.vars p ls).getD v 0))/\Bq w w':=by
 obtain⟨ca,cc,rfl,k1,-,a0⟩:=h.ci;obtain⟨la,lc,rfl,j1,-,b0⟩:=hl;have hz:=h.hz;have p2:=h.p2;have h6:=h.ok.ce;obtain⟨vl,vc,vs⟩:=vars_at p ls;simp only[List.length_map]at p2 k1;obtain⟨m,hm⟩:=nmE (p.cells.length);obtain⟨n,hn⟩:=nmE (ls.length);rw[<-hm]at p2 vc vs vl h6 k1;rw[<-hn]at j1 vl h4⊢
 have e0:(m:Int)<=6:=by omega
 have f0:(n:Int)<=4:=by omega
 have k1I:(m:Int)<=(cc:Int):=by omega
 have j1I:(n:Int)<=(lc:Int):=by omega
 by_cases h1:v<m
 ·have d0:(v:Int)<(m:Int):=by omega
  obtain⟨b,off,rfl,hb,hc⟩:=a0 (by intro hh;simp at hh;rw[hh]at hm;simp at hm;omega);have c1:=hc v (by simp;omega);rw[<-vc v h1]at c1;generalize (Fl.vars p ls).getD v 0=y at*;clear h a0 b0 hc vl vc vs hm hn j1 k1 c0
  go_enter func61,ntmps61
  go_wp2;go_ret;exact⟨rfl,bA⟩
 have d0:¬(v:Int)<(m:Int):=by omega
 obtain⟨i,hi⟩:=nmE (v - m)
 have HV:Hid ((v:Int) - (m:Int)=(i:Int)):=by show _=_;omega
 have g0:(i:Int)<(n:Int):=by omega
 have h0:(v:Int)<2147483648:=by omega
 have i0:(i:Int)<2147483648:=by omega
 obtain⟨b,off,rfl,hb,hc⟩:=b0 (by intro hh;rw[hh]at hn;simp at hn;omega);have c1:=hc i (by omega);have e:=vs v (by omega);rw[<-hi]at e;rw[<-e]at c1;generalize (Fl.vars p ls).getD v 0=y at*;clear h a0 b0 hc vl vc vs hm hn j1 k1 hi e c0
 go_enter func61,ntmps61
 go_wp2_with (rw[HV.out])
 go_ret;exact⟨rfl,bA⟩
def atV(a:Fl.Atom):Value:=.agg #[.bool a.var,Iq a.v]
def zr8(h:zy2 w Pb Lq rb clv hv bv p)(hl:Zw w.heap.size w lv ls)(na:Option Addr)(nn nc:Nat)(h4:ls.length<=4){a:Fl.Atom}(ho:zy5 (Fl.vars p ls) a):
  Cq 89 #[Pq Pb,.agg #[lv,.slice na nn nc],atV a] w λe w'=>e=.returned (Iq (Fl.atomLv p (Fl.vars p ls) a))/\Bq w w':=by
 obtain⟨la,lc,rfl,-⟩:=id hl;have HL:Hid (∀W,Bq w W->a.var=true->Cq 61 #[Pq Pb,.agg #[.slice la ls.length lc,.slice na nn nc],Iq a.v] W λe w'=>e=.returned (Iq ((Fl.vars p ls).getD a.v 0))/\Bq W w'):=λW hW hv=>ywz (h.below hW) ((hl.below hW).mono hW.size) na nn nc (ho hv) h4;have HB:Hid (∀W,Bq w W->Cq 29 #[Pq Pb] W λe w'=>e=.returned (Iq (Fl.low p))/\w'=W):=λW hW=>zm8 (h.below hW);have a0:Hid (∀o o',Bq w ((w.alloc o).alloc o')):=λo o'=>bA.alloc (by simp) _;unfold Fl.atomLv atV;generalize (Fl.vars p ls).getD a.v 0=y at*;generalize ls.length=n at*;clear h hl ho
 cases hv:a.var
 ·have e:(if false=true then y else Fl.low p)=Fl.low p:=rfl
  rw[e];clear e HL
  go_enter func89,ntmps89
  go_wp2_with fail
  refine(HB.out _ (a0.out _ _)).mono ?_;rintro e W ⟨rfl,rfl⟩;go_wp2;go_ret;exact⟨rfl,a0.out _ _⟩
 have e:(if true=true then y else Fl.low p)=y:=rfl;rw[e];clear e HB
 go_enter func89,ntmps89
 go_wp2_with fail
 refine(HL.out _ (a0.out _ _) hv).mono ?_;rintro e W ⟨rfl,hb⟩;have b0:Hid (Bq w W):=(a0.out _ _).trans (hb.mono (by simp;omega));clear hb;go_wp2;go_ret;exact⟨rfl,b0.out⟩
end
end Go.Proofs.YtjekbnmnjeoagaaGreatDoor
namespace Go.Proofs.YtjekbnmnjeoagaaGreatDoor
open Go.Proofs.Tryz
variable{w w' w0:World}{Pb Lq x:Nat}{rb:Nat->Nat}{clv hv bv lv:Value}{p:Fl.Prog}{ls:List Int}{a b c:Int}{e:Fl.Expr}{s:Fl.Stmt}
namespace Fl
def jn_least(lv:p.Lv)(ha:0<=a/\a<p.n)(hb:0<=b/\b<p.n)(hc:0<=c/\c<p.n)(h1:under p a c=true)(h2:under p b c=true):under p (jn p a b) c=true:=by
 obtain⟨k,h3,h4,-,-,h5⟩:=lv.lat.joins a.toNat b.toNat (by omega) (by omega)
 have e:(jn p a b).toNat=k:=by unfold jn;rw[h4];simp
 unfold under;rw[e];exact h5 _ (by omega) h1 h2
def low_under(lv:p.Lv)(hc:0<=c/\c<p.n):under p (low p) c=true:=by
 unfold under low;rw[Int.toNat_natCast];exact(bottom_low lv.lat).2 _ (by omega)
def LeV(p:Prog)(a b:List Int):Prop:=∀i,i<p.cells.length+p.locals->under p (a.getD i 0) (b.getD i 0)=true
section
variable{va vb:List Int}
def atom_mono(lv:p.Lv)(hl:LeV p va vb)(oa:LvOk p va){a:Atom}(ho:zy5 va a):under p (atomLv p va a) (atomLv p vb a)=true:=by
 unfold atomLv
 cases hv:a.var
 ·exact under_refl lv lv.low
 exact hl a.v (by rw[<-oa.1];exact ho hv)
def val_mono(lv:p.Lv)(hl:LeV p va vb)(oa:LvOk p va)(ob:LvOk p vb)(ha:ExprOk va.length e)(hb:ExprOk vb.length e):under p (valLv p va e) (valLv p vb e)=true:=by
 have ia:=zwz ha;have ib:=zwz hb;have h1:=atom_mono lv hl oa ia.1;have r1:=atomLv_rng lv oa ia.1;have r2:=atomLv_rng lv ob ib.1;unfold valLv
 split
 ·exact h1
 rename_i h0;have h2:=atom_mono lv hl oa (ia.2 (by omega));have r3:=atomLv_rng lv oa (ia.2 (by omega));have r4:=atomLv_rng lv ob (ib.2 (by omega));have r5:=lv.jn r2 r4;have u:=under_jn lv r2 r4;exact jn_least lv r1 r3 r5 (under_trans lv r1 r2 r5 h1 u.1) (under_trans lv r3 r4 r5 h2 u.2)
def jn_mono(lv:p.Lv){d:Int}(ha:0<=a/\a<p.n)(hb:0<=b/\b<p.n)(hc:0<=c/\c<p.n)(hd:0<=d/\d<p.n)(h1:under p a c=true)(h2:under p b d=true):under p (jn p a b) (jn p c d)=true:=by
 have r:=lv.jn hc hd;have u:=under_jn lv hc hd;exact jn_least lv ha hb r (under_trans lv ha hc r h1 u.1) (under_trans lv hb hd r h2 u.2)
def moves_mono(lv:p.Lv)(hl:LeV p va vb)(oa:LvOk p va)(ob:LvOk p vb):∀(d:Nat) (l:List Stmt) (u u':Int),StmtsOk va.length p.chans.length d l->(0<=u/\u<p.n)->(0<=u'/\u'<p.n)->under p u u'=true->∀m∈moves p va d l u,∃m'∈moves p vb d l u',m'.1=m.1/\under p m.2 m'.2=true/\(0<=m'.2/\m'.2<p.n)
 |0,_,_,_,_,_,_,_,m,hm=>by cases hm
 |d+1,l,u,u',hs,hu,hu',huu,m,hm=>by
  have hlen:va.length=vb.length:=oa.1.trans ob.1.symm;obtain⟨s,b0,hm⟩:=List.mem_flatMap.1 (show m∈l.flatMap (movesOne (moves p va d) p va u) from hm);obtain⟨s1,s2,s3,s4⟩:=hs s b0;have s2':ExprOk vb.length s.e:=(by rw[<-hlen];exact s2);have hv:=val_mono lv hl oa ob s2 s2';have ra:=valLv_rng lv oa s2;have rb:=valLv_rng lv ob s2';have hj:=jn_mono lv hu ra hu' rb huu hv;have ja:=lv.jn hu ra;have jb:=lv.jn hu' rb
  suffices h:∃m'∈movesOne (moves p vb d) p vb u' s,m'.1=m.1/\under p m.2 m'.2=true/\(0<=m'.2/\m'.2<p.n) by
   obtain⟨m',h1,h2⟩:=h;exact⟨m',List.mem_flatMap.2 ⟨s,b0,h1⟩,h2⟩
  unfold movesOne at hm⊢
  split at hm
  ·rename_i a0
   rw[List.mem_singleton]at hm;rw[if_pos a0];exact⟨_,List.mem_singleton.2 rfl,by rw[hm],by rw[hm];exact hj,jb⟩
  rename_i a0;rw[if_neg a0]
  split at hm
  ·rename_i c0
   rw[if_pos c0];rcases List.mem_append.1 hm with hm|hm
   ·obtain⟨m',h1,h2⟩:=moves_mono lv hl oa ob d _ _ _ s3 ja jb hj m hm
    exact⟨m',List.mem_append_left _ h1,h2⟩
   obtain⟨m',h1,h2⟩:=moves_mono lv hl oa ob d _ _ _ s4 ja jb hj m hm;exact⟨m',List.mem_append_right _ h1,h2⟩
  cases hm
def raise_low(lv:p.Lv)(ho:p.Ok)(ob:LvOk p vb)(hf:∀m∈moves p vb 4 p.body (low p),ofLocal p m.1=true->fitsM p vb m=true):∀(f:Nat) (vs:List Int),LvOk p vs->LeV p vs vb->LeV p (raise p f vs) vb
 |0,vs,_,h=>h
 |f+1,vs,ok,h=>by
  unfold raise
  split
  ·rename_i vs' hr
   unfold rise at hr
   split at hr
   ·rename_i m hm
    injection hr with hr;subst hr;have hp:=List.find?_some (p:=λm=>ofLocal p m.1 && !fitsM p vs m) hm;have hmem:=List.mem_of_find?_eq_some hm;rw[Bool.and_eq_true]at hp;have a0:=lv.low;have b0:=zx9 lv ok 4 p.body (low p).toNat (by rw[ok.1];exact ho.body) (by omega) m (by rw[show (((low p).toNat:Nat):Int)=low p by omega];exact hmem);have h1:=(rise_ok lv ok b0 hp.1 (by simpa using hp.2)).1;refine raise_low lv ho ob hf f _ h1 (λi hi=>?_);obtain⟨m',g1,g2,g3,g4⟩:=moves_mono lv h ok ob 4 p.body (low p) (low p) (by rw[ok.1];exact ho.body) a0 a0 (under_refl lv a0) m hmem;have g5:=hf m' g1 (by rw[g2];exact hp.1);have hl:=hp.1;unfold ofLocal at hl;rw[Bool.and_eq_true,decide_eq_true_eq,decide_eq_true_eq]at hl;unfold fitsM at g5;rw[if_neg (by rw[g2];omega),g2]at g5;obtain⟨-,k,hk,ek⟩:=b0;have hi':i<vs.length:=(by rw[ok.1];exact hi);have e0:=ok.2 i hi';have c0:=ob.2 i (by rw[ob.1];exact hi);rw[Qa,List.getElem?_set]
    by_cases d0:m.1.x=i
    ·rw[d0]at g5⊢
     rw[if_pos rfl,if_pos hi'];exact jn_least lv e0 (by omega) c0 (h i hi) (under_trans lv (by omega) g4 c0 g3 g5)
    rw[if_neg d0,<-Qa];exact h i hi
   cases hr
  exact h
def raise_done(lv:p.Lv)(ho:p.Ok):∀(f:Nat) (vs:List Int),LvOk p vs->rank p vs<f->rise p (raise p f vs)=none
 |0,vs,_,h=>absurd h (by omega)
 |f+1,vs,ok,h=>by
  unfold raise
  cases hr:rise p vs with
  |none=>exact hr
  |some vs'=>
   simp only;unfold rise at hr
   split at hr
   ·rename_i m hm
    injection hr with hr;subst hr;have hp:=List.find?_some (p:=λm=>ofLocal p m.1 && !fitsM p vs m) hm;have hmem:=List.mem_of_find?_eq_some hm;rw[Bool.and_eq_true]at hp;have a0:=lv.low;have b0:=zx9 lv ok 4 p.body (low p).toNat (by rw[ok.1];exact ho.body) (by omega) m (by rw[show (((low p).toNat:Nat):Int)=low p by omega];exact hmem);obtain⟨h1,h2⟩:=rise_ok lv ok b0 hp.1 (by simpa using hp.2);exact raise_done lv ho f _ h1 (by omega)
   cases hr
def start_low(lv:p.Lv)(ob:LvOk p (vars p ls)):LeV p (start p) (vars p ls):=λi hi=>by
 have hb:=ob.2 i (by rw[ob.1];exact hi);unfold start
 by_cases hc:i<p.cells.length
 ·have e:(vars p (List.replicate p.locals (low p))).getD i 0=(vars p ls).getD i 0:=by
   unfold vars;rw[Qa,Qa,List.getElem?_append_left (by simpa using hc),List.getElem?_append_left (by simpa using hc)]
  rw[e];exact under_refl lv hb
 have e:(vars p (List.replicate p.locals (low p))).getD i 0=low p:=by
  unfold vars;rw[Qa,List.getElem?_append_right (by simp;omega),List.getElem?_replicate,if_pos (by simp;omega)];rfl
 rw[e];exact low_under lv hb
end
end Fl
namespace Fl
def rzSet(p:Prog)(v:Int)(s:Stmt)(ls:List Int):Bool×List Int:=
 if s.kind=3/\p.cells.length<=s.x then
  if jn p (ls.getD (s.x - p.cells.length) 0) v≠ls.getD (s.x - p.cells.length) 0 then(true,ls.set (s.x - p.cells.length) (jn p (ls.getD (s.x - p.cells.length) 0) v)) else(false,ls)
 else(false,ls)
def rzOne(K:List Stmt->Int->List Int->Bool×List Int)(p:Prog)(u:Int)(st:Bool×List Int)(s:Stmt):Bool×List Int:=
 let v:=jn p u (valLv p (vars p st.2) s.e)
 let a:=rzSet p v s st.2
 let b:=K s.body v a.2
 let c:=K s.other v b.2
 (st.1||a.1||b.1||c.1,c.2)
def rz(p:Prog):Nat->List Stmt->Int->List Int->Bool×List Int
 |0,_,_,ls=>(false,ls)
 |d+1,l,u,ls=>l.foldl (rzOne (rz p d) p u) (false,ls)
def rzOne_flag(K:List Stmt->Int->List Int->Bool×List Int)(p:Prog)(u:Int)(m:Bool)(ls:List Int)(s:Stmt):rzOne K p u (m,ls) s=(m||(rzOne K p u (false,ls) s).1,(rzOne K p u (false,ls) s).2):=by
 unfold rzOne;simp only[Bool.false_or,Bool.or_assoc]
def rz_fold(K:List Stmt->Int->List Int->Bool×List Int)(p:Prog)(u:Int):∀(l:List Stmt) (m:Bool) (ls:List Int),l.foldl (rzOne K p u) (m,ls)=(m||(l.foldl (rzOne K p u) (false,ls)).1,(l.foldl (rzOne K p u) (false,ls)).2)
 |[],m,ls=>by simp
 |s::l,m,ls=>by
  rw[List.foldl_cons,List.foldl_cons,rzOne_flag,rz_fold K p u l (m||_),rz_fold K p u l (rzOne K p u (false,ls) s).1];simp only[Bool.or_assoc]
def rz_cons(p:Prog)(d:Nat)(s:Stmt)(l:List Stmt)(u:Int)(ls:List Int):rz p (d+1) (s::l) u ls=((rzOne (rz p d) p u (false,ls) s).1||(rz p (d+1) l u (rzOne (rz p d) p u (false,ls) s).2).1,(rz p (d+1) l u (rzOne (rz p d) p u (false,ls) s).2).2):=by
 show (s::l).foldl _ _=_;rw[List.foldl_cons,rz_fold];rfl
def TyL(p:Prog)(vs:List Int)(d:Nat)(l:List Stmt)(u:Int):Prop:=∀m∈moves p vs d l u,ofLocal p m.1=true->fitsM p vs m=true
def Ty1(p:Prog)(vs:List Int)(d:Nat)(s:Stmt)(u:Int):Prop:=∀m∈movesOne (moves p vs d) p vs u s,ofLocal p m.1=true->fitsM p vs m=true
def rk(p:Prog)(ls:List Int):Nat:=(ls.map (above p)).sum
structure Rz(p:Prog)(ls:List Int)(T C:List Int->Prop)(r:Bool×List Int):Prop where
 ok:LvOk p (vars p r.2)
 ge:LeV p (vars p ls) (vars p r.2)
 no:r.1=false->r.2=ls
 dn:rk p r.2<=rk p ls
 st:r.1=true->rk p r.2<rk p ls
 lo:∀vb,LvOk p vb->LeV p (vars p ls) vb->T vb->LeV p (vars p r.2) vb
 cl:r.1=false->C (vars p ls)
def LeV.refl(lv:p.Lv){a:List Int}(ok:LvOk p a):LeV p a a:=λi hi=>under_refl lv (ok.2 i (by rw[ok.1];exact hi))
def LeV.trans(lv:p.Lv){a b c:List Int}(oa:LvOk p a)(ob:LvOk p b)(oc:LvOk p c)(h1:LeV p a b)(h2:LeV p b c):LeV p a c:=λi hi=>under_trans lv (oa.2 i (by rw[oa.1];exact hi)) (ob.2 i (by rw[ob.1];exact hi)) (oc.2 i (by rw[oc.1];exact hi)) (h1 i hi) (h2 i hi)
def Rz.same(lv:p.Lv)(ok:LvOk p (vars p ls)){T C:List Int->Prop}(h:C (vars p ls)):Rz p ls T C (false,ls):=⟨ok,LeV.refl lv ok,λ_=>rfl,Nat.le_refl _,λh=>(by cases h),λ_ _ h _=>h,λ_=>h⟩
def Rz.comp(lv:p.Lv)(ok:LvOk p (vars p ls)){T1 C1 T2 C2:List Int->Prop}{r1 r2:Bool×List Int}(h1:Rz p ls T1 C1 r1)(h2:Rz p r1.2 T2 C2 r2):Rz p ls (λvb=>T1 vb/\T2 vb) (λvs=>C1 vs/\C2 vs) (r1.1||r2.1,r2.2):=by
 refine⟨h2.ok,LeV.trans lv ok h1.ok h2.ok h1.ge h2.ge,λh=>?_,Nat.le_trans h2.dn h1.dn,λh=>?_,λvb ob hb hT=>h2.lo vb ob (h1.lo vb ob hb hT.1) hT.2,λh=>?_⟩
 ·simp only[Bool.or_eq_false_iff]at h
  exact(h2.no h.2).trans (h1.no h.1)
 ·simp only[Bool.or_eq_true]at h
  have a1:=h1.dn;have a2:=h2.dn;rcases h with h|h
  ·have:=h1.st h;simp only;omega
  have:=h2.st h;simp only;omega
 simp only[Bool.or_eq_false_iff]at h;have:=h2.cl h.2;rw[h1.no h.1]at this;exact⟨h1.cl h.1,this⟩
def Rz.weak{T C T' C':List Int->Prop}{r:Bool×List Int}(h:Rz p ls T C r)(hT:∀vb,LvOk p vb->LeV p (vars p ls) vb->T' vb->T vb)(hC:C (vars p ls)->C' (vars p ls)):Rz p ls T' C' r:=
 ⟨h.ok,h.ge,h.no,h.dn,h.st,λvb ob hb ht=>h.lo vb ob hb (hT vb ob hb ht),λh0=>hC (h.cl h0)⟩
def vars_set(p:Prog)(ls:List Int)(hx:p.cells.length<=x)(v:Int):vars p (ls.set (x - p.cells.length) v)=(vars p ls).set x v:=by
 unfold vars;rw[List.set_append_right _ _ (by simpa using hx),List.length_map]
def vars_get(p:Prog)(ls:List Int)(hx:p.cells.length<=x):(vars p ls).getD x 0=ls.getD (x - p.cells.length) 0:=by
 unfold vars;rw[Qa,List.getElem?_append_right (by simpa using hx),List.length_map,Qa]
def vars_len(p:Prog)(ls:List Int):(vars p ls).length=p.cells.length+ls.length:=by simp[vars]
section
def rzSet_ok(lv:p.Lv)(ok:LvOk p (vars p ls)){v:Int}(hv:0<=v/\v<p.n)(hk:KindOk (vars p ls).length p.chans.length s):
  Rz p ls (λvb=>ofLocal p s=true->under p v (vb.getD s.x 0)=true) (λvs=>ofLocal p s=true->under p v (vs.getD s.x 0)=true) (rzSet p v s ls):=by
 unfold rzSet
 by_cases h3:s.kind=3/\p.cells.length<=s.x
 ·rw[if_pos h3]
  have hx:s.x<(vars p ls).length:=by rcases hk with e|e|e|e<;>omega
  have e0:=hx;rw[vars_len]at e0;have hr:=ok.2 s.x hx;have eg:=vars_get p ls h3.2;rw[<-eg];have u:=under_jn lv hr hv;have hj:=lv.jn hr hv
  split
  ·rename_i a0
   have f0:p.leq v.toNat ((vars p ls).getD s.x 0).toNat=false:=by
    cases hc:p.leq v.toNat ((vars p ls).getD s.x 0).toNat with
    |false=>rfl
    |true=>
     refine absurd ?_ a0;have h1:=jn_least lv hr hv hr (under_refl lv hr) hc;have h2:=lv.lat.anti _ _ (by omega) (by omega) h1 u.1;omega
   have g0:=above_lt lv hr hv f0;have c0:=set_ok ok s.x hj;have d0:rk p (ls.set (s.x - p.cells.length) (jn p ((vars p ls).getD s.x 0) v))<rk p ls:=by
    refine sum_set _ _ (by omega) ?_;have e:ls[s.x - p.cells.length]'(by omega)=(vars p ls).getD s.x 0:=by
     rw[eg,Qa,Qb (by omega)];rfl
    rw[e];exact g0
   have hg:∀i,i<p.cells.length+p.locals->(((vars p ls).set s.x (jn p ((vars p ls).getD s.x 0) v)).getD i 0=if s.x=i then jn p ((vars p ls).getD s.x 0) v else(vars p ls).getD i 0):=λi hi=>by
    rw[Qa,List.getElem?_set]
    by_cases b0:s.x=i
    ·rw[if_pos b0,if_pos b0,if_pos hx];rfl
    rw[if_neg b0,if_neg b0,Qa]
   refine⟨by rw[vars_set p ls h3.2];exact c0,λi hi=>?_,λh=>(by cases h),Nat.le_of_lt d0,λ_=>d0,λvb ob hb hT i hi=>?_,λh=>(by cases h)⟩
   ·simp only
    rw[vars_set p ls h3.2,hg i hi];have ri:=ok.2 i (by rw[ok.1];exact hi)
    split
    ·rename_i e;rw[<-e];exact u.1
    exact under_refl lv ri
   simp only;rw[vars_set p ls h3.2,hg i hi]
   split
   ·rename_i e
    rw[<-e];have h0:=hb s.x (by rw[e];exact hi);have i0:=hT (by unfold ofLocal;rw[decide_eq_true h3.1,decide_eq_true h3.2];rfl);exact jn_least lv hr hv (ob.2 s.x (by rw[ob.1,e];exact hi)) h0 i0
   exact hb i hi
  rename_i a0;have a0:jn p ((vars p ls).getD s.x 0) v=(vars p ls).getD s.x 0:=Decidable.of_not_not a0;refine Rz.same lv ok (λ_=>?_);have h2:=u.2;rw[a0]at h2;exact h2
 rw[if_neg h3];refine Rz.same lv ok (λhl=>?_);unfold ofLocal at hl;rw[Bool.and_eq_true,decide_eq_true_eq,decide_eq_true_eq]at hl;exact absurd hl h3
def TC(p:Prog)(d:Nat)(l:List Stmt)(u:Int)(vb:List Int):Prop:=∃u':Int,(0<=u'/\u'<p.n)/\under p u u'=true/\TyL p vb d l u'
def rzOne_ok(lv:p.Lv)(ok:LvOk p (vars p ls)){d:Nat}{u:Int}(hu:0<=u/\u<p.n)(hk:KindOk (vars p ls).length p.chans.length s)(he:ExprOk (vars p ls).length s.e)(e0:s.Fit)
  (K:List Stmt->Int->List Int->Bool×List Int) (hK:∀part,part=s.body\/part=s.other->∀(ls':List Int) (v:Int),(0<=v/\v<p.n)->LvOk p (vars p ls')->Rz p ls' (TC p d part v) (λvs=>TyL p vs d part v) (K part v ls')):
  Rz p ls (λvb=>∃u':Int,(0<=u'/\u'<p.n)/\under p u u'=true/\Ty1 p vb d s u') (λvs=>Ty1 p vs d s u) (rzOne K p u (false,ls) s):=by
 have f0:=valLv_rng lv ok he;have hv:=lv.jn hu f0;have h1:=rzSet_ok lv ok hv hk;have h2:=hK s.body (.inl rfl) _ _ hv h1.ok;have h3:=hK s.other (.inr rfl) _ _ hv h2.ok;have h4:=(h1.comp lv ok h2).comp lv ok h3;refine(show Rz p ls _ _ (rzOne K p u (false,ls) s) from by unfold rzOne;simp only[Bool.false_or];exact h4).weak (λvb ob hb hT=>?_) (λhC=>?_)
 ·obtain⟨u',hu',h0,hT⟩:=hT
  have hlen:(vars p ls).length=vb.length:=ok.1.trans ob.1.symm;have he':ExprOk vb.length s.e:=(by rw[<-hlen];exact he);have g0:=valLv_rng lv ob he';have hj':=lv.jn hu' g0;have c0:=jn_mono lv hu f0 hu' g0 h0 (val_mono lv hb ok ob he he');unfold Ty1 movesOne at hT;refine⟨⟨λhl=>?_,?_⟩,?_⟩
  ·have a0:=hl
   unfold ofLocal at a0;rw[Bool.and_eq_true,decide_eq_true_eq,decide_eq_true_eq]at a0;rw[if_pos (.inl a0.1)]at hT;have h5:=hT _ (List.mem_singleton.2 rfl) hl;unfold fitsM at h5;rw[if_neg (by simp only;omega)]at h5
   have hx:s.x<(vars p ls).length:=by rcases hk with e|e|e|e<;>omega
   exact under_trans lv hv hj' (ob.2 s.x (by omega)) c0 h5
  ·refine⟨_,hj',c0,λm hm hl=>?_⟩
   by_cases b0:s.kind=3\/s.kind=4
   ·rw[(e0.2 b0).1]at hm
    cases d<;>cases hm
   have d0:s.kind=5\/s.kind=6:=by rcases hk with e|e|e|e<;>omega
   rw[if_neg b0,if_pos d0]at hT;exact hT m (List.mem_append_left _ hm) hl
  refine⟨_,hj',c0,λm hm hl=>?_⟩
  by_cases b0:s.kind=3\/s.kind=4
  ·rw[(e0.2 b0).2]at hm
   cases d<;>cases hm
  have d0:s.kind=5\/s.kind=6:=by rcases hk with e|e|e|e<;>omega
  rw[if_neg b0,if_pos d0]at hT;exact hT m (List.mem_append_right _ hm) hl
 obtain⟨⟨c1,c2⟩,c3⟩:=hC;intro m hm hl;unfold movesOne at hm
 split at hm
 ·rename_i b0
  rw[List.mem_singleton]at hm;subst hm;have a0:=hl;unfold ofLocal at a0;rw[Bool.and_eq_true,decide_eq_true_eq,decide_eq_true_eq]at a0;unfold fitsM;rw[if_neg (by simp only at a0⊢;omega)];exact c1 hl
 split at hm
 ·rcases List.mem_append.1 hm with hm|hm
  ·exact c2 m hm hl
  exact c3 m hm hl
 cases hm
def rz_ok(lv:p.Lv):∀(d:Nat) (l:List Stmt) (u:Int) (ls:List Int),LvOk p (vars p ls)->StmtsOk (vars p ls).length p.chans.length d l->LPos d l->(0<=u/\u<p.n)->Rz p ls (TC p d l u) (λvs=>TyL p vs d l u) (rz p d l u ls)
 |0,_,_,ls,ok,_,_,_=>Rz.same lv ok (λm hm=>by cases hm)
 |d+1,[],_,ls,ok,_,_,_=>Rz.same lv ok (λm hm=>by cases hm)
 |d+1,s::l,u,ls,ok,hs,hp,hu=>by
  obtain⟨s1,s2,s3,s4⟩:=hs s (by simp);obtain⟨f1,f2,f3⟩:=hp s (by simp);have hlen:∀ls',LvOk p (vars p ls')->(vars p ls').length=(vars p ls).length:=λls' h=>h.1.trans ok.1.symm
  have h1:=rzOne_ok lv ok (d:=d) hu s1 s2 f1 (rz p d) (λpart a0 ls' v hv ok'=>by
   rcases a0 with rfl|rfl
   ·exact rz_ok lv d _ v ls' ok' (by rw[hlen ls' ok'];exact s3) f2 hv
   exact rz_ok lv d _ v ls' ok' (by rw[hlen ls' ok'];exact s4) f3 hv)
  rw[rz_cons];have h2:=rz_ok lv (d+1) l u (rzOne (rz p d) p u (false,ls) s).2 h1.ok (by rw[hlen _ h1.ok];exact λs' h'=>hs s' (by simp[h'])) (λs' h'=>hp s' (by simp[h'])) hu;refine(h1.comp lv ok h2).weak (λvb ob hb hT=>?_) (λhC=>?_)
  ·obtain⟨u',hu',b0,hT⟩:=hT
   exact⟨⟨u',hu',b0,λm hm=>hT m (List.mem_flatMap.2 ⟨s,by simp,hm⟩)⟩,⟨u',hu',b0,λm hm=>by
    obtain⟨s',a1,a2⟩:=List.mem_flatMap.1 (show m∈l.flatMap (movesOne (moves p vb d) p vb u') from hm)
    exact hT m (List.mem_flatMap.2 ⟨s',by simp[a1],a2⟩)⟩⟩
  intro m hm;obtain⟨s',a1,a2⟩:=List.mem_flatMap.1 (show m∈(s::l).flatMap (movesOne (moves p (vars p ls) d) p (vars p ls) u) from hm);rcases List.mem_cons.1 a1 with rfl|a1
  ·exact hC.1 m a2
  exact hC.2 m (List.mem_flatMap.2 ⟨s',a1,a2⟩)
def LeV.anti(lv:p.Lv){a b:List Int}(oa:LvOk p a)(ob:LvOk p b)(h1:LeV p a b)(h2:LeV p b a):a=b:=by
 refine List.ext_getElem (oa.1.trans ob.1.symm) (λi hi hj=>?_);have ra:=oa.2 i hi;have rb:=ob.2 i hj;rw[oa.1]at hi;have h3:=lv.lat.anti _ _ (by omega) (by omega) (h1 i hi) (h2 i hi);rw[Qa,Qb (by rw[oa.1];exact hi)]at ra h3;rw[Qa,Qb hj]at rb h3;simp only[Option.getD_some]at ra rb h3;omega
def found_closed(lv:p.Lv)(ho:p.Ok):TyL p (found p) 4 p.body (low p):=λm hm hl=>by
 have hd:=raise_done lv ho 25 (start p) (Jo lv) (rank_le lv ho (Jo lv));unfold rise at hd
 split at hd
 ·cases hd
 rename_i hn;have:=List.find?_eq_none.1 hn m hm;rw[hl]at this
 have h9:fitsM p (raise p 25 (start p)) m=true:=by simpa using this
 exact h9
def rz_end(lv:p.Lv)(ho:p.Ok)(ok:LvOk p (vars p ls))(h1:LeV p (start p) (vars p ls))(h2:LeV p (vars p ls) (found p))(h3:TyL p (vars p ls) 4 p.body (low p)):vars p ls=found p/\ls=(found p).drop p.cells.length:=by
 have e:vars p ls=found p:=LeV.anti lv ok (found_ok lv ho).1 h2 (raise_low lv ho ok h3 25 (start p) (Jo lv) h1);refine⟨e,?_⟩;rw[<-e];unfold vars;rw[List.drop_append_of_le_length (by simp),List.drop_of_length_le (by simp),List.nil_append]
def rz_next(lv:p.Lv)(ho:p.Ok)(hp:LPos 4 p.body)(ok:LvOk p (vars p ls))(h1:LeV p (start p) (vars p ls))(h2:LeV p (vars p ls) (found p)){r:Bool×List Int}(hr:rz p 4 p.body (low p) ls=r):
  LvOk p (vars p r.2)/\LeV p (start p) (vars p r.2)/\LeV p (vars p r.2) (found p)/\(r.1=true->rk p r.2<rk p ls)/\(r.1=false->r.2=(found p).drop p.cells.length):=by
 have h:=rz_ok lv 4 p.body (low p) ls ok (by rw[ok.1];exact ho.body) hp lv.low;rw[hr]at h;have of:=(found_ok lv ho).1;have h4:=h.lo (found p) of h2 ⟨low p,lv.low,under_refl lv lv.low,found_closed lv ho⟩;have h5:=LeV.trans lv (Jo lv) ok h.ok h1 h.ge;refine⟨h.ok,h5,h4,h.st,λh0=>?_⟩;have e:=h.no h0;rw[e];exact(rz_end lv ho ok h1 h2 (h.cl h0)).2
end
end Fl
open Go.RowKit
section
def zg0(h:zy2 w Pb Lq rb clv hv bv p)(ha:0<=a/\a<p.n)(hb:0<=b/\b<p.n):
  Cq 59 #[Pq Pb,Iq a,Iq b] w λe w'=>e=.returned (Iq (Fl.jn p a b))/\w'=w:=by
 obtain⟨x,rfl⟩:∃x:Nat,a=(x:Int):=⟨a.toNat,by omega⟩;obtain⟨y,rfl⟩:∃y:Nat,b=(y:Int):=⟨b.toNat,by omega⟩;exact zfw h.lq Pb x y h.lv.n6 (by omega) (by omega) h.p0 h.p1
def zv4(h:zy2 w Pb Lq rb clv hv bv p)(hl:Zw w.heap.size w lv ls)(na:Option Addr)(nn nc:Nat)(h4:ls.length<=4)(ok:Fl.LvOk p (Fl.vars p ls))(ho:Fl.ExprOk (Fl.vars p ls).length e):
  Cq 58 #[Pq Pb,.agg #[lv,.slice na nn nc],exV e] w λr w'=>r=.returned (Iq (Fl.valLv p (Fl.vars p ls) e))/\Bq w w':=by
 obtain⟨la,lc,rfl,-⟩:=id hl;have hi:=zwz ho;have HA:Hid (∀W,Bq w W->∀a:Fl.Atom,zy5 (Fl.vars p ls) a->Cq 89 #[Pq Pb,.agg #[.slice la ls.length lc,.slice na nn nc],.agg #[.bool a.var,Iq a.v]] W λe w'=>e=.returned (Iq (Fl.atomLv p (Fl.vars p ls) a))/\Bq W w'):=λW hW a ha=>zr8 (h.below hW) ((hl.below hW).mono hW.size) na nn nc h4 ha;have HJ:Hid (∀W,Bq w W->0<=e.op->Cq 59 #[Pq Pb,Iq (Fl.atomLv p (Fl.vars p ls) e.a),Iq (Fl.atomLv p (Fl.vars p ls) e.b)] W λe' w'=>e'=.returned (Iq (Fl.jn p (Fl.atomLv p (Fl.vars p ls) e.a) (Fl.atomLv p (Fl.vars p ls) e.b)))/\w'=W):=λW hW h0=>zg0 (h.below hW) (Fl.atomLv_rng h.lv ok hi.1) (Fl.atomLv_rng h.lv ok (hi.2 h0));have f0:Hid (∀o o',Bq w ((w.alloc o).alloc o')):=λo o'=>bA.alloc (by simp) _;have HR:Hid (Fl.valLv p (Fl.vars p ls) e=if e.op<0 then Fl.atomLv p (Fl.vars p ls) e.a else Fl.jn p (Fl.atomLv p (Fl.vars p ls) e.a) (Fl.atomLv p (Fl.vars p ls) e.b)):=rfl;generalize Fl.valLv p (Fl.vars p ls) e=res at*;unfold exV;generalize ls.length=n at*;have HI:=Zz hi;generalize Fl.vars p ls=vs at*;clear h hl ho ok hi
 go_enter func58,ntmps58
 go_wp2_with fail
 refine(HA.out _ (f0.out _ _) e.a HI.out.1).mono ?_;obtain⟨W0,a0⟩:=nmE ((w.alloc (.cells #[.slice la n lc,.slice na nn nc] 30)).alloc (.cells #[Iq e.op,.bool e.a.var,Iq e.a.v,.bool e.b.var,Iq e.b.v] 117))
 have g0:Hid (At W0 [((Aq w.heap.size 0),.slice la n lc),((Aq w.heap.size 1),.slice na nn nc),((Aq (w.heap.size+1) 0),Iq e.op),((Aq (w.heap.size+1) 3),.bool e.b.var),((Aq (w.heap.size+1) 4),Iq e.b.v)]):=by rw[a0];exact⟨⟨by simp;omega,by simp⟩,⟨by simp;omega,by simp⟩,⟨by simp,by simp⟩,⟨by simp,by simp⟩,⟨by simp,by simp⟩,trivial⟩
 have d0:Hid (Bq w W0):=by show Below _ _ _;rw[a0];exact f0.out _ _
 rw[<-a0];rintro e1 W1 ⟨rfl,e0⟩;have b0:Hid (Bq w W1):=d0.out.trans (e0.mono d0.out.size);obtain⟨⟨-,c0⟩,⟨-,c1⟩,⟨-,c2⟩,⟨-,c3⟩,⟨-,c4⟩,-⟩:=g0.out.below e0;clear a0 e0 g0 d0
 by_cases i0:e.op<0
 ·have E:Hid (res=Fl.atomLv p vs e.a):=HR.out.trans (if_pos i0)
  clear HA HJ HI HR;go_wp2;go_ret;exact⟨by rw[E.out];rfl,b0.out⟩
 have E:Hid (res=Fl.jn p (Fl.atomLv p vs e.a) (Fl.atomLv p vs e.b)):=HR.out.trans (if_neg i0)
 have h0:0<=e.op:=by omega
 clear HR
 go_wp2_with fail
 refine(HA.out _ b0.out e.b (HI.out.2 h0)).mono ?_;rintro e2 W2 ⟨rfl,j0⟩;have k0:Hid (Bq w W2):=b0.out.trans (j0.mono b0.out.size);clear j0 HA c0 c1 c2 c3 c4
 go_wp2_with fail
 refine(HJ.out _ k0.out h0).mono ?_;rintro e3 W3 ⟨rfl,rfl⟩;clear HJ HI;go_wp2;go_ret;exact⟨by rw[E.out];rfl,k0.out⟩
end
structure Jj(w0 w:World)(Pb Lq:Nat)(rb:Nat->Nat)(clv hv bv:Value)(p:Fl.Prog)(lv:Value)(ls:List Int):Prop where
 pr:zy2 w0 Pb Lq rb clv hv bv p
 be:Bq w0 w
 ow:w.ownsRow w0.heap.size 3 1 lv ls.length (ls.map (Value.int .i64))
 ok:Fl.LvOk p (Fl.vars p ls)
structure Yk(w w':World)(lv:Value):Prop where
 os:w'.os=w.os
 tp:w'.tape=w.tape
 ou:w'.output=w.output
 sz:w.heap.size<=w'.heap.size
 bl:∀c,c<w.heap.size->some c≠lv.ownBlock->w'.heap[c]?=w.heap[c]?
section
variable{w'':World}
def Yk.of_below(h:Bq w w'):Yk w w' lv:=⟨h.os,h.tape,h.output,h.size,λc hc _=>h.block c hc⟩
def Yk.trans(h:Yk w w' lv)(h':Yk w' w'' lv):Yk w w'' lv:=⟨h'.os.trans h.os,h'.tp.trans h.tp,h'.ou.trans h.ou,Nat.le_trans h.sz h'.sz,λc h1 h2=>(h'.bl c (Qj h1 h.sz) h2).trans (h.bl c h1 h2)⟩
def Jj.below(h:Jj w0 w Pb Lq rb clv hv bv p lv ls)(hb:Bq w w'):Jj w0 w' Pb Lq rb clv hv bv p lv ls:=⟨h.pr,h.be.trans (hb.mono h.be.size),Je h.ow hb,h.ok⟩
def Jj.pin(h:Jj w0 w Pb Lq rb clv hv bv p lv ls):zy2 w Pb Lq rb clv hv bv p:=h.pr.below h.be
def Jj.ints(h:Jj w0 w Pb Lq rb clv hv bv p lv ls):Zw w.heap.size w lv ls:=Zw.of_own h.ow
def Jj.len(h:Jj w0 w Pb Lq rb clv hv bv p lv ls):ls.length=p.locals/\ls.length<=4:=by
 have h1:=h.ok.1;have h2:=h.pr.ok.lo;rw[Fl.vars_len]at h1;omega
def Jj.cell(h:Jj w0 w Pb Lq rb clv hv bv p lv ls){i:Nat}(hi:i<ls.length):∃g c,lv=.slice (some (Aq g 0)) ls.length c/\ls.length<=c/\w0.heap.size<=g/\g<w.heap.size/\w.cell? (Aq g i)=some (Iq (ls.getD i 0))/\w.frozen? (Aq g i)=false/\
  ∀v:Int,Fl.LvOk p (Fl.vars p (ls.set i v))->Jj w0 (w.setCell (Aq g i) (Iq v)) Pb Lq rb clv hv bv p lv (ls.set i v)/\Yk w (w.setCell (Aq g i) (Iq v)) lv:=by
 obtain⟨h1,h2⟩:=id h.ow;rcases h2 with⟨-,h0⟩|⟨g,c,cur,rfl,hb,hg,a0,b0,c0,ht⟩
 ·omega
 have d0:g<w.heap.size:=(Array.getElem?_eq_some_iff.1 hg).1;have hc:w.cell? (Aq g i)=some (Iq (ls.getD i 0)):=by
  have h3:=h.ow.cells (g:=g) rfl i (Iq (ls.getD i 0)) (by simp[Qa,hi])
  have h4:((Aq g 0):Addr).add i=(Aq g i):=by unfold Addr.add;split<;>simp_all
  rw[h4]at h3;exact h3
 refine⟨g,c,rfl,a0,hb,d0,hc,by simp[World.frozen?,hg],λv ok=>⟨⟨h.pr,h.be.setCell hb _,?_,ok⟩,rfl,rfl,rfl,by rw[Zy];exact Nat.le_refl _,λk _ hk=>Zx _ _ _ _ _ (λe=>hk (by rw[e];rfl))⟩⟩;refine⟨by simp,.inr ⟨g,c,cur.setIfInBounds i (Iq v),by rw[List.length_set],hb,zz0 hg i _,by rw[List.length_set];exact a0,b0,by simpa using c0,?_⟩⟩;rw[List.length_set,Array.toList_setIfInBounds,List.take_set,ht,List.map_set]
end
def zn4(w0 w:World)(Pb Lq:Nat)(rb:Nat->Nat)(clv hv bv:Value)(p:Fl.Prog)(lv:Value)(r:Bool×List Int)(e:Ending)(w':World):Prop:=e=.returned (.bool r.1)/\Jj w0 w' Pb Lq rb clv hv bv p lv r.2/\Yk w w' lv
def yz4(w0:World)(Pb Lq:Nat)(rb:Nat->Nat)(clv hv bv:Value)(p:Fl.Prog)(lv:Value)(d:Nat):Prop:=
 ∀(W:World) (ls:List Int) (v:Value) (l:List Fl.Stmt) (u:Int),Jj w0 W Pb Lq rb clv hv bv p lv ls->Zf d (λb=>b<w0.heap.size) w0 v l->Fl.StmtsOk (Fl.vars p ls).length p.chans.length d l->Fl.LPos d l->(0<=u/\u<p.n)->
  Cq 30 #[Pq Pb,.agg #[lv,Zq],v,Iq u] W (zn4 w0 W Pb Lq rb clv hv bv p lv (Fl.rz p d l u ls))
def yny{α β:Type}(f:β->α->β)(b:β){l:List α}{k:Nat}(h:k<l.length)(x:α)(hx:l.getD k x=l[k]):(l.take (k+1)).foldl f b=f ((l.take k).foldl f b) (l.getD k x):=by
 rw[List.take_succ_eq_append_getElem h,List.foldl_append,hx];rfl
def At.step{W W':World}{lv:Value}(h:Yk W W' lv):∀{l:List (Addr×Value)},(∀q∈l,some q.1.block≠lv.ownBlock)->At W l->At W' l
 |[],_,_=>trivial
 |q::l,hl,⟨⟨h1,h2⟩,h3⟩=>⟨⟨Qj h1 h.sz,(Qc (a:=q.1) (h.bl _ h1 (hl q (by simp)))).trans h2⟩,At.step h (λq hq=>hl q (by simp[hq])) h3⟩
section
def yx6(d:Nat)(IH:yz4 w0 Pb Lq rb clv hv bv p lv d):yz4 w0 Pb Lq rb clv hv bv p lv (d+1):=by
 intro w ls v l u hw hs ho hp hu;obtain⟨sa,sc,rfl,s1,s2,s3,s4⟩:=hs;have z0:=Zz IH;have HW:=Zz hw;have HU:=Zz hu;have o1:Hid (∀ls',Fl.LvOk p (Fl.vars p ls')->(Fl.vars p ls').length=(Fl.vars p ls).length):=λls' h=>h.1.trans hw.ok.1.symm;obtain⟨n,hn⟩:=nmE (l.length)
 have R1:(n:Int)<=16:=by omega
 have m2:(n:Int)<=(sc:Int):=by omega
 have S1:Hid (∀k,k<n->∃b bo oo,sa=some (Aq b 0)/\b<w0.heap.size/\(∀j,j<10->w0.cell? (Aq b (k*10+j))=some ((Xh (l.getD k noS) bo oo).getD j undef))/\Zf d (λb=>b<w0.heap.size) w0 bo (l.getD k noS).body/\Zf d (λb=>b<w0.heap.size) w0 oo (l.getD k noS).other/\Fl.KindOk (Fl.vars p ls).length p.chans.length (l.getD k noS)/\Fl.ExprOk (Fl.vars p ls).length (l.getD k noS).e/\Fl.StmtsOk (Fl.vars p ls).length p.chans.length d (l.getD k noS).body/\Fl.StmtsOk (Fl.vars p ls).length p.chans.length d (l.getD k noS).other/\(l.getD k noS).Fit/\Fl.LPos d (l.getD k noS).body/\Fl.LPos d (l.getD k noS).other):=λk hk=>by
  have hk':k<l.length:=(by omega);obtain⟨b,e,hb,hc⟩:=s4 (by intro e;rw[e]at hk';cases hk');obtain⟨bo,oo,g1,g2,g3⟩:=hc k hk';have hm:l.getD k noS∈l:=(by rw[Qa,Qb hk'];exact List.getElem_mem hk');obtain⟨e1,e2,e3,e4⟩:=ho _ hm;obtain⟨f1,f2,f3⟩:=hp _ hm;exact⟨b,bo,oo,e,hb,g1,g2,g3,e1,e2,e3,e4,f1,f2,f3⟩
 have T1:Hid (∀k,k<n->(l.take (k+1)).foldl (Fl.rzOne (Fl.rz p d) p u) (false,ls)=Fl.rzOne (Fl.rz p d) p u ((l.take k).foldl (Fl.rzOne (Fl.rz p d) p u) (false,ls)) (l.getD k noS)):=λk hk=>yny _ _ (by omega) _ (by rw[Qa,Qb (by omega)];rfl)
 have p1:Hid (Fl.rz p (d+1) l u ls=(l.take n).foldl (Fl.rzOne (Fl.rz p d) p u) (false,ls)):=by show _=_;rw[hn,List.take_length];rfl
 generalize Fl.rz p (d+1) l u ls=res at*
 obtain⟨la,ln,lc,rfl⟩:∃a b c,lv=.slice a b c:=by obtain⟨a,c,e,-⟩:=hw.ints;exact⟨a,_,c,e⟩
 obtain⟨ca,cc,C1,u0⟩:∃ca cc,clv=.slice ca p.cells.length cc/\p.cells.length<=cc:=by obtain⟨a,c,e,h1,-⟩:=hw.pr.ci;rw[List.length_map]at e h1;exact⟨a,c,e,h1⟩
 rw[<-hn];obtain⟨nc,K0⟩:=nmE (p.cells.length)
 have n2:(nc:Int)<=6:=by have:=hw.pr.ok.ce;omega
 have G0:=Zz K0
 have U1:Hid (clv=.slice ca nc cc):=by show _=_;rw[C1,K0]
 clear hw hu ho hp s1 s2 s3 s4 IH hn u0 C1 K0
 go_enter func30,ntmps30
 go_wp2_with fail
 obtain⟨W0,N0⟩:=nmE (w.alloc (.cells #[.slice la ln lc,Zq] 30));rw[<-N0]
 have D1:w.heap.size<W0.heap.size:=by rw[N0];simp
 have E1:Hid (Bq w W0):=by show Below _ _ _;rw[N0];exact bA
 have V1:Hid (∀V,Yk W0 V (.slice la ln lc)->V.cell? (Aq w.heap.size 0)=some (.slice la ln lc)/\V.cell? (Aq w.heap.size 1)=some Zq):=λV hV=>by
  have q:V.heap[w.heap.size]?=W0.heap[w.heap.size]?:=hV.bl _ D1 (λhh=>by have:=(HW.out.ow.lt _ hh.symm).2;omega);exact⟨(Qc (a:=(Aq w.heap.size 0)) q).trans (by rw[N0];simp),(Qc (a:=(Aq w.heap.size 1)) q).trans (by rw[N0];simp)⟩
 clear N0
 go_loopw [9,10] (λm i wr=>∃(k:Nat) (q:Bool×List Int),k<=n/\i=Iq k/\(l.take k).foldl (Fl.rzOne (Fl.rz p d) p u) (false,ls)=q/\m=.bool q.1/\Jj w0 wr Pb Lq rb clv hv bv p (.slice la ln lc) q.2/\Yk W0 wr (.slice la ln lc)) (λ_ i _=>n - (intOf i).toNat)
 case atStart=>exact⟨0,(false,ls),Nat.zero_le _,rfl,rfl,rfl,HW.out.below E1.out,Yk.of_below (Below.refl _ _)⟩
 case round=>
  obtain⟨k,⟨m,cur⟩,hk,rfl,hq,rfl,F1,hst⟩:=hrel;have p0:=Zz F1;have Q0:=Zz hst;have HQ:=Zz hq;clear F1 hst hq
  by_cases G1:k<n
  ·have X1:(k:Int)<(n:Int):=by omega
   obtain⟨b,bo,oo,rfl,hbz,u0,U0,V0,k1,k2,k3,k4,f1,f2,f3⟩:=S1.out k G1;have HF:=T1.out k G1;rw[HQ.out]at HF;obtain⟨s,hs⟩:=nmE (l.getD k noS);rw[<-hs]at u0 U0 V0 k1 k2 k3 k4 f1 f2 f3 HF;obtain⟨ba,bn,bc,rfl⟩:=U0.slice;obtain⟨oa,on,oc,rfl⟩:=V0.slice;have X0:=p0.out.be.size;have qq:∀j,wr.cell? (Aq b j)=w0.cell? (Aq b j):=λj=>p0.out.be.cell (p:=(Aq b j)) hbz;have c0:wr.cell? (Aq b (k*10))=some (Iq s.kind):=(qq _).trans (u0 0 (by omega));have c1:wr.cell? (Aq b (k*10+1))=some (Iq s.x):=(qq _).trans (u0 1 (by omega));have c2:wr.cell? (Aq b (k*10+2))=some (Iq s.line):=(qq _).trans (u0 2 (by omega));have c3:wr.cell? (Aq b (k*10+3))=some (Iq s.e.op):=(qq _).trans (u0 3 (by omega));have c4:wr.cell? (Aq b (k*10+4))=some (.bool s.e.a.var):=(qq _).trans (u0 4 (by omega));have c5:wr.cell? (Aq b (k*10+5))=some (Iq s.e.a.v):=(qq _).trans (u0 5 (by omega));have c6:wr.cell? (Aq b (k*10+6))=some (.bool s.e.b.var):=(qq _).trans (u0 6 (by omega));have c7:wr.cell? (Aq b (k*10+7))=some (Iq s.e.b.v):=(qq _).trans (u0 7 (by omega));have c8:wr.cell? (Aq b (k*10+8))=some (.slice ba bn bc):=(qq _).trans (u0 8 (by omega));have c9:wr.cell? (Aq b (k*10+9))=some (.slice oa on oc):=(qq _).trans (u0 9 (by omega));have Y0:=p0.out.ok;have hlen:=o1.out cur Y0;have k2':Fl.ExprOk (Fl.vars p cur).length s.e:=(by rw[hlen];exact k2);have q1:=Fl.valLv_rng p0.out.pr.lv Y0 k2';have H1:=p0.out.pr.lv.jn HU.out q1;have I1:Hid (∀V,Bq wr V->Cq 58 #[Pq Pb,.agg #[.slice la ln lc,Zq],.agg #[Iq s.e.op,.bool s.e.a.var,Iq s.e.a.v,.bool s.e.b.var,Iq s.e.b.v]] V λe w'=>e=.returned (Iq (Fl.valLv p (Fl.vars p cur) s.e))/\Bq V w'):=λV hV=>zv4 (p0.out.below hV).pin (p0.out.below hV).ints none 0 0 (p0.out.len).2 Y0 k2';have J1:Hid (∀V,Bq w0 V->∀x y:Int,(0<=x/\x<p.n)->(0<=y/\y<p.n)->Cq 59 #[Pq Pb,Iq x,Iq y] V λe w'=>e=.returned (Iq (Fl.jn p x y))/\w'=V):=λV hV x y hx hy=>zg0 (p0.out.pr.below hV) hx hy;have h0:Hid (Fl.KindOk (Fl.vars p cur).length p.chans.length s/\Fl.StmtsOk (Fl.vars p cur).length p.chans.length d s.body/\Fl.StmtsOk (Fl.vars p cur).length p.chans.length d s.other/\Fl.LPos d s.body/\Fl.LPos d s.other/\Zf d (λb=>b<w0.heap.size) w0 (.slice ba bn bc) s.body/\Zf d (λb=>b<w0.heap.size) w0 (.slice oa on oc) s.other):=(by rw[hlen];exact⟨k1,k3,k4,f2,f3,U0,V0⟩);have A0:Hid ((0<=Fl.valLv p (Fl.vars p cur) s.e/\Fl.valLv p (Fl.vars p cur) s.e<p.n)/\(0<=Fl.jn p u (Fl.valLv p (Fl.vars p cur) s.e)/\Fl.jn p u (Fl.valLv p (Fl.vars p cur) s.e)<p.n)):=⟨q1,H1⟩;have t1:Hid ((l.take (k+1)).foldl (Fl.rzOne (Fl.rz p d) p u) (false,ls)=((m||(Fl.rzSet p (Fl.jn p u (Fl.valLv p (Fl.vars p cur) s.e)) s cur).1||(Fl.rz p d s.body (Fl.jn p u (Fl.valLv p (Fl.vars p cur) s.e)) (Fl.rzSet p (Fl.jn p u (Fl.valLv p (Fl.vars p cur) s.e)) s cur).2).1||(Fl.rz p d s.other (Fl.jn p u (Fl.valLv p (Fl.vars p cur) s.e)) (Fl.rz p d s.body (Fl.jn p u (Fl.valLv p (Fl.vars p cur) s.e)) (Fl.rzSet p (Fl.jn p u (Fl.valLv p (Fl.vars p cur) s.e)) s cur).2).2).1),(Fl.rz p d s.other (Fl.jn p u (Fl.valLv p (Fl.vars p cur) s.e)) (Fl.rz p d s.body (Fl.jn p u (Fl.valLv p (Fl.vars p cur) s.e)) (Fl.rzSet p (Fl.jn p u (Fl.valLv p (Fl.vars p cur) s.e)) s cur).2).2).2)):=id HF
   have v0:w.heap.size<wr.heap.size:=Qj D1 Q0.out.sz;have o2:b<wr.heap.size:=Qj hbz X0;have q2:Pb<wr.heap.size:=Qj p0.out.pr.hz X0;generalize Fl.valLv p (Fl.vars p cur) s.e=ev at*;generalize hvv:Fl.jn p u ev=vv at t1 A0⊢;have Y1:=Zz hvv;clear hvv;clear u0 U0 V0 k1 k2 k3 k4 f1 f2 f3 HF Y0 hlen k2' q1 H1 qq hs;obtain⟨x0,x1⟩:=V1.out wr Q0.out
   go_wp2_with fail
   obtain⟨W1,Z0⟩:=nmE (wr.alloc (.cells #[Iq s.kind,Iq s.x,Iq s.line,Iq s.e.op,.bool s.e.a.var,Iq s.e.a.v,.bool s.e.b.var,Iq s.e.b.v,.slice ba bn bc,.slice oa on oc] 119));rw[<-Z0];have H0:Hid (Bq wr W1):=(by show Below _ _ _;rw[Z0];exact bA)
   have K1:Hid (∀V,Bq w0 V->V.cell? (Aq Pb 2)=some (.slice ca nc cc)):=λV hV=>by rw[<-U1.out];exact(p0.out.pr.below hV).p2
   have L1:Hid (At W1 [((Aq wr.heap.size 0),Iq s.kind),((Aq wr.heap.size 1),Iq s.x),((Aq wr.heap.size 8),.slice ba bn bc),((Aq wr.heap.size 9),.slice oa on oc),((Aq w.heap.size 0),.slice la ln lc),((Aq w.heap.size 1),Zq)]):=by
    have y0:=(H0.out.cell (p:=(Aq w.heap.size 0)) v0).trans x0;have y1:=(H0.out.cell (p:=(Aq w.heap.size 1)) v0).trans x1;refine⟨⟨?_,?_⟩,⟨?_,?_⟩,⟨?_,?_⟩,⟨?_,?_⟩,⟨Qj v0 H0.out.size,y0⟩,⟨Qj v0 H0.out.size,y1⟩,trivial⟩
    all_goals rw[Z0];simp
   clear Z0 c0 c1 c2 c3 c4 c5 c6 c7 c8 c9 x0 x1;refine(I1.out _ H0.out).mono ?_;rintro e1 W2 ⟨rfl,u1⟩;have v1:Hid _:=L1.out.below u1;have d1:Hid (Bq wr W2):=H0.out.trans (u1.mono H0.out.size);clear u1 L1 H0 I1;have i1:Hid (Bq w0 W2):=p0.out.be.trans (d1.out.mono X0)
   go_wp2_with fail
   refine(J1.out _ i1.out u ev HU.out A0.out.1).mono ?_;rintro e2 W ⟨rfl,rfl⟩;rw[Y1.out];have q0:Hid (Jj w0 W Pb Lq rb clv hv bv p (.slice la ln lc) cur):=p0.out.below d1.out;have n0:Hid (Yk W0 W (.slice la ln lc)):=Q0.out.trans (Yk.of_below d1.out)
   have j1:Hid (∀c,w.heap.size<=c->some c≠(Value.slice la ln lc).ownBlock):=λc hc hh=>by have:=(HW.out.ow.lt c hh.symm).2;omega
   obtain⟨⟨-,a0⟩,⟨-,a1⟩,⟨-,a8⟩,⟨-,a9⟩,⟨-,y0⟩,⟨-,y1⟩,-⟩:=v1.out;have pc:=K1.out W i1.out;clear K1 p0 Q0 d1 X0
   have O0:Hid (∀(f:Bool) (a2:List Int),Fl.rzSet p vv s cur=(f,a2)->(l.take (k+1)).foldl (Fl.rzOne (Fl.rz p d) p u) (false,ls)=((m||f||(Fl.rz p d s.body vv a2).1||(Fl.rz p d s.other vv (Fl.rz p d s.body vv a2).2).1),(Fl.rz p d s.other vv (Fl.rz p d s.body vv a2).2).2)):=λf a2 hq=>by rw[t1.out,hq]
   have o0:=Zz q0.out.ok
   have C0:Hid (∀V,Yk W V (.slice la ln lc)->At V [((Aq wr.heap.size 8),.slice ba bn bc),((Aq wr.heap.size 9),.slice oa on oc),((Aq w.heap.size 0),.slice la ln lc),((Aq w.heap.size 1),Zq)]):=λV hV=>At.step hV (λq hq=>by
    simp only[List.mem_cons,List.not_mem_nil,or_false]at hq;rcases hq with rfl|rfl|rfl|rfl
    ·exact j1.out wr.heap.size (Nat.le_of_lt v0)
    ·exact j1.out wr.heap.size (Nat.le_of_lt v0)
    ·exact j1.out w.heap.size (Nat.le_refl _)
    exact j1.out w.heap.size (Nat.le_refl _)) (by obtain⟨-,-,q8,q9,r0,r1,-⟩:=v1.out;exact⟨q8,q9,r0,r1,trivial⟩)
   clear t1 v1
   by_cases L0:s.kind=3/\nc<=s.x
   ·have R0:((s.kind:Int)==3)=true:=by rw[L0.1];rfl
    have M1:(nc:Int)<=(s.x:Int):=(by omega);obtain⟨i,hi⟩:=nmE (s.x - nc);have z1:(s.x:Int) - (nc:Int)=(i:Int):=(by omega)
    have l1:s.x<(Fl.vars p cur).length:=by rcases h0.out.1 with e|e|e|e<;>omega
    have N1:i<cur.length:=(by rw[Fl.vars_len,<-G0.out]at l1;omega);have Z1:(s.x:Int)<11:=by
     have h1:=q0.out.len.2;have h2:=q0.out.pr.ok.ce;rw[Fl.vars_len]at l1;omega
    have t2:(i:Int)<11:=(by omega);have E0:Hid (i=s.x - nc/\s.kind=3/\nc<=s.x/\s.x<(Fl.vars p cur).length):=⟨hi,L0.1,L0.2,l1⟩;clear hi L0 l1
    go_wp2_with fail
    refine Uv [(3,40)] (by kernel_rfl) (by kernel_rfl) (by kernel_rfl) (λops hG=>?_);have g1:=hG (3,40) (by simp);simp only at g1;clear hG
    iterate 13 still_step
    refine wpStill_nil ?_;clear g1 ops
    go_wp2_with fail
    refine Uv [] (by kernel_rfl) (by kernel_rfl) (by kernel_rfl) (λops _=>?_)
    iterate 9 still_step
    refine wpStill_nil ?_;obtain⟨WD,A1⟩:=nmE (W.drew.drew);have I0:Hid (Bq W WD):=(by rw[A1];exact dA.drew);rw[<-A1];clear A1 a0 a1 a8 a9 y0 y1 pc z1 M1 Z1;have s0:Hid (Jj w0 WD Pb Lq rb clv hv bv p (.slice la ln lc) cur):=q0.out.below I0.out;obtain⟨g,c,e,-,-,-,J0,O1,S0⟩:=s0.out.cell N1;obtain⟨-,-,⟨-,y0⟩,⟨-,y1⟩,-⟩:=C0.out WD (Yk.of_below I0.out);injection e with e1 e2 e3;subst e1;have u2:(i:Int)<(ln:Int):=(by omega);have F0:=s0.out.ok.2 s.x E0.out.2.2.2;rw[Fl.vars_get p cur (by rw[<-G0.out];exact E0.out.2.2.1),<-G0.out,<-E0.out.1]at F0;have M0:=Zz S0;have T0:Hid (Fl.rzSet p vv s cur=if Fl.jn p (cur.getD i 0) vv≠cur.getD i 0 then(true,cur.set i (Fl.jn p (cur.getD i 0) vv)) else(false,cur)):=by
     show _=_;unfold Fl.rzSet;rw[if_pos ⟨E0.out.2.1,by rw[<-G0.out];exact E0.out.2.2.1⟩,<-G0.out,<-E0.out.1]
    have d2:Hid (∀v:Int,(0<=v/\v<p.n)->Fl.LvOk p (Fl.vars p (cur.set i v))):=λv hv=>by
     rw[E0.out.1,G0.out,Fl.vars_set p cur (by rw[<-G0.out];exact E0.out.2.2.1)];exact Fl.set_ok s0.out.ok _ hv
    generalize cur.getD i 0=old at*;have P1:=Zz (J1.out WD (i1.out.trans (I0.out.mono i1.out.size)) old vv F0 A0.out.2);have m1:=Zz (s0.out.pr.lv.jn F0 A0.out.2);clear S0 e2 e3 F0 N1
    go_wp2_with fail
    refine P1.out.mono ?_;rintro e4 W9 ⟨rfl,rfl⟩;obtain⟨up,Q1⟩:=nmE (Fl.jn p old vv);rw[<-Q1]at T0 m1⊢;clear Q1 P1 q0
    by_cases P0:up=old
    ·have B1:(up !=old)=false:=by rw[P0];simp
     have m0:Hid ((l.take (k+1)).foldl (Fl.rzOne (Fl.rz p d) p u) (false,ls)=((m||(Fl.rz p d s.body vv cur).1||(Fl.rz p d s.other vv (Fl.rz p d s.body vv cur).2).1),(Fl.rz p d s.other vv (Fl.rz p d s.body vv cur).2).2)):=(by show _=_;rw[O0.out false cur (by rw[T0.out,if_neg (by simpa using P0)]),Bool.or_false]);have b0:=Zz s0.out;have i0:Hid (Yk W W9 (.slice (some (Aq g 0)) ln lc)):=Yk.of_below I0.out;obtain⟨⟨-,z8⟩,-⟩:=C0.out W9 i0.out;clear s0 I0 T0 O0 M0 m1 P0
     go_wp2_with fail
     obtain⟨W3,B0⟩:=nmE (W9);obtain⟨a2,D0⟩:=nmE (cur);rw[<-B0,<-D0]at b0;rw[<-B0]at i0⊢;rw[<-D0]at m0;clear y0 y1 z8 J0 O1 B0 D0 E0;refine(z0.out W3 a2 (.slice ba bn bc) s.body vv b0.out h0.out.2.2.2.2.2.1 (by rw[b0.out.ok.1,<-o0.out.1];exact h0.out.2.1) h0.out.2.2.2.1 A0.out.2).mono ?_;rintro e5 W4 ⟨rfl,d0,j0⟩;have e0:=Zz (i0.out.trans j0);generalize Fl.rz p d s.body vv a2=r1 at d0 m0⊢;have f0:=Zz d0;obtain⟨-,⟨-,z9⟩,⟨-,y0⟩,⟨-,y1⟩,-⟩:=C0.out W4 e0.out;clear d0 j0 b0 i0
     go_wp2_with fail
     refine(z0.out W4 r1.2 (.slice oa on oc) s.other vv f0.out h0.out.2.2.2.2.2.2 (by rw[f0.out.ok.1,<-o0.out.1];exact h0.out.2.2.1) h0.out.2.2.2.2.1 A0.out.2).mono ?_;rintro e6 W5 ⟨rfl,g0,k0⟩;have t0:=Zz ((n0.out.trans e0.out).trans k0);generalize Fl.rz p d s.other vv r1.2=r2 at g0 m0⊢;have l0:=Zz g0;obtain⟨b1,s1⟩:=r1;obtain⟨b2,s2⟩:=r2;simp only at m0 l0;clear g0 k0 f0 e0 z9 y0 y1 C0 h0 z0 n0
     cases m<;>cases b1<;>cases b2
     all_goals
      go_wp2
      go_roundw
      case rel=>exact⟨k+1,(_,_),by omega,by go_num,m0.out,rfl,l0.out,t0.out⟩
      case measure=>simp[intOf];omega
    have B1:(up !=old)=true:=(by rw[bne_iff_ne];exact P0);obtain⟨a2,D0⟩:=nmE (cur.set i up);have m0:Hid ((l.take (k+1)).foldl (Fl.rzOne (Fl.rz p d) p u) (false,ls)=((true||(Fl.rz p d s.body vv a2).1||(Fl.rz p d s.other vv (Fl.rz p d s.body vv a2).2).1),(Fl.rz p d s.other vv (Fl.rz p d s.body vv a2).2).2)):=(by show _=_;rw[O0.out true a2 (by rw[T0.out,if_pos (by simpa using P0),D0]),Bool.or_true]);have h9:=M0.out up (d2.out up m1.out);have b0:=Zz h9.1;have i0:Hid (Yk W (W9.setCell (Aq g i) (Iq up)) (.slice (some (Aq g 0)) ln lc)):=(Yk.of_below I0.out).trans h9.2;obtain⟨⟨-,z8⟩,-⟩:=C0.out W9 (Yk.of_below I0.out);have i2:g<w.heap.size:=(HW.out.ow.lt g rfl).2;have j2:g≠w.heap.size:=(by omega);have l2:g≠wr.heap.size:=(by omega);clear s0 I0 T0 O0 M0 m1 P0 h9
    go_wp2_with fail
    obtain⟨W3,B0⟩:=nmE (W9.setCell (Aq g i) (Iq up));rw[<-B0,<-D0]at b0;rw[<-B0]at i0⊢;clear y0 y1 z8 J0 O1 i2 j2 l2 B0 D0 E0;refine(z0.out W3 a2 (.slice ba bn bc) s.body vv b0.out h0.out.2.2.2.2.2.1 (by rw[b0.out.ok.1,<-o0.out.1];exact h0.out.2.1) h0.out.2.2.2.1 A0.out.2).mono ?_;rintro e5 W4 ⟨rfl,d0,j0⟩;have e0:=Zz (i0.out.trans j0);generalize Fl.rz p d s.body vv a2=r1 at d0 m0⊢;have f0:=Zz d0;obtain⟨-,⟨-,z9⟩,⟨-,y0⟩,⟨-,y1⟩,-⟩:=C0.out W4 e0.out;clear d0 j0 b0 i0
    go_wp2_with fail
    refine(z0.out W4 r1.2 (.slice oa on oc) s.other vv f0.out h0.out.2.2.2.2.2.2 (by rw[f0.out.ok.1,<-o0.out.1];exact h0.out.2.2.1) h0.out.2.2.2.2.1 A0.out.2).mono ?_;rintro e6 W5 ⟨rfl,g0,k0⟩;have t0:=Zz ((n0.out.trans e0.out).trans k0);generalize Fl.rz p d s.other vv r1.2=r2 at g0 m0⊢;have l0:=Zz g0;obtain⟨b1,s1⟩:=r1;obtain⟨b2,s2⟩:=r2;simp only at m0 l0;clear g0 k0 f0 e0 z9 y0 y1 C0 h0 z0 n0
    cases m<;>cases b1<;>cases b2
    all_goals
     go_wp2
     go_roundw
     case rel=>exact⟨k+1,(_,_),by omega,by go_num,m0.out,rfl,l0.out,t0.out⟩
     case measure=>simp[intOf];omega
   have m0:Hid ((l.take (k+1)).foldl (Fl.rzOne (Fl.rz p d) p u) (false,ls)=((m||(Fl.rz p d s.body vv cur).1||(Fl.rz p d s.other vv (Fl.rz p d s.body vv cur).2).1),(Fl.rz p d s.other vv (Fl.rz p d s.body vv cur).2).2)):=by
    show _=_;rw[O0.out false cur (by unfold Fl.rzSet;rw[if_neg (by rw[<-G0.out];exact L0)]),Bool.or_false]
   have b0:=Zz (q0.out.below dA);have i0:Hid (Yk W W.drew (.slice la ln lc)):=Yk.of_below dA;obtain⟨a2,D0⟩:=nmE (cur);obtain⟨W3,B0⟩:=nmE (W.drew);rw[<-B0,<-D0]at b0;rw[<-B0]at i0;rw[<-D0]at m0;have n1:=Zz B0.symm;clear B0 D0 O0 q0
   by_cases hk:s.kind=3
   ·have R0:((s.kind:Int)==3)=true:=by rw[hk];rfl
    have M1:¬(nc:Int)<=(s.x:Int):=(by omega);clear L0 hk
    go_wp2_with fail
    refine Uv [(3,40)] (by kernel_rfl) (by kernel_rfl) (by kernel_rfl) (λops hG=>?_);have g1:=hG (3,40) (by simp);simp only at g1;clear hG
    iterate 13 still_step
    refine wpStill_nil ?_;clear g1 ops
    go_wp2_with fail
    rw[n1.out];clear a0 a1 a8 a9 y0 y1 pc n1;refine(z0.out W3 a2 (.slice ba bn bc) s.body vv b0.out h0.out.2.2.2.2.2.1 (by rw[b0.out.ok.1,<-o0.out.1];exact h0.out.2.1) h0.out.2.2.2.1 A0.out.2).mono ?_;rintro e5 W4 ⟨rfl,d0,j0⟩;have e0:=Zz (i0.out.trans j0);generalize Fl.rz p d s.body vv a2=r1 at d0 m0⊢;have f0:=Zz d0;obtain⟨-,⟨-,z9⟩,⟨-,y0⟩,⟨-,y1⟩,-⟩:=C0.out W4 e0.out;clear d0 j0 b0 i0
    go_wp2_with fail
    refine(z0.out W4 r1.2 (.slice oa on oc) s.other vv f0.out h0.out.2.2.2.2.2.2 (by rw[f0.out.ok.1,<-o0.out.1];exact h0.out.2.2.1) h0.out.2.2.2.2.1 A0.out.2).mono ?_;rintro e6 W5 ⟨rfl,g0,k0⟩;have t0:=Zz ((n0.out.trans e0.out).trans k0);generalize Fl.rz p d s.other vv r1.2=r2 at g0 m0⊢;have l0:=Zz g0;obtain⟨b1,s1⟩:=r1;obtain⟨b2,s2⟩:=r2;simp only at m0 l0;clear g0 k0 f0 e0 z9 y0 y1 C0 h0 z0 n0
    cases m<;>cases b1<;>cases b2
    all_goals
     go_wp2
     go_roundw
     case rel=>exact⟨k+1,(_,_),by omega,by go_num,m0.out,rfl,l0.out,t0.out⟩
     case measure=>simp[intOf];omega
   have R0:((s.kind:Int)==3)=false:=beq_eq_false_iff_ne.2 (by omega);clear L0 hk
   go_wp2_with fail
   refine Uv [(3,40)] (by kernel_rfl) (by kernel_rfl) (by kernel_rfl) (λops hG=>?_);have g1:=hG (3,40) (by simp);simp only at g1;clear hG
   iterate 13 still_step
   refine wpStill_nil ?_;clear g1 ops
   go_wp2_with fail
   rw[n1.out];clear a0 a1 a8 a9 y0 y1 pc n1;refine(z0.out W3 a2 (.slice ba bn bc) s.body vv b0.out h0.out.2.2.2.2.2.1 (by rw[b0.out.ok.1,<-o0.out.1];exact h0.out.2.1) h0.out.2.2.2.1 A0.out.2).mono ?_;rintro e5 W4 ⟨rfl,d0,j0⟩;have e0:=Zz (i0.out.trans j0);generalize Fl.rz p d s.body vv a2=r1 at d0 m0⊢;have f0:=Zz d0;obtain⟨-,⟨-,z9⟩,⟨-,y0⟩,⟨-,y1⟩,-⟩:=C0.out W4 e0.out;clear d0 j0 b0 i0
   go_wp2_with fail
   refine(z0.out W4 r1.2 (.slice oa on oc) s.other vv f0.out h0.out.2.2.2.2.2.2 (by rw[f0.out.ok.1,<-o0.out.1];exact h0.out.2.2.1) h0.out.2.2.2.2.1 A0.out.2).mono ?_;rintro e6 W5 ⟨rfl,g0,k0⟩;have t0:=Zz ((n0.out.trans e0.out).trans k0);generalize Fl.rz p d s.other vv r1.2=r2 at g0 m0⊢;have l0:=Zz g0;obtain⟨b1,s1⟩:=r1;obtain⟨b2,s2⟩:=r2;simp only at m0 l0;clear g0 k0 f0 e0 z9 y0 y1 C0 h0 z0 n0
   cases m<;>cases b1<;>cases b2
   all_goals
    go_wp2
    go_roundw
    case rel=>exact⟨k+1,(_,_),by omega,by go_num,m0.out,rfl,l0.out,t0.out⟩
    case measure=>simp[intOf];omega
  have X1:¬(k:Int)<(n:Int):=(by omega)
  obtain rfl:k=n:=by omega
  have HE:Hid (zn4 w0 w Pb Lq rb clv hv bv p (.slice la ln lc) res (.returned (.bool m)) wr):=by
   rw[p1.out,HQ.out];exact⟨rfl,p0.out,(Yk.of_below E1.out).trans Q0.out⟩
  go_wp2;go_ret;exact HE.out
end
end Go.Proofs.YtjekbnmnjeoagaaGreatDoor

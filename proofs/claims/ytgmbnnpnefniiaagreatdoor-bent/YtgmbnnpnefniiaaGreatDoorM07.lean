import Derived.Test.YtgmbnnpnefniiaaGreatDoorM06
import Derived.Maps.RangeWalk
import Derived.Lib.AppendZerosOnto
set_option linter.all false
set_option maxRecDepth 100000
set_option maxHeartbeats 40000000
namespace Go.Proofs.YtgmbnnpnefniiaaGreatDoor
open Go.RowKit Go.Proofs.Tryz List World Value Act Fl
variable{w w' wr:World}{b Qv n k base Jb q0 P0 q Pb Lb:Nat}{o:Oper}{x:Int}{l ls st:Is}{p:aY}{v lv sv:Value}{xs lvs:Vs}{s:L}{acc:List Fl.ar}{ops:Array Oper}{rest:List Oper}{a:Act}{Q:Exit->Act->World->Prop}
namespace Fl
def dI(ns:List ar)(j k:Nat):Bool:=(range j).any (λt=>(prem (nth ns t)).any (λp=>p==(k:Int)))
def cz(ns:List ar):Int:=match (range (ns.length - 1)).find? (λk=> !dI ns ns.length k) with|some k=>(k:Int)|none=> -1
def jp(ns:List ar)(j k:Nat):dI ns (j+1) k=(dI ns j k||(prem (nth ns j)).any (λp=>p==(k:Int))):=by
 unfold dI;rw[range_succ,any_append];simp
end Fl
def yv7{te:TypeId}{fr:Nat×Nat}(h:w.heap[b]?=some (.cells Yr te fr)):Xp w b 0:=by
 have q:∀i,w.cell? (O b i)=Yr[i]?:=λi=>cell_of_row w b i Yr te fr h;intro k hk
 have:k=0\/k=1\/k=2\/k=3\/k=4\/k=5\/k=6\/k=7:=by omega
 rcases this with rfl|rfl|rfl|rfl|rfl|rfl|rfl|rfl<;>exact⟨(q _).trans rfl,(q _).trans rfl,(q _).trans rfl⟩
def Xp.below{ro:Nat}(h:Xp w b ro)(hb:D w w'):Xp w' b ro:=λk hk=>by
 obtain⟨h1,h2,h3⟩:=h k hk;have a0:=Qe w _ h1;exact⟨cT hb a0 h1,cT hb a0 h2,cT hb a0 h3⟩
structure zsv(w:World)(Qv n:Nat)(us:Nat->Bool):Prop where
 hu:∀i,i<n->w.cell? (O Qv i)=some (.bool (us i))
 hf:∀i,w.frozen? (O Qv i)=false
 aT:∀i v,w.cell? (O Qv i)=some v->∃t,v=.bool t
def zsv.below{us:Nat->Bool}(h:zsv w Qv n us)(hb:D w w')(hU:Qv<w.heap.size):zsv w' Qv n us:=by
 have q:∀i,w'.cell? (O Qv i)=w.cell? (O Qv i):=λi=>hb.cell hU;exact⟨λi hi=>(q i).trans (h.hu i hi),λi=>(hb.frozen hU).trans (h.hf i),λi v hv=>h.aT i v ((q i).symm.trans hv)⟩
def zsv.set{us:Nat->Bool}(h:zsv w Qv n us)(y:Nat)(hy:y<n):zsv (w.setCell (O Qv y) (.bool true)) Qv n (λi=>us i||i==y):=by
 have hs:M (w.setCell (O Qv y) (.bool true)) Qv y (.bool true):=Ub (h.hu y hy);refine⟨λi hi=>?_,λi=>(frozen?_setCell _ _ _ _).trans (h.hf i),λi v hv=>?_⟩
 ·by_cases e:i=y
  ·subst e;rw[hs];simp
  rw[Yl (λe'=>e e'.symm),h.hu i hi];simp[e]
 by_cases e:i=y
 ·subst e;rw[hs]at hv;exact⟨true,by injection hv with hv;exact hv.symm⟩
 rw[Yl (λe'=>e e'.symm)]at hv;exact h.aT i v hv
def zsv.apart{us:Nat->Bool}(h:zsv w Qv n us){o:Nat}(hc:w.cell? (O b o)=some (I x)):b≠Qv:=by
 intro e;subst e;obtain⟨t,ht⟩:=h.aT o _ hc;cases ht
structure zx6(ns:List Fl.ar)(w wr:World)(TB Qv:Nat)(us:Nat->Bool):Prop where
 hm:zsv wr Qv ns.length us
 hr:Xp wr TB 0
 hb:D w wr
 hT:w.heap.size<=TB
 hU:TB<Qv
 hz:Qv<wr.heap.size
def zx6.below{ns:List Fl.ar}{w wr w':World}{TB Qv:Nat}{us:Nat->Bool}(h:zx6 ns w wr TB Qv us)(hb:D wr w'):zx6 ns w w' TB Qv us:=
 ⟨h.hm.below hb h.hz,h.hr.below hb,h.hb.trans (hb.mono h.hb.size),h.hT,h.hU,Qj h.hz hb.size⟩
def zx6.set{ns:List Fl.ar}{w wr:World}{TB Qv:Nat}{us:Nat->Bool}(h:zx6 ns w wr TB Qv us)(y:Nat)(hy:y<ns.length):zx6 ns w (wr.setCell (O Qv y) (.bool true)) TB Qv (λi=>us i||i==y):=by
 have hT:=h.hT;have hU:=h.hU;refine⟨h.hm.set y hy,λk hk=>?_,h.hb.setCell (by show w.heap.size<=Qv;omega) _,hT,hU,by have:=h.hz;simpa [setCell] using this⟩;obtain⟨h1,h2,h3⟩:=h.hr k hk;have g:=Yb wr Qv y (.bool true)
 have a0:some TB≠some Qv:=by simp;omega
 exact⟨g.cell h1 a0,g.cell h2 a0,g.cell h3 a0⟩
def zx6.congr{ns:List Fl.ar}{TB:Nat}{us us':Nat->Bool}(h:zx6 ns w wr TB Qv us)(he:∀i,i<ns.length->us i=us' i):zx6 ns w wr TB Qv us':=
 ⟨⟨λi hi=>by rw[<-he i hi];exact h.hm.hu i hi,h.hm.hf,h.hm.aT⟩,h.hr,h.hb,h.hT,h.hU,h.hz⟩
structure yh5(w:World)(pao:Option Addr)(ps:Is):Prop where
 hx:ps≠[]->∃b off,pao=some (O b off)/\∀i,i<ps.length->w.cell? (O b (off+i))=some (I (ps.getD i 0))
def Tryz.infoBool:(Tryz.prog.info? 4).map (λi=>(i.zero,i.size,i.bytes))=some (some (.bool false),1,1):=by kernel_rfl
def zq8(ns:List Fl.ar)(nv:Value)(w:World)(hn:Zl w.heap.size w nv ns)(aL:ns.length<=1000)
  (hk:∀i,i<ns.length->0<=(Fl.nth ns i).kind/\(Fl.nth ns i).kind<8) (hp:∀i,i<ns.length->∀p∈prem (Fl.nth ns i),0<=p/\p<ns.length):
  E 83 #[nv] w (Rw (I (Fl.cz ns)) w):=by
 obtain⟨i0,hi,A0,B0,C0⟩:=info_parts Tryz.infoBool;obtain⟨na,nc,rfl,_,hm,_⟩:=id hn;have HN:=Z hn;have HK:=Z hk;have HP:=Z hp;clear hn hm hk hp
 go_enter func83,ntmps83
 go_wp2_with (first|(go_at_call 72;refine(zl4 _).mono ?_;rintro e w1 ⟨rfl,rfl⟩)|(refine zs7 rfl _ _ 171 rfl _ _ _ Yr rfl (by simp) rfl Tryz.infoRules zl3 ziw ?_)|(at_make;refine wpList_make_full _ rfl _ _ 106 rfl (w.heap.size+2) 4 i0 (.bool false) 1 underlying106 hi A0 B0 _ _ _ _ ns.length rfl rfl rfl rfl (by rw[C0];omega) (by unfold maxLen;omega) (by simp) ?_;intro w3 b0 k0))
 have s0:=((bA).alloc (by simp) _).grown k0 (by simp;omega) (λk h=>by cases h);have g0:Y (zx6 ns w w3 (w.heap.size+1) (w.heap.size+1+1) (λ_=>false)):=by
  have l0:((w.alloc (.cells Yr 171)).alloc (.cells Yr 171)).heap[w.heap.size+1]?=some (.cells Yr 171 (0,0)):=by
   have:=heap_alloc_last (w.alloc (.cells Yr 171)) (.cells Yr 171)
   rwa [size_alloc]at this
  rcases b0.2 with⟨h,_⟩|⟨g,cap',cur,hv,P0,h0,Q0,m0,R0,D0⟩
  ·cases h
  simp only[slice.injEq,Ql,Addr.mk.injEq]at hv;obtain⟨⟨E0,_⟩,_,n0⟩:=hv;subst n0;rw[<-E0]at h0;have o0:cur.toList=replicate ns.length (.bool false):=by
   have hl:cur.toList.length=ns.length:=(by simp;omega);have h2:=D0;rw[show (Value.bool false).cells=#[.bool false] from rfl,toList_madeCells_one,Nat.mul_one,take_of_length_le (by omega)]at h2;exact h2
  have hc:∀i,w3.cell? (O (w.heap.size+1+1) i)=(replicate ns.length (Value.bool false))[i]?:=λi=>by
   rw[cell_of_row w3 _ i cur _ _ (by simpa using h0),<-o0];simp
  refine⟨⟨λi hi=>by rw[hc];simp[hi],λi=>by simp[frozen?,(by simpa using h0:w3.heap[w.heap.size+1+1]?=_)],λi v hv=>?_⟩,yv7 ((k0.block _ (by simp) (by simp)).trans l0),s0,by omega,by omega,?_⟩
  ·rw[hc]at hv;exact⟨false,(mem_replicate.1 (mem_of_getElem? hv)).2⟩
  have:=(Array.getElem?_eq_some_iff.1 h0).1;simpa using this
 obtain⟨TB,kO⟩:=J (w.heap.size+1);rw[<-kO]at g0⊢;obtain⟨Qv,hU⟩:=J (TB+1);rw[<-hU]at g0⊢;clear b0 k0 s0 kO hU
 go_loopw [15] (λi wr=>∃(j:Nat),j<=ns.length/\i=I j/\zx6 ns w wr TB Qv (Fl.dI ns j)) (λi _=>ns.length - (intOf i).toNat)
 case atStart=>exact⟨0,by omega,rfl,g0.congr (λi _=>rfl)⟩
 case round=>
  clear g0;obtain⟨j,hj,rfl,hr⟩:=hrel;have HR:=Z hr;clear hr
  by_cases d0:j<ns.length
  ·obtain⟨b,off,rfl⟩:∃b off,na=some (O b off):=by
    obtain⟨ao',cap',hv',_,_,hx'⟩:=HN.out;obtain⟨b,off,ha,_⟩:=hx' (by intro h;rw[h]at d0;simp at d0);simp only[slice.injEq]at hv';exact⟨b,off,hv'.1.trans ha⟩
   obtain⟨lv,p0⟩:=(HN.below HR.hb).node d0 HR.hb.size;have F0:=HK j d0;obtain⟨x,hx⟩:∃x:Nat,(Fl.nth ns j).kind=(x:Int):=⟨(Fl.nth ns j).kind.toNat,by omega⟩;have G0:x<8:=(by omega);have c0:=p0.c0;rw[hx]at c0;have h3:=(HR.hr x G0).2.2;have h3':wr.cell? (O TB (x*4+3))=some (.func (.func (byF x)) #[] #[]):=(by simpa using h3);have H0:∀W,(callFunc (byF x) #[Pp b (off+j*6)]).run prog W=.ok (.enter (byF x) #[Pp b (off+j*6)]) W:=λW=>zow x _ W;have HC:Y (E (byF x) #[Pp b (off+j*6)] wr.drew (Vg (prem (Fl.nth ns j)) wr.drew)):=by
    rw[<-hx];exact zf6 (p0.below (dA))
   have t0:(j:Int)<(ns.length:Int):=(by omega);have S0:(x:Int)<8:=(by omega);clear p0 h3 F0 hx
   go_wp2_with fail
   go_region_with (refine(HC.out).mono ?_;rintro e w4 ⟨pv,rfl,I0,u0⟩;obtain⟨pao,pcap,rfl,_,v0,e0⟩:=I0)
   have x0:=Z (HR.below (dA.trans u0));obtain⟨ps,q0⟩:=J (prem (Fl.nth ns j));rw[<-q0]at v0 e0⊢;have y0:=Z q0;have j0:Y (yh5 w4 pao ps):=⟨λJ0=>by obtain⟨b,off,ha,_,hc⟩:=e0 J0;exact⟨b,off,ha,hc⟩⟩;unfold maxLen at v0;clear e0 q0 u0 HC H0 c0 h3'
   go_wp2_with fail
   simp only[getElem_toArray,getElem_cons_succ,getElem_cons_zero,put,setIfInBounds_toArray,set_cons_succ,set_cons_zero]
   go_loopw [31] (λi wz=>∃(m:Nat),m<=ps.length/\i=I m/\yh5 wz pao ps/\zx6 ns w wz TB Qv (λk=>Fl.dI ns j k||(ps.take m).any (λp=>p==(k:Int)))) (λi _=>ps.length - (intOf i).toNat)
   case atStart=>exact⟨0,by omega,rfl,j0,x0.congr (λk _=>by simp)⟩
   case round=>
    clear x0 j0;obtain⟨m,K0,rfl,e0,hu⟩:=hrel;have j0:=Z e0;have HU:=Z hu;clear e0 hu
    by_cases a0:m<ps.length
    ·obtain⟨pb,po,rfl,r0⟩:=j0.hx (by intro h;rw[h]at a0;simp at a0)
     have m0:=r0 m a0;have hr:=HP j d0 (ps.getD m 0) (by rw[<-y0.out];exact mo a0);obtain⟨y,hy⟩:∃y:Nat,ps.getD m 0=(y:Int):=⟨(ps.getD m 0).toNat,by omega⟩;rw[hy]at m0;have z0:y<ns.length:=(by omega);have T0:(y:Int)<(ns.length:Int):=(by omega);have HY:=Z hy;have uy:=HU.hm.hu y z0;have uf:=HU.hm.hf;have L0:=HU.hm.apart m0;have M0:(m:Int)<(ps.length:Int):=(by omega);have N0:=Z r0;clear hr hy r0;go_wp2
     go_roundw
     case rel=>
      refine⟨m+1,by omega,by go_num,⟨λ_=>⟨pb,po,rfl,λi hi=>(Yb _ _ _ _).cell (N0 i hi) (by simpa using L0)⟩⟩,(HU.set y z0).congr (λk hk=>?_)⟩;rw[dT ps m a0,any_append,HY.out];simp only[any_cons,any_nil,Bool.or_false];rw[<-Bool.or_assoc]
      congr 1
      rw[Bool.eq_iff_iff,beq_iff_eq,beq_iff_eq];omega
     case measure=>simp[intOf];omega
    have HE:Y (zx6 ns w wr TB Qv (Fl.dI ns (j+1))):=HU.congr (λk _=>by rw[Fl.jp,<-y0.out,take_of_length_le (by omega)]);go_wp2
    go_roundw
    case rel=>exact⟨j+1,by omega,by go_num,HE⟩
    case measure=>simp[intOf];omega
  have t0:j=ns.length:=(by omega);subst t0;clear hj d0
  go_wp2_with fail
  go_loop [43] (λi=>∃m:Nat,m<=ns.length/\i=I m/\∀t,t<m->Fl.dI ns ns.length t=true) (λi=>ns.length - (intOf i).toNat)
  case atStart=>exact⟨0,by omega,rfl,λt ht=>by omega⟩
  case round=>
   obtain⟨m,K0,rfl,aT⟩:=hrel;have HA:=Z aT;clear aT
   by_cases d0:(m:Int)<(ns.length:Int) - 1
   ·have um:=HR.hm.hu m (by omega)
    have M0:(m:Int)<(ns.length:Int):=(by omega)
    cases f0:Fl.dI ns ns.length m with
    |true=>
     rw[f0]at um;have O0:=Z f0;clear f0;go_wp2
     go_round
     case rel=>exact⟨m+1,by omega,by go_num,λt ht=>by
      by_cases h:t<m
      ·exact HA t h
      have:t=m:=by omega
      subst this;exact O0.out⟩
     case measure=>simp[intOf];omega
    |false=>
     rw[f0]at um;have HF:Y (Fl.cz ns=(m:Int)):=by
      show Fl.cz ns=(m:Int);unfold Fl.cz;rw[cI _ _ m (λt ht=>by rw[HA t ht];rfl) (by omega) (by rw[f0];rfl)]
     clear f0;go_wp2;go_ret;exact⟨Vm HF.symm,HR.hb⟩
   have HF:Y (Fl.cz ns= -1):=by
    show Fl.cz ns= -1;unfold Fl.cz;rw[dh _ _ (λk hk=>by rw[HA k (by omega)];rfl)]
   go_wp2;go_ret;exact⟨Vm HF.symm,HR.hb⟩
namespace Fl
def fd(k:Nat)(nd:ar):Prop:=bT nd=true/\(prem nd).any (λp=>decide ((k:Int)<=p))=false
def iF(h:0<=x/\x<2147483648):cf x=true:=by simp[cf,h.1,h.2]
def lh(h:∀x∈l,0<=x/\x<2147483648)(i:Nat):cf (l.getD i 0)=true:=by
 rw[Qa]
 cases he:l[i]? with
 |none=>rfl
 |some x=>exact iF (h x (mem_of_getElem? he))
def lg{i:Nat}(h:l.length<=i):l.getD i 0=0:=by
 rw[Qa,getElem?_eq_none h];rfl
def iE(h:∀x∈l,0<=x/\x<2147483648){f:Nat}(hl:l.length=f)(i:Nat):dM (f:Int) (i:Int) (l.getD i 0)=true:=by
 unfold dM;rw[lh h i,Bool.true_and,Bool.or_eq_true,Qn,Qn]
 by_cases hi:i<f
 ·left;omega
 right;exact lg (by omega)
def gf{p:Nat}{nd:ar}{e:Int}(h:¬(bt p k nd e).2.1<0)(hs:bT nd=true):fd k (bt p k nd e).1:=by
 unfold bt at*
 split at h
 ·exact absurd (show (-1:Int)<0 by decide) h
 rename_i hn;rw[U hn];exact⟨hs,by simpa using hn⟩
def ke(s:L)(p k:Nat)(hp:p<=s.length)(h:¬(one s p k).2.1<0):fd k (one s p k).1:=by
 unfold one at*
 by_cases h0:p=s.length
 ·rw[G h0]at h;exact absurd (show (-1:Int)<0 by decide) h
 rw[U h0]at h⊢;simp only at h⊢;have hx:(s.getD p 0).toNat<256:=(s.getD p 0).toNat_lt;generalize (s.getD p 0).toNat=x at*
 by_cases h1:aP (x:Int)= -2
 ·rw[G h1]at h;exact absurd (show (-1:Int)<0 by decide) h
 rw[U h1]at h⊢
 by_cases h2:(num s (p+1)).2.1<0
 ·rw[G h2]at h;exact absurd (show (-1:Int)<0 by decide) h
 rw[U h2]at h⊢;obtain⟨v,q,hn,_,hq,hv⟩:=zty s (p+1) (by omega) h2;rw[hn]at h⊢;simp only[Qm]at h⊢;have a0:cf (v:Int)=true:=iF ⟨by omega,by omega⟩
 by_cases h3:aP (x:Int)= -1
 ·rw[G h3]at h⊢
  by_cases h4:(num s q).2.1<0
  ·rw[G h4]at h;exact absurd (show (-1:Int)<0 by decide) h
  rw[U h4]at h⊢
  by_cases h5:16<(num s q).1
  ·rw[G h5]at h;exact absurd (show (-1:Int)<0 by decide) h
  rw[U h5]at h⊢;obtain⟨m,q2,hm,_,b0,_⟩:=zty s q hq h4;rw[hm]at h h5⊢;simp only[Qm]at h h5⊢
  by_cases h6:(bW s q2 m).2.1<0
  ·rw[G h6]at h;exact absurd (show (-1:Int)<0 by decide) h
  rw[U h6]at h⊢;refine gf h ?_;rcases ey s q2 m b0 with h7|⟨_,_,h8,h9⟩
  ·omega
  simp only[bT,h3,a0,h8,dM,Qk,Qn,Bool.or_eq_true];refine⟨by omega,by first|trivial|rfl,by omega,⟨by first|rfl|trivial,.inr (by first|rfl|trivial)⟩,⟨by first|rfl|trivial,.inr (by first|rfl|trivial)⟩,⟨by first|rfl|trivial,.inr (by first|rfl|trivial)⟩,?_,.inl (by first|trivial|rfl)⟩;rw[all_eq_true];intro y hy;exact iF (h9 y hy)
 rw[U h3]at h⊢;have c0:=eY (x:Int);obtain⟨f,hf⟩:∃f:Nat,aP (x:Int)=(f:Int):=⟨(aP (x:Int)).toNat,by omega⟩;rw[hf]at h⊢;simp only[Qm]at h⊢
 by_cases h6:(bW s q f).2.1<0
 ·rw[G h6]at h;exact absurd (show (-1:Int)<0 by decide) h
 rw[U h6]at h⊢;refine gf h ?_;rcases ey s q f hq with h7|⟨_,_,h8,h9⟩
 ·omega
 have g0:=iE h9 h8 0;have g1:=iE h9 h8 1;have g2:=iE h9 h8 2;simp only[bT,hf,a0,Qk,Qn,Bool.or_eq_true];refine⟨by omega,by first|trivial|rfl,by simp,?_,?_,?_,by simp,.inr (by first|rfl|trivial)⟩
 ·simpa using g0
 ·simpa using g1
 simpa using g2
def eT{nd:ar}(h:bT nd=true):fits nd/\0<=nd.kind/\nd.kind<8:=by
 simp only[bT,Qk,Qn,dM]at h;obtain⟨h1,h2,h3,⟨h4,_⟩,⟨h5,_⟩,⟨h6,_⟩,h7,_⟩:=h
 have hk:0<=nd.kind/\nd.kind<8:=by unfold aP at h1;(repeat' split at h1)<;>omega
 exact⟨⟨iF ⟨hk.1,by omega⟩,h2,h4,h5,h6,h3,h7⟩,hk⟩
def lf{nd:ar}(h:bT nd=true):∀p∈prem nd,0<=p:=by
 obtain⟨⟨_,_,ha,hb,hc,_,hl⟩,_⟩:=eT h
 have q:∀{x:Int},cf x=true->0<=x:=λh=>by simp only[cf,Qk,Qn]at h;exact h.1
 intro p hp;unfold prem at hp
 repeat' split at hp
 all_goals try simp only[mem_cons,not_mem_nil,or_false]at hp
 all_goals first|(rcases hp with rfl|rfl|rfl<;>first|exact q ha|exact q hb|exact q hc)|(rcases hp with rfl|rfl<;>first|exact q ha|exact q hb|exact q hc)|(subst hp;first|exact q ha|exact q hb|exact q hc)|exact q (all_eq_true.1 hl p hp)|exact hp.elim
def fG(ns:List ar):Prop:=∀i,i<ns.length->fd i (nth ns i)
def iD{ns:List ar}{nd:ar}(h:fG ns)(hg:fd ns.length nd):fG (ns++[nd]):=by
 intro i hi;simp only[length_append,length_cons,length_nil]at hi
 by_cases h1:i<ns.length
 ·have:nth (ns++[nd]) i=nth ns i:=by simp[nth,Qa,getElem?_append_left h1]
  rw[this];exact h i h1
 have hi':i=ns.length:=by omega
 subst hi'
 have:nth (ns++[nd]) ns.length=nd:=by simp[nth,Qa]
 rw[this];exact hg
def iC{nd:ar}(h:fd k nd){p:Int}(hp:p∈prem nd):0<=p/\p<k:=by
 refine⟨lf h.1 p hp,?_⟩;have:=h.2;rw[any_eq_false]at this;have:=this p hp;simp only[Qn]at this;omega
def gJ{ns:List ar}(h:fG ns):aJ ns=if 0<=bI ns then bI ns else cz ns:=by
 have hb:∀k,k<ns.length->dP ns k=eU ns k:=λk hk=>by
  have:=h k hk;unfold dP eU;rw[this.1,this.2];rfl
 have hu:∀k,used ns k=dI ns ns.length k:=λk=>by
  unfold used dI;rw[Bool.eq_iff_iff,any_eq_true,any_eq_true]
  constructor
  ·rintro⟨j,hj,hh⟩;exact⟨j,hj,(Bool.and_eq_true_iff.1 hh).2⟩
  rintro⟨j,hj,hh⟩;refine⟨j,hj,?_⟩;rw[Qk];refine⟨?_,hh⟩;rw[any_eq_true]at hh;obtain⟨p,hp,he⟩:=hh;have:=iC (h j (by simpa using hj)) hp;rw[beq_iff_eq]at he;rw[Qn];omega
 have a0:(range ns.length).find? (dP ns)=(range ns.length).find? (eU ns):=by
  have:∀(l:List Nat),(∀k∈l,k<ns.length)->l.find? (dP ns)=l.find? (eU ns):=by
   intro l
   induction l with
   |nil=>intro _;rfl
   |cons x l ih=>intro hl;simp only[find?_cons,hb x (hl x (by simp)),ih (λk hk=>hl k (by simp[hk]))]
  exact this _ (λk hk=>by simpa using hk)
 unfold aJ bI cz;rw[a0]
 cases hd:(range ns.length).find? (eU ns) with
 |some k=>simp only;rw[G (by omega)]
 |none=>
  simp only;rw[U (by decide)]
  have:(λk=> !used ns k)=(λk=> !dI ns ns.length k):=by funext k;rw[hu]
  rw[this]
  cases (range (ns.length - 1)).find? (λk=> !dI ns ns.length k)<;>rfl
end Fl
def yr7(ns:List Fl.ar):Fl.bI ns<(ns.length:Int):=by
 unfold Fl.bI
 cases hf:(range ns.length).find? (Fl.eU ns) with
 |some k=>have:=mem_of_find?_eq_some hf;simp at this;simp only;omega
 |none=>simp only;omega
def ym5(ns:List Fl.ar):Fl.cz ns<(ns.length:Int):=by
 unfold Fl.cz
 cases hf:(range (ns.length - 1)).find? (λk=> !Fl.dI ns ns.length k) with
 |some k=>have:=mem_of_find?_eq_some hf;simp at this;simp only;omega
 |none=>simp only;omega
def ypv(ns:List Fl.ar)(st:Is)(w:World)(e:Ending)(w':World):Prop:=
 D w w'/\(0<=Fl.aJ ns->e=.panicked (Za 8 (st.getD (Fl.aJ ns).toNat 0)))/\(¬0<=Fl.aJ ns->e=.returned (.tuple #[]))
def yr8(ns:List Fl.ar)(st:Is)(nv sv:Value)(b:Nat)(w:World)(hn:Zl w.heap.size w nv ns)(hs:Zw w.heap.size w sv st)(hl:st.length=ns.length)(aL:ns.length<=1000)(hg:Fl.fG ns)(hc:w.cell? (O b 34)=some sv):
  E 106 #[F b,nv] w (ypv ns st w):=by
 have hlb:=Qe w _ hc;have g0:∀i,i<ns.length->Fl.fits (Fl.nth ns i):=λi hi=>(Fl.eT (hg i hi).1).1;have h0:=Z (yy8 ns nv w hn g0 aL)
 have j0:Y (∀w1,D w w1->E 83 #[nv] w1 (Rw (I (Fl.cz ns)) w1)):=λw1 h1=>
  zq8 ns nv w1 ((hn.below h1).mono h1.size) aL (λi hi=>(Fl.eT (hg i hi).1).2) (λi hi p hp=>by have:=Fl.iC (hg i hi) hp;omega)
 have l0:=Z (Fl.gJ hg);have o0:=yr7 ns;have p0:=ym5 ns;obtain⟨sao,scap,rfl,_,t0,q0⟩:=hs;have r0:=Z q0;have HC:=Z hc;unfold maxLen at t0;clear q0 hc hn hg g0
 by_cases hd:0<=Fl.bI ns
 ·obtain⟨k,hk⟩:∃k:Nat,Fl.bI ns=(k:Int):=⟨(Fl.bI ns).toNat,by omega⟩
  have e0:k<st.length:=(by omega);obtain⟨sb,so,rfl,m0,i0⟩:=r0 (by intro h;rw[h]at e0;simp at e0);have a0:Y (Fl.aJ ns=(k:Int)):=(by show _=_;rw[l0.out,G hd,hk]);rw[hk]at h0 o0;have b0:=i0 k e0;have u0:(k:Int)<(st.length:Int):=(by omega);clear hd hk i0
  go_enter func106,ntmps106
  go_wp2_with fail
  refine(h0.out).mono ?_;rintro e w1 ⟨rfl,c0⟩;have c34:=cT c0 hlb HC.out;have ck:=cT c0 m0 b0;have d0:=Z c0;clear c0 b0;generalize hx:st.getD k 0=x at*;have HX:=Z hx;clear hx
  go_wp2_with fail
  refine(Vp _ _ _).mono ?_;rintro e w2 ⟨rfl,f0⟩;refine⟨rfl,d0.trans (f0.mono d0.size),λ_=>?_,λh=>absurd (by rw[a0.out];omega) h⟩;rw[a0.out,Qm,HX.out]
 obtain⟨d,n0⟩:=J (Fl.bI ns);rw[<-n0]at h0 hd o0
 have a0:Y (Fl.aJ ns=Fl.cz ns):=by show _=_;rw[l0.out,<-n0,U hd]
 clear n0 l0
 by_cases hu:0<=Fl.cz ns
 ·obtain⟨k,hk⟩:∃k:Nat,Fl.cz ns=(k:Int):=⟨(Fl.cz ns).toNat,by omega⟩
  have e0:k<st.length:=(by omega);obtain⟨sb,so,rfl,m0,i0⟩:=r0 (by intro h;rw[h]at e0;simp at e0);rw[hk]at j0 p0 a0;have b0:=i0 k e0;have u0:(k:Int)<(st.length:Int):=(by omega);clear hu hk i0
  go_enter func106,ntmps106
  go_wp2_with fail
  refine(h0.out).mono ?_;rintro e w1 ⟨rfl,c0⟩;have d0:=Z c0;clear c0
  go_wp2_with fail
  refine(j0 w1 d0).mono ?_;rintro e w2 ⟨rfl,f0⟩;have hb2':=d0.trans (f0.mono d0.size);have c34:=cT hb2' hlb HC.out;have ck:=cT hb2' m0 b0;have k0:=Z hb2';clear f0 b0 hb2';generalize hx:st.getD k 0=x at*;have HX:=Z hx;clear hx
  go_wp2_with fail
  refine(Vp _ _ _).mono ?_;rintro e w3 ⟨rfl,v0⟩;refine⟨rfl,k0.trans (v0.mono k0.size),λ_=>?_,λh=>absurd (by rw[a0.out];omega) h⟩;rw[a0.out,Qm,HX.out]
 obtain⟨u,s0⟩:=J (Fl.cz ns);rw[<-s0]at j0 hu p0 a0;clear s0
 go_enter func106,ntmps106
 go_wp2_with fail
 refine(h0.out).mono ?_;rintro e w1 ⟨rfl,c0⟩;have d0:=Z c0;clear c0
 go_wp2_with fail
 refine(j0 w1 d0).mono ?_;rintro e w2 ⟨rfl,f0⟩;have k0:=Z (d0.trans (f0.mono d0.size));clear f0;go_wp2
 go_end0
 exact⟨k0,λh=>absurd h (by rw[a0.out];omega),λ_=>rfl⟩
structure Fr(w w':World)(b:Nat):Prop where
 g:w.grownBy w' (some b)
 o:∀j,j≠1->j≠34->w'.cell? (O b j)=w.cell? (O b j)
 f:∀j,w'.frozen? (O b j)=w.frozen? (O b j)
def Mv.fr(h:Mv w w' b):Fr w w' b:=⟨h.g,λj h1 _=>h.o j h1,h.f⟩
def Fr.trans{w w1 w2:World}{b:Nat}(h:Fr w w1 b)(k:Fr w1 w2 b):Fr w w2 b:=
 ⟨⟨k.g.os.trans h.g.os,k.g.tape.trans h.g.tape,k.g.output.trans h.g.output,Nat.le_trans h.g.size k.g.size,λi hi a0=>(k.g.block i (Qj hi h.g.size) a0).trans (h.g.block i hi a0)⟩,λj hj hj'=>(k.o j hj hj').trans (h.o j hj hj'),λj=>(k.f j).trans (h.f j)⟩
def Fr.dY{w1 w2:World}{row:Option Nat}(h:Fr w w1 b)(g:w1.grownBy w2 row)(hb:b<w.heap.size)(aT:∀k,row=some k->w.heap.size<=k):Fr w w2 b:=by
 have a0:∀k,k<w.heap.size->some k≠row:=λk hk e=>by have:=aT k e.symm;omega
 have hz:=h.g.size;refine⟨⟨g.os.trans h.g.os,g.tape.trans h.g.tape,g.output.trans h.g.output,Nat.le_trans h.g.size g.size,λk hk b0=>(g.block k (by omega) (a0 k hk)).trans (h.g.block k hk b0)⟩,λj hj hj'=>?_,λj=>?_⟩
 ·exact(Qc (g.block b (by omega) (a0 b hb))).trans (h.o j hj hj')
 exact(Qd (g.block b (by omega) (a0 b hb))).trans (h.f j)
def Fr.lZ(w:World)(b:Nat)(u:Value):Fr w (w.setCell (O b 34) u) b:=
 ⟨Yb w b 34 u,λj _ hj=>Yl (λe=>hj e.symm),λj=>frozen?_setCell _ _ _ _⟩
structure Vv(base:Nat)(w w':World):Prop where
 size:w.heap.size<=w'.heap.size
 block:∀k,base<=k->k<w.heap.size->w'.heap[k]?=w.heap[k]?
def Vv.alloc(base:Nat)(w:World)(o:Obj):Vv base w (w.alloc o):=⟨by simp,λk _ hk=>Below.heap_alloc _ _ _ hk⟩
def Vv.grown{row:Option Nat}(g:w.grownBy w' row)(h:∀k,row=some k->k<base):Vv base w w':=⟨g.size,λk hb hk=>g.block k hk (λe=>by have:=h k e.symm;omega)⟩
def Vv.below(h:D w w'):Vv base w w':=⟨h.size,λk _ hk=>h.block k hk⟩
def Vv.trans{base:Nat}{w w1 w2:World}(h:Vv base w w1)(k:Vv base w1 w2):Vv base w w2:=⟨Nat.le_trans h.size k.size,λi hb hi=>(k.block i hb (Qj hi h.size)).trans (h.block i hb hi)⟩
def yv8{e:TypeId}{size:Nat}(h:w.ownsRow base e size v n xs)(s:Vv base w w'):w'.ownsRow base e size v n xs:=by
 refine⟨h.1,?_⟩;rcases h.2 with hn|⟨g,cap,cur,hv,hb,hg,rest⟩
 ·exact .inl hn
 exact .inr ⟨g,cap,cur,hv,hb,(s.block g hb (Array.getElem?_eq_some_iff.1 hg).1).trans hg,rest⟩
def za1{xs:Is}(h:Zw w.heap.size w lv xs)(hb:xs≠[]->∀b,lv.ownBlock=some b->base<=b)(s:Vv base w w'):Zw w'.heap.size w' lv xs:=by
 obtain⟨ao,cap,rfl,hc,hl,hx⟩:=h;refine⟨ao,cap,rfl,hc,hl,λb0=>?_⟩;obtain⟨b,off,rfl,c0,a0⟩:=hx b0;have d0:=hb b0 b rfl;exact⟨b,off,rfl,Qj c0 s.size,λi hi=>(Qc (s.block b d0 c0)).trans (a0 i hi)⟩
structure Li(base:Nat)(w:World)(fam:List (Value×Is))(sv nv:Value)(n1 n2:Nat)(xs ys:Vs):Prop where
 hs:w.ownsRow base 3 1 sv n1 xs
 hn:w.ownsRow base 73 6 nv n2 ys
 aT:∀p,p∈fam->Vw w p.1 p.2 sv nv/\(p.2≠[]->∀b,p.1.ownBlock=some b->base<=b)
section
variable{fam:List (Value×Is)}{nv:Value}{n1 n2:Nat}{ys:Vs}
def Li.stay(h:Li base w fam sv nv n1 n2 xs ys)(s:Vv base w w'):Li base w' fam sv nv n1 n2 xs ys:=
 ⟨yv8 h.hs s,yv8 h.hn s,λp hp=>⟨⟨za1 (h.aT p hp).1.1 (h.aT p hp).2 s,(h.aT p hp).1.2⟩,(h.aT p hp).2⟩⟩
def Li.first(h:Li base w fam sv nv n1 n2 xs ys){sv':Value}{n1':Nat}{xs':Vs}(ho:w'.ownsRow base 3 1 sv' n1' xs')(hg:w.grownBy w' sv.ownBlock)(hw:sv'.ownBlock=sv.ownBlock\/sv'.ownBlock=some w.heap.size):Li base w' fam sv' nv n1' n2 xs' ys:=
 ⟨ho,h.hn.kept hg (zq3 h.hn h.hs (by decide)),λp hp=>⟨(h.aT p hp).1.first hg hw,(h.aT p hp).2⟩⟩
def Li.second(h:Li base w fam sv nv n1 n2 xs ys){nv':Value}{n2':Nat}{ys':Vs}(ho:w'.ownsRow base 73 6 nv' n2' ys')(hg:w.grownBy w' nv.ownBlock)(hw:nv'.ownBlock=nv.ownBlock\/nv'.ownBlock=some w.heap.size):Li base w' fam sv nv' n1 n2' xs ys':=
 ⟨h.hs.kept hg (zq3 h.hs h.hn (by decide)),ho,λp hp=>⟨(h.aT p hp).1.second hg hw,(h.aT p hp).2⟩⟩
def Li.add(h:Li base w fam sv nv n1 n2 xs ys){lvn:Value}{N:Nat}(hi:Zw w.heap.size w lvn l)(hf:∀b,lvn.ownBlock=some b->N<=b)(a0:∀b,sv.ownBlock=some b->b<N)(b0:∀b,nv.ownBlock=some b->b<N)(hN:base<=N):Li base w (fam++[(lvn,l)]) sv nv n1 n2 xs ys:=by
 refine⟨h.hs,h.hn,λp hp=>?_⟩;simp only[mem_append,mem_singleton]at hp;rcases hp with hp|rfl
 ·exact h.aT p hp
 refine⟨⟨hi,λhx=>?_⟩,λ_ b hb=>by have:=hf b hb;omega⟩;obtain⟨b,hb,c0⟩:=zv0 hi hx;have:=hf b hb;exact⟨λhh=>by have:=a0 b (hh.symm.trans hb);omega,λhh=>by have:=b0 b (hh.symm.trans hb);omega⟩
end
structure PL(s:L)(Jb q0:Nat)(w:World)(b P0:Nat)(lv:Value)(ls:Is)(wr:World)(k q:Nat)(sv nv:Value)(st:Is)(acc:List Fl.ar)(lvs:Vs):Prop where
 hk:k<=Jb
 hq:q<=s.length
 cZ:st.length=k
 ee:acc.length=k
 fV:lvs.length=k
 ed:bV s Jb 0 q0 [] []=bV s (Jb - k) k q st acc
 aS:Fl.fG acc
 hl:Li (P0+1) wr ((lv,ls)::Yu acc lvs) sv nv k k (st.map (int .i64)) (flat acc lvs)
 c0:wr.cell? (O P0 0)=some lv
 c1:wr.cell? (O P0 1)=some nv
 d0:wr.cell? (O w.heap.size 0)=some K
 d1:wr.cell? (O w.heap.size 1)=some K
 f0:∀j,wr.frozen? (O w.heap.size j)=false
 f1:∀j,wr.frozen? (O P0 j)=false
 fb:∀j,wr.frozen? (O b j)=false
 fr:Fr w wr b
 a1:wr.cell? (O b 1)=some (I (q:Int))
 jY:wr.cell? (O b 34)=some sv
 hR:w.heap.size<P0
 hP:P0<wr.heap.size
 hb:b<w.heap.size
def PL.nodes{nv:Value}(h:PL s Jb q0 w b P0 lv ls wr k q sv nv st acc lvs):Zl wr.heap.size wr nv acc:=
 Uy (by rw[h.ee];exact h.hl.hn) (by rw[h.ee,h.fV]) (λi hi=>(h.hl.aT _ (by simp only[mem_cons];right;exact Vj acc lvs i (by rw[h.ee,h.fV]) hi)).1.1)
def PL.ap{nv:Value}(h:PL s Jb q0 w b P0 lv ls wr k q sv nv st acc lvs):Zw wr.heap.size wr lv ls:=(h.hl.aT (lv,ls) (by simp)).1.1
def PL.mH{nv:Value}(h:PL s Jb q0 w b P0 lv ls wr k q sv nv st acc lvs):Zw wr.heap.size wr sv st:=Zw.dp h.hl.hs
section
open Go.Maps Go.WideMaps
section
variable{Fb:Nat}{aB cS bv vv:Value}{S:Nat->Prop}{vs:Is}
end
end
section
end
def Jv{B:Nat}(h:Zw B w v l):∃a c,v=A a l.length c:=by obtain⟨a,c,e,-⟩:=h;exact⟨a,c,e⟩
def Tryz.infoIntZ:(Tryz.prog.info? 3).map (λi=>(i.zero,i.size,i.bytes))=some (some (I 0),1,8):=by kernel_rfl
def zm5(f0:o.guard=none)(s x:Operand)
  (ho:o.op=.call {callee:=.builtin .append,args:=#[s,x],argTypes:=#[27,3]}) (hs:a.eval s=K) (k:Nat) (hx:a.eval x=I k) (h0:0<k) (hk:k<=100000)
  (h:∀(cap:Nat) (W':World),D w W'->k<=cap->cap<=maxLen->W'.ownsRow w.heap.size 3 1 (Sq w.heap.size 0 0 cap) 0 []->wpList prog ops Q rest (a.put o.dst (Sq w.heap.size 0 k cap)) W'):wpList prog ops Q (o::rest) a w:=by
 obtain⟨i0,hi,g0,j0,d0⟩:=info_parts Tryz.infoIntZ;have ed:=Go.Lib.run_append_grow_zeros (P:=prog) w 27 3 o.type 3 i0 (I 0) .i64 .i64 underlying27 underlying3 hi g0 none 0 0 [] (by simp[Builtin.firstCells]) k h0 (by rw[j0];omega) (by omega) (by omega) (by rw[d0];omega) (growslice_fits (by omega) (by rw[d0];omega));rw[Nat.zero_add]at ed;have e0:=grownCap_ge w k 0 3;have b0:=grownCap_le_maxLen w k 0 3 (by unfold maxLen;omega);obtain⟨cap,c0⟩:=J (grownCap w k 0 3);rw[<-c0]at ed e0 b0;obtain⟨cur,a0⟩:=J (([]:Vs).toArray++Builtin.zeroCells (int .i64 0).cells k++Builtin.zeroCells (int .i64 0).cells (cap - k));have cD:cur.size=cap*1:=by
  rw[a0,Array.size_append,Array.size_append,size_zeroCells,size_zeroCells];have:(int IntKind.i64 0).cells.size=1:=rfl;rw[this];simp;omega
 rw[<-a0]at ed;refine wpList_plain f0 λWx hK=>?_;have k0:=hK _ _ (h cap (w.drew.alloc (.cells cur 3)) (dA.alloc lE _) e0 b0 (ownsRow_made w.drew cur cap lE b0 cD));unfold Oper.wp execOp;simp only[ho,resolve,invoke,builtin,Sem.run_bind,Sem.run_pure,Result.andThen_ok,map_toArray,map_cons,map_nil,hs,hx,ed];exact k0
def zl8(w:World)(e:Ending)(w':World):Prop:=D w w'/\∃a c,e=.returned (A a 0 c)/\w'.ownsRow w.heap.size 3 1 (A a 0 c) 0 []
def yc3(w:World)(n:Nat)(hn:n<=100000):E 143 #[K,I n] w (zl8 w):=by
 have b0:(n:Int)<=100000:=by omega
 by_cases h0:n=0
 ·subst h0
  have HE:Y (zl8 w (.returned K) w):=⟨Below.refl _ _,none,0,rfl,ownsRow_nil _ _ _ _⟩
  go_enter func143,ntmps143
  go_wp2;go_ret;exact HE
 have c0:(0:Int)<(n:Int):=by omega
 have a0:Y (0<n):=by show 0<n;omega
 clear h0
 go_enter func143,ntmps143
 go_wp2_with (refine zm5 rfl (.tmp 20) (.tmp 21) rfl rfl n rfl a0 hn ?_)
 intro cap W' hb hc hm ho;have HE:Y (zl8 w (.returned (Sq w.heap.size 0 0 cap)) W'):=⟨hb,_,_,rfl,ho⟩
 have d0:(n:Int)<=(cap:Int):=by omega
 have e0:(0:Int)<=(cap:Int):=by omega
 clear hb ho;go_wp2;go_ret;exact HE
def zpz(w:World)(base:Nat)(v:Value)(n:Nat)(xs:Vs)(a0:w.ownsRow base 3 1 v n xs)(c:Nat)(ty:TypeId){i:TypeInfo}(hi:prog.info? 3=some i):(Builtin.append_ #[27,27] ty #[v,A none 0 c]).run prog w=.ok v w:=by
 rcases a0.2 with⟨rfl,h0⟩|⟨g,cap,cur,rfl,hb,hg,b0,c0,d0,ht⟩
 ·simp[Builtin.append_,run_underlying underlying27,sizeOf,typeInfo,hi,Builtin.lenOf,Builtin.firstCells]
 simp[Builtin.append_,run_underlying underlying27,sizeOf,typeInfo,hi,Builtin.lenOf,Builtin.firstCells,b0,storeCells]
def zm6(e0:o.guard=none)(s x:Operand)
  (ho:o.op=.call {callee:=.builtin .append,args:=#[s,x],argTypes:=#[27,27]}) (base:Nat) (v:Value) (ys:Is) (hs:a.eval s=v) (a0:w.ownsRow base 3 1 v ys.length (ys.map (int .i64))) (xv:Value) (hx:a.eval x=xv) (B:Nat) (xs:Is) (h0:Zw B w xv xs) (o0:ys.length<=1000000) (aL:xs.length<=1000000) (c0:base<=w.heap.size)
  (h:∀v' w',w'.ownsRow base 3 1 v' (ys++xs).length ((ys++xs).map (int .i64))->w.grownBy w' v.ownBlock->wpList prog ops Q rest (a.put o.dst v') w'):wpList prog ops Q (o::rest) a w:=by
 obtain⟨i0,hi,j0,k0,l0⟩:=info_parts Tryz.infoIntZ;obtain⟨ao,cap,rfl,hc,hm,d0⟩:=h0;have f0:∀ad,ao=some ad->(∀j u,(xs.map (int .i64))[j]?=some u->w.cell? (ad.add j)=some u)->wpList prog ops Q (o::rest) a w:=by
  rintro ad rfl m0;refine wpList_append_own _ e0 s x 27 ho base 3 i0 (I 0) 1 8 underlying27 hi j0 k0 l0 rfl (by decide) _ _ _ hs a0 ad xs.length cap (xs.map (int .i64)) hx (by simp) m0 ?_ (by unfold maxLen;omega) (by omega) c0 ?_
  ·intro u hu;simp only[mem_map]at hu;obtain⟨y,_,rfl⟩:=hu;rfl
  intro v' w' hown' hg _;exact h v' w' (by rw[length_append,map_append];exact hown') hg
 by_cases g0:xs=[]
 ·subst g0
  cases ao with
  |some ad=>exact f0 ad rfl (by simp)
  |none=>
   have ed:=zpz w base v ys.length _ a0 cap o.type hi;refine wpList_plain e0 λWx hK=>?_;unfold Oper.wp;simp only[length_nil]at hx;simp[execOp,ho,resolve,invoke,builtin,hs,hx,ed,Result.andThen];exact hK _ _ (h _ _ (by simpa using a0) ⟨rfl,rfl,rfl,lE,λ_ _ _=>rfl⟩)
 obtain⟨b,off,rfl,p0,b0⟩:=d0 g0;refine f0 _ rfl ?_;intro j u hj;rw[getElem?_map]at hj;obtain⟨y,hy,rfl⟩:=Option.map_eq_some_iff.1 hj;have n0:j<xs.length:=(List.getElem?_eq_some_iff.1 hy).1;have:=b0 j n0;rw[Qa,hy]at this
 have h2:((O b off):Addr).add j=(O b (off+j)):=by unfold Addr.add;split<;>simp_all
 rw[h2];simpa using this
def Ud(xs ys:Is)(k:Nat):Is:=if k=0 then [] else if k=1 then xs else xs++ys
def zu9(xs ys:Is)(k:Nat):Is:=if k=0 then xs else ys
def za2(xs ys:Is)(k:Nat)(hk:k<2):Ud xs ys (k+1)=Ud xs ys k++zu9 xs ys k:=by
 rcases(show k=0\/k=1 by omega) with rfl|rfl<;>simp[Ud,zu9]
def ym6(w:World)(sb:Nat)(c0v c1v:Value)(xs ys:Is)(cD:sb<w.heap.size)(h0:w.cell? (O sb 0)=some c0v)(h1:w.cell? (O sb 1)=some c1v)(hx:Zw w.heap.size w c0v xs)(hy:Zw w.heap.size w c1v ys)(hl:xs.length<=10000/\ys.length<=10000):
  E 108 #[Sq sb 0 2 2] w λe w'=>D w w'/\∃v,e=.returned v/\w'.ownsRow w.heap.size 3 1 v (xs++ys).length ((xs++ys).map (int .i64)):=by
 have i0:Y (∀k,k<2->∀W,D w W->∃a c,M W sb k (A a (zu9 xs ys k).length c)/\Zw W.heap.size W (A a (zu9 xs ys k).length c) (zu9 xs ys k)/\(zu9 xs ys k).length<=10000):=λk hk W hW=>by
  rcases(show k=0\/k=1 by omega) with rfl|rfl
  ·obtain⟨a,c,e⟩:=Jv hx
   subst e;exact⟨a,c,cT hW cD h0,(hx.below hW).mono hW.size,hl.1⟩
  obtain⟨a,c,e⟩:=Jv hy;subst e;exact⟨a,c,cT hW cD h1,(hy.below hW).mono hW.size,hl.2⟩
 have j0:Y (∀k,k<=2->(Ud xs ys k).length<=20000):=λk hk=>by
  rcases(show k=0\/k=1\/k=2 by omega) with rfl|rfl|rfl<;>simp[Ud]<;>omega
 have q0:Y (∀n,n<=100000->E 143 #[K,I (n:Nat)] w (zl8 w)):=λn hn=>yc3 w n hn;obtain⟨zs,e0⟩:=J (xs++ys);rw[<-e0];have r0:=Z e0;clear h0 h1 hx hy e0
 go_enter func108,ntmps108
 go_wp2_with fail
 go_loopw [3,11] (λs i wr=>wr=w/\∃k:Nat,k<=2/\i=I k/\s=I ((Ud xs ys k).length:Nat)) (λ_ i _=>2 - (intOf i).toNat)
 case atStart=>exact⟨rfl,0,by omega,rfl,rfl⟩
 case round=>
  obtain⟨k0,k,hk,rfl,rfl⟩:=hrel;rw[k0];clear k0 wr;have D0:((Ud xs ys k).length:Int)<=20000:=(by have:=j0 k hk;omega)
  by_cases b0:k<2
  ·have s0:(k:Int)<2:=by omega
   obtain⟨a,c,ck,-,t0⟩:=i0 k b0 w (Below.refl _ _);have u0:((zu9 xs ys k).length:Int)<=10000:=(by omega);have E0:(0:Int)<=((Ud xs ys k).length:Int)+((zu9 xs ys k).length:Int):=(by omega);have f0:Y (((Ud xs ys (k+1)).length:Int)=((Ud xs ys k).length:Int)+((zu9 xs ys k).length:Int)):=(by show _=_;rw[za2 xs ys k b0,length_append];omega);generalize (Ud xs ys k).length=lk at*;generalize (zu9 xs ys k).length=ek at*;go_wp2
   go_roundw
   case rel=>exact⟨by first|rfl|trivial,k+1,by omega,by go_num,by rw[f0.out]⟩
   case measure=>simp[intOf];omega
  have s0:¬(k:Int)<2:=(by omega)
  obtain rfl:k=2:=by omega
  have v0:Y (E 143 #[K,I ((Ud xs ys 2).length:Nat)] w (zl8 w)):=q0 _ (by omega);generalize (Ud xs ys 2).length=tot at*
  go_wp2_with fail
  refine v0.mono ?_;rintro e W1 ⟨l0,a1,c1,rfl,m0⟩;have x0:=Z l0;have y0:=Z m0;clear l0 m0
  go_wp2_with fail
  go_loopw [6,27] (λv i wr=>D w wr/\∃k:Nat,k<=2/\i=I k/\wr.ownsRow w.heap.size 3 1 v (Ud xs ys k).length ((Ud xs ys k).map (int .i64))) (λ_ i _=>2 - (intOf i).toNat)
  case atStart=>exact⟨x0,0,by omega,rfl,y0⟩
  case round=>
   rename_i u6 u27;obtain⟨n0,k,z0,rfl,c0⟩:=hrel;have d0:=Z n0;have a0:=Z c0;clear n0 c0
   by_cases b0:k<2
   ·have g0:(k:Int)<2:=by omega
    obtain⟨a,c,ck,o0,t0⟩:=i0 k b0 wr d0.out;obtain⟨va,vc,rfl⟩:∃a c,u6=A a (Ud xs ys k).length c:=by
     rcases a0.2 with⟨e1,e2⟩|⟨g,cp,cur,e1,_⟩
     ·exact⟨none,0,by rw[e1,e2]⟩
     exact⟨_,cp,e1⟩
    have A0:=Z o0;have B0:=j0 k z0
    have f0:Y (∀v' w',w'.ownsRow w.heap.size 3 1 v' (Ud xs ys k++zu9 xs ys k).length ((Ud xs ys k++zu9 xs ys k).map (int .i64))->wr.grownBy w' (A va (Ud xs ys k).length vc).ownBlock->D w w'/\w'.ownsRow w.heap.size 3 1 v' (Ud xs ys (k+1)).length ((Ud xs ys (k+1)).map (int .i64))):=λv' w' h2 h3=>by
     rw[za2 xs ys k b0];exact⟨d0.grown h3 d0.size (λb hb=>(a0.lt b hb).1),h2⟩
    have C0:w.heap.size<=wr.heap.size:=d0.size;clear o0
    go_wp2_with (at_builtin;refine zm6 rfl (.tmp 31) (.tmp 32) rfl w.heap.size _ (Ud xs ys k) rfl a0 _ rfl wr.heap.size (zu9 xs ys k) A0 (by omega) (by omega) C0 ?_)
    intro v' w' h2 h3;have p0:Y _:=f0 v' w' (by rw[length_append,map_append];exact h2) h3;clear h2 h3;go_wp2
    go_roundw
    case rel=>exact⟨p0.1,k+1,by omega,by go_num,p0.2⟩
    case measure=>simp[intOf];omega
   have g0:¬(k:Int)<2:=(by omega)
   obtain rfl:k=2:=by omega
   have HE:Y (wr.ownsRow w.heap.size 3 1 u6 zs.length (zs.map (int .i64))):=(by show ownsRow _ _ _ _ _ _ _;rw[r0.out];exact a0);clear a0;go_wp2;go_ret;exact⟨d0,u6,rfl,HE⟩
end Go.Proofs.YtgmbnnpnefniiaaGreatDoor

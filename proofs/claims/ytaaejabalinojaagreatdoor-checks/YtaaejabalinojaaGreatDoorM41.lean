import Derived.Test.YtaaejabalinojaaGreatDoorM40
import Derived.Maps.RangeWalk
set_option linter.all false
set_option maxRecDepth 100000
set_option maxHeartbeats 40000000
namespace Go.Proofs.YtaaejabalinojaaGreatDoor
open Go.RowKit Go.Proofs.Tryz
namespace Fl
def usedBy(ns:List Node)(j k:Nat):Bool:=(List.range j).any (λt=>(Yw (nth ns t)).any (λp=>p==(k:Int)))
def firstUn(ns:List Node):Int:=match (List.range (ns.length - 1)).find? (λk=> !usedBy ns ns.length k) with|some k=>(k:Int)|none=> -1
def usedBy_succ(ns:List Node)(j k:Nat):usedBy ns (j+1) k=(usedBy ns j k||(Yw (nth ns j)).any (λp=>p==(k:Int))):=by
 unfold usedBy;rw[List.range_succ,List.any_append];simp
end Fl
def yiz{w:World}{b:Nat}{te:TypeId}{fr:Nat×Nat}(h:w.heap[b]?=some (.cells Xy te fr)):Vs w b 0:=by
 have q:∀i,w.cell? ⟨b,i,none⟩=Xy[i]?:=λi=>cell_of_row w b i Xy te fr h;intro k hk
 have:k=0\/k=1\/k=2\/k=3\/k=4\/k=5\/k=6\/k=7:=by omega
 rcases this with rfl|rfl|rfl|rfl|rfl|rfl|rfl|rfl<;>exact⟨(q _).trans rfl,(q _).trans rfl,(q _).trans rfl⟩
def Vs.below{w w':World}{b ro:Nat}(h:Vs w b ro)(hb:Below w.heap.size w w'):Vs w' b ro:=λk hk=>by
 obtain⟨h1,h2,h3⟩:=h k hk;have a0:b<w.heap.size:=Qe w _ h1;exact⟨(hb.cell (p:=⟨b,_,none⟩) a0).trans h1,(hb.cell (p:=⟨b,_,none⟩) a0).trans h2,(hb.cell (p:=⟨b,_,none⟩) a0).trans h3⟩
structure zt0(w:World)(U n:Nat)(us:Nat->Bool):Prop where
 hu:∀i,i<n->w.cell? ⟨U,i,none⟩=some (.bool (us i))
 hf:∀i,w.frozen? ⟨U,i,none⟩=false
 hall:∀i v,w.cell? ⟨U,i,none⟩=some v->∃t,v=.bool t
def zt0.below{w w':World}{U n:Nat}{us:Nat->Bool}(h:zt0 w U n us)(hb:Below w.heap.size w w')(hU:U<w.heap.size):zt0 w' U n us:=by
 have q:∀i,w'.cell? ⟨U,i,none⟩=w.cell? ⟨U,i,none⟩:=λi=>hb.cell (p:=⟨U,i,none⟩) hU;exact⟨λi hi=>(q i).trans (h.hu i hi),λi=>(hb.frozen (p:=⟨U,i,none⟩) hU).trans (h.hf i),λi v hv=>h.hall i v ((q i).symm.trans hv)⟩
def zt0.set{w:World}{U n:Nat}{us:Nat->Bool}(h:zt0 w U n us)(y:Nat)(hy:y<n):zt0 (w.setCell ⟨U,y,none⟩ (.bool true)) U n (λi=>us i||i==y):=by
 have hs:(w.setCell ⟨U,y,none⟩ (.bool true)).cell? ⟨U,y,none⟩=some (.bool true):=Uh (h.hu y hy);refine⟨λi hi=>?_,λi=>(World.frozen?_setCell _ _ _ _).trans (h.hf i),λi v hv=>?_⟩
 ·by_cases e:i=y
  ·subst e;rw[hs];simp
  rw[Yh (λe'=>e e'.symm),h.hu i hi];simp[e]
 by_cases e:i=y
 ·subst e;rw[hs]at hv;exact⟨true,by injection hv with hv;exact hv.symm⟩
 rw[Yh (λe'=>e e'.symm)]at hv;exact h.hall i v hv
def zt0.apart{w:World}{U n:Nat}{us:Nat->Bool}(h:zt0 w U n us){b o:Nat}{x:Int}(hc:w.cell? ⟨b,o,none⟩=some (.int .i64 x)):b≠U:=by
 intro e;subst e;obtain⟨t,ht⟩:=h.hall o _ hc;cases ht
structure zzw(ns:List Fl.Node)(w wr:World)(TB U:Nat)(us:Nat->Bool):Prop where
 hm:zt0 wr U ns.length us
 hr:Vs wr TB 0
 hb:Below w.heap.size w wr
 hT:w.heap.size<=TB
 hU:TB<U
 hz:U<wr.heap.size
def zzw.below{ns:List Fl.Node}{w wr w':World}{TB U:Nat}{us:Nat->Bool}(h:zzw ns w wr TB U us)(hb:Below wr.heap.size wr w'):zzw ns w w' TB U us:=
 ⟨h.hm.below hb h.hz,h.hr.below hb,h.hb.trans (hb.mono h.hb.size),h.hT,h.hU,Nat.lt_of_lt_of_le h.hz hb.size⟩
def zzw.set{ns:List Fl.Node}{w wr:World}{TB U:Nat}{us:Nat->Bool}(h:zzw ns w wr TB U us)(y:Nat)(hy:y<ns.length):zzw ns w (wr.setCell ⟨U,y,none⟩ (.bool true)) TB U (λi=>us i||i==y):=by
 have hT:=h.hT;have hU:=h.hU;refine⟨h.hm.set y hy,λk hk=>?_,h.hb.setCell (by show w.heap.size<=U;omega) _,hT,hU,by have:=h.hz;simpa [World.setCell] using this⟩;obtain⟨h1,h2,h3⟩:=h.hr k hk;have g:=Xt wr U y (.bool true)
 have a0:some TB≠some U:=by simp;omega
 exact⟨g.cell h1 a0,g.cell h2 a0,g.cell h3 a0⟩
def zzw.congr{ns:List Fl.Node}{w wr:World}{TB U:Nat}{us us':Nat->Bool}(h:zzw ns w wr TB U us)(he:∀i,i<ns.length->us i=us' i):zzw ns w wr TB U us':=
 ⟨⟨λi hi=>by rw[<-he i hi];exact h.hm.hu i hi,h.hm.hf,h.hm.hall⟩,h.hr,h.hb,h.hT,h.hU,h.hz⟩
structure ymy(w:World)(pao:Option Addr)(ps:List Int):Prop where
 hx:ps≠[]->∃b off,pao=some ⟨b,off,none⟩/\∀i,i<ps.length->w.cell? ⟨b,off+i,none⟩=some (.int .i64 (ps.getD i 0))
def Tryz.infoBool:(Tryz.prog.info? 4).map (λi=>(i.zero,i.size,i.bytes))=some (some (.bool false),1,1):=by kernel_rfl
def zix(ns:List Fl.Node)(nv:Value)(w:World)(hn:Yv w.heap.size w nv ns)(hlen:ns.length<=1000)
  (hk:∀i,i<ns.length->0<=(Fl.nth ns i).kind/\(Fl.nth ns i).kind<8) (hp:∀i,i<ns.length->∀p∈Yw (Fl.nth ns i),0<=p/\p<ns.length):
  Calls prog 111 #[nv] w λe w'=>e=.returned (.int .i64 (Fl.firstUn ns))/\Below w.heap.size w w':=by
 obtain⟨i0,hi,A0,B0,C0⟩:=info_parts Tryz.infoBool;obtain⟨na,nc,rfl,_,hm,_⟩:=id hn;have HN:=Zz hn;have HK:=Zz hk;have HP:=Zz hp;clear hn hm hk hp
 go_enter func111,ntmps111
 go_wp2_with (first|(go_at_call 45;refine(zd2 _).mono ?_;rintro e w1 ⟨rfl,rfl⟩)|(refine znv rfl _ _ 129 rfl _ _ _ Xy rfl (by simp) rfl Tryz.infoRules zd1 yy1 ?_)|(at_make;refine wpList_make_full _ rfl _ _ 93 rfl (w.heap.size+2) 4 i0 (.bool false) 1 underlying93 hi A0 B0 _ _ _ _ ns.length rfl rfl rfl rfl (by rw[C0];omega) (by unfold maxLen;omega) (by simp) ?_;intro w3 b0 k0))
 have s0:Below w.heap.size w w3:=((bA).alloc (by simp) _).grown k0 (by simp;omega) (λk h=>by cases h);have g0:Hid (zzw ns w w3 (w.heap.size+1) (w.heap.size+1+1) (λ_=>false)):=by
  have l0:((w.alloc (.cells Xy 129)).alloc (.cells Xy 129)).heap[w.heap.size+1]?=some (.cells Xy 129 (0,0)):=by
   have:=heap_alloc_last (w.alloc (.cells Xy 129)) (.cells Xy 129)
   rwa [World.size_alloc]at this
  rcases b0.2 with⟨h,_⟩|⟨g,cap',cur,hv,P0,h0,Q0,m0,R0,D0⟩
  ·cases h
  simp only[Value.slice.injEq,Option.some.injEq,Addr.mk.injEq]at hv;obtain⟨⟨E0,_⟩,_,n0⟩:=hv;subst n0;rw[<-E0]at h0;have o0:cur.toList=List.replicate ns.length (.bool false):=by
   have hl:cur.toList.length=ns.length:=(by simp;omega);have h2:=D0;rw[show (Value.bool false).cells=#[.bool false] from rfl,toList_madeCells_one,Nat.mul_one,List.take_of_length_le (by omega)]at h2;exact h2
  have hc:∀i,w3.cell? ⟨w.heap.size+1+1,i,none⟩=(List.replicate ns.length (Value.bool false))[i]?:=λi=>by
   rw[cell_of_row w3 _ i cur _ _ (by simpa using h0),<-o0];simp
  refine⟨⟨λi hi=>by rw[hc];simp[hi],λi=>by simp[World.frozen?,(by simpa using h0:w3.heap[w.heap.size+1+1]?=_)],λi v hv=>?_⟩,yiz ((k0.block _ (by simp) (by simp)).trans l0),s0,by omega,by omega,?_⟩
  ·rw[hc]at hv;exact⟨false,(List.mem_replicate.1 (List.mem_of_getElem? hv)).2⟩
  have:=(Array.getElem?_eq_some_iff.1 h0).1;simpa using this
 obtain⟨TB,hTB⟩:=nmE (w.heap.size+1);rw[<-hTB]at g0⊢;obtain⟨U,hU⟩:=nmE (TB+1);rw[<-hU]at g0⊢;clear b0 k0 s0 hTB hU
 go_loopw [15] (λi wr=>∃(j:Nat),j<=ns.length/\i=.int .i64 j/\zzw ns w wr TB U (Fl.usedBy ns j)) (λi _=>ns.length - (intOf i).toNat)
 case atStart=>exact⟨0,by omega,rfl,g0.out.congr (λi _=>rfl)⟩
 case round=>
  clear g0;obtain⟨j,hj,rfl,hr⟩:=hrel;have HR:=Zz hr;clear hr
  by_cases d0:j<ns.length
  ·obtain⟨b,off,rfl⟩:∃b off,na=some ⟨b,off,none⟩:=by
    obtain⟨ao',cap',hv',_,_,hx'⟩:=HN.out;obtain⟨b,off,ha,_⟩:=hx' (by intro h;rw[h]at d0;simp at d0);simp only[Value.slice.injEq]at hv';exact⟨b,off,hv'.1.trans ha⟩
   obtain⟨lv,p0⟩:=(HN.out.below HR.out.hb).node d0 HR.out.hb.size;have F0:=HK.out j d0;obtain⟨x,hx⟩:∃x:Nat,(Fl.nth ns j).kind=(x:Int):=⟨(Fl.nth ns j).kind.toNat,by omega⟩;have G0:x<8:=(by omega);have c0:=p0.c0;rw[hx]at c0;have h3:=(HR.out.hr x G0).2.2;have h3':wr.cell? ⟨TB,x*4+3,none⟩=some (.func (.func (byF x)) #[] #[]):=(by simpa using h3);have H0:∀W,(callFunc (byF x) #[.pointer (some ⟨b,off+j*6,none⟩)]).run prog W=.ok (.enter (byF x) #[.pointer (some ⟨b,off+j*6,none⟩)]) W:=λW=>zk5 x _ W;have HC:Hid (Calls prog (byF x) #[.pointer (some ⟨b,off+j*6,none⟩)] wr.drew (Vi (Yw (Fl.nth ns j)) wr.drew)):=by
    rw[<-hx];exact yy2 (p0.below ((Below.refl _ _).drew))
   have t0:(j:Int)<(ns.length:Int):=(by omega);have S0:(x:Int)<8:=(by omega);clear p0 h3 F0 hx
   go_wp2_with fail
   go_region_with (refine(HC.out).mono ?_;rintro e w4 ⟨pv,rfl,I0,u0⟩;obtain⟨pao,pcap,rfl,_,v0,e0⟩:=I0)
   have x0:Hid (zzw ns w w4 TB U (Fl.usedBy ns j)):=HR.out.below ((Below.refl _ _).drew.trans u0);obtain⟨ps,q0⟩:=nmE (Yw (Fl.nth ns j));rw[<-q0]at v0 e0⊢;have y0:=Zz q0;have j0:Hid (ymy w4 pao ps):=⟨λJ0=>by obtain⟨b,off,ha,_,hc⟩:=e0 J0;exact⟨b,off,ha,hc⟩⟩;unfold maxLen at v0;clear e0 q0 u0 HC H0 c0 h3'
   go_wp2_with fail
   simp only[List.getElem_toArray,List.getElem_cons_succ,List.getElem_cons_zero,Act.put,List.setIfInBounds_toArray,List.set_cons_succ,List.set_cons_zero]
   go_loopw [31] (λi wz=>∃(m:Nat),m<=ps.length/\i=.int .i64 m/\ymy wz pao ps/\zzw ns w wz TB U (λk=>Fl.usedBy ns j k||(ps.take m).any (λp=>p==(k:Int)))) (λi _=>ps.length - (intOf i).toNat)
   case atStart=>exact⟨0,by omega,rfl,j0.out,x0.out.congr (λk _=>by simp)⟩
   case round=>
    clear x0 j0;obtain⟨m,K0,rfl,e0,hu⟩:=hrel;have j0:=Zz e0;have HU:=Zz hu;clear e0 hu
    by_cases a0:m<ps.length
    ·obtain⟨pb,po,rfl,r0⟩:=j0.out.hx (by intro h;rw[h]at a0;simp at a0)
     have m0:=r0 m a0;have hr:=HP.out j d0 (ps.getD m 0) (by rw[<-y0.out];exact zy2 a0);obtain⟨y,hy⟩:∃y:Nat,ps.getD m 0=(y:Int):=⟨(ps.getD m 0).toNat,by omega⟩;rw[hy]at m0;have z0:y<ns.length:=(by omega);have T0:(y:Int)<(ns.length:Int):=(by omega);have HY:=Zz hy;have uy:=HU.out.hm.hu y z0;have uf:=HU.out.hm.hf;have L0:pb≠U:=HU.out.hm.apart m0;have M0:(m:Int)<(ps.length:Int):=(by omega);have N0:=Zz r0;clear hr hy r0;go_wp2
     go_roundw
     case rel=>
      refine⟨m+1,by omega,by go_num,⟨λ_=>⟨pb,po,rfl,λi hi=>(Xt _ _ _ _).cell (N0.out i hi) (by simpa using L0)⟩⟩,(HU.out.set y z0).congr (λk hk=>?_)⟩;rw[Fl.take_snocI ps m a0,List.any_append,HY.out];simp only[List.any_cons,List.any_nil,Bool.or_false];rw[<-Bool.or_assoc]
      congr 1
      rw[Bool.eq_iff_iff,beq_iff_eq,beq_iff_eq];omega
     case measure=>simp[intOf];omega
    have HE:Hid (zzw ns w wr TB U (Fl.usedBy ns (j+1))):=HU.out.congr (λk _=>by rw[Fl.usedBy_succ,<-y0.out,List.take_of_length_le (by omega)]);go_wp2
    go_roundw
    case rel=>exact⟨j+1,by omega,by go_num,HE.out⟩
    case measure=>simp[intOf];omega
  have t0:j=ns.length:=(by omega);subst t0;clear hj d0
  go_wp2_with fail
  go_loop [43] (λi=>∃m:Nat,m<=ns.length/\i=.int .i64 m/\∀t,t<m->Fl.usedBy ns ns.length t=true) (λi=>ns.length - (intOf i).toNat)
  case atStart=>exact⟨0,by omega,rfl,λt ht=>by omega⟩
  case round=>
   obtain⟨m,K0,rfl,hall⟩:=hrel;have HA:=Zz hall;clear hall
   by_cases d0:(m:Int)<(ns.length:Int) - 1
   ·have um:=HR.out.hm.hu m (by omega)
    have M0:(m:Int)<(ns.length:Int):=(by omega)
    cases f0:Fl.usedBy ns ns.length m with
    |true=>
     rw[f0]at um;have O0:=Zz f0;clear f0;go_wp2
     go_round
     case rel=>exact⟨m+1,by omega,by go_num,λt ht=>by
      by_cases h:t<m
      ·exact HA.out t h
      have:t=m:=by omega
      subst this;exact O0.out⟩
     case measure=>simp[intOf];omega
    |false=>
     rw[f0]at um;have HF:Hid (Fl.firstUn ns=(m:Int)):=by
      show Fl.firstUn ns=(m:Int);unfold Fl.firstUn;rw[Fl.find_first _ _ m (λt ht=>by rw[HA.out t ht];rfl) (by omega) (by rw[f0];rfl)]
     clear f0;go_wp2;go_ret;exact⟨Uj HF.out.symm,HR.out.hb⟩
   have HF:Hid (Fl.firstUn ns= -1):=by
    show Fl.firstUn ns= -1;unfold Fl.firstUn;rw[Fl.find_none _ _ (λk hk=>by rw[HA.out k (by omega)];rfl)]
   go_wp2;go_ret;exact⟨Uj HF.out.symm,HR.out.hb⟩
namespace Fl
def good(k:Nat)(nd:Node):Prop:=sound nd=true/\(Yw nd).any (λp=>decide ((k:Int)<=p))=false
def inR_of{x:Int}(h:0<=x/\x<2147483648):inR x=true:=by simp[inR,h.1,h.2]
def getD_inR{l:List Int}(h:∀x∈l,0<=x/\x<2147483648)(i:Nat):inR (l.getD i 0)=true:=by
 rw[Qa]
 cases he:l[i]? with
 |none=>rfl
 |some x=>exact inR_of (h x (List.mem_of_getElem? he))
def getD_out{l:List Int}{i:Nat}(h:l.length<=i):l.getD i 0=0:=by
 rw[Qa,List.getElem?_eq_none h];rfl
def okV_get{l:List Int}(h:∀x∈l,0<=x/\x<2147483648){f:Nat}(hl:l.length=f)(i:Nat):okV (f:Int) (i:Int) (l.getD i 0)=true:=by
 unfold okV;rw[getD_inR h i,Bool.true_and,Bool.or_eq_true,decide_eq_true_eq,decide_eq_true_eq]
 by_cases hi:i<f
 ·left;omega
 right;exact getD_out (by omega)
def oneFin_good'{p k:Nat}{nd:Node}{e:Int}(h:¬(oneFin p k nd e).2.1<0)(hs:sound nd=true):good k (oneFin p k nd e).1:=by
 unfold oneFin at*
 split at h
 ·exact absurd (show (-1:Int)<0 by decide) h
 rename_i hn;rw[if_neg hn];exact⟨hs,by simpa using hn⟩
def one_good'(s:List UInt8)(p k:Nat)(hp:p<=s.length)(h:¬(one s p k).2.1<0):good k (one s p k).1:=by
 unfold one at*
 by_cases h0:p=s.length
 ·rw[if_pos h0]at h;exact absurd (show (-1:Int)<0 by decide) h
 rw[if_neg h0]at h⊢;simp only at h⊢;have hx:(s.getD p 0).toNat<256:=(s.getD p 0).toNat_lt;generalize (s.getD p 0).toNat=x at*
 by_cases h1:fields (x:Int)= -2
 ·rw[if_pos h1]at h;exact absurd (show (-1:Int)<0 by decide) h
 rw[if_neg h1]at h⊢
 by_cases h2:(num s (p+1)).2.1<0
 ·rw[if_pos h2]at h;exact absurd (show (-1:Int)<0 by decide) h
 rw[if_neg h2]at h⊢;obtain⟨v,q,hn,_,hq,hv⟩:=zu2 s (p+1) (by omega) h2;rw[hn]at h⊢;simp only[Int.toNat_natCast]at h⊢;have a0:inR (v:Int)=true:=inR_of ⟨by omega,by omega⟩
 by_cases h3:fields (x:Int)= -1
 ·rw[if_pos h3]at h⊢
  by_cases h4:(num s q).2.1<0
  ·rw[if_pos h4]at h;exact absurd (show (-1:Int)<0 by decide) h
  rw[if_neg h4]at h⊢
  by_cases h5:16<(num s q).1
  ·rw[if_pos h5]at h;exact absurd (show (-1:Int)<0 by decide) h
  rw[if_neg h5]at h⊢;obtain⟨m,q2,hm,_,b0,_⟩:=zu2 s q hq h4;rw[hm]at h h5⊢;simp only[Int.toNat_natCast]at h h5⊢
  by_cases h6:(nums s q2 m).2.1<0
  ·rw[if_pos h6]at h;exact absurd (show (-1:Int)<0 by decide) h
  rw[if_neg h6]at h⊢;refine oneFin_good' h ?_;rcases nums_ok s q2 m b0 with h7|⟨_,_,h8,h9⟩
  ·omega
  simp only[sound,h3,a0,h8,okV,Bool.and_eq_true,decide_eq_true_eq,Bool.or_eq_true];refine⟨by omega,by first|trivial|rfl,by omega,⟨by first|rfl|trivial,.inr (by first|rfl|trivial)⟩,⟨by first|rfl|trivial,.inr (by first|rfl|trivial)⟩,⟨by first|rfl|trivial,.inr (by first|rfl|trivial)⟩,?_,.inl (by first|trivial|rfl)⟩;rw[List.all_eq_true];intro y hy;exact inR_of (h9 y hy)
 rw[if_neg h3]at h⊢;have c0:=fields_lt (x:Int);obtain⟨f,hf⟩:∃f:Nat,fields (x:Int)=(f:Int):=⟨(fields (x:Int)).toNat,by omega⟩;rw[hf]at h⊢;simp only[Int.toNat_natCast]at h⊢
 by_cases h6:(nums s q f).2.1<0
 ·rw[if_pos h6]at h;exact absurd (show (-1:Int)<0 by decide) h
 rw[if_neg h6]at h⊢;refine oneFin_good' h ?_;rcases nums_ok s q f hq with h7|⟨_,_,h8,h9⟩
 ·omega
 have g0:=okV_get h9 h8 0;have g1:=okV_get h9 h8 1;have g2:=okV_get h9 h8 2;simp only[sound,hf,a0,Bool.and_eq_true,decide_eq_true_eq,Bool.or_eq_true];refine⟨by omega,by first|trivial|rfl,by simp,?_,?_,?_,by simp,.inr (by first|rfl|trivial)⟩
 ·simpa using g0
 ·simpa using g1
 simpa using g2
def sound_fits{nd:Node}(h:sound nd=true):fits nd/\0<=nd.kind/\nd.kind<8:=by
 simp only[sound,Bool.and_eq_true,decide_eq_true_eq,okV]at h;obtain⟨h1,h2,h3,⟨h4,_⟩,⟨h5,_⟩,⟨h6,_⟩,h7,_⟩:=h
 have hk:0<=nd.kind/\nd.kind<8:=by unfold fields at h1;(repeat' split at h1)<;>omega
 exact⟨⟨inR_of ⟨hk.1,by omega⟩,h2,h4,h5,h6,h3,h7⟩,hk⟩
def prem_inR{nd:Node}(h:sound nd=true):∀p∈Yw nd,0<=p:=by
 obtain⟨⟨_,_,ha,hb,hc,_,hl⟩,_⟩:=sound_fits h
 have q:∀{x:Int},inR x=true->0<=x:=λh=>by simp only[inR,Bool.and_eq_true,decide_eq_true_eq]at h;exact h.1
 intro p hp;unfold Yw at hp
 repeat' split at hp
 all_goals try simp only[List.mem_cons,List.not_mem_nil,or_false]at hp
 all_goals first|(rcases hp with rfl|rfl|rfl<;>first|exact q ha|exact q hb|exact q hc)|(rcases hp with rfl|rfl<;>first|exact q ha|exact q hb|exact q hc)|(subst hp;first|exact q ha|exact q hb|exact q hc)|exact q (List.all_eq_true.1 hl p hp)|exact hp.elim
def allGood(ns:List Node):Prop:=∀i,i<ns.length->good i (nth ns i)
def allGood_snoc{ns:List Node}{nd:Node}(h:allGood ns)(hg:good ns.length nd):allGood (ns++[nd]):=by
 intro i hi;simp only[List.length_append,List.length_cons,List.length_nil]at hi
 by_cases h1:i<ns.length
 ·have:nth (ns++[nd]) i=nth ns i:=by simp[nth,Qa,List.getElem?_append_left h1]
  rw[this];exact h i h1
 have hi':i=ns.length:=by omega
 subst hi'
 have:nth (ns++[nd]) ns.length=nd:=by simp[nth,Qa]
 rw[this];exact hg
def good_lt{k:Nat}{nd:Node}(h:good k nd){p:Int}(hp:p∈Yw nd):0<=p/\p<k:=by
 refine⟨prem_inR h.1 p hp,?_⟩;have:=h.2;rw[List.any_eq_false]at this;have:=this p hp;simp only[decide_eq_true_eq]at this;omega
def shaped_good{ns:List Node}(h:allGood ns):shaped ns=if 0<=firstDup ns then firstDup ns else firstUn ns:=by
 have hb:∀k,k<ns.length->bad ns k=dupAt ns k:=λk hk=>by
  have:=h k hk;unfold bad dupAt;rw[this.1,this.2];rfl
 have hu:∀k,used ns k=usedBy ns ns.length k:=λk=>by
  unfold used usedBy;rw[Bool.eq_iff_iff,List.any_eq_true,List.any_eq_true]
  constructor
  ·rintro⟨j,hj,hh⟩;exact⟨j,hj,(Bool.and_eq_true_iff.1 hh).2⟩
  rintro⟨j,hj,hh⟩;refine⟨j,hj,?_⟩;rw[Bool.and_eq_true];refine⟨?_,hh⟩;rw[List.any_eq_true]at hh;obtain⟨p,hp,he⟩:=hh;have:=good_lt (h j (by simpa using hj)) hp;rw[beq_iff_eq]at he;rw[decide_eq_true_eq];omega
 have a0:(List.range ns.length).find? (bad ns)=(List.range ns.length).find? (dupAt ns):=by
  have:∀(l:List Nat),(∀k∈l,k<ns.length)->l.find? (bad ns)=l.find? (dupAt ns):=by
   intro l
   induction l with
   |nil=>intro _;rfl
   |cons x l ih=>intro hl;simp only[List.find?_cons,hb x (hl x (by simp)),ih (λk hk=>hl k (by simp[hk]))]
  exact this _ (λk hk=>by simpa using hk)
 unfold shaped firstDup firstUn;rw[a0]
 cases hd:(List.range ns.length).find? (dupAt ns) with
 |some k=>simp only;rw[if_pos (by omega)]
 |none=>
  simp only;rw[if_neg (by decide)]
  have:(λk=> !used ns k)=(λk=> !usedBy ns ns.length k):=by funext k;rw[hu]
  rw[this]
  cases (List.range (ns.length - 1)).find? (λk=> !usedBy ns ns.length k)<;>rfl
end Fl
def ywv(ns:List Fl.Node):Fl.firstDup ns<(ns.length:Int):=by
 unfold Fl.firstDup
 cases hf:(List.range ns.length).find? (Fl.dupAt ns) with
 |some k=>have:=List.mem_of_find?_eq_some hf;simp at this;simp only;omega
 |none=>simp only;omega
def yq9(ns:List Fl.Node):Fl.firstUn ns<(ns.length:Int):=by
 unfold Fl.firstUn
 cases hf:(List.range (ns.length - 1)).find? (λk=> !Fl.usedBy ns ns.length k) with
 |some k=>have:=List.mem_of_find?_eq_some hf;simp at this;simp only;omega
 |none=>simp only;omega
def yu9(ns:List Fl.Node)(st:List Int)(w:World)(e:Ending)(w':World):Prop:=
 Below w.heap.size w w'/\(0<=Fl.shaped ns->e=.panicked (Zf 8 (st.getD (Fl.shaped ns).toNat 0)))/\(¬0<=Fl.shaped ns->e=.returned (.tuple #[]))
def yv0(ns:List Fl.Node)(st:List Int)(nv sv:Value)(b:Nat)(w:World)(hn:Yv w.heap.size w nv ns)(hs:Zv w.heap.size w sv st)(hl:st.length=ns.length)(hlen:ns.length<=1000)(hg:Fl.allGood ns)(hc:w.cell? ⟨b,34,none⟩=some sv):
  Calls prog 79 #[.pointer (some ⟨b,0,none⟩),nv] w (yu9 ns st w):=by
 have hlb:b<w.heap.size:=Qe w _ hc;have g0:∀i,i<ns.length->Fl.fits (Fl.nth ns i):=λi hi=>(Fl.sound_fits (hg i hi).1).1;have h0:Hid (Calls prog 110 #[nv] w λe w'=>e=.returned (.int .i64 (Fl.firstDup ns))/\Below w.heap.size w w'):=zc6 ns nv w hn g0 hlen
 have j0:Hid (∀w1,Below w.heap.size w w1->Calls prog 111 #[nv] w1 λe w'=>e=.returned (.int .i64 (Fl.firstUn ns))/\Below w1.heap.size w1 w'):=λw1 h1=>
  zix ns nv w1 ((hn.below h1).mono h1.size) hlen (λi hi=>(Fl.sound_fits (hg i hi).1).2) (λi hi p hp=>by have:=Fl.good_lt (hg i hi) hp;omega)
 have l0:Hid (Fl.shaped ns=if 0<=Fl.firstDup ns then Fl.firstDup ns else Fl.firstUn ns):=Fl.shaped_good hg;have o0:=ywv ns;have p0:=yq9 ns;obtain⟨sao,scap,rfl,_,t0,q0⟩:=hs;have r0:=Zz q0;have HC:=Zz hc;unfold maxLen at t0;clear q0 hc hn hg g0
 by_cases hd:0<=Fl.firstDup ns
 ·obtain⟨k,hk⟩:∃k:Nat,Fl.firstDup ns=(k:Int):=⟨(Fl.firstDup ns).toNat,by omega⟩
  have e0:k<st.length:=(by omega);obtain⟨sb,so,rfl,m0,i0⟩:=r0.out (by intro h;rw[h]at e0;simp at e0);have a0:Hid (Fl.shaped ns=(k:Int)):=(by show _=_;rw[l0.out,if_pos hd,hk]);rw[hk]at h0 o0;have b0:=i0 k e0;have u0:(k:Int)<(st.length:Int):=(by omega);clear hd hk i0
  go_enter func79,ntmps79
  go_wp2_with fail
  refine(h0.out).mono ?_;rintro e w1 ⟨rfl,c0⟩;have c34:w1.cell? ⟨b,34,none⟩=some (.slice (some ⟨sb,so,none⟩) st.length scap):=(c0.cell (p:=⟨b,34,none⟩) hlb).trans HC.out;have ck:w1.cell? ⟨sb,so+k,none⟩=some (.int .i64 (st.getD k 0)):=(c0.cell (p:=⟨sb,so+k,none⟩) m0).trans b0;have d0:=Zz c0;clear c0 b0;generalize hx:st.getD k 0=x at*;have HX:=Zz hx;clear hx
  go_wp2_with fail
  refine(Xe _ _ _).mono ?_;rintro e w2 ⟨rfl,f0⟩;refine⟨rfl,d0.out.trans (f0.mono d0.out.size),λ_=>?_,λh=>absurd (by rw[a0.out];omega) h⟩;rw[a0.out,Int.toNat_natCast,HX.out]
 obtain⟨d,n0⟩:=nmE (Fl.firstDup ns);rw[<-n0]at h0 hd o0
 have a0:Hid (Fl.shaped ns=Fl.firstUn ns):=by show _=_;rw[l0.out,<-n0,if_neg hd]
 clear n0 l0
 by_cases hu:0<=Fl.firstUn ns
 ·obtain⟨k,hk⟩:∃k:Nat,Fl.firstUn ns=(k:Int):=⟨(Fl.firstUn ns).toNat,by omega⟩
  have e0:k<st.length:=(by omega);obtain⟨sb,so,rfl,m0,i0⟩:=r0.out (by intro h;rw[h]at e0;simp at e0);rw[hk]at j0 p0 a0;have b0:=i0 k e0;have u0:(k:Int)<(st.length:Int):=(by omega);clear hu hk i0
  go_enter func79,ntmps79
  go_wp2_with fail
  refine(h0.out).mono ?_;rintro e w1 ⟨rfl,c0⟩;have d0:=Zz c0;clear c0
  go_wp2_with fail
  refine(j0.out w1 d0.out).mono ?_;rintro e w2 ⟨rfl,f0⟩;have hb2':Below w.heap.size w w2:=d0.out.trans (f0.mono d0.out.size);have c34:w2.cell? ⟨b,34,none⟩=some (.slice (some ⟨sb,so,none⟩) st.length scap):=(hb2'.cell (p:=⟨b,34,none⟩) hlb).trans HC.out;have ck:w2.cell? ⟨sb,so+k,none⟩=some (.int .i64 (st.getD k 0)):=(hb2'.cell (p:=⟨sb,so+k,none⟩) m0).trans b0;have k0:=Zz hb2';clear f0 b0 hb2';generalize hx:st.getD k 0=x at*;have HX:=Zz hx;clear hx
  go_wp2_with fail
  refine(Xe _ _ _).mono ?_;rintro e w3 ⟨rfl,v0⟩;refine⟨rfl,k0.out.trans (v0.mono k0.out.size),λ_=>?_,λh=>absurd (by rw[a0.out];omega) h⟩;rw[a0.out,Int.toNat_natCast,HX.out]
 obtain⟨u,s0⟩:=nmE (Fl.firstUn ns);rw[<-s0]at j0 hu p0 a0;clear s0
 go_enter func79,ntmps79
 go_wp2_with fail
 refine(h0.out).mono ?_;rintro e w1 ⟨rfl,c0⟩;have d0:=Zz c0;clear c0
 go_wp2_with fail
 refine(j0.out w1 d0.out).mono ?_;rintro e w2 ⟨rfl,f0⟩;have k0:Hid (Below w.heap.size w w2):=d0.out.trans (f0.mono d0.out.size);clear f0;go_wp2
 go_end0
 exact⟨k0.out,λh=>absurd h (by rw[a0.out];omega),λ_=>rfl⟩
structure Fr(w w':World)(b:Nat):Prop where
 g:w.grownBy w' (some b)
 o:∀j,j≠1->j≠34->w'.cell? ⟨b,j,none⟩=w.cell? ⟨b,j,none⟩
 f:∀j,w'.frozen? ⟨b,j,none⟩=w.frozen? ⟨b,j,none⟩
def Mv.fr{w w':World}{b:Nat}(h:Mv w w' b):Fr w w' b:=⟨h.g,λj h1 _=>h.o j h1,h.f⟩
def Fr.trans{w w1 w2:World}{b:Nat}(h:Fr w w1 b)(k:Fr w1 w2 b):Fr w w2 b:=
 ⟨⟨k.g.os.trans h.g.os,k.g.tape.trans h.g.tape,k.g.output.trans h.g.output,Nat.le_trans h.g.size k.g.size,λi hi a0=>(k.g.block i (Nat.lt_of_lt_of_le hi h.g.size) a0).trans (h.g.block i hi a0)⟩,λj hj hj'=>(k.o j hj hj').trans (h.o j hj hj'),λj=>(k.f j).trans (h.f j)⟩
def Fr.andGrown{w w1 w2:World}{b:Nat}{row:Option Nat}(h:Fr w w1 b)(g:w1.grownBy w2 row)(hb:b<w.heap.size)(hall:∀k,row=some k->w.heap.size<=k):Fr w w2 b:=by
 have a0:∀k,k<w.heap.size->some k≠row:=λk hk e=>by have:=hall k e.symm;omega
 have hz:=h.g.size;refine⟨⟨g.os.trans h.g.os,g.tape.trans h.g.tape,g.output.trans h.g.output,Nat.le_trans h.g.size g.size,λk hk b0=>(g.block k (by omega) (a0 k hk)).trans (h.g.block k hk b0)⟩,λj hj hj'=>?_,λj=>?_⟩
 ·exact(Qc (w:=w1) (a:=⟨b,j,none⟩) (g.block b (by omega) (a0 b hb))).trans (h.o j hj hj')
 exact(Qd (w:=w1) (a:=⟨b,j,none⟩) (g.block b (by omega) (a0 b hb))).trans (h.f j)
def Fr.set34(w:World)(b:Nat)(u:Value):Fr w (w.setCell ⟨b,34,none⟩ u) b:=
 ⟨Xt w b 34 u,λj _ hj=>Yh (λe=>hj e.symm),λj=>World.frozen?_setCell _ _ _ _⟩
structure Vv(base:Nat)(w w':World):Prop where
 size:w.heap.size<=w'.heap.size
 block:∀k,base<=k->k<w.heap.size->w'.heap[k]?=w.heap[k]?
def Vv.alloc(base:Nat)(w:World)(o:Obj):Vv base w (w.alloc o):=⟨by simp,λk _ hk=>Below.heap_alloc _ _ _ hk⟩
def Vv.grown{base:Nat}{w w':World}{row:Option Nat}(g:w.grownBy w' row)(h:∀k,row=some k->k<base):Vv base w w':=⟨g.size,λk hb hk=>g.block k hk (λe=>by have:=h k e.symm;omega)⟩
def Vv.below{base:Nat}{w w':World}(h:Below w.heap.size w w'):Vv base w w':=⟨h.size,λk _ hk=>h.block k hk⟩
def Vv.trans{base:Nat}{w w1 w2:World}(h:Vv base w w1)(k:Vv base w1 w2):Vv base w w2:=⟨Nat.le_trans h.size k.size,λi hb hi=>(k.block i hb (Nat.lt_of_lt_of_le hi h.size)).trans (h.block i hb hi)⟩
def yy9{base:Nat}{w w':World}{e:TypeId}{size:Nat}{v:Value}{n:Nat}{xs:List Value}(h:w.ownsRow base e size v n xs)(s:Vv base w w'):w'.ownsRow base e size v n xs:=by
 refine⟨h.1,?_⟩;rcases h.2 with hn|⟨g,cap,cur,hv,hb,hg,rest⟩
 ·exact .inl hn
 exact .inr ⟨g,cap,cur,hv,hb,(s.block g hb (Array.getElem?_eq_some_iff.1 hg).1).trans hg,rest⟩
def zd4{base:Nat}{w w':World}{lv:Value}{xs:List Int}(h:Zv w.heap.size w lv xs)(hb:xs≠[]->∀b,lv.ownBlock=some b->base<=b)(s:Vv base w w'):Zv w'.heap.size w' lv xs:=by
 obtain⟨ao,cap,rfl,hc,hl,hx⟩:=h;refine⟨ao,cap,rfl,hc,hl,λb0=>?_⟩;obtain⟨b,off,rfl,c0,a0⟩:=hx b0;have d0:=hb b0 b rfl;exact⟨b,off,rfl,Nat.lt_of_lt_of_le c0 s.size,λi hi=>(Qc (w:=w) (a:=⟨b,off+i,none⟩) (s.block b d0 c0)).trans (a0 i hi)⟩
structure Li(base:Nat)(w:World)(fam:List (Value×List Int))(sv nv:Value)(n1 n2:Nat)(xs ys:List Value):Prop where
 hs:w.ownsRow base 3 1 sv n1 xs
 hn:w.ownsRow base 59 6 nv n2 ys
 hall:∀p,p∈fam->Jn w p.1 p.2 sv nv/\(p.2≠[]->∀b,p.1.ownBlock=some b->base<=b)
section
variable{base:Nat}{w w':World}{fam:List (Value×List Int)}{sv nv:Value}{n1 n2:Nat}{xs ys:List Value}
def Li.stay(h:Li base w fam sv nv n1 n2 xs ys)(s:Vv base w w'):Li base w' fam sv nv n1 n2 xs ys:=
 ⟨yy9 h.hs s,yy9 h.hn s,λp hp=>⟨⟨zd4 (h.hall p hp).1.1 (h.hall p hp).2 s,(h.hall p hp).1.2⟩,(h.hall p hp).2⟩⟩
def Li.first(h:Li base w fam sv nv n1 n2 xs ys){sv':Value}{n1':Nat}{xs':List Value}(ho:w'.ownsRow base 3 1 sv' n1' xs')(hg:w.grownBy w' sv.ownBlock)(hw:sv'.ownBlock=sv.ownBlock\/sv'.ownBlock=some w.heap.size):Li base w' fam sv' nv n1' n2 xs' ys:=
 ⟨ho,h.hn.kept hg (zs1 h.hn h.hs (by decide)),λp hp=>⟨(h.hall p hp).1.first hg hw,(h.hall p hp).2⟩⟩
def Li.second(h:Li base w fam sv nv n1 n2 xs ys){nv':Value}{n2':Nat}{ys':List Value}(ho:w'.ownsRow base 59 6 nv' n2' ys')(hg:w.grownBy w' nv.ownBlock)(hw:nv'.ownBlock=nv.ownBlock\/nv'.ownBlock=some w.heap.size):Li base w' fam sv nv' n1 n2' xs ys':=
 ⟨h.hs.kept hg (zs1 h.hs h.hn (by decide)),ho,λp hp=>⟨(h.hall p hp).1.second hg hw,(h.hall p hp).2⟩⟩
def Li.add(h:Li base w fam sv nv n1 n2 xs ys){lvn:Value}{l:List Int}{N:Nat}(hi:Zv w.heap.size w lvn l)(hf:∀b,lvn.ownBlock=some b->N<=b)(a0:∀b,sv.ownBlock=some b->b<N)(b0:∀b,nv.ownBlock=some b->b<N)(hN:base<=N):Li base w (fam++[(lvn,l)]) sv nv n1 n2 xs ys:=by
 refine⟨h.hs,h.hn,λp hp=>?_⟩;simp only[List.mem_append,List.mem_singleton]at hp;rcases hp with hp|rfl
 ·exact h.hall p hp
 refine⟨⟨hi,λhx=>?_⟩,λ_ b hb=>by have:=hf b hb;omega⟩;obtain⟨b,hb,c0⟩:=zww hi hx;have:=hf b hb;exact⟨λhh=>by have:=a0 b (hh.symm.trans hb);omega,λhh=>by have:=b0 b (hh.symm.trans hb);omega⟩
end
structure PL(s:List UInt8)(M q0:Nat)(w:World)(b P0:Nat)(lv:Value)(ls:List Int)(wr:World)(k q:Nat)(sv nv:Value)(st:List Int)(acc:List Fl.Node)(lvs:List Value):Prop where
 hk:k<=M
 hq:q<=s.length
 hst:st.length=k
 hacc:acc.length=k
 hlvs:lvs.length=k
 hrun:Fl.nodesA s M 0 q0 [] []=Fl.nodesA s (M - k) k q st acc
 hgood:Fl.allGood acc
 hl:Li (P0+1) wr ((lv,ls)::Ug acc lvs) sv nv k k (st.map (Value.int .i64)) (flat acc lvs)
 c0:wr.cell? ⟨P0,0,none⟩=some lv
 c1:wr.cell? ⟨P0,1,none⟩=some nv
 d0:wr.cell? ⟨w.heap.size,0,none⟩=some (.slice none 0 0)
 d1:wr.cell? ⟨w.heap.size,1,none⟩=some (.slice none 0 0)
 f0:∀j,wr.frozen? ⟨w.heap.size,j,none⟩=false
 f1:∀j,wr.frozen? ⟨P0,j,none⟩=false
 fb:∀j,wr.frozen? ⟨b,j,none⟩=false
 fr:Fr w wr b
 a1:wr.cell? ⟨b,1,none⟩=some (.int .i64 (q:Int))
 a34:wr.cell? ⟨b,34,none⟩=some sv
 hR:w.heap.size<P0
 hP:P0<wr.heap.size
 hb:b<w.heap.size
def PL.nodes{s:List UInt8}{M q0:Nat}{w:World}{b P0:Nat}{lv:Value}{ls:List Int}{wr:World}{k q:Nat}{sv nv:Value}{st:List Int}{acc:List Fl.Node}{lvs:List Value}(h:PL s M q0 w b P0 lv ls wr k q sv nv st acc lvs):Yv wr.heap.size wr nv acc:=
 zw4 (by rw[h.hacc];exact h.hl.hn) (by rw[h.hacc,h.hlvs]) (λi hi=>(h.hl.hall _ (by simp only[List.mem_cons];right;exact zvv acc lvs i (by rw[h.hacc,h.hlvs]) hi)).1.1)
def PL.locals{s:List UInt8}{M q0:Nat}{w:World}{b P0:Nat}{lv:Value}{ls:List Int}{wr:World}{k q:Nat}{sv nv:Value}{st:List Int}{acc:List Fl.Node}{lvs:List Value}(h:PL s M q0 w b P0 lv ls wr k q sv nv st acc lvs):Zv wr.heap.size wr lv ls:=(h.hl.hall (lv,ls) (by simp)).1.1
def PL.starts{s:List UInt8}{M q0:Nat}{w:World}{b P0:Nat}{lv:Value}{ls:List Int}{wr:World}{k q:Nat}{sv nv:Value}{st:List Int}{acc:List Fl.Node}{lvs:List Value}(h:PL s M q0 w b P0 lv ls wr k q sv nv st acc lvs):Zv wr.heap.size wr sv st:=Zv.of_own h.hl.hs
section
variable{s:List UInt8}{n q1 q2 M q0:Nat}{ls:List Int}{z:Int}
def yyz(hh:Fl.headAt s=3)(h3:3<=s.length)(hb:(Fl.numB s 3 0 4).2.1<0):Fl.decode s=(([],[]),false,(Fl.numB s 3 0 4).2.2):=by
 have a0:=Fl.num_ok s 3 h3;unfold Fl.decode;rw[hh,if_neg (by decide)];simp only;unfold Fl.numB at*
 by_cases h1:(Fl.num s 3).2.1<0
 ·rw[if_pos h1,if_pos h1]
 rw[if_neg h1]at hb;rw[if_neg h1,if_neg h1]
 by_cases h2:(Fl.num s 3).1<0\/4<(Fl.num s 3).1
 ·rw[if_pos h2,if_pos (by omega)];rfl
 rw[if_neg h2]at hb;exact absurd hb h1
def zsv(hh:Fl.headAt s=3)(hn:Fl.num s 3=((n:Int),(q1:Int),0))(a0:n<=4):
  Fl.decode s=(let l:=Fl.nums s q1 n
   if l.2.1<0 then(([],[]),false,l.2.2) else
   let m:=Fl.num s l.2.1.toNat
   if m.2.1<0 then(([],[]),false,m.2.2) else
   if m.1<1\/200<m.1 then(([],[]),false,l.2.1) else
   let r:=Fl.nodesA s m.1.toNat 0 m.2.1.toNat [] []
   if 0<=r.2.2.2 then(([],[]),false,r.2.2.2) else
   if r.2.2.1<s.length then(([],[]),false,r.2.2.1) else
   if 0<=Fl.shaped r.1 then(([],[]),false,r.2.1.getD (Fl.shaped r.1).toNat 0) else((l.1,r.1),true,0)):=by
 unfold Fl.decode;rw[hh,if_neg (by decide)];simp only[hn];rw[if_neg (by omega),if_neg (by omega)];rfl
def yyy(hh:Fl.headAt s=3)(hn:Fl.num s 3=((n:Int),(q1:Int),0))(a0:n<=4)(hl:(Fl.nums s q1 n).2.1<0):Fl.decode s=(([],[]),false,(Fl.nums s q1 n).2.2):=by
 rw[zsv hh hn a0];simp only;rw[if_pos hl]
def yyx(hh:Fl.headAt s=3)(hn:Fl.num s 3=((n:Int),(q1:Int),0))(a0:n<=4)(hl:Fl.nums s q1 n=(ls,(q2:Int),z))(b0:q2<=s.length)(hm:(Fl.numB s q2 1 200).2.1<0):Fl.decode s=(([],[]),false,(Fl.numB s q2 1 200).2.2):=by
 rw[zsv hh hn a0];simp only[hl,Int.toNat_natCast];rw[if_neg (by omega)];unfold Fl.numB at*
 by_cases h1:(Fl.num s q2).2.1<0
 ·rw[if_pos h1,if_pos h1]
 rw[if_neg h1]at hm;rw[if_neg h1,if_neg h1]
 by_cases h2:(Fl.num s q2).1<1\/200<(Fl.num s q2).1
 ·rw[if_pos h2,if_pos h2]
 rw[if_neg h2]at hm;exact absurd hm h1
def zt2(s:List UInt8)(ls:List Int)(M q0:Nat):(List Int×List Fl.Node)×Bool×Int:=
 let r:=Fl.nodesA s M 0 q0 [] []
 if 0<=r.2.2.2 then(([],[]),false,r.2.2.2) else
 if r.2.2.1<s.length then(([],[]),false,r.2.2.1) else
 if 0<=Fl.shaped r.1 then(([],[]),false,r.2.1.getD (Fl.shaped r.1).toNat 0) else((ls,r.1),true,0)
def yv1(hh:Fl.headAt s=3)(hn:Fl.num s 3=((n:Int),(q1:Int),0))(a0:n<=4)(hl:Fl.nums s q1 n=(ls,(q2:Int),z))(hm:Fl.num s q2=((M:Int),(q0:Int),0))(h1:1<=M)(h2:M<=200):Fl.decode s=zt2 s ls M q0:=by
 rw[zsv hh hn a0];simp only[hl,Int.toNat_natCast,hm];rw[if_neg (by omega),if_neg (by omega),if_neg (by omega)];rfl
end
section
variable{s:List UInt8}{M q0:Nat}{w:World}{b P0:Nat}{lv:Value}{ls:List Int}{wr:World}{k q:Nat}{sv nv:Value}{st:List Int}{acc:List Fl.Node}{lvs:List Value}
def PL.fails(h:PL s M q0 w b P0 lv ls wr k q sv nv st acc lvs)(hk:k<M)(hb:(Fl.one s q k).2.1<0):zt2 s ls M q0=(([],[]),false,(Fl.one s q k).2.2):=by
 have a0:=Fl.one_ok s q k h.hq;have hr:Fl.nodesA s M 0 q0 [] []=(acc,st,(q:Int),(Fl.one s q k).2.2):=by
  rw[h.hrun,show M - k=(M - (k+1))+1 from by omega];simp only[Fl.nodesA];rw[if_pos hb]
 unfold zt2;simp only[hr];rw[if_pos (by omega)]
def PL.ends(h:PL s M q0 w b P0 lv ls wr k q sv nv st acc lvs)(hk:¬k<M):zt2 s ls M q0=if q<s.length then(([],[]),false,(q:Int)) else if 0<=Fl.shaped acc then(([],[]),false,st.getD (Fl.shaped acc).toNat 0) else((ls,acc),true,0):=by
 have a0:k=M:=by have:=h.hk;omega
 have hr:Fl.nodesA s M 0 q0 [] []=(acc,st,(q:Int),-1):=by
  rw[h.hrun,a0,Nat.sub_self];rfl
 unfold zt2;simp only[hr];rw[if_neg (by decide)]
 by_cases h1:q<s.length
 ·rw[if_pos (by omega),if_pos h1]
 rw[if_neg (by omega),if_neg h1]
end
structure PC(w:World)(b P0:Nat)(lv:Value)(wr:World)(q:Nat)(s34 nc1:Value)(fam:List (Value×List Int))(sv nv:Value)(n1 n2:Nat)(xs ys:List Value):Prop where
 hl:Li (P0+1) wr fam sv nv n1 n2 xs ys
 c0:wr.cell? ⟨P0,0,none⟩=some lv
 c1:wr.cell? ⟨P0,1,none⟩=some nc1
 d0:wr.cell? ⟨w.heap.size,0,none⟩=some (.slice none 0 0)
 d1:wr.cell? ⟨w.heap.size,1,none⟩=some (.slice none 0 0)
 f0:∀j,wr.frozen? ⟨w.heap.size,j,none⟩=false
 f1:∀j,wr.frozen? ⟨P0,j,none⟩=false
 fb:∀j,wr.frozen? ⟨b,j,none⟩=false
 fr:Fr w wr b
 a1:wr.cell? ⟨b,1,none⟩=some (.int .i64 (q:Int))
 a34:wr.cell? ⟨b,34,none⟩=some s34
 hR:w.heap.size<P0
 hP:P0<wr.heap.size
 hb:b<w.heap.size
section
variable{w:World}{b P0:Nat}{lv:Value}{wr w':World}{q:Nat}{s34 nc1:Value}{fam:List (Value×List Int)}{sv nv:Value}{n1 n2:Nat}{xs ys:List Value}
def PC.own(h:PC w b P0 lv wr q s34 nc1 fam sv nv n1 n2 xs ys){row:Option Nat}(g:wr.grownBy w' row)(a0:∀k,row=some k->P0+1<=k){sv' nv':Value}{n1' n2':Nat}{xs' ys':List Value}{fam':List (Value×List Int)}(hl:Li (P0+1) w' fam' sv' nv' n1' n2' xs' ys'):PC w b P0 lv w' q s34 nc1 fam' sv' nv' n1' n2' xs' ys':=by
 have hR:=h.hR;have hb:=h.hb;have hP:=h.hP
 have ne:∀k,k<=P0->some k≠row:=λk hk e=>by have:=a0 k e.symm;omega
 have fz:∀(N j:Nat),N<wr.heap.size->N<=P0->w'.frozen? ⟨N,j,none⟩=wr.frozen? ⟨N,j,none⟩:=λN j hN hk=>Qd (w:=wr) (a:=⟨N,j,none⟩) (g.block N hN (ne N hk));exact⟨hl,g.cell h.c0 (ne _ (Nat.le_refl _)),g.cell h.c1 (ne _ (Nat.le_refl _)),g.cell h.d0 (ne _ (by show w.heap.size<=P0;omega)),g.cell h.d1 (ne _ (by show w.heap.size<=P0;omega)),λj=>(fz _ j (by omega) (by omega)).trans (h.f0 j),λj=>(fz _ j hP (by omega)).trans (h.f1 j),λj=>(fz _ j (by omega) (by omega)).trans (h.fb j),h.fr.andGrown g hb (λk e=>by have:=a0 k e;omega),g.cell h.a1 (ne _ (by show b<=P0;omega)),g.cell h.a34 (ne _ (by show b<=P0;omega)),hR,Nat.lt_of_lt_of_le hP g.size,hb⟩
def PC.alloc(h:PC w b P0 lv wr q s34 nc1 fam sv nv n1 n2 xs ys)(o:Obj):PC w b P0 lv (wr.alloc o) q s34 nc1 fam sv nv n1 n2 xs ys:=
 h.own (World.grownBy_alloc wr o none) (λk e=>by cases e) (h.hl.stay (Vv.alloc _ _ _))
def PC.drew(h:PC w b P0 lv wr q s34 nc1 fam sv nv n1 n2 xs ys):PC w b P0 lv wr.drew q s34 nc1 fam sv nv n1 n2 xs ys:=
 h.own (w':=wr.drew) (row:=none) ⟨rfl,rfl,rfl,Nat.le_refl _,λ_ _ _=>rfl⟩ (λk e=>by cases e) (h.hl.stay (w':=wr.drew) ⟨Nat.le_refl _,λ_ _ _=>rfl⟩)
def PC.below(h:PC w b P0 lv wr q s34 nc1 fam sv nv n1 n2 xs ys)(hb:Below wr.heap.size wr w'):PC w b P0 lv w' q s34 nc1 fam sv nv n1 n2 xs ys:=
 h.own (row:=none) ⟨hb.os,hb.tape,hb.output,hb.size,λk hk _=>hb.block k hk⟩ (λk e=>by cases e) (h.hl.stay (Vv.below hb))
def PC.first(h:PC w b P0 lv wr q s34 nc1 fam sv nv n1 n2 xs ys){sv':Value}{n1':Nat}{xs':List Value}(ho:w'.ownsRow (P0+1) 3 1 sv' n1' xs')(hg:wr.grownBy w' sv.ownBlock)(hw:sv'.ownBlock=sv.ownBlock\/sv'.ownBlock=some wr.heap.size):PC w b P0 lv w' q s34 nc1 fam sv' nv n1' n2 xs' ys:=
 h.own hg (λk e=>(h.hl.hs.lt k e).1) (h.hl.first ho hg hw)
def PC.second(h:PC w b P0 lv wr q s34 nc1 fam sv nv n1 n2 xs ys){nv':Value}{n2':Nat}{ys':List Value}(ho:w'.ownsRow (P0+1) 59 6 nv' n2' ys')(hg:wr.grownBy w' nv.ownBlock)(hw:nv'.ownBlock=nv.ownBlock\/nv'.ownBlock=some wr.heap.size):PC w b P0 lv w' q s34 nc1 fam sv nv' n1 n2' xs ys':=
 h.own hg (λk e=>(h.hl.hn.lt k e).1) (h.hl.second ho hg hw)
def PC.add(h:PC w b P0 lv wr q s34 nc1 fam sv nv n1 n2 xs ys){lvn:Value}{l:List Int}{N:Nat}(hi:Zv wr.heap.size wr lvn l)(hf:∀b,lvn.ownBlock=some b->N<=b)(a0:∀b,sv.ownBlock=some b->b<N)(b0:∀b,nv.ownBlock=some b->b<N)(hN:P0+1<=N):PC w b P0 lv wr q s34 nc1 (fam++[(lvn,l)]) sv nv n1 n2 xs ys:=
 ⟨h.hl.add hi hf a0 b0 hN,h.c0,h.c1,h.d0,h.d1,h.f0,h.f1,h.fb,h.fr,h.a1,h.a34,h.hR,h.hP,h.hb⟩
def PC.move(h:PC w b P0 lv wr q s34 nc1 fam sv nv n1 n2 xs ys)(m:Mv wr w' b){q':Nat}(c:w'.cell? ⟨b,1,none⟩=some (.int .i64 (q':Int))):PC w b P0 lv w' q' s34 nc1 fam sv nv n1 n2 xs ys:=by
 have hR:=h.hR;have hb:=h.hb;have hP:=h.hP
 have n1:some P0≠some b:=by simp;omega
 have n2:some w.heap.size≠some b:=by simp;omega
 have fz:∀(N j:Nat),N<wr.heap.size->some N≠some b->w'.frozen? ⟨N,j,none⟩=wr.frozen? ⟨N,j,none⟩:=λN j hN a0=>Qd (w:=wr) (a:=⟨N,j,none⟩) (m.g.block N hN a0);exact⟨h.hl.stay (Vv.grown m.g (λk e=>by injection e with e;omega)),m.g.cell h.c0 n1,m.g.cell h.c1 n1,m.g.cell h.d0 n2,m.g.cell h.d1 n2,λj=>(fz _ j (by omega) n2).trans (h.f0 j),λj=>(fz _ j hP n1).trans (h.f1 j),λj=>(m.f j).trans (h.fb j),h.fr.trans m.fr,c,(m.o 34 (by decide)).trans h.a34,hR,Nat.lt_of_lt_of_le hP m.g.size,hb⟩
def PC.set34(h:PC w b P0 lv wr q s34 nc1 fam sv nv n1 n2 xs ys)(u:Value):PC w b P0 lv (wr.setCell ⟨b,34,none⟩ u) q u nc1 fam sv nv n1 n2 xs ys:=by
 have hR:=h.hR;have hb:=h.hb;have g:=Xt wr b 34 u
 have n1:some P0≠some b:=by simp;omega
 have n2:some w.heap.size≠some b:=by simp;omega
 exact⟨h.hl.stay (Vv.grown g (λk e=>by injection e with e;omega)),g.cell h.c0 n1,g.cell h.c1 n1,g.cell h.d0 n2,g.cell h.d1 n2,λj=>(World.frozen?_setCell _ _ _ _).trans (h.f0 j),λj=>(World.frozen?_setCell _ _ _ _).trans (h.f1 j),λj=>(World.frozen?_setCell _ _ _ _).trans (h.fb j),h.fr.trans (Fr.set34 _ _ _),(Yh (by decide)).trans h.a1,Uh h.a34,hR,by simpa [World.setCell] using h.hP,hb⟩
def PC.setc1(h:PC w b P0 lv wr q s34 nc1 fam sv nv n1 n2 xs ys)(u:Value):PC w b P0 lv (wr.setCell ⟨P0,1,none⟩ u) q s34 u fam sv nv n1 n2 xs ys:=by
 have hR:=h.hR;have hb:=h.hb;have g:=Xt wr P0 1 u
 have n1:some b≠some P0:=by simp;omega
 have n2:some w.heap.size≠some P0:=by simp;omega
 exact⟨h.hl.stay (Vv.grown g (λk e=>by injection e with e;omega)),(Yh (by decide)).trans h.c0,Uh h.c1,g.cell h.d0 n2,g.cell h.d1 n2,λj=>(World.frozen?_setCell _ _ _ _).trans (h.f0 j),λj=>(World.frozen?_setCell _ _ _ _).trans (h.f1 j),λj=>(World.frozen?_setCell _ _ _ _).trans (h.fb j),h.fr.andGrown g hb (λk e=>by injection e with e;omega),g.cell h.a1 n1,g.cell h.a34 n1,hR,by simpa [World.setCell] using h.hP,hb⟩
end
section
variable{s:List UInt8}{M q0:Nat}{w:World}{b P0:Nat}{lv:Value}{ls:List Int}{wr w':World}{k q:Nat}{sv nv sv' nv':Value}{st:List Int}{acc:List Fl.Node}{lvs:List Value}
def PL.pc(h:PL s M q0 w b P0 lv ls wr k q sv nv st acc lvs):PC w b P0 lv wr q sv nv ((lv,ls)::Ug acc lvs) sv nv k k (st.map (Value.int .i64)) (flat acc lvs):=
 ⟨h.hl,h.c0,h.c1,h.d0,h.d1,h.f0,h.f1,h.fb,h.fr,h.a1,h.a34,h.hR,h.hP,h.hb⟩
def PL.step(h:PL s M q0 w b P0 lv ls wr k q sv nv st acc lvs)(b0:k<M){nd:Fl.Node}{af:Nat}{z:Int}(ho:Fl.one s q k=(nd,(af:Int),z))(a0:af<=s.length){lvn:Value}
  (hc:PC w b P0 lv w' af sv' nv' (((lv,ls)::Ug acc lvs)++[(lvn,nd.list)]) sv' nv' (k+1) (k+1) (st.map (Value.int .i64)++[.int .i64 (q:Int)]) (flat acc lvs++Yb nd lvn)):
  PL s M q0 w b P0 lv ls w' (k+1) af sv' nv' (st++[(q:Int)]) (acc++[nd]) (lvs++[lvn]):=by
 have hlen:lvs.length=acc.length:=by rw[h.hacc,h.hlvs]
 have hgood:Fl.good k nd:=by
  have:=Fl.one_good' s q k h.hq (by rw[ho];simp only;omega);rw[ho]at this;exact this
 refine⟨by omega,a0,by simp[h.hst],by simp[h.hacc],by simp[h.hlvs],?_,Fl.allGood_snoc h.hgood (by rw[h.hacc];exact hgood),?_,hc.c0,hc.c1,hc.d0,hc.d1,hc.f0,hc.f1,hc.fb,hc.fr,hc.a1,hc.a34,hc.hR,hc.hP,hc.hb⟩
 ·rw[h.hrun,show M - k=(M - (k+1))+1 from by omega];simp only[Fl.nodesA,ho,Int.toNat_natCast];rw[if_neg (by omega)]
 rw[zrw _ _ _ _ hlen,zo0 _ _ _ _ hlen,List.map_append];exact hc.hl
end
end Go.Proofs.YtaaejabalinojaaGreatDoor

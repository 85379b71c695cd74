import Derived.Test.YtminjljgedopkaaGreatDoorM09
import Derived.Lib.AppendZerosOnto
set_option linter.all false
set_option maxRecDepth 100000
set_option maxHeartbeats 40000000
namespace Go.Proofs.YtminjljgedopkaaGreatDoor
open Go.RowKit Go.Proofs.Tryz
namespace Fl
def good(k:Nat)(nd:Node):Prop:=sound nd=true/\(prem nd).any (λp=>decide ((k:Int)<=p))=false
def inR_of{x:Int}(h:0<=x/\x<2147483648):inR x=true:=by simp[inR,h.1,h.2]
def getD_inR{l:List Int}(h:∀x∈l,0<=x/\x<2147483648)(i:Nat):inR (l.getD i 0)=true:=by
 rw[Qa]
 cases he:l[i]? with
 |none=>rfl
 |some x=>exact inR_of (h x (List.mem_of_getElem? he))
def getD_out{l:List Int}{i:Nat}(h:l.length<=i):l.getD i 0=0:=by
 rw[Qa,List.getElem?_eq_none h];rfl
def okV_get{l:List Int}(h:∀x∈l,0<=x/\x<2147483648){f:Nat}(hl:l.length=f)(i:Nat):okV (f:Int) (i:Int) (l.getD i 0)=true:=by
 unfold okV;rw[getD_inR h i,Bool.true_and,Bool.or_eq_true,decide_eq_true_eq,decide_eq_true_eq]
 by_cases hi:i<f
 ·left;omega
 right;exact getD_out (by omega)
def oneFin_good'{p k:Nat}{nd:Node}{e:Int}(h:¬(oneFin p k nd e).2.1<0)(hs:sound nd=true):good k (oneFin p k nd e).1:=by
 unfold oneFin at*
 split at h
 ·exact absurd (show (-1:Int)<0 by decide) h
 rename_i hn;rw[if_neg hn];exact⟨hs,by simpa using hn⟩
def one_good'(s:List UInt8)(p k:Nat)(hp:p<=s.length)(h:¬(one s p k).2.1<0):good k (one s p k).1:=by
 unfold one at*
 by_cases h0:p=s.length
 ·rw[if_pos h0]at h;exact absurd (show (-1:Int)<0 by decide) h
 rw[if_neg h0]at h⊢;simp only at h⊢;have hx:(s.getD p 0).toNat<256:=(s.getD p 0).toNat_lt;generalize (s.getD p 0).toNat=x at*
 by_cases h1:fields (x:Int)= -2
 ·rw[if_pos h1]at h;exact absurd (show (-1:Int)<0 by decide) h
 rw[if_neg h1]at h⊢
 by_cases h2:(num s (p+1)).2.1<0
 ·rw[if_pos h2]at h;exact absurd (show (-1:Int)<0 by decide) h
 rw[if_neg h2]at h⊢;obtain⟨v,q,hn,_,hq,hv⟩:=zxv s (p+1) (by omega) h2;rw[hn]at h⊢;simp only[Int.toNat_natCast]at h⊢;have a0:inR (v:Int)=true:=inR_of ⟨by omega,by omega⟩
 by_cases h3:fields (x:Int)= -1
 ·rw[if_pos h3]at h⊢
  by_cases h4:(num s q).2.1<0
  ·rw[if_pos h4]at h;exact absurd (show (-1:Int)<0 by decide) h
  rw[if_neg h4]at h⊢
  by_cases h5:16<(num s q).1
  ·rw[if_pos h5]at h;exact absurd (show (-1:Int)<0 by decide) h
  rw[if_neg h5]at h⊢;obtain⟨m,q2,hm,_,b0,_⟩:=zxv s q hq h4;rw[hm]at h h5⊢;simp only[Int.toNat_natCast]at h h5⊢
  by_cases h6:(nums s q2 m).2.1<0
  ·rw[if_pos h6]at h;exact absurd (show (-1:Int)<0 by decide) h
  rw[if_neg h6]at h⊢;refine oneFin_good' h ?_;rcases nums_ok s q2 m b0 with h7|⟨_,_,h8,h9⟩
  ·omega
  simp only[sound,h3,a0,h8,okV,Bool.and_eq_true,decide_eq_true_eq,Bool.or_eq_true];refine⟨by omega,by first|trivial|rfl,by omega,⟨by first|rfl|trivial,.inr (by first|rfl|trivial)⟩,⟨by first|rfl|trivial,.inr (by first|rfl|trivial)⟩,⟨by first|rfl|trivial,.inr (by first|rfl|trivial)⟩,?_,.inl (by first|trivial|rfl)⟩;rw[List.all_eq_true];intro y hy;exact inR_of (h9 y hy)
 rw[if_neg h3]at h⊢;have c0:=fields_lt (x:Int);obtain⟨f,hf⟩:∃f:Nat,fields (x:Int)=(f:Int):=⟨(fields (x:Int)).toNat,by omega⟩;rw[hf]at h⊢;simp only[Int.toNat_natCast]at h⊢
 by_cases h6:(nums s q f).2.1<0
 ·rw[if_pos h6]at h;exact absurd (show (-1:Int)<0 by decide) h
 rw[if_neg h6]at h⊢;refine oneFin_good' h ?_;rcases nums_ok s q f hq with h7|⟨_,_,h8,h9⟩
 ·omega
 have g0:=okV_get h9 h8 0;have g1:=okV_get h9 h8 1;have g2:=okV_get h9 h8 2;simp only[sound,hf,a0,Bool.and_eq_true,decide_eq_true_eq,Bool.or_eq_true];refine⟨by omega,by first|trivial|rfl,by simp,?_,?_,?_,by simp,.inr (by first|rfl|trivial)⟩
 ·simpa using g0
 ·simpa using g1
 simpa using g2
def sound_fits{nd:Node}(h:sound nd=true):fits nd/\0<=nd.kind/\nd.kind<8:=by
 simp only[sound,Bool.and_eq_true,decide_eq_true_eq,okV]at h;obtain⟨h1,h2,h3,⟨h4,_⟩,⟨h5,_⟩,⟨h6,_⟩,h7,_⟩:=h
 have hk:0<=nd.kind/\nd.kind<8:=by unfold fields at h1;(repeat' split at h1)<;>omega
 exact⟨⟨inR_of ⟨hk.1,by omega⟩,h2,h4,h5,h6,h3,h7⟩,hk⟩
def prem_inR{nd:Node}(h:sound nd=true):∀p∈prem nd,0<=p:=by
 obtain⟨⟨_,_,ha,hb,hc,_,hl⟩,_⟩:=sound_fits h
 have q:∀{x:Int},inR x=true->0<=x:=λh=>by simp only[inR,Bool.and_eq_true,decide_eq_true_eq]at h;exact h.1
 intro p hp;unfold prem at hp
 repeat' split at hp
 all_goals try simp only[List.mem_cons,List.not_mem_nil,or_false]at hp
 all_goals first|(rcases hp with rfl|rfl|rfl<;>first|exact q ha|exact q hb|exact q hc)|(rcases hp with rfl|rfl<;>first|exact q ha|exact q hb|exact q hc)|(subst hp;first|exact q ha|exact q hb|exact q hc)|exact q (List.all_eq_true.1 hl p hp)|exact hp.elim
def allGood(ns:List Node):Prop:=∀i,i<ns.length->good i (nth ns i)
def allGood_snoc{ns:List Node}{nd:Node}(h:allGood ns)(hg:good ns.length nd):allGood (ns++[nd]):=by
 intro i hi;simp only[List.length_append,List.length_cons,List.length_nil]at hi
 by_cases h1:i<ns.length
 ·have:nth (ns++[nd]) i=nth ns i:=by simp[nth,Qa,List.getElem?_append_left h1]
  rw[this];exact h i h1
 have hi':i=ns.length:=by omega
 subst hi'
 have:nth (ns++[nd]) ns.length=nd:=by simp[nth,Qa]
 rw[this];exact hg
def good_lt{k:Nat}{nd:Node}(h:good k nd){p:Int}(hp:p∈prem nd):0<=p/\p<k:=by
 refine⟨prem_inR h.1 p hp,?_⟩;have:=h.2;rw[List.any_eq_false]at this;have:=this p hp;simp only[decide_eq_true_eq]at this;omega
def shaped_good{ns:List Node}(h:allGood ns):shaped ns=if 0<=firstDup ns then firstDup ns else firstUn ns:=by
 have hb:∀k,k<ns.length->bad ns k=dupAt ns k:=λk hk=>by
  have:=h k hk;unfold bad dupAt;rw[this.1,this.2];rfl
 have hu:∀k,used ns k=usedBy ns ns.length k:=λk=>by
  unfold used usedBy;rw[Bool.eq_iff_iff,List.any_eq_true,List.any_eq_true]
  constructor
  ·rintro⟨j,hj,hh⟩;exact⟨j,hj,(Bool.and_eq_true_iff.1 hh).2⟩
  rintro⟨j,hj,hh⟩;refine⟨j,hj,?_⟩;rw[Bool.and_eq_true];refine⟨?_,hh⟩;rw[List.any_eq_true]at hh;obtain⟨p,hp,he⟩:=hh;have:=good_lt (h j (by simpa using hj)) hp;rw[beq_iff_eq]at he;rw[decide_eq_true_eq];omega
 have a0:(List.range ns.length).find? (bad ns)=(List.range ns.length).find? (dupAt ns):=by
  have:∀(l:List Nat),(∀k∈l,k<ns.length)->l.find? (bad ns)=l.find? (dupAt ns):=by
   intro l
   induction l with
   |nil=>intro _;rfl
   |cons x l ih=>intro hl;simp only[List.find?_cons,hb x (hl x (by simp)),ih (λk hk=>hl k (by simp[hk]))]
  exact this _ (λk hk=>by simpa using hk)
 unfold shaped firstDup firstUn;rw[a0]
 cases hd:(List.range ns.length).find? (dupAt ns) with
 |some k=>simp only;rw[if_pos (by omega)]
 |none=>
  simp only;rw[if_neg (by decide)]
  have:(λk=> !used ns k)=(λk=> !usedBy ns ns.length k):=by funext k;rw[hu]
  rw[this]
  cases (List.range (ns.length - 1)).find? (λk=> !usedBy ns ns.length k)<;>rfl
end Fl
def zb3(ns:List Fl.Node):Fl.firstDup ns<(ns.length:Int):=by
 unfold Fl.firstDup
 cases hf:(List.range ns.length).find? (Fl.dupAt ns) with
 |some k=>have:=List.mem_of_find?_eq_some hf;simp at this;simp only;omega
 |none=>simp only;omega
def yzz(ns:List Fl.Node):Fl.firstUn ns<(ns.length:Int):=by
 unfold Fl.firstUn
 cases hf:(List.range (ns.length - 1)).find? (λk=> !Fl.usedBy ns ns.length k) with
 |some k=>have:=List.mem_of_find?_eq_some hf;simp at this;simp only;omega
 |none=>simp only;omega
def za8(ns:List Fl.Node)(st:List Int)(w:World)(e:Ending)(w':World):Prop:=
 Below w.heap.size w w'/\(0<=Fl.shaped ns->e=.panicked (Zq 8 (st.getD (Fl.shaped ns).toNat 0)))/\(¬0<=Fl.shaped ns->e=.returned (.tuple #[]))
def zb4(ns:List Fl.Node)(st:List Int)(nv sv:Value)(b:Nat)(w:World)(hn:Zo w.heap.size w nv ns)(hs:Zy w.heap.size w sv st)(hl:st.length=ns.length)(hlen:ns.length<=1000)(hg:Fl.allGood ns)(hc:w.cell? ⟨b,34,none⟩=some sv):
  Calls prog 85 #[.pointer (some ⟨b,0,none⟩),nv] w (za8 ns st w):=by
 have hlb:b<w.heap.size:=Qe w _ hc;have g0:∀i,i<ns.length->Fl.fits (Fl.nth ns i):=λi hi=>(Fl.sound_fits (hg i hi).1).1;have h0:Hid (Calls prog 132 #[nv] w λe w'=>e=.returned (.int .i64 (Fl.firstDup ns))/\Below w.heap.size w w'):=zg3 ns nv w hn g0 hlen
 have j0:Hid (∀w1,Below w.heap.size w w1->Calls prog 52 #[nv] w1 λe w'=>e=.returned (.int .i64 (Fl.firstUn ns))/\Below w1.heap.size w1 w'):=λw1 h1=>
  zvw ns nv w1 ((hn.below h1).mono h1.size) hlen (λi hi=>(Fl.sound_fits (hg i hi).1).2) (λi hi p hp=>by have:=Fl.good_lt (hg i hi) hp;omega)
 have l0:Hid (Fl.shaped ns=if 0<=Fl.firstDup ns then Fl.firstDup ns else Fl.firstUn ns):=Fl.shaped_good hg;have o0:=zb3 ns;have p0:=yzz ns;obtain⟨sao,scap,rfl,_,t0,q0⟩:=hs;have r0:=Zz q0;have HC:=Zz hc;unfold maxLen at t0;clear q0 hc hn hg g0
 by_cases hd:0<=Fl.firstDup ns
 ·obtain⟨k,hk⟩:∃k:Nat,Fl.firstDup ns=(k:Int):=⟨(Fl.firstDup ns).toNat,by omega⟩
  have e0:k<st.length:=(by omega);obtain⟨sb,so,rfl,m0,i0⟩:=r0.out (by intro h;rw[h]at e0;simp at e0);have a0:Hid (Fl.shaped ns=(k:Int)):=(by show _=_;rw[l0.out,if_pos hd,hk]);rw[hk]at h0 o0;have b0:=i0 k e0;have u0:(k:Int)<(st.length:Int):=(by omega);clear hd hk i0
  go_enter func85,ntmps85
  go_wp2_with fail
  refine(h0.out).mono ?_;rintro e w1 ⟨rfl,c0⟩;have c34:w1.cell? ⟨b,34,none⟩=some (.slice (some ⟨sb,so,none⟩) st.length scap):=(c0.cell (p:=⟨b,34,none⟩) hlb).trans HC.out;have ck:w1.cell? ⟨sb,so+k,none⟩=some (.int .i64 (st.getD k 0)):=(c0.cell (p:=⟨sb,so+k,none⟩) m0).trans b0;have d0:=Zz c0;clear c0 b0;generalize hx:st.getD k 0=x at*;have HX:=Zz hx;clear hx
  go_wp2_with fail
  refine(Xz _ _ _).mono ?_;rintro e w2 ⟨rfl,f0⟩;refine⟨rfl,d0.out.trans (f0.mono d0.out.size),λ_=>?_,λh=>absurd (by rw[a0.out];omega) h⟩;rw[a0.out,Int.toNat_natCast,HX.out]
 obtain⟨d,n0⟩:=nmE (Fl.firstDup ns);rw[<-n0]at h0 hd o0
 have a0:Hid (Fl.shaped ns=Fl.firstUn ns):=by show _=_;rw[l0.out,<-n0,if_neg hd]
 clear n0 l0
 by_cases hu:0<=Fl.firstUn ns
 ·obtain⟨k,hk⟩:∃k:Nat,Fl.firstUn ns=(k:Int):=⟨(Fl.firstUn ns).toNat,by omega⟩
  have e0:k<st.length:=(by omega);obtain⟨sb,so,rfl,m0,i0⟩:=r0.out (by intro h;rw[h]at e0;simp at e0);rw[hk]at j0 p0 a0;have b0:=i0 k e0;have u0:(k:Int)<(st.length:Int):=(by omega);clear hu hk i0
  go_enter func85,ntmps85
  go_wp2_with fail
  refine(h0.out).mono ?_;rintro e w1 ⟨rfl,c0⟩;have d0:=Zz c0;clear c0
  go_wp2_with fail
  refine(j0.out w1 d0.out).mono ?_;rintro e w2 ⟨rfl,f0⟩;have hb2':Below w.heap.size w w2:=d0.out.trans (f0.mono d0.out.size);have c34:w2.cell? ⟨b,34,none⟩=some (.slice (some ⟨sb,so,none⟩) st.length scap):=(hb2'.cell (p:=⟨b,34,none⟩) hlb).trans HC.out;have ck:w2.cell? ⟨sb,so+k,none⟩=some (.int .i64 (st.getD k 0)):=(hb2'.cell (p:=⟨sb,so+k,none⟩) m0).trans b0;have k0:=Zz hb2';clear f0 b0 hb2';generalize hx:st.getD k 0=x at*;have HX:=Zz hx;clear hx
  go_wp2_with fail
  refine(Xz _ _ _).mono ?_;rintro e w3 ⟨rfl,v0⟩;refine⟨rfl,k0.out.trans (v0.mono k0.out.size),λ_=>?_,λh=>absurd (by rw[a0.out];omega) h⟩;rw[a0.out,Int.toNat_natCast,HX.out]
 obtain⟨u,s0⟩:=nmE (Fl.firstUn ns);rw[<-s0]at j0 hu p0 a0;clear s0
 go_enter func85,ntmps85
 go_wp2_with fail
 refine(h0.out).mono ?_;rintro e w1 ⟨rfl,c0⟩;have d0:=Zz c0;clear c0
 go_wp2_with fail
 refine(j0.out w1 d0.out).mono ?_;rintro e w2 ⟨rfl,f0⟩;have k0:Hid (Below w.heap.size w w2):=d0.out.trans (f0.mono d0.out.size);clear f0;go_wp2
 go_end0
 exact⟨k0.out,λh=>absurd h (by rw[a0.out];omega),λ_=>rfl⟩
structure Fr(w w':World)(b:Nat):Prop where
 g:w.grownBy w' (some b)
 o:∀j,j≠1->j≠34->w'.cell? ⟨b,j,none⟩=w.cell? ⟨b,j,none⟩
 f:∀j,w'.frozen? ⟨b,j,none⟩=w.frozen? ⟨b,j,none⟩
def Mv.fr{w w':World}{b:Nat}(h:Mv w w' b):Fr w w' b:=⟨h.g,λj h1 _=>h.o j h1,h.f⟩
def Fr.trans{w w1 w2:World}{b:Nat}(h:Fr w w1 b)(k:Fr w1 w2 b):Fr w w2 b:=
 ⟨⟨k.g.os.trans h.g.os,k.g.tape.trans h.g.tape,k.g.output.trans h.g.output,Nat.le_trans h.g.size k.g.size,λi hi a0=>(k.g.block i (Nat.lt_of_lt_of_le hi h.g.size) a0).trans (h.g.block i hi a0)⟩,λj hj hj'=>(k.o j hj hj').trans (h.o j hj hj'),λj=>(k.f j).trans (h.f j)⟩
def Fr.andGrown{w w1 w2:World}{b:Nat}{row:Option Nat}(h:Fr w w1 b)(g:w1.grownBy w2 row)(hb:b<w.heap.size)(hall:∀k,row=some k->w.heap.size<=k):Fr w w2 b:=by
 have a0:∀k,k<w.heap.size->some k≠row:=λk hk e=>by have:=hall k e.symm;omega
 have hz:=h.g.size;refine⟨⟨g.os.trans h.g.os,g.tape.trans h.g.tape,g.output.trans h.g.output,Nat.le_trans h.g.size g.size,λk hk b0=>(g.block k (by omega) (a0 k hk)).trans (h.g.block k hk b0)⟩,λj hj hj'=>?_,λj=>?_⟩
 ·exact(Qc (w:=w1) (a:=⟨b,j,none⟩) (g.block b (by omega) (a0 b hb))).trans (h.o j hj hj')
 exact(Qd (w:=w1) (a:=⟨b,j,none⟩) (g.block b (by omega) (a0 b hb))).trans (h.f j)
def Fr.set34(w:World)(b:Nat)(u:Value):Fr w (w.setCell ⟨b,34,none⟩ u) b:=
 ⟨Yl w b 34 u,λj _ hj=>Yw (λe=>hj e.symm),λj=>World.frozen?_setCell _ _ _ _⟩
structure Yi(base:Nat)(w w':World):Prop where
 size:w.heap.size<=w'.heap.size
 block:∀k,base<=k->k<w.heap.size->w'.heap[k]?=w.heap[k]?
def Yi.alloc(base:Nat)(w:World)(o:Obj):Yi base w (w.alloc o):=⟨by simp,λk _ hk=>Below.heap_alloc _ _ _ hk⟩
def Yi.grown{base:Nat}{w w':World}{row:Option Nat}(g:w.grownBy w' row)(h:∀k,row=some k->k<base):Yi base w w':=⟨g.size,λk hb hk=>g.block k hk (λe=>by have:=h k e.symm;omega)⟩
def Yi.below{base:Nat}{w w':World}(h:Below w.heap.size w w'):Yi base w w':=⟨h.size,λk _ hk=>h.block k hk⟩
def Yi.trans{base:Nat}{w w1 w2:World}(h:Yi base w w1)(k:Yi base w1 w2):Yi base w w2:=⟨Nat.le_trans h.size k.size,λi hb hi=>(k.block i hb (Nat.lt_of_lt_of_le hi h.size)).trans (h.block i hb hi)⟩
def zn0{base:Nat}{w w':World}{e:TypeId}{size:Nat}{v:Value}{n:Nat}{xs:List Value}(h:w.ownsRow base e size v n xs)(s:Yi base w w'):w'.ownsRow base e size v n xs:=by
 refine⟨h.1,?_⟩;rcases h.2 with hn|⟨g,cap,cur,hv,hb,hg,rest⟩
 ·exact .inl hn
 exact .inr ⟨g,cap,cur,hv,hb,(s.block g hb (Array.getElem?_eq_some_iff.1 hg).1).trans hg,rest⟩
def zvv{base:Nat}{w w':World}{lv:Value}{xs:List Int}(h:Zy w.heap.size w lv xs)(hb:xs≠[]->∀b,lv.ownBlock=some b->base<=b)(s:Yi base w w'):Zy w'.heap.size w' lv xs:=by
 obtain⟨ao,cap,rfl,hc,hl,hx⟩:=h;refine⟨ao,cap,rfl,hc,hl,λb0=>?_⟩;obtain⟨b,off,rfl,c0,a0⟩:=hx b0;have d0:=hb b0 b rfl;exact⟨b,off,rfl,Nat.lt_of_lt_of_le c0 s.size,λi hi=>(Qc (w:=w) (a:=⟨b,off+i,none⟩) (s.block b d0 c0)).trans (a0 i hi)⟩
structure Li(base:Nat)(w:World)(fam:List (Value×List Int))(sv nv:Value)(n1 n2:Nat)(xs ys:List Value):Prop where
 hs:w.ownsRow base 3 1 sv n1 xs
 hn:w.ownsRow base 121 6 nv n2 ys
 hall:∀p,p∈fam->Xj w p.1 p.2 sv nv/\(p.2≠[]->∀b,p.1.ownBlock=some b->base<=b)
section
variable{base:Nat}{w w':World}{fam:List (Value×List Int)}{sv nv:Value}{n1 n2:Nat}{xs ys:List Value}
def Li.stay(h:Li base w fam sv nv n1 n2 xs ys)(s:Yi base w w'):Li base w' fam sv nv n1 n2 xs ys:=
 ⟨zn0 h.hs s,zn0 h.hn s,λp hp=>⟨⟨zvv (h.hall p hp).1.1 (h.hall p hp).2 s,(h.hall p hp).1.2⟩,(h.hall p hp).2⟩⟩
def Li.first(h:Li base w fam sv nv n1 n2 xs ys){sv':Value}{n1':Nat}{xs':List Value}(ho:w'.ownsRow base 3 1 sv' n1' xs')(hg:w.grownBy w' sv.ownBlock)(hw:sv'.ownBlock=sv.ownBlock\/sv'.ownBlock=some w.heap.size):Li base w' fam sv' nv n1' n2 xs' ys:=
 ⟨ho,h.hn.kept hg (zvz h.hn h.hs (by decide)),λp hp=>⟨(h.hall p hp).1.first hg hw,(h.hall p hp).2⟩⟩
def Li.second(h:Li base w fam sv nv n1 n2 xs ys){nv':Value}{n2':Nat}{ys':List Value}(ho:w'.ownsRow base 121 6 nv' n2' ys')(hg:w.grownBy w' nv.ownBlock)(hw:nv'.ownBlock=nv.ownBlock\/nv'.ownBlock=some w.heap.size):Li base w' fam sv nv' n1 n2' xs ys':=
 ⟨h.hs.kept hg (zvz h.hs h.hn (by decide)),ho,λp hp=>⟨(h.hall p hp).1.second hg hw,(h.hall p hp).2⟩⟩
def Li.add(h:Li base w fam sv nv n1 n2 xs ys){lvn:Value}{l:List Int}{N:Nat}(hi:Zy w.heap.size w lvn l)(hf:∀b,lvn.ownBlock=some b->N<=b)(a0:∀b,sv.ownBlock=some b->b<N)(b0:∀b,nv.ownBlock=some b->b<N)(hN:base<=N):Li base w (fam++[(lvn,l)]) sv nv n1 n2 xs ys:=by
 refine⟨h.hs,h.hn,λp hp=>?_⟩;simp only[List.mem_append,List.mem_singleton]at hp;rcases hp with hp|rfl
 ·exact h.hall p hp
 refine⟨⟨hi,λhx=>?_⟩,λ_ b hb=>by have:=hf b hb;omega⟩;obtain⟨b,hb,c0⟩:=zy8 hi hx;have:=hf b hb;exact⟨λhh=>by have:=a0 b (hh.symm.trans hb);omega,λhh=>by have:=b0 b (hh.symm.trans hb);omega⟩
end
structure PL(s:List UInt8)(M q0:Nat)(w:World)(b P0:Nat)(lv:Value)(ls:List Int)(wr:World)(k q:Nat)(sv nv:Value)(st:List Int)(acc:List Fl.Node)(lvs:List Value):Prop where
 hk:k<=M
 hq:q<=s.length
 hst:st.length=k
 hacc:acc.length=k
 hlvs:lvs.length=k
 hrun:Fl.nodesA s M 0 q0 [] []=Fl.nodesA s (M - k) k q st acc
 hgood:Fl.allGood acc
 hl:Li (P0+1) wr ((lv,ls)::Ym acc lvs) sv nv k k (st.map (Value.int .i64)) (Xr acc lvs)
 c0:wr.cell? ⟨P0,0,none⟩=some lv
 c1:wr.cell? ⟨P0,1,none⟩=some nv
 d0:wr.cell? ⟨w.heap.size,0,none⟩=some (.slice none 0 0)
 d1:wr.cell? ⟨w.heap.size,1,none⟩=some (.slice none 0 0)
 f0:∀j,wr.frozen? ⟨w.heap.size,j,none⟩=false
 f1:∀j,wr.frozen? ⟨P0,j,none⟩=false
 fb:∀j,wr.frozen? ⟨b,j,none⟩=false
 fr:Fr w wr b
 a1:wr.cell? ⟨b,1,none⟩=some (.int .i64 (q:Int))
 a34:wr.cell? ⟨b,34,none⟩=some sv
 hR:w.heap.size<P0
 hP:P0<wr.heap.size
 hb:b<w.heap.size
def PL.nodes{s:List UInt8}{M q0:Nat}{w:World}{b P0:Nat}{lv:Value}{ls:List Int}{wr:World}{k q:Nat}{sv nv:Value}{st:List Int}{acc:List Fl.Node}{lvs:List Value}(h:PL s M q0 w b P0 lv ls wr k q sv nv st acc lvs):Zo wr.heap.size wr nv acc:=
 Vr (by rw[h.hacc];exact h.hl.hn) (by rw[h.hacc,h.hlvs]) (λi hi=>(h.hl.hall _ (by simp only[List.mem_cons];right;exact Vk acc lvs i (by rw[h.hacc,h.hlvs]) hi)).1.1)
def PL.locals{s:List UInt8}{M q0:Nat}{w:World}{b P0:Nat}{lv:Value}{ls:List Int}{wr:World}{k q:Nat}{sv nv:Value}{st:List Int}{acc:List Fl.Node}{lvs:List Value}(h:PL s M q0 w b P0 lv ls wr k q sv nv st acc lvs):Zy wr.heap.size wr lv ls:=(h.hl.hall (lv,ls) (by simp)).1.1
def PL.starts{s:List UInt8}{M q0:Nat}{w:World}{b P0:Nat}{lv:Value}{ls:List Int}{wr:World}{k q:Nat}{sv nv:Value}{st:List Int}{acc:List Fl.Node}{lvs:List Value}(h:PL s M q0 w b P0 lv ls wr k q sv nv st acc lvs):Zy wr.heap.size wr sv st:=Zy.of_own h.hl.hs
open Go.Maps Go.WideMaps
def yvw(w:World):Calls prog 92 #[] w λe w'=>e=.returned (.pointer (some ⟨w.heap.size+1,0,none⟩))/\Vg w' (w.heap.size+1) w.heap.size []/\Below w.heap.size w w'/\w'.heap.size=w.heap.size+2:=by
 have hmm:= @run_makeMap prog
 go_enter func92,ntmps92
 go_wp2;go_ret;refine⟨rfl,⟨?_,0,.map [],Nat.le_refl _,(World.ownsMap_made w _ _ _).alloc _,rfl,λnd _=>?_,λi hi=>(by cases hi)⟩,?_,?_⟩
 ·simp
 ·simp[Maps.has]
 ·exact(((Below.refl _ _).alloc (Nat.le_refl _) _).alloc (by simp) _)
 ·simp
section
variable{w:World}{Fb Pb Lb:Nat}{clv chv bv vv:Value}{S:Nat->Prop}{p:Fl.Prog}{vs:List Int}
def yzy(h:Xy w Fb Pb Lb clv chv bv vv S p vs):Calls prog 66 #[.pointer (some ⟨Fb,0,none⟩)] w λe w'=>∃nv,e=.returned nv/\(∀w'',Yi w.heap.size w' w''->Zo w''.heap.size w'' nv (Fl.wBlock p vs 4 [] p.body (Fl.low p)).2)/\Below w.heap.size w w':=by
 obtain⟨lw,hlt,elw⟩:∃lw:Nat,lw<p.n/\Fl.low p=(lw:Int):=⟨(Fl.low p).toNat,by have:=h.lv.lv.low;omega,by have:=h.lv.lv.low;omega⟩
 have hso:Fl.StmtsOk vs.length p.chans.length 4 p.body:=by rw[h.ok.1];exact h.pk.body
 have HN:=Zz (yvw w);have HBL:Hid (∀V Xb T B,Yv w V Xb T B Fb (.slice none 0 0) [] []->Calls prog 113 #[.pointer (some ⟨Xb,0,none⟩),bv,.int .i64 lw] V (Xt (λ_=>False) w V Xb T B Fb (.slice none 0 0) [] [] (Fl.wBlock p vs 4 [] p.body lw))):=λV Xb T B hV=>zl0 h 4 (by omega) V _ [] [] bv p.body lw h.bo hso hlt hV (by simp);rw[elw];generalize Fl.wBlock p vs 4 [] p.body lw=res at*
 have HL:Hid (∀V,Below w.heap.size w V->Calls prog 108 #[.pointer (some ⟨Lb,0,none⟩)] V λe w'=>e=.returned (.int .i64 lw)/\w'=V):=λV hV=>by
  have h5:=zw5 (h.below hV).lv.la;have e5:((Fl.bottom p.n p.leq:Nat):Int)=(lw:Int):=elw;rw[e5]at h5;exact h5
 have HS:Hid (∀V,Below w.heap.size w V->V.cell? ⟨Fb,0,none⟩=some (.pointer (some ⟨Pb,0,none⟩))/\V.cell? ⟨Pb,4,none⟩=some bv/\V.cell? ⟨Pb,0,none⟩=some (.pointer (some ⟨Lb,0,none⟩))):=λV hV=>⟨(h.below hV).c0,(h.below hV).p4,(h.below hV).lv.p0⟩;clear elw hso hlt
 go_enter func66,ntmps66
 go_wp2_with fail
 refine HN.out.mono ?_;rintro e W1 ⟨rfl,hse,hb1,hz1⟩;obtain⟨W2,hW2⟩:∃W2,W2=W1.alloc (.cells #[.pointer (some ⟨Fb,0,none⟩),.slice none 0 0,.pointer (some ⟨w.heap.size+1,0,none⟩)] 230):=⟨_,rfl⟩
 have hb2:Below W1.heap.size W1 W2:=by rw[hW2];exact bA
 have HWI:Hid (Yv w W2 (w.heap.size+2) (w.heap.size+1) w.heap.size Fb (.slice none 0 0) [] []):=by
  have og:W1.grownBy W2 none:=⟨hb2.os,hb2.tape,hb2.output,hb2.size,λk hk _=>hb2.block k hk⟩;refine⟨by omega,by rw[hW2];simp;omega,by rw[hW2,<-hz1];simp,by rw[hW2,<-hz1];simp,by rw[hW2,<-hz1];simp,λj=>?_,hse.kept og (by simp) (by simp),rfl,World.ownsRow_nil _ _ _ _,λp hp=>(by cases hp),hb1.trans (hb2.mono hb1.size)⟩;have h5:W2.heap[w.heap.size+2]?=some (.cells #[.pointer (some ⟨Fb,0,none⟩),.slice none 0 0,.pointer (some ⟨w.heap.size+1,0,none⟩)] 230 (0,0)):=(by rw[hW2,<-hz1];exact heap_alloc_last _ _);simp[World.frozen?,h5]
 have HB2:Hid (Below w.heap.size w W2):=hb1.trans (hb2.mono hb1.size);clear hse hb1 hb2 HN
 go_wp2_with fail
 rw[<-hW2];clear hW2 hz1;refine Yy HS HB2.out.drew [15,16] [] [] (by kernel_rfl) (λc a d v w h=>by cases d<;>exact h) (λops _=>?_)
 iterate 15 refine Ze rfl (by rintro _ ⟨_,_,_⟩;go_simp<;>rfl) (by go_simp<;>rfl) ?_
 refine Zs ?_
 go_wp2_with fail
 refine(HL.out _ HB2.out.drew).mono ?_;rintro e1 W3 ⟨rfl,rfl⟩
 go_wp2_with fail
 refine⟨HS.out _ HB2.out.drew,?_⟩;refine Zs ?_
 go_wp2_with fail
 refine(HBL.out _ _ _ _ (HWI.out.below (Below.refl _ _).drew)).mono ?_;rintro e2 W4 ⟨rfl,wv4,lvs4,hw4,hst4,-⟩;have HB4:Hid (Below w.heap.size w W4):=hw4.be;have c41:=hw4.c1
 have HE:Hid (∀w'',Yi w.heap.size W4 w''->Zo w''.heap.size w'' wv4 res.2):=λw'' hs=>by
  have hx:=hw4.x0;refine Vr (Zh hw4.ow (λb hb=>hs.block b ?_ ?_)) hw4.hl (λi hi=>zvv (hw4.li _ (Vk _ _ i hw4.hl hi)).1.1 (λhne b hb=>?_) hs)
  ·have:=(hw4.ow.lt b hb).1;omega
  ·exact(hw4.ow.lt b hb).2
  ·have:=((hw4.li _ (Vk _ _ i hw4.hl hi)).2 hne b hb).1;omega
 clear hw4 hst4
 go_wp2_with fail
 refine⟨HS.out _ HB4.out,?_⟩;refine Yt ?_;go_wp2;go_ret;exact⟨_,rfl,HE.out,HB4.out⟩
end
end Go.Proofs.YtminjljgedopkaaGreatDoor
namespace Go.Proofs.YtminjljgedopkaaGreatDoor
open Go.RowKit Go.Proofs.Tryz
def Uk(n k:Nat)(v:Int):List Value:=List.replicate k (Value.int .i64 v)++List.replicate (n - k) (Value.int .i64 0)
def yvv(n k:Nat)(v:Int)(h:k<n):(Uk n k v).toArray.setIfInBounds k (.int .i64 v)=(Uk n (k+1) v).toArray:=by
 rw[List.setIfInBounds_toArray]
 congr 1
 unfold Uk;rw[List.set_append_right _ _ (by simp)];simp only[List.length_replicate,Nat.sub_self];obtain⟨m,hm⟩:∃m,n - k=m+1:=⟨n - k - 1,by omega⟩;rw[hm,List.replicate_succ,List.set_cons_zero,show n - (k+1)=m by omega,List.replicate_succ',List.append_assoc];rfl
def yr3(n k:Nat)(v:Int)(h:k<n):(Uk n k v).toArray[k]?=some (.int .i64 0):=by
 unfold Uk;rw[List.getElem?_toArray,List.getElem?_append_right (by simp)];simp only[List.length_replicate,Nat.sub_self];rw[List.getElem?_replicate,if_pos (by omega)]
def yu0(W:World)(n:Nat)(hn:n<=100000):(Instr.makeSlice 23 (.int .i64 n) (.int .i64 n)).run prog W=.ok (.slice (some ⟨W.heap.size,0,none⟩) n n) (W.alloc (.cells (Uk n 0 0).toArray 3)):=by
 obtain⟨i0,hi0,hz0,hzs,hzb⟩:=info_parts Tryz.infoIntW;have h:=run_makeSlice (w:=W) 23 3 i0 (.int .i64 0) underlying23 hi0 hz0 .i64 .i64 (n:Int) (n:Int) (by omega) (Int.le_refl _) (by rw[hzs];simp;omega) (by rw[hzb];omega) (by omega);have e:madeCells (Value.int .i64 0).cells ((n:Int).toNat*1)=(Uk n 0 0).toArray:=by
  apply Array.ext
  ·simp[madeCells,Uk]
  ·intro i h1 h2
   simp[madeCells,Uk,Value.cells,Nat.mod_one]
 rw[h,hzs,e,Int.toNat_natCast]
section
variable{w:World}{Pb Lb:Nat}{p:Fl.Prog}
def zl1(h:LvIn w Pb Lb p)(p3:w.cell? ⟨Pb,3,none⟩=some (.int .i64 p.locals))(hl:p.locals<=4):Calls prog 63 #[.pointer (some ⟨Pb,0,none⟩)] w λe w'=>∃lv,e=.returned lv/\Zy w'.heap.size w' lv (List.replicate p.locals (Fl.low p))/\Below w.heap.size w w':=by
 obtain⟨n,hn⟩:∃n,n=p.locals:=⟨_,rfl⟩;rw[<-hn]at p3 hl⊢;have HMS:Hid (∀W,(Instr.makeSlice 23 (.int .i64 n) (.int .i64 n)).run prog W=.ok (.slice (some ⟨W.heap.size,0,none⟩) n n) (W.alloc (.cells (Uk n 0 0).toArray 3))):=λW=>yu0 W n (by omega);obtain⟨lw,elw⟩:∃lw:Nat,Fl.low p=(lw:Int):=⟨(Fl.low p).toNat,by have:=h.lv.low;omega⟩
 have HL:Hid (∀V,Below w.heap.size w V->Calls prog 108 #[.pointer (some ⟨Lb,0,none⟩)] V λe w'=>e=.returned (.int .i64 lw)/\w'=V):=λV hV=>by
  have h5:=zw5 (h.below hV).la;have e5:((Fl.bottom p.n p.leq:Nat):Int)=(lw:Int):=elw;rw[e5]at h5;exact h5
 have HP:Hid (∀V,Below w.heap.size w V->V.cell? ⟨Pb,0,none⟩=some (.pointer (some ⟨Lb,0,none⟩))):=λV hV=>(h.below hV).p0;rw[elw];obtain⟨nb,hnb⟩:∃nb,nb=w.heap.size:=⟨_,rfl⟩;have hP:=h.hz.1;clear h hn elw
 go_enter func63,ntmps63
 go_wp2_with fail
 rw[HMS.out];obtain⟨W0,hW0⟩:∃W0,W0=w.alloc (.cells (Uk n 0 0).toArray 3):=⟨_,rfl⟩
 have HB0:Hid (Below w.heap.size w W0):=by show Below _ _ _;rw[hW0];exact bA
 have HR0:Hid (W0.heap[nb]?=some (.cells (Uk n 0 lw).toArray 3 (0,0))):=by
  show _=_;rw[hW0,hnb];exact heap_alloc_last w _
 have HNB:Hid (nb=w.heap.size):=hnb;rw[<-hW0,<-hnb];clear hW0 hnb
 go_wp2_with fail
 go_loopw [12] (λi wr=>∃k:Nat,k<=n/\i=.int .i64 k/\wr.heap[nb]?=some (.cells (Uk n k lw).toArray 3 (0,0))/\Below w.heap.size w wr) (λi _=>n - (intOf i).toNat)
 case atStart=>exact⟨0,by omega,rfl,HR0.out,HB0.out⟩
 case round=>
  obtain⟨k,hk,rfl,hrow,hbel⟩:=hrel
  by_cases hlt:k<n
  ·have hltI:(k:Int)<(n:Int):=by omega
   have HR1:Hid ((wr.setCell ⟨nb,k,none⟩ (.int .i64 lw)).heap[nb]?=some (.cells (Uk n (k+1) lw).toArray 3 (0,0))):=by
    have h5:=zu6 hrow k (.int .i64 lw);rw[yvv n k lw hlt]at h5;exact h5
   have HB1:Hid (Below w.heap.size w (wr.setCell ⟨nb,k,none⟩ (.int .i64 lw))):=hbel.setCell (by show w.heap.size<=nb;rw[HNB.out];exact Nat.le_refl _) _;have c0:wr.cell? ⟨nb,k,none⟩=some (.int .i64 0):=(by simp only[World.cell?,hrow];exact yr3 n k lw hlt);have f0:wr.frozen? ⟨nb,k,none⟩=false:=(by simp[World.frozen?,hrow]);have p0:=HP.out _ hbel;have HBE:Hid (Below w.heap.size w wr):=hbel;have HLT:Hid (k<n):=hlt;clear hrow hbel hlt
   go_wp2_with fail
   refine(HL.out _ HBE.out).mono ?_;rintro e W1 ⟨rfl,rfl⟩;go_wp2
   go_roundw
   case rel=>exact⟨k+1,by have:=HLT.out;omega,by go_num,HR1.out,HB1.out⟩
   case measure=>simp[intOf];omega
  ·have hke:k=n:=by omega
   subst hke;have HI:Hid (Zy wr.heap.size wr (.slice (some ⟨nb,0,none⟩) k k) (List.replicate k (lw:Int))):=by
    refine⟨_,k,by rw[List.length_replicate],by simp,by simp[maxLen];omega,λ_=>⟨nb,0,rfl,?_,λi hi=>?_⟩⟩
    ·rcases Nat.lt_or_ge nb wr.heap.size with h|h
     ·exact h
     ·rw[Array.getElem?_eq_none h]at hrow;cases hrow
    ·rw[List.length_replicate]at hi
     simp only[World.cell?,hrow,Uk,Nat.sub_self,Nat.zero_add];simp[List.getElem?_replicate,List.getD_eq_getElem?_getD,hi]
   have HBE:Hid (Below w.heap.size w wr):=hbel;clear hrow hbel;go_wp2;go_ret;exact⟨_,rfl,HI.out,HBE.out⟩
end
def Jn{B:Nat}{w:World}{v:Value}{l:List Int}(h:Zy B w v l):∃a c,v=.slice a l.length c:=by obtain⟨a,c,e,-⟩:=h;exact⟨a,c,e⟩
def Tryz.infoIntZ:(Tryz.prog.info? 3).map (λi=>(i.zero,i.size,i.bytes))=some (some (.int .i64 0),1,8):=by kernel_rfl
def zry{w:World}{ops:Array Oper}{rest:List Oper}{o:Oper}{a:Act}{Q:Exit->Act->World->Prop}(f0:o.guard=none)(s x:Operand)
  (ho:o.op=.call {callee:=.builtin .append,args:=#[s,x],argTypes:=#[23,3]}) (hs:a.eval s=.slice none 0 0) (k:Nat) (hx:a.eval x=.int .i64 k) (h0:0<k) (hk:k<=100000)
  (h:∀(cap:Nat) (W':World),Below w.heap.size w W'->k<=cap->cap<=maxLen->W'.ownsRow w.heap.size 3 1 (.slice (some ⟨w.heap.size,0,none⟩) 0 cap) 0 []->wpList prog ops Q rest (a.put o.dst (.slice (some ⟨w.heap.size,0,none⟩) k cap)) W'):wpList prog ops Q (o::rest) a w:=by
 obtain⟨i0,hi,g0,j0,d0⟩:=info_parts Tryz.infoIntZ;have hrun:=Go.Lib.run_append_grow_zeros (P:=prog) w 23 3 o.type 3 i0 (.int .i64 0) .i64 .i64 underlying23 underlying3 hi g0 none 0 0 [] (by simp[Builtin.firstCells]) k h0 (by rw[j0];omega) (by omega) (by omega) (by rw[d0];omega) (growslice_fits (by omega) (by rw[d0];omega));rw[Nat.zero_add]at hrun;have e0:=grownCap_ge w k 0 3;have b0:=grownCap_le_maxLen w k 0 3 (by unfold maxLen;omega);obtain⟨cap,c0⟩:=nmE (grownCap w k 0 3);rw[<-c0]at hrun e0 b0;obtain⟨cur,a0⟩:=nmE (([]:List Value).toArray++Builtin.zeroCells (Value.int .i64 0).cells k++Builtin.zeroCells (Value.int .i64 0).cells (cap - k));have hsz:cur.size=cap*1:=by
  rw[a0,Array.size_append,Array.size_append,size_zeroCells,size_zeroCells];have:(Value.int IntKind.i64 0).cells.size=1:=rfl;rw[this];simp;omega
 rw[<-a0]at hrun;refine wpList_plain f0 λK hK=>?_;have k0:=hK _ _ (h cap (w.drew.alloc (.cells cur 3)) ((Below.refl _ _).drew.alloc (Nat.le_refl _) _) e0 b0 (World.ownsRow_made w.drew cur cap (Nat.le_refl _) b0 hsz));unfold Oper.wp execOp;simp only[ho,resolve,invoke,builtin,Sem.run_bind,Sem.run_pure,Result.andThen_ok,List.map_toArray,List.map_cons,List.map_nil,hs,hx,hrun];exact k0
def zqx(w:World)(e:Ending)(w':World):Prop:=Below w.heap.size w w'/\∃a c,e=.returned (.slice a 0 c)/\w'.ownsRow w.heap.size 3 1 (.slice a 0 c) 0 []
def yr4(w:World)(n:Nat)(hn:n<=100000):Calls prog 154 #[.slice none 0 0,.int .i64 n] w (zqx w):=by
 have b0:(n:Int)<=100000:=by omega
 by_cases h0:n=0
 ·subst h0
  have HE:Hid (zqx w (.returned (.slice none 0 0)) w):=⟨Below.refl _ _,none,0,rfl,World.ownsRow_nil _ _ _ _⟩
  go_enter func154,ntmps154
  go_wp2;go_ret;exact HE.out
 have c0:(0:Int)<(n:Int):=by omega
 have a0:Hid (0<n):=by show 0<n;omega
 clear h0
 go_enter func154,ntmps154
 go_wp2_with (refine zry rfl (.tmp 20) (.tmp 21) rfl rfl n rfl a0.out hn ?_)
 intro cap W' hb hc hm ho;have HE:Hid (zqx w (.returned (.slice (some ⟨w.heap.size,0,none⟩) 0 cap)) W'):=⟨hb,_,_,rfl,ho⟩
 have d0:(n:Int)<=(cap:Int):=by omega
 have e0:(0:Int)<=(cap:Int):=by omega
 clear hb ho;go_wp2;go_ret;exact HE.out
def zt2(w:World)(base:Nat)(v:Value)(n:Nat)(xs:List Value)(a0:w.ownsRow base 3 1 v n xs)(c:Nat)(ty:TypeId){i:TypeInfo}(hi:prog.info? 3=some i):(Builtin.append_ #[23,23] ty #[v,.slice none 0 c]).run prog w=.ok v w:=by
 rcases a0.2 with⟨rfl,h0⟩|⟨g,cap,cur,rfl,hb,hg,b0,c0,d0,ht⟩
 ·simp[Builtin.append_,run_underlying underlying23,sizeOf,typeInfo,hi,Builtin.lenOf,Builtin.firstCells]
 simp[Builtin.append_,run_underlying underlying23,sizeOf,typeInfo,hi,Builtin.lenOf,Builtin.firstCells,b0,storeCells]
def zrx{w:World}{ops:Array Oper}{rest:List Oper}{o:Oper}{a:Act}{Q:Exit->Act->World->Prop}(e0:o.guard=none)(s x:Operand)
  (ho:o.op=.call {callee:=.builtin .append,args:=#[s,x],argTypes:=#[23,23]}) (base:Nat) (v:Value) (ys:List Int) (hs:a.eval s=v) (a0:w.ownsRow base 3 1 v ys.length (ys.map (Value.int .i64))) (xv:Value) (hx:a.eval x=xv) (B:Nat) (xs:List Int) (h0:Zy B w xv xs) (o0:ys.length<=1000000) (hlen:xs.length<=1000000) (c0:base<=w.heap.size)
  (h:∀v' w',w'.ownsRow base 3 1 v' (ys++xs).length ((ys++xs).map (Value.int .i64))->w.grownBy w' v.ownBlock->wpList prog ops Q rest (a.put o.dst v') w'):wpList prog ops Q (o::rest) a w:=by
 obtain⟨i0,hi,j0,k0,l0⟩:=info_parts Tryz.infoIntZ;obtain⟨ao,cap,rfl,hc,hm,d0⟩:=h0;have f0:∀ad,ao=some ad->(∀j u,(xs.map (Value.int .i64))[j]?=some u->w.cell? (ad.add j)=some u)->wpList prog ops Q (o::rest) a w:=by
  rintro ad rfl m0;refine wpList_append_own _ e0 s x 23 ho base 3 i0 (.int .i64 0) 1 8 underlying23 hi j0 k0 l0 rfl (by decide) _ _ _ hs a0 ad xs.length cap (xs.map (Value.int .i64)) hx (by simp) m0 ?_ (by unfold maxLen;omega) (by omega) c0 ?_
  ·intro u hu;simp only[List.mem_map]at hu;obtain⟨y,_,rfl⟩:=hu;rfl
  intro v' w' hown' hg _;exact h v' w' (by rw[List.length_append,List.map_append];exact hown') hg
 by_cases g0:xs=[]
 ·subst g0
  cases ao with
  |some ad=>exact f0 ad rfl (by simp)
  |none=>
   have hrun:=zt2 w base v ys.length _ a0 cap o.type hi;refine wpList_plain e0 λK hK=>?_;unfold Oper.wp;simp only[List.length_nil]at hx;simp[execOp,ho,resolve,invoke,builtin,hs,hx,hrun,Result.andThen];exact hK _ _ (h _ _ (by simpa using a0) ⟨rfl,rfl,rfl,Nat.le_refl _,λ_ _ _=>rfl⟩)
 obtain⟨b,off,rfl,p0,b0⟩:=d0 g0;refine f0 _ rfl ?_;intro j u hj;rw[List.getElem?_map]at hj;obtain⟨y,hy,rfl⟩:=Option.map_eq_some_iff.1 hj;have n0:j<xs.length:=(List.getElem?_eq_some_iff.1 hy).1;have:=b0 j n0;rw[Qa,hy]at this
 have h2:(⟨b,off,none⟩:Addr).add j=⟨b,off+j,none⟩:=by unfold Addr.add;split<;>simp_all
 rw[h2];simpa using this
def Vo(xs ys:List Int)(k:Nat):List Int:=if k=0 then [] else if k=1 then xs else xs++ys
def zyx(xs ys:List Int)(k:Nat):List Int:=if k=0 then xs else ys
def zi6(xs ys:List Int)(k:Nat)(hk:k<2):Vo xs ys (k+1)=Vo xs ys k++zyx xs ys k:=by
 rcases(show k=0\/k=1 by omega) with rfl|rfl<;>simp[Vo,zyx]
def yzx(w:World)(sb:Nat)(c0v c1v:Value)(xs ys:List Int)(hsz:sb<w.heap.size)(h0:w.cell? ⟨sb,0,none⟩=some c0v)(h1:w.cell? ⟨sb,1,none⟩=some c1v)(hx:Zy w.heap.size w c0v xs)(hy:Zy w.heap.size w c1v ys)(hl:xs.length<=10000/\ys.length<=10000):
  Calls prog 107 #[.slice (some ⟨sb,0,none⟩) 2 2] w λe w'=>Below w.heap.size w w'/\∃v,e=.returned v/\w'.ownsRow w.heap.size 3 1 v (xs++ys).length ((xs++ys).map (Value.int .i64)):=by
 have i0:Hid (∀k,k<2->∀W,Below w.heap.size w W->∃a c,W.cell? ⟨sb,k,none⟩=some (.slice a (zyx xs ys k).length c)/\Zy W.heap.size W (.slice a (zyx xs ys k).length c) (zyx xs ys k)/\(zyx xs ys k).length<=10000):=λk hk W hW=>by
  rcases(show k=0\/k=1 by omega) with rfl|rfl
  ·obtain⟨a,c,e⟩:=Jn hx
   subst e;exact⟨a,c,(hW.cell (p:=⟨sb,0,none⟩) hsz).trans h0,(hx.below hW).mono hW.size,hl.1⟩
  obtain⟨a,c,e⟩:=Jn hy;subst e;exact⟨a,c,(hW.cell (p:=⟨sb,1,none⟩) hsz).trans h1,(hy.below hW).mono hW.size,hl.2⟩
 have j0:Hid (∀k,k<=2->(Vo xs ys k).length<=20000):=λk hk=>by
  rcases(show k=0\/k=1\/k=2 by omega) with rfl|rfl|rfl<;>simp[Vo]<;>omega
 have q0:Hid (∀n,n<=100000->Calls prog 154 #[.slice none 0 0,.int .i64 (n:Nat)] w (zqx w)):=λn hn=>yr4 w n hn;obtain⟨zs,e0⟩:=nmE (xs++ys);rw[<-e0];have r0:=Zz e0;clear h0 h1 hx hy e0
 go_enter func107,ntmps107
 go_wp2_with fail
 go_loopw [3,11] (λs i wr=>wr=w/\∃k:Nat,k<=2/\i=.int .i64 k/\s=.int .i64 ((Vo xs ys k).length:Nat)) (λ_ i _=>2 - (intOf i).toNat)
 case atStart=>exact⟨rfl,0,by omega,rfl,rfl⟩
 case round=>
  obtain⟨k0,k,hk,rfl,rfl⟩:=hrel;rw[k0];clear k0 wr;have D0:((Vo xs ys k).length:Int)<=20000:=(by have:=j0.out k hk;omega)
  by_cases b0:k<2
  ·have s0:(k:Int)<2:=by omega
   obtain⟨a,c,ck,-,t0⟩:=i0.out k b0 w (Below.refl _ _);have u0:((zyx xs ys k).length:Int)<=10000:=(by omega);have E0:(0:Int)<=((Vo xs ys k).length:Int)+((zyx xs ys k).length:Int):=(by omega);have f0:Hid (((Vo xs ys (k+1)).length:Int)=((Vo xs ys k).length:Int)+((zyx xs ys k).length:Int)):=(by show _=_;rw[zi6 xs ys k b0,List.length_append];omega);generalize (Vo xs ys k).length=lk at*;generalize (zyx xs ys k).length=ek at*;go_wp2
   go_roundw
   case rel=>exact⟨by first|rfl|trivial,k+1,by omega,by go_num,by rw[f0.out]⟩
   case measure=>simp[intOf];omega
  have s0:¬(k:Int)<2:=(by omega)
  obtain rfl:k=2:=by omega
  have v0:Hid (Calls prog 154 #[.slice none 0 0,.int .i64 ((Vo xs ys 2).length:Nat)] w (zqx w)):=q0.out _ (by omega);generalize (Vo xs ys 2).length=tot at*
  go_wp2_with fail
  refine v0.out.mono ?_;rintro e W1 ⟨l0,a1,c1,rfl,m0⟩;have x0:=Zz l0;have y0:=Zz m0;clear l0 m0
  go_wp2_with fail
  go_loopw [6,27] (λv i wr=>Below w.heap.size w wr/\∃k:Nat,k<=2/\i=.int .i64 k/\wr.ownsRow w.heap.size 3 1 v (Vo xs ys k).length ((Vo xs ys k).map (Value.int .i64))) (λ_ i _=>2 - (intOf i).toNat)
  case atStart=>exact⟨x0.out,0,by omega,rfl,y0.out⟩
  case round=>
   rename_i u6 u27;obtain⟨n0,k,z0,rfl,c0⟩:=hrel;have d0:=Zz n0;have a0:=Zz c0;clear n0 c0
   by_cases b0:k<2
   ·have g0:(k:Int)<2:=by omega
    obtain⟨a,c,ck,o0,t0⟩:=i0.out k b0 wr d0.out;obtain⟨va,vc,rfl⟩:∃a c,u6=.slice a (Vo xs ys k).length c:=by
     rcases a0.out.2 with⟨e1,e2⟩|⟨g,cp,cur,e1,_⟩
     ·exact⟨none,0,by rw[e1,e2]⟩
     exact⟨_,cp,e1⟩
    have A0:=Zz o0;have B0:=j0.out k z0
    have f0:Hid (∀v' w',w'.ownsRow w.heap.size 3 1 v' (Vo xs ys k++zyx xs ys k).length ((Vo xs ys k++zyx xs ys k).map (Value.int .i64))->wr.grownBy w' (Value.slice va (Vo xs ys k).length vc).ownBlock->Below w.heap.size w w'/\w'.ownsRow w.heap.size 3 1 v' (Vo xs ys (k+1)).length ((Vo xs ys (k+1)).map (Value.int .i64))):=λv' w' h2 h3=>by
     rw[zi6 xs ys k b0];exact⟨d0.out.grown h3 d0.out.size (λb hb=>(a0.out.lt b hb).1),h2⟩
    have C0:w.heap.size<=wr.heap.size:=d0.out.size;clear o0
    go_wp2_with (at_builtin;refine zrx rfl (.tmp 31) (.tmp 32) rfl w.heap.size _ (Vo xs ys k) rfl a0.out _ rfl wr.heap.size (zyx xs ys k) A0.out (by omega) (by omega) C0 ?_)
    intro v' w' h2 h3;have p0:Hid _:=f0.out v' w' (by rw[List.length_append,List.map_append];exact h2) h3;clear h2 h3;go_wp2
    go_roundw
    case rel=>exact⟨p0.out.1,k+1,by omega,by go_num,p0.out.2⟩
    case measure=>simp[intOf];omega
   have g0:¬(k:Int)<2:=(by omega)
   obtain rfl:k=2:=by omega
   have HE:Hid (wr.ownsRow w.heap.size 3 1 u6 zs.length (zs.map (Value.int .i64))):=(by show World.ownsRow _ _ _ _ _ _ _;rw[r0.out];exact a0.out);clear a0;go_wp2;go_ret;exact⟨d0.out,u6,rfl,HE.out⟩
def zkw{w:World}{Pb:Nat}{clv lv:Value}{xs ys:List Int}(hp:Pb<w.heap.size)(c1:w.cell? ⟨Pb,1,none⟩=some clv)(hx:Zy w.heap.size w clv xs)(hy:Zy w.heap.size w lv ys)(hl:xs.length<=10000/\ys.length<=10000):
  Calls prog 62 #[.pointer (some ⟨Pb,0,none⟩),lv] w λe w'=>Below w.heap.size w w'/\(∀j,w'.frozen? ⟨w.heap.size,j,none⟩=false)/\w.heap.size<w'.heap.size/\∃v,e=.returned v/\w'.ownsRow (w.heap.size+1) 3 1 v (xs++ys).length ((xs++ys).map (Value.int .i64)):=by
 obtain⟨a0,k0,e0⟩:=Jn hx;obtain⟨a1,k1,e1⟩:=Jn hy;subst e0;subst e1;have hB:Below w.heap.size w (w.alloc (.cells #[.slice a0 xs.length k0,.slice a1 ys.length k1] 23)):=(Below.refl _ _).alloc (Nat.le_refl _) _;obtain⟨zs,hzs⟩:∃zs,zs=xs++ys:=⟨_,rfl⟩;have HC:Hid (Calls prog 107 #[.slice (some ⟨w.heap.size,0,none⟩) 2 2] (w.alloc (.cells #[.slice a0 xs.length k0,.slice a1 ys.length k1] 23)) λe w'=>Below w.heap.size w w'/\(∀j,w'.frozen? ⟨w.heap.size,j,none⟩=false)/\w.heap.size<w'.heap.size/\∃v,e=.returned v/\w'.ownsRow (w.heap.size+1) 3 1 v zs.length (zs.map (Value.int .i64))):=by
  refine(yzx (w.alloc (.cells #[.slice a0 xs.length k0,.slice a1 ys.length k1] 23)) w.heap.size _ _ xs ys (by simp) (by simp) (by simp) ((hx.below hB).mono hB.size) ((hy.below hB).mono hB.size) hl).mono ?_;rintro e w' ⟨hb,v,rfl,ho⟩;rw[<-hzs]at ho;refine⟨hB.trans (hb.mono hB.size),λj=>(hb.frozen (p:=⟨w.heap.size,j,none⟩) (by simp)).trans (by simp),by have:=hb.size;simp at this;omega,v,rfl,?_⟩;have e9:(w.alloc (.cells #[.slice a0 xs.length k0,.slice a1 ys.length k1] 23)).heap.size=w.heap.size+1:=(by simp);rw[e9]at ho;exact ho
 rw[<-hzs];clear hx hy hzs hB
 go_enter func62,ntmps62
 go_wp2_with fail
 refine HC.out.mono ?_;rintro e w1 ⟨hb,hfz,hzz,v,rfl,ho⟩;obtain⟨la,lc,rfl⟩:∃la lc,v=.slice la zs.length lc:=by
  rcases id ho.2 with⟨rfl,h0⟩|⟨g,cp,cur,rfl,-⟩
  ·exact⟨none,0,by rw[h0]⟩
  ·exact⟨_,cp,rfl⟩
 have HE:Hid (Below w.heap.size w w1/\(∀j,w1.frozen? ⟨w.heap.size,j,none⟩=false)/\w.heap.size<w1.heap.size/\w1.ownsRow (w.heap.size+1) 3 1 (.slice la zs.length lc) zs.length (zs.map (Value.int .i64))):=⟨hb,hfz,hzz,ho⟩;clear hb ho hfz hzz;go_wp2;go_ret;exact⟨HE.out.1,HE.out.2.1,HE.out.2.2.1,_,rfl,HE.out.2.2.2⟩
end Go.Proofs.YtminjljgedopkaaGreatDoor

import Derived.Test.YtjekbnmnjeoagaaGreatDoorM19
import Derived.Lib.ConvBytes
set_option linter.all false
set_option maxRecDepth 100000
set_option maxHeartbeats 40000000
namespace Go.Proofs.YtjekbnmnjeoagaaGreatDoor
open Go.RowKit Go.Proofs.Tryz
variable{w:World}{l s:List UInt8}{ao:Option Addr}
def yo7(res:Nat×Int×List UInt8)(w:World)(e:Ending)(w':World):Prop:=
  Bq w w'/\
  ((res.1=0/\res.2.1= -1/\∃va n c,e=.returned (.tuple #[.slice va n c,.nilIface])/\w'.ownsRow w.heap.size 5 1 (.slice va n c) res.2.2.length (res.2.2.map Xx))\/
   (res=(8,-1,[])/\e=.returned (.tuple #[Zq,.iface 23 (Iq 8)]))\/
   (res.1≠0/\res.2.2=[]/\∃a,e=.returned (.tuple #[Zq,.iface 145 (Pq a)])/\w'.cell? (Aq a 0)=some (Iq res.1)/\w'.cell? (Aq a 1)=some (Iq res.2.1)))
def yyv(hl:l.length<=100000)(hg:1<w.heap.size)(hm:Xi w):
  Cq 38 #[.string ⟨l.toArray⟩] w (yo7 (Fl.inferE (Fl.readProg l)) w):=by
 have g0:Hid (Cq 69 #[.string ⟨l.toArray⟩] w (zqx (Fl.readProg l) w)):=ypx hl hg hm;have e0:Hid ((Fl.readProg l).1=0->(Fl.readProg l).2.2.Ok):=λh=>(Fl.readProg_ok l h).1;have f0:Hid ((Fl.readProg l).1=0->(Fl.readProg l).2.2.Lv):=Fl.readProg_Lv l;obtain⟨q,hq⟩:=nmE (Fl.readProg l);rw[<-hq]at g0 e0 f0⊢;clear hq hl hg hm
 go_enter func38,ntmps38
 go_wp2_with fail
 refine g0.out.mono ?_;rintro e w1 ⟨m0,b0⟩;have i0:=Zz m0;clear m0 g0;rcases b0 with⟨h0,Pb,rfl,hp⟩|⟨h0,a,rfl,a0,a1⟩
 ·have HP:Hid (zw5 (λb=>b<w1.heap.size) w1 Pb q.2.2):=hp.kept (λb hb=>hb.2) (λ_ _=>rfl)
  have H0:=Zz h0;have n0:Hid (Cq 70 #[Pq Pb] w1 (ypw (Fl.infer q.2.2) w1)):=yt7 HP.out (e0.out h0) (f0.out h0);clear hp h0 e0 f0 HP
  go_wp2_with fail
  refine n0.out.mono ?_;rintro e w2 ⟨o0,b0⟩;have d0:Hid (Bq w w2):=i0.out.trans (o0.mono i0.out.size);clear o0 n0;rcases b0 with⟨h7,a,rfl,a0,a1⟩|⟨h7,la,n,lc,na,n',nc,rfl,hi,hn⟩
  ·have HE:Hid (Fl.inferE q=(7,((Fl.infer q.2.2).1:Int),[])):=by show _=_;unfold Fl.inferE;rw[if_neg (by rw[H0.out];simp),if_pos h7]
   have ha:a<w2.heap.size:=Qe w2 _ a0;have A0:=Zz a0;have A1:=Zz a1;clear h7 a0 a1;go_wp2
   go_ret2
   refine⟨d0.out.alloc d0.out.size _,.inr (.inr ⟨by rw[HE.out];simp,by rw[HE.out],a,rfl,?_,?_⟩)⟩
   ·rw[HE.out];exact(Qf _ _ _ ha).trans A0.out
   rw[HE.out];exact(Qf _ _ _ ha).trans A1.out
  obtain⟨ls,j0⟩:=nmE ((Fl.infer q.2.2).2.1);obtain⟨ns,k0⟩:=nmE ((Fl.infer q.2.2).2.2);have HE:Hid (Fl.inferE q=if(Fl.encode ls ns).2.1=false then(8,(Fl.encode ls ns).2.2,[]) else(0,-1,(Fl.encode ls ns).1)):=(by show _=_;unfold Fl.inferE;rw[if_neg (by rw[H0.out];simp),if_neg (by omega),<-j0,<-k0]);rw[<-j0]at hi;rw[<-k0]at hn
  obtain rfl:n=ls.length:=by obtain⟨a,c,e⟩:=zy6 hi;injection e with e1 e2 e3
  obtain rfl:n'=ns.length:=by obtain⟨a,c,e,-⟩:=hn;injection e with e1 e2 e3
  have p0:Hid (∀W,Bq w2 W->Cq 71 #[.agg #[.slice la ls.length lc,.slice na ns.length nc]] W (yw6 (Fl.encode ls ns) W)):=λW hW=>yyw ls ns la na lc nc W ((hi.below hW).mono hW.size) ((hn.below hW).mono hW.size);clear h7 hi hn j0 k0
  go_wp2_with fail
  refine(p0.out _ (bA)).mono ?_;rintro e w3 ⟨r0,hgood,c0⟩;have l0:Hid (Bq w w3):=(d0.out.alloc d0.out.size _).trans (r0.mono (by have:=d0.out.size;simp;omega));have hsz:w.heap.size<=w2.heap.size:=d0.out.size;clear r0 p0
  cases hr:(Fl.encode ls ns).2.1 with
  |true=>
   obtain⟨va,n,c,rfl,ho⟩:=hgood hr;have HO:Hid (w3.ownsRow w.heap.size 5 1 (.slice va n c) (Fl.encode ls ns).1.length ((Fl.encode ls ns).1.map Xx)):=zlx (base':=w.heap.size) ho (by simp;omega);have HZ:Hid (Fl.inferE q=(0,-1,(Fl.encode ls ns).1)):=(by show _=_;rw[HE.out,if_neg (by rw[hr];simp)]);clear hgood c0 hr ho HE;go_wp2
   go_ret2
   refine⟨l0.out,.inl ⟨by rw[HZ.out],by rw[HZ.out],va,n,c,rfl,?_⟩⟩;rw[HZ.out];exact HO.out
  |false=>
   have HZ:Hid (Fl.inferE q=(8,(Fl.encode ls ns).2.2,[])):=(by show _=_;rw[HE.out,if_pos hr])
   by_cases h0:(Fl.encode ls ns).2.2<0
   ·obtain rfl:=(c0 hr).1 h0
    have H1:Hid ((Fl.encode ls ns).2.2= -1):=ys9 ls ns h0;clear hgood c0 hr h0 HE;go_wp2
    go_ret2
    exact⟨l0.out,.inr (.inl ⟨by rw[HZ.out,H1.out],rfl⟩)⟩
   obtain⟨a,rfl,q0,q1⟩:=(c0 hr).2 (by omega);have HQ:Hid (w3.cell? (Aq a 0)=some (Iq 8)/\w3.cell? (Aq a 1)=some (Iq (Fl.encode ls ns).2.2)):=⟨q0,q1⟩;clear hgood c0 hr h0 q0 q1 HE;go_wp2
   go_ret2
   exact⟨l0.out,.inr (.inr ⟨by rw[HZ.out];simp,by rw[HZ.out],a,rfl,by rw[HZ.out];exact HQ.out.1,by rw[HZ.out];exact HQ.out.2⟩)⟩
 have HE:Hid (Fl.inferE q=(q.1,(q.2.1:Int),[])):=by show _=_;unfold Fl.inferE;rw[if_pos h0]
 have H0:=Zz h0;clear h0 e0 f0;go_wp2
 go_ret2
 refine⟨i0.out,.inr (.inr ⟨by rw[HE.out];exact H0.out,by rw[HE.out],a,rfl,?_,?_⟩)⟩
 ·rw[HE.out];exact a0
 rw[HE.out];exact a1
def za7(res:Nat×Int×List UInt8)(w:World)(e:Ending)(w':World):Prop:=
 Bq w w'/\∃va n c,e=.returned (.tuple #[.slice va n c,Iq res.1,Iq res.2.1])/\w'.ownsRow w.heap.size 5 1 (.slice va n c) res.2.2.length (res.2.2.map Xx)
def yx0(hE:zxv w)(hl:l.length<=100000)(hg:1<w.heap.size)(hm:Xi w):
  Cq 16 #[.string ⟨l.toArray⟩] w (za7 (Fl.inferE (Fl.readProg l)) w):=by
 have HC:Hid (Cq 38 #[.string ⟨l.toArray⟩] w (yo7 (Fl.inferE (Fl.readProg l)) w)):=yyv hl hg hm;have e0:Hid (∀o,Bq w o->zxv o):=λo ho=>(ho.cell (p:=⟨0,0,none⟩) (Qe w _ hE)).trans hE;obtain⟨res,c0⟩:=nmE (Fl.inferE (Fl.readProg l));rw[<-c0]at HC⊢;clear hl hg hm hE c0
 go_enter func16,ntmps16
 go_wp2_with fail
 refine HC.out.mono ?_;rintro e w1 ⟨hB,hc⟩;have HB:=Zz hB;clear hB HC;rcases hc with⟨h0,h1,va,n,c,rfl,ho⟩|⟨rfl,rfl⟩|⟨h0,h1,a,rfl,a0,a1⟩
 ·obtain⟨r0,r1,r2⟩:=res
  simp only at h0 h1;subst h0;subst h1;have HO:=Zz ho;clear ho
  go_wp2_with fail
  refine(yl3 _).mono ?_;rintro e w2 ⟨rfl,b0⟩;have d0:Hid (Bq w w2):=HB.out.trans (b0.mono HB.out.size);have f0:Hid (w2.ownsRow w.heap.size 5 1 (.slice va n c) r2.length (r2.map Xx)):=HO.out.kept (row:=none) ⟨b0.os,b0.tape,b0.output,b0.size,λk hk _=>b0.block k hk⟩ (by cases (Value.slice va n c).ownBlock<;>simp);clear b0;go_wp2
  go_ret3
  exact⟨d0.out,va,n,c,rfl,f0.out⟩
 ·go_wp2_with fail
  refine(ys3 8 _ (e0.out _ HB.out)).mono ?_;rintro e w2 ⟨rfl,b0⟩;have d0:Hid (Bq w w2):=HB.out.trans (b0.mono HB.out.size);clear b0;go_wp2
  go_ret3
  exact⟨d0.out,none,0,0,rfl,World.ownsRow_nil _ _ _ _⟩
 obtain⟨n,p,r2⟩:=res;simp only at h1;subst h1;have A0:=Zz a0;have A1:=Zz a1;clear a0 a1 h0
 go_wp2_with fail
 refine(tell_at a 0 (n:Int) p _ (e0.out _ HB.out) A0.out A1.out).mono ?_;rintro e w2 ⟨rfl,b0⟩;have d0:Hid (Bq w w2):=HB.out.trans (b0.mono HB.out.size);clear b0;go_wp2
 go_ret3
 exact⟨d0.out,none,0,0,rfl,World.ownsRow_nil _ _ _ _⟩
def zx7(w:World)(ao:Option Addr)(s:List UInt8):Prop:=s≠[]->∃bb bo,ao=some (Aq bb bo)/\bb<w.heap.size/\∀i,i<s.length->w.cell? (Aq bb (bo+i))=some (.int .u8 (s.getD i 0).toNat)
def zx7.below{w':World}(h:zx7 w ao s)(hb:Bq w w'):zx7 w' ao s:=λa0=>by
 obtain⟨bb,bo,e,h1,h2⟩:=h a0;exact⟨bb,bo,e,Qj h1 hb.size,λi hi=>(hb.cell (p:=(Aq bb (bo+i))) h1).trans (h2 i hi)⟩
def zx7.of_own{base:Nat}{n c:Nat}(h:w.ownsRow base 5 1 (.slice ao n c) s.length (s.map Xx)):n=s.length/\zx7 w ao s:=by
 rcases h.2 with⟨e,h0⟩|⟨g,cap,cur,e,hb,hg,h3,h4,h5,h6⟩
 ·injection e with e1 e2
  exact⟨by omega,λa0=>absurd (Qi h0) a0⟩
 injection e with e1 e2;refine⟨e2,λ_=>⟨g,0,e1,?_,λi hi=>?_⟩⟩
 ·refine Classical.byContradiction λhn=>?_
  rw[Array.getElem?_eq_none (by omega)]at hg;cases hg
 rw[Nat.zero_add,cell_of_row _ _ i _ _ (0,0) hg];rw[Nat.mul_one]at h6
 have h7:(cur.toList.take s.length)[i]?=(s.map Xx)[i]?:=by rw[h6]
 rw[List.getElem?_take_of_lt hi,List.getElem?_map,Qb hi]at h7;rw[<-Array.getElem?_toList,h7];simp[Xx,Qa,hi]
structure zox(w:World):Prop where
 er:zxv w
 mg:1<w.heap.size
 ml:Xi w
def zox.below{w w':World}(h:zox w)(hb:Bq w w'):zox w':=⟨(hb.cell (p:=⟨0,0,none⟩) (Qe w _ h.er)).trans h.er,by have:=hb.size;have:=h.mg;omega,h.ml.below (Nat.le_refl _) hb⟩
def bytes_in(W:World)(l:List UInt8):zx7 (Lib.bytesWorld W 5 ⟨l.toArray⟩) (some (Aq W.heap.size 0)) l/\Bq W (Lib.bytesWorld W 5 ⟨l.toArray⟩)/\W.heap.size<(Lib.bytesWorld W 5 ⟨l.toArray⟩).heap.size:=by
 have hz:(Lib.bytesWorld W 5 ⟨l.toArray⟩).heap.size=W.heap.size+1:=Lib.bytesWorld_size _ _ _;refine⟨λ_=>⟨W.heap.size,0,rfl,by omega,λi hi=>?_⟩,⟨rfl,rfl,rfl,by omega,λk hk=>Lib.bytesWorld_at_old _ _ _ k hk⟩,by omega⟩;have:=Lib.bytesWorld_cell W 5 ⟨l.toArray⟩ i (by show i<l.toArray.size;simpa using hi);rw[Nat.zero_add,this]
def ysz{W:World}(h:zx7 W ao l)(a0:l≠[])(cap:Nat):(convert 44 9 (.slice ao l.length cap)).run prog W=.ok (.string ⟨l.toArray⟩) W:=by
 obtain⟨b,o,rfl,-,hc⟩:=h a0;refine run_convert_bytes_back _ 44 9 5 (Aq b o) cap l underlying44 underlying5 underlying9 (λj hj=>?_)
 have h2:((Aq b o):Addr).add j=(Aq b (o+j)):=by unfold Addr.add;split<;>simp_all
 rw[h2,hc j hj];simp[Qa,hj]
end Go.Proofs.YtjekbnmnjeoagaaGreatDoor

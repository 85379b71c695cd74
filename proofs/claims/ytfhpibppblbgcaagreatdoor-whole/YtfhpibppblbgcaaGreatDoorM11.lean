import Derived.Test.YtfhpibppblbgcaaGreatDoorM10
import Derived.Lib.AppendZerosOnto
set_option linter.all false
set_option maxRecDepth 100000
set_option maxHeartbeats 40000000
namespace Go.Proofs.YtfhpibppblbgcaaGreatDoor
open Go.RowKit Go.Proofs.Tryz
variable{w w' wr:World}{b base M q0 P0 k q Pb Lb:Nat}{v sv bD:Value}{xs lvs:List Value}{l ls st:List Int}{s:List UInt8}{acc:List Fl.ar}{p:Fl.aS}{ops:Array Oper}{rest:List Oper}{o:Oper}{a:Act}{Q:Exit->Act->World->Prop}
def yvy(ns:List Fl.ar):Fl.bK ns<(ns.length:Int):=by
 unfold Fl.bK
 cases hf:(List.range ns.length).find? (Fl.eX ns) with
 |some k=>have:=List.mem_of_find?_eq_some hf;simp at this;simp only;omega
 |none=>simp only;omega
def yrw(ns:List Fl.ar):Fl.bB ns<(ns.length:Int):=by
 unfold Fl.bB
 cases hf:(List.range (ns.length - 1)).find? (λk=> !Fl.dQ ns ns.length k) with
 |some k=>have:=List.mem_of_find?_eq_some hf;simp at this;simp only;omega
 |none=>simp only;omega
def ys0(ns:List Fl.ar)(st:List Int)(w:World)(e:Ending)(w':World):Prop:=
 Bq w w'/\(0<=Fl.bh ns->e=.panicked (Ze 8 (st.getD (Fl.bh ns).toNat 0)))/\(¬0<=Fl.bh ns->e=.returned (.tuple #[]))
def yvx(ns:List Fl.ar)(st:List Int)(nv sv:Value)(b:Nat)(w:World)(hn:Yv w.heap.size w nv ns)(hs:Zv w.heap.size w sv st)(hl:st.length=ns.length)(bj:ns.length<=1000)(hg:Fl.fF ns)(hc:w.cell? (Aq b 34)=some sv):
  Cq 92 #[Pq b,nv] w (ys0 ns st w):=by
 have hlb:b<w.heap.size:=Qe w _ hc;have g0:∀i,i<ns.length->Fl.fits (Fl.nth ns i):=λi hi=>(Fl.ey (hg i hi).1).1;have h0:Hid (Cq 127 #[nv] w λe w'=>e=.returned (Iq (Fl.bK ns))/\Bq w w'):=zbx ns nv w hn g0 bj
 have j0:Hid (∀w1,Bq w w1->Cq 40 #[nv] w1 λe w'=>e=.returned (Iq (Fl.bB ns))/\Bq w1 w'):=λw1 h1=>
  zr7 ns nv w1 ((hn.below h1).mono h1.size) bj (λi hi=>(Fl.ey (hg i hi).1).2) (λi hi p hp=>by have:=Fl.jk (hg i hi) hp;omega)
 have l0:Hid (Fl.bh ns=if 0<=Fl.bK ns then Fl.bK ns else Fl.bB ns):=Fl.gH hg;have o0:=yvy ns;have p0:=yrw ns;obtain⟨sao,scap,rfl,_,t0,q0⟩:=hs;have r0:=Zz q0;have HC:=Zz hc;unfold maxLen at t0;clear q0 hc hn hg g0
 by_cases hd:0<=Fl.bK ns
 ·obtain⟨k,hk⟩:∃k:Nat,Fl.bK ns=(k:Int):=⟨(Fl.bK ns).toNat,by omega⟩
  have e0:k<st.length:=(by omega);obtain⟨sb,so,rfl,m0,i0⟩:=r0 (by intro h;rw[h]at e0;simp at e0);have a0:Hid (Fl.bh ns=(k:Int)):=(by show _=_;rw[l0.out,if_pos hd,hk]);rw[hk]at h0 o0;have b0:=i0 k e0;have u0:(k:Int)<(st.length:Int):=(by omega);clear hd hk i0
  go_enter func92,ntmps92
  go_wp2_with fail
  refine(h0.out).mono ?_;rintro e w1 ⟨rfl,c0⟩;have c34:Cl w1 b 34 (.slice (some (Aq sb so)) st.length scap):=(c0.cell (p:=(Aq b 34)) hlb).trans HC.out;have ck:Cl w1 sb (so+k) (Iq (st.getD k 0)):=(c0.cell (p:=(Aq sb (so+k))) m0).trans b0;have d0:=Zz c0;clear c0 b0;generalize hx:st.getD k 0=x at*;have HX:=Zz hx;clear hx
  go_wp2_with fail
  refine(Vv _ _ _).mono ?_;rintro e w2 ⟨rfl,f0⟩;refine⟨rfl,d0.trans (f0.mono d0.size),λ_=>?_,λh=>absurd (by rw[a0.out];omega) h⟩;rw[a0.out,Int.toNat_natCast,HX.out]
 obtain⟨d,n0⟩:=nmE (Fl.bK ns);rw[<-n0]at h0 hd o0
 have a0:Hid (Fl.bh ns=Fl.bB ns):=by show _=_;rw[l0.out,<-n0,if_neg hd]
 clear n0 l0
 by_cases hu:0<=Fl.bB ns
 ·obtain⟨k,hk⟩:∃k:Nat,Fl.bB ns=(k:Int):=⟨(Fl.bB ns).toNat,by omega⟩
  have e0:k<st.length:=(by omega);obtain⟨sb,so,rfl,m0,i0⟩:=r0 (by intro h;rw[h]at e0;simp at e0);rw[hk]at j0 p0 a0;have b0:=i0 k e0;have u0:(k:Int)<(st.length:Int):=(by omega);clear hu hk i0
  go_enter func92,ntmps92
  go_wp2_with fail
  refine(h0.out).mono ?_;rintro e w1 ⟨rfl,c0⟩;have d0:=Zz c0;clear c0
  go_wp2_with fail
  refine(j0 w1 d0).mono ?_;rintro e w2 ⟨rfl,f0⟩;have hb2':Bq w w2:=d0.trans (f0.mono d0.size);have c34:Cl w2 b 34 (.slice (some (Aq sb so)) st.length scap):=(hb2'.cell (p:=(Aq b 34)) hlb).trans HC.out;have ck:Cl w2 sb (so+k) (Iq (st.getD k 0)):=(hb2'.cell (p:=(Aq sb (so+k))) m0).trans b0;have k0:=Zz hb2';clear f0 b0 hb2';generalize hx:st.getD k 0=x at*;have HX:=Zz hx;clear hx
  go_wp2_with fail
  refine(Vv _ _ _).mono ?_;rintro e w3 ⟨rfl,v0⟩;refine⟨rfl,k0.trans (v0.mono k0.size),λ_=>?_,λh=>absurd (by rw[a0.out];omega) h⟩;rw[a0.out,Int.toNat_natCast,HX.out]
 obtain⟨u,s0⟩:=nmE (Fl.bB ns);rw[<-s0]at j0 hu p0 a0;clear s0
 go_enter func92,ntmps92
 go_wp2_with fail
 refine(h0.out).mono ?_;rintro e w1 ⟨rfl,c0⟩;have d0:=Zz c0;clear c0
 go_wp2_with fail
 refine(j0 w1 d0).mono ?_;rintro e w2 ⟨rfl,f0⟩;have k0:Hid (Bq w w2):=d0.trans (f0.mono d0.size);clear f0;go_wp2
 go_end0
 exact⟨k0,λh=>absurd h (by rw[a0.out];omega),λ_=>rfl⟩
structure Fr(w w':World)(b:Nat):Prop where
 g:w.grownBy w' (some b)
 o:∀j,j≠1->j≠34->w'.cell? (Aq b j)=w.cell? (Aq b j)
 f:∀j,w'.frozen? (Aq b j)=w.frozen? (Aq b j)
def Mv.fr(h:Mv w w' b):Fr w w' b:=⟨h.g,λj h1 _=>h.o j h1,h.f⟩
def Fr.trans{w w1 w2:World}{b:Nat}(h:Fr w w1 b)(k:Fr w1 w2 b):Fr w w2 b:=
 ⟨⟨k.g.os.trans h.g.os,k.g.tape.trans h.g.tape,k.g.output.trans h.g.output,Nat.le_trans h.g.size k.g.size,λi hi a0=>(k.g.block i (Qj hi h.g.size) a0).trans (h.g.block i hi a0)⟩,λj hj hj'=>(k.o j hj hj').trans (h.o j hj hj'),λj=>(k.f j).trans (h.f j)⟩
def Fr.dT{w1 w2:World}{row:Option Nat}(h:Fr w w1 b)(g:w1.grownBy w2 row)(hb:b<w.heap.size)(aK:∀k,row=some k->w.heap.size<=k):Fr w w2 b:=by
 have a0:∀k,k<w.heap.size->some k≠row:=λk hk e=>by have:=aK k e.symm;omega
 have hz:=h.g.size;refine⟨⟨g.os.trans h.g.os,g.tape.trans h.g.tape,g.output.trans h.g.output,Nat.le_trans h.g.size g.size,λk hk b0=>(g.block k (by omega) (a0 k hk)).trans (h.g.block k hk b0)⟩,λj hj hj'=>?_,λj=>?_⟩
 ·exact(Qc (w:=w1) (a:=(Aq b j)) (g.block b (by omega) (a0 b hb))).trans (h.o j hj hj')
 exact(Qd (w:=w1) (a:=(Aq b j)) (g.block b (by omega) (a0 b hb))).trans (h.f j)
def Fr.lA(w:World)(b:Nat)(u:Value):Fr w (w.setCell (Aq b 34) u) b:=
 ⟨Xo w b 34 u,λj _ hj=>Yf (λe=>hj e.symm),λj=>World.frozen?_setCell _ _ _ _⟩
structure Xa(base:Nat)(w w':World):Prop where
 size:w.heap.size<=w'.heap.size
 block:∀k,base<=k->k<w.heap.size->w'.heap[k]?=w.heap[k]?
def Xa.alloc(base:Nat)(w:World)(o:Obj):Xa base w (w.alloc o):=⟨by simp,λk _ hk=>Below.heap_alloc _ _ _ hk⟩
def Xa.grown{row:Option Nat}(g:w.grownBy w' row)(h:∀k,row=some k->k<base):Xa base w w':=⟨g.size,λk hb hk=>g.block k hk (λe=>by have:=h k e.symm;omega)⟩
def Xa.below(h:Bq w w'):Xa base w w':=⟨h.size,λk _ hk=>h.block k hk⟩
def Xa.trans{base:Nat}{w w1 w2:World}(h:Xa base w w1)(k:Xa base w1 w2):Xa base w w2:=⟨Nat.le_trans h.size k.size,λi hb hi=>(k.block i hb (Qj hi h.size)).trans (h.block i hb hi)⟩
def yy6{e:TypeId}{size:Nat}{n:Nat}(h:w.ownsRow base e size v n xs)(s:Xa base w w'):w'.ownsRow base e size v n xs:=by
 refine⟨h.1,?_⟩;rcases h.2 with hn|⟨g,cap,cur,hv,hb,hg,rest⟩
 ·exact .inl hn
 exact .inr ⟨g,cap,cur,hv,hb,(s.block g hb (Array.getElem?_eq_some_iff.1 hg).1).trans hg,rest⟩
def zm7{lv:Value}{xs:List Int}(h:Zv w.heap.size w lv xs)(hb:xs≠[]->∀b,lv.ownBlock=some b->base<=b)(s:Xa base w w'):Zv w'.heap.size w' lv xs:=by
 obtain⟨ao,cap,rfl,hc,hl,hx⟩:=h;refine⟨ao,cap,rfl,hc,hl,λb0=>?_⟩;obtain⟨b,off,rfl,c0,a0⟩:=hx b0;have d0:=hb b0 b rfl;exact⟨b,off,rfl,Qj c0 s.size,λi hi=>(Qc (w:=w) (a:=(Aq b (off+i))) (s.block b d0 c0)).trans (a0 i hi)⟩
structure Li(base:Nat)(w:World)(fam:List (Value×List Int))(sv nv:Value)(n1 n2:Nat)(xs ys:List Value):Prop where
 hs:w.ownsRow base 3 1 sv n1 xs
 hn:w.ownsRow base 176 6 nv n2 ys
 aK:∀p,p∈fam->Ug w p.1 p.2 sv nv/\(p.2≠[]->∀b,p.1.ownBlock=some b->base<=b)
section
variable{fam:List (Value×List Int)}{nv:Value}{n1 n2:Nat}{ys:List Value}
def Li.stay(h:Li base w fam sv nv n1 n2 xs ys)(s:Xa base w w'):Li base w' fam sv nv n1 n2 xs ys:=
 ⟨yy6 h.hs s,yy6 h.hn s,λp hp=>⟨⟨zm7 (h.aK p hp).1.1 (h.aK p hp).2 s,(h.aK p hp).1.2⟩,(h.aK p hp).2⟩⟩
def Li.first(h:Li base w fam sv nv n1 n2 xs ys){sv':Value}{n1':Nat}{xs':List Value}(ho:w'.ownsRow base 3 1 sv' n1' xs')(hg:w.grownBy w' sv.ownBlock)(hw:sv'.ownBlock=sv.ownBlock\/sv'.ownBlock=some w.heap.size):Li base w' fam sv' nv n1' n2 xs' ys:=
 ⟨ho,h.hn.kept hg (zr1 h.hn h.hs (by decide)),λp hp=>⟨(h.aK p hp).1.first hg hw,(h.aK p hp).2⟩⟩
def Li.second(h:Li base w fam sv nv n1 n2 xs ys){nv':Value}{n2':Nat}{ys':List Value}(ho:w'.ownsRow base 176 6 nv' n2' ys')(hg:w.grownBy w' nv.ownBlock)(hw:nv'.ownBlock=nv.ownBlock\/nv'.ownBlock=some w.heap.size):Li base w' fam sv nv' n1 n2' xs ys':=
 ⟨h.hs.kept hg (zr1 h.hs h.hn (by decide)),ho,λp hp=>⟨(h.aK p hp).1.second hg hw,(h.aK p hp).2⟩⟩
def Li.add(h:Li base w fam sv nv n1 n2 xs ys){lvn:Value}{N:Nat}(hi:Zv w.heap.size w lvn l)(hf:∀b,lvn.ownBlock=some b->N<=b)(a0:∀b,sv.ownBlock=some b->b<N)(b0:∀b,nv.ownBlock=some b->b<N)(hN:base<=N):Li base w (fam++[(lvn,l)]) sv nv n1 n2 xs ys:=by
 refine⟨h.hs,h.hn,λp hp=>?_⟩;simp only[List.mem_append,List.mem_singleton]at hp;rcases hp with hp|rfl
 ·exact h.aK p hp
 refine⟨⟨hi,λhx=>?_⟩,λ_ b hb=>by have:=hf b hb;omega⟩;obtain⟨b,hb,c0⟩:=ztx hi hx;have:=hf b hb;exact⟨λhh=>by have:=a0 b (hh.symm.trans hb);omega,λhh=>by have:=b0 b (hh.symm.trans hb);omega⟩
end
structure PL(s:List UInt8)(M q0:Nat)(w:World)(b P0:Nat)(lv:Value)(ls:List Int)(wr:World)(k q:Nat)(sv nv:Value)(st:List Int)(acc:List Fl.ar)(lvs:List Value):Prop where
 hk:k<=M
 hq:q<=s.length
 cG:st.length=k
 eL:acc.length=k
 fN:lvs.length=k
 eP:Fl.cK s M 0 q0 [] []=Fl.cK s (M - k) k q st acc
 aQ:Fl.fF acc
 hl:Li (P0+1) wr ((lv,ls)::Vu acc lvs) sv nv k k (st.map (Value.int .i64)) (flat acc lvs)
 c0:wr.cell? (Aq P0 0)=some lv
 c1:wr.cell? (Aq P0 1)=some nv
 d0:wr.cell? (Aq w.heap.size 0)=some Zq
 d1:wr.cell? (Aq w.heap.size 1)=some Zq
 f0:∀j,wr.frozen? (Aq w.heap.size j)=false
 f1:∀j,wr.frozen? (Aq P0 j)=false
 fb:∀j,wr.frozen? (Aq b j)=false
 fr:Fr w wr b
 a1:wr.cell? (Aq b 1)=some (Iq (q:Int))
 jF:wr.cell? (Aq b 34)=some sv
 hR:w.heap.size<P0
 hP:P0<wr.heap.size
 hb:b<w.heap.size
def PL.nodes{lv:Value}{nv:Value}(h:PL s M q0 w b P0 lv ls wr k q sv nv st acc lvs):Yv wr.heap.size wr nv acc:=
 zy3 (by rw[h.eL];exact h.hl.hn) (by rw[h.eL,h.fN]) (λi hi=>(h.hl.aK _ (by simp only[List.mem_cons];right;exact zy4 acc lvs i (by rw[h.eL,h.fN]) hi)).1.1)
def PL.am{lv:Value}{nv:Value}(h:PL s M q0 w b P0 lv ls wr k q sv nv st acc lvs):Zv wr.heap.size wr lv ls:=(h.hl.aK (lv,ls) (by simp)).1.1
def PL.nV{lv:Value}{nv:Value}(h:PL s M q0 w b P0 lv ls wr k q sv nv st acc lvs):Zv wr.heap.size wr sv st:=Zv.dE h.hl.hs
open Go.Maps Go.WideMaps
def ym1(w:World):Cq 68 #[] w λe w'=>e=.returned (.pointer (some (Aq (w.heap.size+1) 0)))/\Ju w' (w.heap.size+1) w.heap.size []/\Bq w w'/\w'.heap.size=w.heap.size+2:=by
 have a0:= @run_makeMap prog
 go_enter func68,ntmps68
 go_wp2;go_ret;refine⟨rfl,⟨?_,0,.map [],Nat.le_refl _,(World.ownsMap_made w _ _ _).alloc _,rfl,λnd _=>?_,λi hi=>(by cases hi)⟩,?_,?_⟩
 ·simp
 ·simp[Maps.has]
 ·exact((bA).alloc (by simp) _)
 simp
section
variable{Fb:Nat}{bF bv vv:Value}{S:Nat->Prop}{vs:List Int}
def yrv(h:Vb w Fb Pb Lb bD bF bv vv S p vs):Cq 37 #[Pq Fb] w λe w'=>∃nv,e=.returned nv/\(∀w'',Xa w.heap.size w' w''->Yv w''.heap.size w'' nv (Fl.aF p vs 4 [] p.aX (Fl.aM p)).2)/\Bq w w':=by
 obtain⟨lw,i0,elw⟩:∃lw:Nat,lw<p.n/\Fl.aM p=(lw:Int):=⟨(Fl.aM p).toNat,by have:=h.lv.lv.aM;omega,by have:=h.lv.lv.aM;omega⟩
 have j0:Fl.aT vs.length p.aj.length 4 p.aX:=by rw[h.ok.1];exact h.pk.aX
 have HN:=Zz (ym1 w);have m0:Hid (∀V Xb T B,Ya w V Xb T B Fb Zq [] []->Cq 69 #[Pq Xb,bv,Iq lw] V (Vk (λ_=>False) w V Xb T B Fb Zq [] [] (Fl.aF p vs 4 [] p.aX lw))):=λV Xb T B hV=>zhx h 4 (by omega) V _ [] [] bv p.aX lw h.bo j0 i0 hV (by simp);rw[elw];generalize Fl.aF p vs 4 [] p.aX lw=aV at*
 have HL:Hid (∀V,Bq w V->Cq 63 #[Pq Lb] V λe w'=>e=.returned (Iq lw)/\w'=V):=λV hV=>by
  have h5:=zt4 (h.below hV).lv.la;have e5:((Fl.dC p.n p.leq:Nat):Int)=(lw:Int):=elw;rw[e5]at h5;exact h5
 have HS:Hid (∀V,Bq w V->Cl V Fb 0 (Pq Pb)/\Cl V Pb 4 bv/\Cl V Pb 0 (Pq Lb)):=λV hV=>⟨(h.below hV).c0,(h.below hV).p4,(h.below hV).lv.p0⟩;clear elw j0 i0
 go_enter func37,ntmps37
 go_wp2_with fail
 refine HN.mono ?_;rintro e W1 ⟨rfl,k0,e0,f0⟩;obtain⟨W2,b0⟩:=nmE (W1.alloc (.cells #[Pq Fb,Zq,.pointer (some (Aq (w.heap.size+1) 0))] 171))
 have d0:Bq W1 W2:=by rw[b0];exact bA
 have n0:Hid (Ya w W2 (w.heap.size+2) (w.heap.size+1) w.heap.size Fb Zq [] []):=by
  have og:W1.grownBy W2 none:=⟨d0.os,d0.tape,d0.output,d0.size,λk hk _=>d0.block k hk⟩;refine⟨by omega,by rw[b0];simp;omega,by rw[b0,<-f0];simp,by rw[b0,<-f0];simp,by rw[b0,<-f0];simp,λj=>?_,k0.kept og (by simp) (by simp),rfl,World.ownsRow_nil _ _ _ _,λp hp=>(by cases hp),e0.trans (d0.mono e0.size)⟩;have h5:W2.heap[w.heap.size+2]?=some (.cells #[Pq Fb,Zq,.pointer (some (Aq (w.heap.size+1) 0))] 171 (0,0)):=(by rw[b0,<-f0];exact heap_alloc_last _ _);simp[World.frozen?,h5]
 have g0:Hid (Bq w W2):=e0.trans (d0.mono e0.size);clear k0 e0 d0 HN
 go_wp2_with fail
 rw[<-b0];clear b0 f0;refine Zp HS g0.drew [15,16] [] [] (by kernel_rfl) (λc a d v w h=>by cases d<;>exact h) (λops _=>?_)
 iterate 15 refine Zw rfl (by rintro _ ⟨_,_,_⟩;go_simp<;>rfl) (by go_simp<;>rfl) ?_
 refine Zt ?_
 go_wp2_with fail
 refine(HL _ g0.drew).mono ?_;rintro e1 W3 ⟨rfl,rfl⟩
 go_wp2_with fail
 refine⟨HS _ g0.drew,?_⟩;refine Zt ?_
 go_wp2_with fail
 refine(m0 _ _ _ _ (n0.below dA)).mono ?_;rintro e2 W4 ⟨rfl,wv4,lvs4,a0,h0,-⟩;have l0:=Zz a0.be;have c41:=a0.c1
 have HE:Hid (∀w'',Xa w.heap.size W4 w''->Yv w''.heap.size w'' wv4 aV.2):=λw'' hs=>by
  have hx:=a0.x0;refine zy3 (Yw a0.ow (λb hb=>hs.block b ?_ ?_)) a0.hl (λi hi=>zm7 (a0.li _ (zy4 _ _ i a0.hl hi)).1.1 (λhne b hb=>?_) hs)
  ·have:=(a0.ow.lt b hb).1;omega
  ·exact(a0.ow.lt b hb).2
  have:=((a0.li _ (zy4 _ _ i a0.hl hi)).2 hne b hb).1;omega
 clear a0 h0
 go_wp2_with fail
 refine⟨HS _ l0,?_⟩;refine Zu ?_;go_wp2;go_ret;exact⟨_,rfl,HE,l0⟩
end
end Go.Proofs.YtfhpibppblbgcaaGreatDoor
namespace Go.Proofs.YtfhpibppblbgcaaGreatDoor
open Go.RowKit Go.Proofs.Tryz
variable{w w' wr:World}{b base M q0 P0 k q Pb Lb:Nat}{v sv bD:Value}{xs lvs:List Value}{l ls st:List Int}{s:List UInt8}{acc:List Fl.ar}{p:Fl.aS}{ops:Array Oper}{rest:List Oper}{o:Oper}{a:Act}{Q:Exit->Act->World->Prop}
def Jg(n k:Nat)(v:Int):List Value:=List.replicate k (Value.int .i64 v)++List.replicate (n - k) (Value.int .i64 0)
def ym2(n k:Nat)(v:Int)(h:k<n):(Jg n k v).toArray.setIfInBounds k (Iq v)=(Jg n (k+1) v).toArray:=by
 rw[List.setIfInBounds_toArray]
 congr 1
 unfold Jg;rw[List.set_append_right _ _ (by simp)];simp only[List.length_replicate,Nat.sub_self];obtain⟨m,hm⟩:∃m,n - k=m+1:=⟨n - k - 1,by omega⟩;rw[hm,List.replicate_succ,List.set_cons_zero,show n - (k+1)=m by omega,List.replicate_succ',List.append_assoc];rfl
def yi2(n k:Nat)(v:Int)(h:k<n):(Jg n k v).toArray[k]?=some (Iq 0):=by
 unfold Jg;rw[List.getElem?_toArray,List.getElem?_append_right (by simp)];simp only[List.length_replicate,Nat.sub_self];rw[List.getElem?_replicate,if_pos (by omega)]
def ym3(W:World)(n:Nat)(hn:n<=100000):(Instr.makeSlice 36 (Iq n) (Iq n)).run prog W=.ok (.slice (some (Aq W.heap.size 0)) n n) (W.alloc (.cells (Jg n 0 0).toArray 3)):=by
 obtain⟨i0,b0,c0,a0,d0⟩:=info_parts Tryz.infoIntW;have h:=run_makeSlice (w:=W) 36 3 i0 (Iq 0) underlying36 b0 c0 .i64 .i64 (n:Int) (n:Int) (by omega) (Int.le_refl _) (by rw[a0];simp;omega) (by rw[d0];omega) (by omega);have e:madeCells (Value.int .i64 0).cells ((n:Int).toNat*1)=(Jg n 0 0).toArray:=by
  apply Array.ext
  ·simp[madeCells,Jg]
  intro i h1 h2;simp[madeCells,Jg,Value.cells,Nat.mod_one]
 rw[h,a0,e,Int.toNat_natCast]
section
def zhw(h:LvIn w Pb Lb p)(p3:w.cell? (Aq Pb 3)=some (Iq p.am))(hl:p.am<=4):Cq 34 #[Pq Pb] w λe w'=>∃lv,e=.returned lv/\Zv w'.heap.size w' lv (List.replicate p.am (Fl.aM p))/\Bq w w':=by
 obtain⟨n,hn⟩:=nmE (p.am);rw[<-hn]at p3 hl⊢;have h0:Hid (∀W,(Instr.makeSlice 36 (Iq n) (Iq n)).run prog W=.ok (.slice (some (Aq W.heap.size 0)) n n) (W.alloc (.cells (Jg n 0 0).toArray 3))):=λW=>ym3 W n (by omega);obtain⟨lw,elw⟩:∃lw:Nat,Fl.aM p=(lw:Int):=⟨(Fl.aM p).toNat,by have:=h.lv.aM;omega⟩
 have HL:Hid (∀V,Bq w V->Cq 63 #[Pq Lb] V λe w'=>e=.returned (Iq lw)/\w'=V):=λV hV=>by
  have h5:=zt4 (h.below hV).la;have e5:((Fl.dC p.n p.leq:Nat):Int)=(lw:Int):=elw;rw[e5]at h5;exact h5
 have HP:Hid (∀V,Bq w V->Cl V Pb 0 (Pq Lb)):=λV hV=>(h.below hV).p0;rw[elw];obtain⟨nb,hnb⟩:=nmE (w.heap.size);have hP:=h.hz.1;clear h hn elw
 go_enter func34,ntmps34
 go_wp2_with fail
 rw[h0.out];obtain⟨W0,d0⟩:=nmE (w.alloc (.cells (Jg n 0 0).toArray 3))
 have i0:Hid (Bq w W0):=by show Below _ _ _;rw[d0];exact bA
 have j0:Hid (W0.heap[nb]?=some (.cells (Jg n 0 lw).toArray 3 (0,0))):=by
  show _=_;rw[d0,hnb];exact heap_alloc_last w _
 have k0:=Zz hnb;rw[<-d0,<-hnb];clear d0 hnb
 go_wp2_with fail
 go_loopw [12] (λi wr=>∃k:Nat,k<=n/\i=Iq k/\wr.heap[nb]?=some (.cells (Jg n k lw).toArray 3 (0,0))/\Bq w wr) (λi _=>n - (intOf i).toNat)
 case atStart=>exact⟨0,by omega,rfl,j0,i0⟩
 case round=>
  obtain⟨k,hk,rfl,a0,b0⟩:=hrel
  by_cases e0:k<n
  ·have l0:(k:Int)<(n:Int):=by omega
   have m0:Hid ((wr.setCell (Aq nb k) (Iq lw)).heap[nb]?=some (.cells (Jg n (k+1) lw).toArray 3 (0,0))):=by
    have h5:=zq0 a0 k (Iq lw);rw[ym2 n k lw e0]at h5;exact h5
   have n0:Hid (Bq w (wr.setCell (Aq nb k) (Iq lw))):=b0.setCell (by show w.heap.size<=nb;rw[k0.out];exact Nat.le_refl _) _;have c0:wr.cell? (Aq nb k)=some (Iq 0):=(by simp only[World.cell?,a0];exact yi2 n k lw e0);have f0:wr.frozen? (Aq nb k)=false:=(by simp[World.frozen?,a0]);have p0:=HP _ b0;have g0:=Zz b0;have o0:=Zz e0;clear a0 b0 e0
   go_wp2_with fail
   refine(HL _ g0).mono ?_;rintro e W1 ⟨rfl,rfl⟩;go_wp2
   go_roundw
   case rel=>exact⟨k+1,by have:=o0.out;omega,by go_num,m0,n0⟩
   case measure=>simp[intOf];omega
  have q0:k=n:=(by omega);subst q0;have HI:Hid (Zv wr.heap.size wr (.slice (some (Aq nb 0)) k k) (List.replicate k (lw:Int))):=by
   refine⟨_,k,by rw[List.length_replicate],by simp,by simp[maxLen];omega,λ_=>⟨nb,0,rfl,?_,λi hi=>?_⟩⟩
   ·rcases Nat.lt_or_ge nb wr.heap.size with h|h
    ·exact h
    rw[Array.getElem?_eq_none h]at a0;cases a0
   rw[List.length_replicate]at hi;simp only[World.cell?,a0,Jg,Nat.sub_self,Nat.zero_add];simp[List.getElem?_replicate,Qa,hi]
  have g0:=Zz b0;clear a0 b0;go_wp2;go_ret;exact⟨_,rfl,HI,g0⟩
end
def Vo{B:Nat}(h:Zv B w v l):∃a c,v=.slice a l.length c:=by obtain⟨a,c,e,-⟩:=h;exact⟨a,c,e⟩
def Tryz.infoIntZ:(Tryz.prog.info? 3).map (λi=>(i.zero,i.size,i.bytes))=some (some (Iq 0),1,8):=by kernel_rfl
def zn4(f0:o.guard=none)(s x:Operand)
  (ho:o.op=.call {callee:=.builtin .append,args:=#[s,x],argTypes:=#[36,3]}) (hs:a.eval s=Zq) (k:Nat) (hx:a.eval x=Iq k) (h0:0<k) (hk:k<=100000)
  (h:∀(cap:Nat) (W':World),Bq w W'->k<=cap->cap<=maxLen->W'.ownsRow w.heap.size 3 1 (.slice (some (Aq w.heap.size 0)) 0 cap) 0 []->wpList prog ops Q rest (a.put o.dst (.slice (some (Aq w.heap.size 0)) k cap)) W'):wpList prog ops Q (o::rest) a w:=by
 obtain⟨i0,hi,g0,j0,d0⟩:=info_parts Tryz.infoIntZ;have eP:=Go.Lib.run_append_grow_zeros (P:=prog) w 36 3 o.type 3 i0 (Iq 0) .i64 .i64 underlying36 underlying3 hi g0 none 0 0 [] (by simp[Builtin.firstCells]) k h0 (by rw[j0];omega) (by omega) (by omega) (by rw[d0];omega) (growslice_fits (by omega) (by rw[d0];omega));rw[Nat.zero_add]at eP;have e0:=grownCap_ge w k 0 3;have b0:=grownCap_le_maxLen w k 0 3 (by unfold maxLen;omega);obtain⟨cap,c0⟩:=nmE (grownCap w k 0 3);rw[<-c0]at eP e0 b0;obtain⟨cur,a0⟩:=nmE (([]:List Value).toArray++Builtin.zeroCells (Value.int .i64 0).cells k++Builtin.zeroCells (Value.int .i64 0).cells (cap - k));have cF:cur.size=cap*1:=by
  rw[a0,Array.size_append,Array.size_append,size_zeroCells,size_zeroCells];have:(Value.int IntKind.i64 0).cells.size=1:=rfl;rw[this];simp;omega
 rw[<-a0]at eP;refine wpList_plain f0 λK hK=>?_;have k0:=hK _ _ (h cap (w.drew.alloc (.cells cur 3)) (dA.alloc (Nat.le_refl _) _) e0 b0 (World.ownsRow_made w.drew cur cap (Nat.le_refl _) b0 cF));unfold Oper.wp execOp;simp only[ho,resolve,invoke,builtin,Sem.run_bind,Sem.run_pure,Result.andThen_ok,List.map_toArray,List.map_cons,List.map_nil,hs,hx,eP];exact k0
def zm8(w:World)(e:Ending)(w':World):Prop:=Bq w w'/\∃a c,e=.returned (.slice a 0 c)/\w'.ownsRow w.heap.size 3 1 (.slice a 0 c) 0 []
def yi3(w:World)(n:Nat)(hn:n<=100000):Cq 118 #[Zq,Iq n] w (zm8 w):=by
 have b0:(n:Int)<=100000:=by omega
 by_cases h0:n=0
 ·subst h0
  have HE:Hid (zm8 w (.returned Zq) w):=⟨Below.refl _ _,none,0,rfl,World.ownsRow_nil _ _ _ _⟩
  go_enter func118,ntmps118
  go_wp2;go_ret;exact HE
 have c0:(0:Int)<(n:Int):=by omega
 have a0:Hid (0<n):=by show 0<n;omega
 clear h0
 go_enter func118,ntmps118
 go_wp2_with (refine zn4 rfl (.tmp 20) (.tmp 21) rfl rfl n rfl a0 hn ?_)
 intro cap W' hb hc hm ho;have HE:Hid (zm8 w (.returned (.slice (some (Aq w.heap.size 0)) 0 cap)) W'):=⟨hb,_,_,rfl,ho⟩
 have d0:(n:Int)<=(cap:Int):=by omega
 have e0:(0:Int)<=(cap:Int):=by omega
 clear hb ho;go_wp2;go_ret;exact HE
def zqx(w:World)(base:Nat)(v:Value)(n:Nat)(xs:List Value)(a0:w.ownsRow base 3 1 v n xs)(c:Nat)(ty:TypeId){i:TypeInfo}(hi:prog.info? 3=some i):(Builtin.append_ #[36,36] ty #[v,.slice none 0 c]).run prog w=.ok v w:=by
 rcases a0.2 with⟨rfl,h0⟩|⟨g,cap,cur,rfl,hb,hg,b0,c0,d0,ht⟩
 ·simp[Builtin.append_,run_underlying underlying36,sizeOf,typeInfo,hi,Builtin.lenOf,Builtin.firstCells]
 simp[Builtin.append_,run_underlying underlying36,sizeOf,typeInfo,hi,Builtin.lenOf,Builtin.firstCells,b0,storeCells]
def zn5(e0:o.guard=none)(s x:Operand)
  (ho:o.op=.call {callee:=.builtin .append,args:=#[s,x],argTypes:=#[36,36]}) (base:Nat) (v:Value) (ys:List Int) (hs:a.eval s=v) (a0:w.ownsRow base 3 1 v ys.length (ys.map (Value.int .i64))) (xv:Value) (hx:a.eval x=xv) (B:Nat) (xs:List Int) (h0:Zv B w xv xs) (o0:ys.length<=1000000) (bj:xs.length<=1000000) (c0:base<=w.heap.size)
  (h:∀v' w',w'.ownsRow base 3 1 v' (ys++xs).length ((ys++xs).map (Value.int .i64))->w.grownBy w' v.ownBlock->wpList prog ops Q rest (a.put o.dst v') w'):wpList prog ops Q (o::rest) a w:=by
 obtain⟨i0,hi,j0,k0,l0⟩:=info_parts Tryz.infoIntZ;obtain⟨ao,cap,rfl,hc,hm,d0⟩:=h0;have f0:∀ad,ao=some ad->(∀j u,(xs.map (Value.int .i64))[j]?=some u->w.cell? (ad.add j)=some u)->wpList prog ops Q (o::rest) a w:=by
  rintro ad rfl m0;refine wpList_append_own _ e0 s x 36 ho base 3 i0 (Iq 0) 1 8 underlying36 hi j0 k0 l0 rfl (by decide) _ _ _ hs a0 ad xs.length cap (xs.map (Value.int .i64)) hx (by simp) m0 ?_ (by unfold maxLen;omega) (by omega) c0 ?_
  ·intro u hu;simp only[List.mem_map]at hu;obtain⟨y,_,rfl⟩:=hu;rfl
  intro v' w' hown' hg _;exact h v' w' (by rw[List.length_append,List.map_append];exact hown') hg
 by_cases g0:xs=[]
 ·subst g0
  cases ao with
  |some ad=>exact f0 ad rfl (by simp)
  |none=>
   have eP:=zqx w base v ys.length _ a0 cap o.type hi;refine wpList_plain e0 λK hK=>?_;unfold Oper.wp;simp only[List.length_nil]at hx;simp[execOp,ho,resolve,invoke,builtin,hs,hx,eP,Result.andThen];exact hK _ _ (h _ _ (by simpa using a0) ⟨rfl,rfl,rfl,Nat.le_refl _,λ_ _ _=>rfl⟩)
 obtain⟨b,off,rfl,p0,b0⟩:=d0 g0;refine f0 _ rfl ?_;intro j u hj;rw[List.getElem?_map]at hj;obtain⟨y,hy,rfl⟩:=Option.map_eq_some_iff.1 hj;have n0:j<xs.length:=(List.getElem?_eq_some_iff.1 hy).1;have:=b0 j n0;rw[Qa,hy]at this
 have h2:((Aq b off):Addr).add j=(Aq b (off+j)):=by unfold Addr.add;split<;>simp_all
 rw[h2];simpa using this
def Ue(xs ys:List Int)(k:Nat):List Int:=if k=0 then [] else if k=1 then xs else xs++ys
def zv8(xs ys:List Int)(k:Nat):List Int:=if k=0 then xs else ys
def zd9(xs ys:List Int)(k:Nat)(hk:k<2):Ue xs ys (k+1)=Ue xs ys k++zv8 xs ys k:=by
 rcases(show k=0\/k=1 by omega) with rfl|rfl<;>simp[Ue,zv8]
def zhv(w:World)(sb:Nat)(c0v c1v:Value)(xs ys:List Int)(cF:sb<w.heap.size)(h0:w.cell? (Aq sb 0)=some c0v)(h1:w.cell? (Aq sb 1)=some c1v)(hx:Zv w.heap.size w c0v xs)(hy:Zv w.heap.size w c1v ys)(hl:xs.length<=10000/\ys.length<=10000):
  Cq 62 #[.slice (some (Aq sb 0)) 2 2] w λe w'=>Bq w w'/\∃v,e=.returned v/\w'.ownsRow w.heap.size 3 1 v (xs++ys).length ((xs++ys).map (Value.int .i64)):=by
 have i0:Hid (∀k,k<2->∀W,Bq w W->∃a c,Cl W sb k (.slice a (zv8 xs ys k).length c)/\Zv W.heap.size W (.slice a (zv8 xs ys k).length c) (zv8 xs ys k)/\(zv8 xs ys k).length<=10000):=λk hk W hW=>by
  rcases(show k=0\/k=1 by omega) with rfl|rfl
  ·obtain⟨a,c,e⟩:=Vo hx
   subst e;exact⟨a,c,(hW.cell (p:=(Aq sb 0)) cF).trans h0,(hx.below hW).mono hW.size,hl.1⟩
  obtain⟨a,c,e⟩:=Vo hy;subst e;exact⟨a,c,(hW.cell (p:=(Aq sb 1)) cF).trans h1,(hy.below hW).mono hW.size,hl.2⟩
 have j0:Hid (∀k,k<=2->(Ue xs ys k).length<=20000):=λk hk=>by
  rcases(show k=0\/k=1\/k=2 by omega) with rfl|rfl|rfl<;>simp[Ue]<;>omega
 have q0:Hid (∀n,n<=100000->Cq 118 #[Zq,Iq (n:Nat)] w (zm8 w)):=λn hn=>yi3 w n hn;obtain⟨zs,e0⟩:=nmE (xs++ys);rw[<-e0];have r0:=Zz e0;clear h0 h1 hx hy e0
 go_enter func62,ntmps62
 go_wp2_with fail
 go_loopw [3,11] (λs i wr=>wr=w/\∃k:Nat,k<=2/\i=Iq k/\s=Iq ((Ue xs ys k).length:Nat)) (λ_ i _=>2 - (intOf i).toNat)
 case atStart=>exact⟨rfl,0,by omega,rfl,rfl⟩
 case round=>
  obtain⟨k0,k,hk,rfl,rfl⟩:=hrel;rw[k0];clear k0 wr;have D0:((Ue xs ys k).length:Int)<=20000:=(by have:=j0 k hk;omega)
  by_cases b0:k<2
  ·have s0:(k:Int)<2:=by omega
   obtain⟨a,c,ck,-,t0⟩:=i0 k b0 w (Below.refl _ _);have u0:((zv8 xs ys k).length:Int)<=10000:=(by omega);have E0:(0:Int)<=((Ue xs ys k).length:Int)+((zv8 xs ys k).length:Int):=(by omega);have f0:Hid (((Ue xs ys (k+1)).length:Int)=((Ue xs ys k).length:Int)+((zv8 xs ys k).length:Int)):=(by show _=_;rw[zd9 xs ys k b0,List.length_append];omega);generalize (Ue xs ys k).length=lk at*;generalize (zv8 xs ys k).length=ek at*;go_wp2
   go_roundw
   case rel=>exact⟨by first|rfl|trivial,k+1,by omega,by go_num,by rw[f0.out]⟩
   case measure=>simp[intOf];omega
  have s0:¬(k:Int)<2:=(by omega)
  obtain rfl:k=2:=by omega
  have v0:Hid (Cq 118 #[Zq,Iq ((Ue xs ys 2).length:Nat)] w (zm8 w)):=q0 _ (by omega);generalize (Ue xs ys 2).length=tot at*
  go_wp2_with fail
  refine v0.mono ?_;rintro e W1 ⟨l0,a1,c1,rfl,m0⟩;have x0:=Zz l0;have y0:=Zz m0;clear l0 m0
  go_wp2_with fail
  go_loopw [6,27] (λv i wr=>Bq w wr/\∃k:Nat,k<=2/\i=Iq k/\wr.ownsRow w.heap.size 3 1 v (Ue xs ys k).length ((Ue xs ys k).map (Value.int .i64))) (λ_ i _=>2 - (intOf i).toNat)
  case atStart=>exact⟨x0,0,by omega,rfl,y0⟩
  case round=>
   rename_i u6 u27;obtain⟨n0,k,z0,rfl,c0⟩:=hrel;have d0:=Zz n0;have a0:=Zz c0;clear n0 c0
   by_cases b0:k<2
   ·have g0:(k:Int)<2:=by omega
    obtain⟨a,c,ck,o0,t0⟩:=i0 k b0 wr d0.out;obtain⟨va,vc,rfl⟩:∃a c,u6=.slice a (Ue xs ys k).length c:=by
     rcases a0.2 with⟨e1,e2⟩|⟨g,cp,cur,e1,_⟩
     ·exact⟨none,0,by rw[e1,e2]⟩
     exact⟨_,cp,e1⟩
    have A0:=Zz o0;have B0:=j0 k z0
    have f0:Hid (∀v' w',w'.ownsRow w.heap.size 3 1 v' (Ue xs ys k++zv8 xs ys k).length ((Ue xs ys k++zv8 xs ys k).map (Value.int .i64))->wr.grownBy w' (Value.slice va (Ue xs ys k).length vc).ownBlock->Bq w w'/\w'.ownsRow w.heap.size 3 1 v' (Ue xs ys (k+1)).length ((Ue xs ys (k+1)).map (Value.int .i64))):=λv' w' h2 h3=>by
     rw[zd9 xs ys k b0];exact⟨d0.grown h3 d0.size (λb hb=>(a0.lt b hb).1),h2⟩
    have C0:w.heap.size<=wr.heap.size:=d0.size;clear o0
    go_wp2_with (at_builtin;refine zn5 rfl (.tmp 31) (.tmp 32) rfl w.heap.size _ (Ue xs ys k) rfl a0 _ rfl wr.heap.size (zv8 xs ys k) A0 (by omega) (by omega) C0 ?_)
    intro v' w' h2 h3;have p0:Hid _:=f0 v' w' (by rw[List.length_append,List.map_append];exact h2) h3;clear h2 h3;go_wp2
    go_roundw
    case rel=>exact⟨p0.1,k+1,by omega,by go_num,p0.2⟩
    case measure=>simp[intOf];omega
   have g0:¬(k:Int)<2:=(by omega)
   obtain rfl:k=2:=by omega
   have HE:Hid (wr.ownsRow w.heap.size 3 1 u6 zs.length (zs.map (Value.int .i64))):=(by show World.ownsRow _ _ _ _ _ _ _;rw[r0.out];exact a0);clear a0;go_wp2;go_ret;exact⟨d0,u6,rfl,HE⟩
def zfx{lv:Value}{xs ys:List Int}(hp:Pb<w.heap.size)(c1:w.cell? (Aq Pb 1)=some bD)(hx:Zv w.heap.size w bD xs)(hy:Zv w.heap.size w lv ys)(hl:xs.length<=10000/\ys.length<=10000):
  Cq 33 #[Pq Pb,lv] w λe w'=>Bq w w'/\(∀j,w'.frozen? (Aq w.heap.size j)=false)/\w.heap.size<w'.heap.size/\∃v,e=.returned v/\w'.ownsRow (w.heap.size+1) 3 1 v (xs++ys).length ((xs++ys).map (Value.int .i64)):=by
 obtain⟨a0,k0,e0⟩:=Vo hx;obtain⟨a1,k1,e1⟩:=Vo hy;subst e0;subst e1;have hB:Bq w (w.alloc (.cells #[.slice a0 xs.length k0,.slice a1 ys.length k1] 36)):=bA;obtain⟨zs,b0⟩:=nmE (xs++ys);have HC:Hid (Cq 62 #[.slice (some (Aq w.heap.size 0)) 2 2] (w.alloc (.cells #[.slice a0 xs.length k0,.slice a1 ys.length k1] 36)) λe w'=>Bq w w'/\(∀j,w'.frozen? (Aq w.heap.size j)=false)/\w.heap.size<w'.heap.size/\∃v,e=.returned v/\w'.ownsRow (w.heap.size+1) 3 1 v zs.length (zs.map (Value.int .i64))):=by
  refine(zhv (w.alloc (.cells #[.slice a0 xs.length k0,.slice a1 ys.length k1] 36)) w.heap.size _ _ xs ys (by simp) (by simp) (by simp) ((hx.below hB).mono hB.size) ((hy.below hB).mono hB.size) hl).mono ?_;rintro e w' ⟨hb,v,rfl,ho⟩;rw[<-b0]at ho;refine⟨hB.trans (hb.mono hB.size),λj=>(hb.frozen (p:=(Aq w.heap.size j)) (by simp)).trans (by simp),by have:=hb.size;simp at this;omega,v,rfl,?_⟩;have e9:(w.alloc (.cells #[.slice a0 xs.length k0,.slice a1 ys.length k1] 36)).heap.size=w.heap.size+1:=(by simp);rw[e9]at ho;exact ho
 rw[<-b0];clear hx hy b0 hB
 go_enter func33,ntmps33
 go_wp2_with fail
 refine HC.mono ?_;rintro e w1 ⟨hb,c0,d0,v,rfl,ho⟩;obtain⟨la,lc,rfl⟩:∃la lc,v=.slice la zs.length lc:=by
  rcases id ho.2 with⟨rfl,h0⟩|⟨g,cp,cur,rfl,-⟩
  ·exact⟨none,0,by rw[h0]⟩
  exact⟨_,cp,rfl⟩
 have HE:Hid (Bq w w1/\(∀j,w1.frozen? (Aq w.heap.size j)=false)/\w.heap.size<w1.heap.size/\w1.ownsRow (w.heap.size+1) 3 1 (.slice la zs.length lc) zs.length (zs.map (Value.int .i64))):=⟨hb,c0,d0,ho⟩;clear hb ho c0 d0;go_wp2;go_ret;exact⟨HE.1,HE.2.1,HE.2.2.1,_,rfl,HE.2.2.2⟩
end Go.Proofs.YtfhpibppblbgcaaGreatDoor

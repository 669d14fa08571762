import Derived.Test.YtapijhhmjjplmaaGreatDoorJonce45
namespace Go.Proofs.YtapijhhmjjplmaaGreatDoor
set_option linter.all false
set_option maxRecDepth 100000
set_option maxHeartbeats 4000000
open Go.Proofs.Tryz
variable {ops:Array Oper}{label root:ByteArray}{d d':cX}{Q:Exit→Act→World→Prop}{st st':jc}{ks:List Int}{rest:List Oper}{M M':fm}{k j bw n i m g cap:Nat}{a:Nat→Addr}{S1 S2 S':Nat→Nat→Prop}{U:Nat→Prop}{O:Obj}{o:Oper}{T K T':cS}{v:Value}{w w0 W W' W1 W2 W9 V:World}
section
open Go.RowKit Go.Maps
theorem mV.perm(h:mV T)(a:T.Perm K):mV K:=λp=>by
 have h1:(dZ T p).Perm (dZ K p):=(a.filter _).map _;rw[<-h1.length_eq];exact h p
theorem wQ(h:eN T):∀(f:Nat)(p:List ByteArray),(fu T f p).1.length<=17*(1+(lA T p).length)
 |0,p=>by show 0<=_;omega
 |f+1,p=>by
  cases hf:eO T p
  .rw[qO T f p hf]
   have hk:∀l:List ByteArray,(∀n∈l,(cA T (p++[n])).isSome)->(d8 T f p l).1.length<=17*(l.map λn=>(JZ T (p++[n])).length).sum:=λl=>by
    induction l using jh with
    |h0=>intro _;show 0<=_;omega
    |hs l n ih=>
     intro hl;have h1:=ih (λm hm=>hl m (List.mem_append.2 (.inl hm)));have h2:=wQ h f (p++[n]);have h3:=tD h (hl n sI);rw[kD,qA,NT,Cw,PR];show((d8 T f p l).1++(fu T f (p++[n])).1).length<=_;rw[ir];omega
   have h1:=hk (dh T p) (λn hn=>(js h p n).1 hn);have h2:=me T p (dh T p) (kT h p);show((d8 T f p (dh T p)).1++[_]).length<=_;rw[ir,qf];omega
  rw[pB T f p hf]
  have h3:(eK T p).size<=1536:=by
   unfold eK
   cases hx:cA T p with
   |none=>exact fP _
   |some x=>exact h.big x (dI hx).1
  have h4:du (eK T p).size<=16:=by unfold du;omega
  show((List.range (du (eK T p).size)).map (eZ (eK T p))++[iC (eK T p)]).length<=_;rw[ir,iF,NS,qf];omega
theorem Be(h:eN T):(fu T 9 []).1.length<=4369:=by
 have h1:=wQ h 9 [];have h2:(lA T []).length<=T.length:=KI _ _;have h3:=h.len;omega
theorem oV(w:World)(B C:Nat)(ty:TypeId)(m v:Value)(L:List xG)(p:ew w B m [])(h:ew w C v L)(r:L.length<=100000)(q:B<=w.heap.size):
  ∃v' w',(Builtin.append_ #[32,32] ty #[m,v]).run prog w=.ok v' w'/\ew w' B v' L/\w.grownBy w' m.ownBlock:=by
 obtain⟨i,hi,b,c,d⟩:=Ba oG;have hc:=λg (hg:v.ownBlock=some g)=>PK h hg
 rcases h.2 with⟨h1,h2⟩|⟨g,a,f,hv,-,hh,k,l,-,e⟩
 .have hL:L=[]:=OR h2;subst hL;rw[h1];exact⟨m,w,run_append_owned_none w B _ ty 109 i 3 NV hi m 0 _ p,p,⟨rfl,rfl,rfl,cO _,λ_ _ _=>rfl⟩⟩
 rw[hv]
 obtain⟨v',w',r1,r2,r3,-⟩:=Jl (P:=prog) w B 32 ty 109 i (.agg #[.string ⟨#[]⟩,.bool false,.string ⟨#[]⟩]) 3 40 NV hi b c d rfl dE m 0 (gM []) p (yA g 0) L.length a (gM L) h.1 (λj u hj=>hc g (by rw[hv];rfl) j u hj) (λu hu=>by
  unfold gM at hu;obtain⟨x,-,hx⟩:=List.mem_flatMap.1 hu;simp[Ct]at hx
  rcases hx with rfl|rfl|rfl<;>rfl) (by unfold maxLen;omega) oM q
 rw[nS]at r2;exact⟨v',w',r1,r2,r3⟩
theorem qT{w:World}{ops:Array Oper}{rest:List Oper}{a:Act}{Q:Exit->Act->World->Prop}(c:o.guard=none)(s x:Operand)(e:o.op=.call {callee:=.builtin .append,args:=#[s,x],argTypes:=#[32,32]})(B C:Nat)(b v:Value)(L:List xG)(f:a.eval s=b)(g:a.eval x=v)(l:ew w B b [])(m:ew w C v L)(p:L.length<=100000)(q:B<=w.heap.size)(h:∀v' w',ew w' B v' L->w.grownBy w' b.ownBlock->wpList prog ops Q rest (a.put o.dst v') w'):wpList prog ops Q (o::rest) a w:=by
 refine ND c λK hK=>?_
 obtain⟨v',w',hr,h2,h3⟩:=oV w B C o.type b v L l m p q;unfold Oper.wp execOp;simp only[e,resolve,invoke,builtin,K7,QJ,Ql,IW,vj,J6,f,g,hr];exact hK _ _ (h v' w' h2 h3)
structure yJ (w0 W:World) (bw:Nat) (S:Nat->Nat->Prop):Prop where
 hi:∀k q,S k q->w0.heap.size<=q/\q<W.heap.size/\q≠bw
 ap:∀i j q,S i q->S j q->i=j
def jV(S:Nat->Nat->Prop)(k:Nat)(X:Nat->Prop):Nat->Nat->Prop:=λj q=>if j=k then X q else S j q
theorem eu(S:Nat->Nat->Prop)(k:Nat)(X:Nat->Prop):jV S k X k=X:=by unfold jV;funext q;rw[dq rfl]
theorem cH(S:Nat->Nat->Prop)(X:Nat->Prop)(h:j≠k):jV S k X j=S j:=by unfold jV;funext q;rw[dj h]
theorem yJ.grow{S:Nat->Nat->Prop}(h:yJ w0 W bw S)(hz:W.heap.size<=W'.heap.size):yJ w0 W' bw S:=⟨λk q hq=>⟨(h.hi k q hq).1,by have:=(h.hi k q hq).2.1;omega,(h.hi k q hq).2.2⟩,h.ap⟩
theorem yJ.put{S:Nat->Nat->Prop}(h:yJ w0 W bw S)(k:Nat)(X:Nat->Prop)(hz:W.heap.size<=W'.heap.size)(c:w0.heap.size<=W.heap.size)(g:bw<W.heap.size)(b:∀q,X q->(S k q\/W.heap.size<=q)/\q<W'.heap.size):yJ w0 W' bw (jV S k X):=by
 have a:∀j q,jV S k X j q->(S j q\/j=k/\W.heap.size<=q)/\q<W'.heap.size:=λj q hq=>by
  by_cases e:j=k
  .subst e;rw[eu]at hq;exact⟨(b q hq).1.imp (λh=>h) (λh=>⟨rfl,h⟩),(b q hq).2⟩
  rw[cH S X e]at hq;exact⟨.inl hq,by have:=(h.hi j q hq).2.1;omega⟩
 refine⟨λj q hq=>?_,λi j q hi hj=>?_⟩
 .obtain⟨e|e,h2⟩:=a j q hq
  .exact⟨(h.hi j q e).1,h2,(h.hi j q e).2.2⟩
  exact⟨oM,h2,oM⟩
 obtain⟨e|⟨e1,e2⟩,-⟩:=a i q hi<;>obtain⟨f|⟨f1,f2⟩,-⟩:=a j q hj
 .exact h.ap i j q e f
 .have:=(h.hi i q e).2.1;omega
 .have:=(h.hi j q f).2.1;omega
 .omega
theorem yJ.put2{S:Nat->Nat->Prop}(h:yJ w0 W bw S)(k l:Nat)(c:k≠l)(X Y:Nat->Prop)(hz:W.heap.size<=W'.heap.size)(a:w0.heap.size<=W.heap.size)(b:bw<W.heap.size)(f:∀q,X q->(S k q\/W.heap.size<=q)/\q<W'.heap.size)(g:∀q,Y q->(S l q\/W.heap.size<=q)/\q<W'.heap.size)(m:∀q,X q->¬Y q):yJ w0 W' bw (jV (jV S k X) l Y):=by
 have h1:=h.put k X hz a b f;have h2:=h.put l Y hz a b g
 have lo:∀j q,jV (jV S k X) l Y j q->(j=l/\Y q)\/(j≠l/\jV S k X j q):=λj q hq=>by
  by_cases e:j=l
  .subst e;rw[eu]at hq;exact .inl ⟨rfl,hq⟩
  rw[cH _ Y e]at hq;exact .inr ⟨e,hq⟩
 have yk:∀q,Y q->∀j,j≠l->jV S k X j q->False:=λq hy j hj hq=>by
  by_cases e:j=k
  .subst e;rw[eu]at hq;exact m q hq hy
  rw[cH S X e]at hq;refine hj (h2.ap j l q ?_ ?_)
  .rw[cH S Y hj];exact hq
  rw[eu];exact hy
 refine⟨λj q hq=>?_,λi j q hi hj=>?_⟩
 .rcases lo j q hq with⟨-,e⟩|⟨-,e⟩
  .exact h2.hi l q (by rw[eu];exact e)
  exact h1.hi j q e
 rcases lo i q hi with⟨e1,e2⟩|⟨e1,e2⟩<;>rcases lo j q hj with⟨f1,f2⟩|⟨f1,f2⟩
 .omega
 .exact(yk q e2 j f1 f2).elim
 .exact(yk q f2 i e1 e2).elim
 exact h1.ap i j q e2 f2
structure jb where
 v:Value
 T:cS
 label:ByteArray
 root:ByteArray
def FQ(x:jb):List Value:=[x.v,.string x.label,.string x.root]
def mJ(l:List jb):List Value:=l.flatMap FQ
theorem Bs(l:List jb)(x:jb):mJ (l++[x])=mJ l++FQ x:=by unfold mJ;rw[LQ];simp
@[reducible] def wR (sz:Int) (bd ba:Nat) (trv shv kv:Value):Array Value:=#[.int .i64 sz,yP bd,yP ba,trv,shv,.slice none 0 0,kv,.bool false,.slice none 0 0,.slice none 0 0,.bool false]
structure lC where
 sz:Int
 bd:Nat
 ba:Nat
 N:Nat
 rb:Nat
 a0:Nat
 a1:Nat
 a2:Nat
 a3:Nat
 sv:Value
 trv:Value
 shv:Value
 kv:Value
 tv:Value
 ssv:Value
@[reducible] def lC.R (x:lC):Array Value:=wR x.sz x.bd x.ba x.trv x.shv x.kv
structure eV (w0 W:World) (bw n i:Nat) (S:Nat->Nat->Prop) (x:lC) (st:jc) (M:fm) (T K:cS) (d:cX) (sh:List jb) (ks:List Int):Prop where
 fam:yJ w0 W bw S
 below:Below w0.heap.size w0 W
 bw0:w0.heap.size<=bw
 hs:vQ W bw x.R (S 3) st x.tv x.ssv
 arc:gn W (S 1) x.ba x.bd x.N x.rb x.a0 x.a1 x.a2 x.a3 M.at_ (M.seq-1) M.chain x.sv false M.has M.infos T
 dsk:cD W (S 2) x.bd 0 d
 tree:eP W (S 4) 109 3 x.trv (K.map tk).length (gM (K.map tk))
 shr:eP W (S 5) 54 3 x.shv sh.length (mJ sh)
 sht:∀y∈sh,eP W (S 6) 109 3 y.v (y.T.map tk).length (gM (y.T.map tk))
 keep:eP W (S 7) 3 1 x.kv ks.length (ks.map (Value.int .i64))
 n4:n<=4096
 nN:x.N<=100000
 nk:ks.length<=i
 nh:st.1.length<=4369*i
 ns:sh.length<=i
theorem eV.bwl{S:Nat->Nat->Prop}{x:lC}{a:List jb}(h:eV w0 W bw n i S x st M T K d a ks):bw<W.heap.size:=cm h.hs.row
theorem eV.cell{S:Nat->Nat->Prop}{x:lC}{a:List jb}(h:eV w0 W bw n i S x st M T K d a ks)(j:Nat):W.cell? (yA bw j)=(fS x.R x.tv x.ssv st.2.2)[j]?:=cG h.hs.row
theorem eV.on{S:Nat->Nat->Prop}{x:lC}{b:List jb}(h:eV w0 W bw n i S x st M T K d b ks)(a:Below W.heap.size W W'):eV w0 W' bw n i S x st M T K d b ks:=
 ⟨h.fam.grow a.size,h.below.trans (a.mono h.below.size),h.bw0,h.hs.below a,h.arc.on (U:=λ_=>False) (.of_below a) (λ_ _ h=>h),h.dsk.on (T:=λ_=>False) (.of_below a) (λ_ _ h=>h),h.tree.on (T:=λ_=>False) (.of_below a) (λ_ _ h=>h),h.shr.on (T:=λ_=>False) (.of_below a) (λ_ _ h=>h),λy hy=>(h.sht y hy).on (T:=λ_=>False) (.of_below a) (λ_ _ h=>h),h.keep.on (T:=λ_=>False) (.of_below a) (λ_ _ h=>h),h.n4,h.nN,h.nk,h.nh,h.ns⟩
end
section
open Go.RowKit Go.Maps
section
variable {w0 W W':World} {bw n i:Nat} {S:Nat->Nat->Prop} {x:lC} {st:jc} {M:fm} {T K:cS} {d:cX} {sh:List jb} {ks:List Int}
theorem yJ.putG(h:yJ w0 W bw S)(k:Nat)(X:Nat->Prop)(b:∀q,X q->S k q\/(w0.heap.size<=q/\q<W.heap.size/\q≠bw/\∀j,¬S j q)):yJ w0 W bw (jV S k X):=by
 have a:∀j q,jV S k X j q->S j q\/(j=k/\w0.heap.size<=q/\q<W.heap.size/\q≠bw/\∀j,¬S j q):=λj q hq=>by
  by_cases e:j=k
  .subst e;rw[eu]at hq;exact(b q hq).imp (λh=>h) (λh=>⟨rfl,h⟩)
  rw[cH S X e]at hq;exact .inl hq
 refine⟨λj q hq=>?_,λi j q hi hj=>?_⟩
 .rcases a j q hq with e|⟨-,e⟩
  .exact h.hi j q e
  exact⟨e.1,e.2.1,e.2.2.1⟩
 rcases a i q hi with e|⟨e1,e2⟩<;>rcases a j q hj with f|⟨f1,f2⟩
 .exact h.ap i j q e f
 .exact(f2.2.2.2 i e).elim
 .exact(e2.2.2.2 j f).elim
 .omega
theorem yJ.off(h:yJ w0 W bw S){q:Nat}(b:S k q)(a:k≠j):¬(q=bw\/S j q):=λe=>by
 rcases e with e|e
 .exact(h.hi k q b).2.2 e
 exact a (h.ap k j q b e)
theorem yJ.off2(h:yJ w0 W bw S){l q:Nat}(c:S k q)(b:k≠j)(a:k≠l):¬(S j q\/S l q):=λe=>by
 rcases e with e|e
 .exact b (h.ap k j q c e)
 exact a (h.ap k l q c e)
structure mG (W:World) (bw:Nat) (S:Nat->Nat->Prop) (W':World) (S':Nat->Nat->Prop):Prop where
 same:cq (λq=>q=bw\/∃k,S k q) W W'
 new:∀k q,S' k q->(∃j,S j q)\/W.heap.size<=q
theorem mG.trans(h:mG W bw S W1 S1)(a:mG W1 bw S1 W2 S2):mG W bw S W2 S2:=
 ⟨j7 h.same a.same (λq hq=>by
  rcases hq with e|⟨k,e⟩
  .exact .inl (.inl e)
  .rcases h.new k q e with e|e
   .exact .inl (.inr e)
   exact .inr e),λk q hq=>by
  rcases a.new k q hq with⟨j,e⟩|e
  .exact h.new j q e
  exact .inr (lZ h.same.size e)⟩
theorem mG.below(a:Below W.heap.size W W1):mG W bw S W1 S:=⟨cq.of_below a,λk _ h=>.inl ⟨k,h⟩⟩
theorem mG.of(a:cq U W W1)(b:∀q,U q->∃k,S k q):mG W bw S W1 S:=⟨a.weak (λq hq=>.inr (b q hq)),λk _ h=>.inl ⟨k,h⟩⟩
theorem eV.node(h:eV w0 W bw n i S x st M T K d sh ks)(b:st'.1.length<=4369*(i+1))(hc:pG W bw x.R (S 3) st' W'):
  ∃S' tv ssv,eV w0 W' bw n (i+1) S' {x with tv:=tv,ssv:=ssv} st' M T K d sh ks/\mG W bw S W' S':=by
 obtain⟨H',tv,ssv,h1,h2,h3⟩:=hc;have hz:=h3.size;have hf:=h.fam.put 3 H' hz h.below.size h.bwl h1;have a:Below w0.heap.size W W':=h3.below (λq hq=>by rcases hq with e|e;exact(by have:=h.bw0;omega);exact(h.fam.hi 3 q e).1) h.below.size;refine⟨jV S 3 H',tv,ssv,⟨hf,h.below.trans a,h.bw0,?_,?_,?_,?_,?_,λy hy=>?_,?_,h.n4,h.nN,by have:=h.nk;omega,b,by have:=h.ns;omega⟩,h3.weak (λq hq=>by rcases hq with e|e;exact .inl e;exact .inr ⟨3,e⟩),λk q hq=>?_⟩
 .rw[eu];exact h2
 .rw[cH _ _ (by decide)];exact h.arc.on h3 (λq hq=>h.fam.off hq dE)
 .rw[cH _ _ (by decide)];exact h.dsk.on h3 (λq hq=>h.fam.off hq dE)
 .rw[cH _ _ (by decide)];exact h.tree.on h3 (λq hq=>h.fam.off (h.tree.2 q hq) dE)
 .rw[cH _ _ (by decide)];exact h.shr.on h3 (λq hq=>h.fam.off (h.shr.2 q hq) dE)
 .rw[cH _ _ (by decide)];exact(h.sht y hy).on h3 (λq hq=>h.fam.off ((h.sht y hy).2 q hq) dE)
 .rw[cH _ _ (by decide)];exact h.keep.on h3 (λq hq=>h.fam.off (h.keep.2 q hq) dE)
 by_cases e:k=3
 .subst e;rw[eu]at hq;exact(h1 q hq).1.imp (λe=>⟨3,e⟩) (λe=>e)
 rw[cH _ _ e]at hq;exact .inl ⟨k,hq⟩
theorem eV.snapK(h:eV w0 W bw n i S x st M T K d sh ks)(b:oT W (S 1) (S 2) x.ba x.bd m x.rb x.a0 x.a1 x.a2 x.a3 false M' T' d' W')(c:d'.wait=[])(f:M'.has.length<=100000):
  ∃S' sv,eV w0 W' bw n i S' {x with N:=M'.has.length,sv:=sv} st M' T' K d' sh ks/\(∀k q,S' k q->S k q\/W.heap.size<=q):=by
 obtain⟨hs,S1,Sd,sv,m',a1,a2,a3,-,a5,a6⟩:=b;have hz:=hs.size;have hf:=h.fam.put2 1 2 dE S1 Sd hz h.below.size h.bwl (λq hq=>⟨(a1 q hq).1,(a1 q hq).2⟩) (λq hq=>⟨(a2 q hq).1,(a2 q hq).2⟩) a3;have a:Below w0.heap.size W W':=hs.below (λq hq=>by rcases hq with e|e;exact(h.fam.hi 1 q e).1;exact(h.fam.hi 2 q e).1) h.below.size;refine⟨jV (jV S 1 S1) 2 Sd,sv,⟨hf,h.below.trans a,h.bw0,?_,?_,?_,?_,?_,λy hy=>?_,?_,h.n4,f,h.nk,h.nh,h.ns⟩,λk q hq=>?_⟩
 .rw[cH _ _ (by decide),cH _ _ (by decide)];exact h.hs.on hs (λq hq=>h.fam.off2 hq dE dE) (λe=>by rcases e with e|e;exact(h.fam.hi 1 bw e).2.2 rfl;exact(h.fam.hi 2 bw e).2.2 rfl)
 .rw[cH _ _ (by decide),eu];exact a6
 .rw[eu];exact a5.zero c
 .rw[cH _ _ (by decide),cH _ _ (by decide)];exact h.tree.on hs (λq hq=>h.fam.off2 (h.tree.2 q hq) dE dE)
 .rw[cH _ _ (by decide),cH _ _ (by decide)];exact h.shr.on hs (λq hq=>h.fam.off2 (h.shr.2 q hq) dE dE)
 .rw[cH _ _ (by decide),cH _ _ (by decide)];exact(h.sht y hy).on hs (λq hq=>h.fam.off2 ((h.sht y hy).2 q hq) dE dE)
 .rw[cH _ _ (by decide),cH _ _ (by decide)];exact h.keep.on hs (λq hq=>h.fam.off2 (h.keep.2 q hq) dE dE)
 by_cases e2:k=2
 .subst e2;rw[eu]at hq;exact(a2 q hq).1
 rw[cH _ _ e2]at hq;by_cases e1:k=1
 .subst e1;rw[eu]at hq;exact(a1 q hq).1
 rw[cH _ _ e1]at hq;exact .inl hq
theorem Ej(e:Int)(f h:Nat)(b c a l o p:Value)(vd:Bool):(fS (wR e f h b c l) o p vd).setIfInBounds 4 a=fS (wR e f h b a l) o p vd:=rfl
theorem eV.shot(h:eV w0 W bw n i S x st M T K d sh ks){C:Nat}(hv:ew W C v (K.map tk))(A:∀q,v.ownBlock=some q->w0.heap.size<=q/\q≠bw/\∀k,¬S k q)(D:sh.length+1<=i)(E:W9.ownsRow 0 54 3 (.slice (yS g 0) (sh.length+1) cap) (sh.length+1) (mJ sh++[v,.string label,.string root]))(F:(W.alloc O).grownBy W9 x.shv.ownBlock)(B:x.shv.ownBlock=some g\/g=W.heap.size+1)(G:g<W9.heap.size):
  (W9.heap[bw]?=some (.cells (fS x.R x.tv x.ssv st.2.2) 37 (0,0)))/\
  ∃S',eV w0 (W9.setCell (yA bw 4) (.slice (yS g 0) (sh.length+1) cap)) bw n i S' {x with shv:=.slice (yS g 0) (sh.length+1) cap} st M T K d (sh++[⟨v,K,label,root⟩]) ks/\cq (λq=>q=bw\/∃k,S k q) W (W9.setCell (yA bw 4) (.slice (yS g 0) (sh.length+1) cap))/\∀k q,S' k q->(∃j,S j q)\/W.heap.size<=q\/v.ownBlock=some q:=by
 have u:=h.bwl;obtain⟨W6,b⟩:=eX (W9.setCell (yA bw 4) (.slice (yS g 0) (sh.length+1) cap));have o:cq (λq=>x.shv.ownBlock=some q) W W9:=(cq.of_below ((dw W.heap.size W).alloc (cO _) _)).trans (cq.of_grown F (λq hq=>hq));have m:x.shv.ownBlock≠some bw:=λe=>(h.fam.hi 5 bw (h.shr.2 bw e)).2.2 rfl
 have l:W9.heap[bw]?=some (.cells (fS x.R x.tv x.ssv st.2.2) 37 (0,0)):=by rw[o.block bw u m];exact h.hs.row
 refine⟨l,?_⟩;rw[<-b];have a:cq (λq=>q=bw\/S 5 q) W W6:=by rw[b];exact(o.weak (λq hq=>.inr (h.shr.2 q hq))).setCell (yA bw 4) (.inl rfl) _
 have z:W6.heap.size=W9.heap.size:=by rw[b];simp
 have p:g≠bw:=by
  rintro rfl;rcases B with e|e
  .exact m e
  .omega
 have f:∀q,v.ownBlock=some q->q<W.heap.size:=λq hq=>(cr hv q hq).2
 have s:=h.fam.grow a.size
 have t:=s.putG 6 (λq=>S 6 q\/v.ownBlock=some q) (λq hq=>by
  rcases hq with e|e
  .exact .inl e
  have:=f q e;have:=a.size;exact .inr ⟨(A q e).1,oM,(A q e).2⟩)
 have r:=t.putG 5 (λq=>S 5 q\/q=g) (λq hq=>by
  rw[cH _ _ (by decide)];rcases hq with e|e
  .exact .inl e
  subst e;rcases B with e|e
  .exact .inl (h.shr.2 q e)
  refine .inr ⟨by have:=h.below.size;omega,oM,p,λj hj=>?_⟩;by_cases e6:j=6
  .subst e6;rw[eu]at hj;rcases hj with e2|e2
   .have:=(h.fam.hi 6 q e2).2.1;omega
   have:=f q e2;omega
  rw[cH _ _ e6]at hj
  have:=(h.fam.hi j q hj).2.1;omega)
 have w:Below w0.heap.size W W6:=a.below (λq hq=>by rcases hq with e|e;exact(by have:=h.bw0;omega);exact(h.fam.hi 5 q e).1) h.below.size;refine⟨jV (jV S 6 (λq=>S 6 q\/v.ownBlock=some q)) 5 (λq=>S 5 q\/q=g),⟨r,h.below.trans w,h.bw0,?_,?_,?_,?_,?_,λy hy=>?_,?_,h.n4,h.nN,h.nk,h.nh,by rw[ir,qf];exact D⟩,a.weak (λq hq=>by rcases hq with e|e;exact .inl e;exact .inr ⟨5,e⟩),λk q hq=>?_⟩
 .rw[cH _ _ (by decide),cH _ _ (by decide)];refine⟨?_,rfl,h.hs.nb,h.hs.txt.on a (λq hq=>h.fam.off (h.hs.txt.2 q hq) dE),h.hs.sum.on a (λq hq=>h.fam.off (h.hs.sum.2 q hq) dE),h.hs.ap,h.hs.len⟩;rw[b,gE W9 bw 4 _ _ _ l];exact Ce (λc=>some (Obj.cells c _ (0,0))) (Ej _ _ _ _ _ _ _ _ _ _)
 .rw[cH _ _ (by decide),cH _ _ (by decide)];exact h.arc.on a (λq hq=>h.fam.off hq dE)
 .rw[cH _ _ (by decide),cH _ _ (by decide)];exact h.dsk.on a (λq hq=>h.fam.off hq dE)
 .rw[cH _ _ (by decide),cH _ _ (by decide)];exact h.tree.on a (λq hq=>h.fam.off (h.tree.2 q hq) dE)
 .rw[eu];refine⟨?_,λq hq=>?_⟩
  .rw[ir,qf,Bs];exact cI E (λq hq=>by cases hq;rw[b];exact lq _ _ _ _ p)
  cases hq;exact .inr rfl
 .rw[cH _ _ (by decide),eu];rcases List.mem_append.1 hy with hy|hy
  .exact eP.mono ((h.sht y hy).on a (λq hq=>h.fam.off ((h.sht y hy).2 q hq) dE)) (λq hq=>.inl hq)
  rw[IZ]at hy;subst hy;refine⟨cI (fq hv (fP _)) (λq hq=>a.block q (f q hq) (λe=>?_)),λq hq=>.inr hq⟩;rcases e with e|e
  .exact(A q hq).2.1 e
  exact(A q hq).2.2 5 e
 .rw[cH _ _ (by decide),cH _ _ (by decide)];exact h.keep.on a (λq hq=>h.fam.off (h.keep.2 q hq) dE)
 by_cases e5:k=5
 .subst e5;rw[eu]at hq;rcases hq with e|e
  .exact .inl ⟨5,e⟩
  subst e;rcases B with e|e
  .exact .inl ⟨5,h.shr.2 q e⟩
  exact .inr (.inl oM)
 rw[cH _ _ e5]at hq;by_cases e6:k=6
 .subst e6;rw[eu]at hq;rcases hq with e|e
  .exact .inl ⟨6,e⟩
  exact .inr (.inr e)
 rw[cH _ _ e6]at hq;exact .inl ⟨k,hq⟩
end
end
section
open Go.RowKit Go.Maps
section
variable {w0 W W':World} {bw n i:Nat} {S:Nat->Nat->Prop} {x:lC} {st:jc} {M:fm} {T K:cS} {d:cX} {sh:List jb} {ks:List Int}
theorem eV.cells(h:eV w0 W bw n i S x st M T K d sh ks):W.cell? (yA bw 1)=some (yP x.bd)/\W.cell? (yA bw 2)=some (yP x.ba)/\W.cell? (yA bw 3)=some x.trv/\W.cell? (yA bw 4)=some x.shv/\W.cell? (yA bw 6)=some x.kv/\W.cell? (yA bw 7)=some (.bool false)/\W.cell? (yA bw 10)=some (.bool st.2.2):=
 ⟨h.cell 1,h.cell 2,h.cell 3,h.cell 4,h.cell 6,h.cell 7,h.cell 10⟩
theorem eV.tabs(b:fL w0)(h:eV w0 W bw n i S x st M T K d sh ks)(c:cq U W V)(e:∀q,U q->w0.heap.size<=q):fL V:=b.on (h.below.trans (c.below e h.below.size))
theorem eV.knq(c:fL w0)(h:eV w0 W bw n i S x st M T K d sh ks)(f:eN K)(b:mV K):Kw W bw x.R (S 3) x.trv K:=
 ⟨h.tree.1,rfl,λq hq=>⟨(h.fam.hi 4 q (h.tree.2 q hq)).2.2,λe=>absurd (h.fam.ap 4 3 q (h.tree.2 q hq) e) dE⟩,f,b,λq hq=>(h.fam.hi 3 q hq).2.1,λV hV=>h.tabs c hV (λq hq=>by
  rcases hq with e|e
  .rw[e];exact h.bw0
  exact(h.fam.hi 3 q e).1)⟩
theorem eV.dskOn(h:eV w0 W bw n i S x st M T K d sh ks)(f:cD W' (S 2) x.bd m d')(c:cq (S 2) W W')(g:d'.wait=[]):eV w0 W' bw n i S x st M T K d' sh ks:=by
 have b:=c.below (λq hq=>(h.fam.hi 2 q hq).1) h.below.size;have off:∀{k q},S k q->k≠2->¬S 2 q:=λhk a e=>a (h.fam.ap _ 2 _ hk e)
 exact⟨h.fam.grow c.size,h.below.trans b,h.bw0,h.hs.on c (λq hq=>off hq dE) (λe=>(h.fam.hi 2 bw e).2.2 rfl),h.arc.on c (λq hq=>off hq dE),f.zero g,h.tree.on c (λq hq=>off (h.tree.2 q hq) dE),h.shr.on c (λq hq=>off (h.shr.2 q hq) dE),λy hy=>(h.sht y hy).on c (λq hq=>off ((h.sht y hy).2 q hq) dE),h.keep.on c (λq hq=>off (h.keep.2 q hq) dE),h.n4,h.nN,h.nk,h.nh,h.ns⟩
def KL(w0 W:World)(bw:Nat)(S:Nat->Nat->Prop)(v:Value)(K:cS):Prop:=ew W 0 v (K.map tk)/\∀q,v.ownBlock=some q->w0.heap.size<=q/\q≠bw/\∀k,¬S k q
theorem KL.on(h:KL w0 W bw S v K)(b:cq U W W')(c:∀q,U q->∃k,S k q)(f:∀k q,S' k q->S k q\/W.heap.size<=q):KL w0 W' bw S' v K:=
 ⟨cI h.1 (λq hq=>b.block q (cr h.1 q hq).2 (λe=>by obtain⟨k,hk⟩:=c q e;exact(h.2 q hq).2.2 k hk)),λq hq=>⟨(h.2 q hq).1,(h.2 q hq).2.1,λk hk=>by
  rcases f k q hk with e|e
  .exact(h.2 q hq).2.2 k e
  have:=(cr h.1 q hq).2;omega⟩⟩
theorem eV.copy(h:eV w0 W bw n i S x st M T K d sh ks)(b:Below W.heap.size W W')(hv:ew W' W.heap.size v (K.map tk)):eV w0 W' bw n i S x st M T K d sh ks/\KL w0 W' bw S v K:=
 ⟨h.on b,fq hv (fP _),λq hq=>by
  have h1:=(cr hv q hq).1;have h2:=h.bwl;have h3:=h.below.size
  exact⟨oM,oM,λk hk=>by have:=(h.fam.hi k q hk).2.1;omega⟩⟩
theorem eV.snE(c:jm w0 a)(j:fL w0)(h:eV w0 W bw n i S x st M T K d sh ks)(b:mU n M T K d (sh.map (·.T))):sP W (S 1) (S 2) x.ba x.bd x.N 0 n x.rb x.a0 x.a1 x.a2 x.a3 x.sv M T d (a 10) (a 11):=by
 have hS:=c.on h.below;have gl:∀{g k:Nat}{u:Value},w0.cell? (yA g 0)=some u->¬S k g:=λhc e=>by have h1:=(h.fam.hi _ _ e).1;have h2:=pr hc;simp only at h2;omega
 refine⟨h.arc,h.dsk,λq hq=>(h.fam.hi 1 q hq).2.1,λq hq=>(h.fam.hi 2 q hq).2.1,λq h1 h2=>absurd (h.fam.ap 1 2 q h1 h2) dE,b.aw,⟨b.wf,b.k16⟩,⟨b.dn,h.n4,⟨b.cl.f,b.cl.d⟩,by rw[b.cl.w];decide,dE,h.nN⟩,λV hV=>h.tabs j hV (λq hq=>by
  rcases hq with e|e
  .exact(h.fam.hi 1 q e).1
  exact(h.fam.hi 2 q e).1),⟨hS.v11,gl c.v11,gl c.v11⟩,⟨hS.v10,gl c.v10,gl c.v10⟩⟩
def ON(w0 W:World)(bw n i:Nat)(S0:Nat->Nat->Prop)(bd ba:Nat)(trv shv:Value)(st:jc)(M:fm)(T K:cS)(d:cX)(sh:List jb)(ks:List Int)(v:Value)(label:ByteArray)(e:Ending)(W':World):Prop:=
 ((e=.returned (.tuple #[.int .i64 0,.int .i64 11])\/e=.returned (.tuple #[.int .i64 0,.int .i64 12]))/\(20<label.size\/n<(snapF T M label).at_)/\∃S x,x.bd=bd/\eV w0 W' bw n i S x st M T K d sh ks/\mG W bw S0 W' S)\/
 (label.size<=20/\(snapF T M label).at_<=n/\e=.returned (.tuple #[.int .i64 ((sh.length:Int)+1),.int .i64 0])/\∃S x,x.bd=bd/\x.ba=ba/\x.trv=trv/\x.shv=shv/\eV w0 W' bw n i S x st (gz T M label) T K (gc T M label d).1 sh ks/\KL w0 W' bw S v K/\mG W bw S0 W' S)
theorem eV.snMid(j:jm w0 a)(l:fL w0)(h:eV w0 W bw n i S x st M T K d sh ks)(g:mU n M T K d (sh.map (·.T)))(hc:KL w0 W bw S v K)(label:ByteArray)(o:label.size<=300000):
  Calls prog 50 #[yP x.ba,.string label] W λe w'=>ON w0 W bw n i S x.bd x.ba x.trv x.shv st M T K d sh ks v label e w':=by
 refine(BQ w0 a j W (S 1) (S 2) x.ba x.bd x.N 0 n x.rb x.a0 x.a1 x.a2 x.a3 x.sv M T d label (h.snE j l g) o h.below (λq hq=>by
  rcases hq with e|e
  .exact(h.fam.hi 1 q e).1
  exact(h.fam.hi 2 q e).1)).mono ?_
 rintro e W' (⟨h1,rfl,h3⟩|⟨-,h2,rfl,h4⟩|⟨h1,h2,rfl,h5⟩)
 .exact .inl ⟨.inl rfl,.inl h1,S,x,rfl,h.on h3,.below h3⟩
 .have hn:M.has.length<=100000:=by have:=g.aw.len;have:=g.aw.sq2;have:=g.aw.at2;have:=h.n4;omega
  obtain⟨S',c,h6,h7⟩:=h.snapK h4 g.cl.w hn;exact .inl ⟨.inr rfl,.inr h2,S',{x with N:=_,sv:=c},rfl,h6,h4.1.weak (λq hq=>.inr (by rcases hq with e|e;exact⟨1,e⟩;exact⟨2,e⟩)),λk q hq=>(h7 k q hq).imp (λe=>⟨k,e⟩) (λe=>e)⟩
 obtain⟨-,b,-⟩:=g.snap h1 h2;have hn:(gz T M label).has.length<=100000:=by have:=b.aw.len;have:=b.aw.sq2;have:=b.aw.at2;have:=h.n4;omega
 obtain⟨S',c,h6,h7⟩:=h.snapK h5 b.cl.w hn;have f:M.infos.length=sh.length:=by have:=g.cnt;rw[iF]at this;exact this
 refine .inr ⟨h1,h2,by rw[f],S',{x with N:=_,sv:=c},rfl,rfl,rfl,rfl,h6,hc.on h5.1 (λq hq=>?_) h7,h5.1.weak (λq hq=>.inr (by rcases hq with e|e;exact⟨1,e⟩;exact⟨2,e⟩)),λk q hq=>(h7 k q hq).imp (λe=>⟨k,e⟩) (λe=>e)⟩;rcases hq with e|e
 .exact⟨1,e⟩
 exact⟨2,e⟩
end
end
end Go.Proofs.YtapijhhmjjplmaaGreatDoor

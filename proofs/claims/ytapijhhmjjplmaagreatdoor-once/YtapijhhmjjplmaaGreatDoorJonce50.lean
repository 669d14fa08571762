import Derived.Test.YtapijhhmjjplmaaGreatDoorJonce49
namespace Go.Proofs.YtapijhhmjjplmaaGreatDoor
set_option linter.all false
set_option maxRecDepth 100000
set_option maxHeartbeats 4000000
open Go.Proofs.Tryz
variable {s t:ByteArray}{d d':cX}{ok oa:Int}{ks' ks:List Int}{M M':fm}{j b bw n i B ba' N' rb' b0 b1 b2 b3 m':Nat}{S3:Nat→Nat→Prop}{T K T':cS}{v sv':Value}{W9 V w0 W:World}
section
open Go.RowKit Go.Maps
def Rd(w0 W:World)(bw k bd:Nat)(e:Ending)(V2:World):Prop:=
 e=.returned (.int .i64 0)/\V2.cell? (yA bw 1)=some (yP bd)/\Calls prog 26 #[yP bd] V2 λe W'=>Q1 w0 W bw k e W'
theorem BK(w0:World)(a:Nat->Addr)(p:jm w0 a)(s:fL w0)(W V:World)(bw k i:Nat)(m:Int)(t:k<512)(j:Below w0.heap.size w0 V)(n:w0.heap.size<=bw)(l:cq (·=bw) W V)(r:V.heap[bw]?=some (.cells (wZ m (yP i) (.pointer none)) 37 (0,0)))(o:bw<W.heap.size)(u:cD V (λg=>W.heap.size<=g) i 0 (d0 (4+k) false)):
  Calls prog 25 #[yP i] V λe V2=>Rd w0 W bw k i e V2:=by
 have hS:∀g,(W.heap.size<=g/\g<V.heap.size)->w0.heap.size<=g:=λg hg=>by omega
 have hc:=yh w0 a p i 0 (λg=>W.heap.size<=g/\g<V.heap.size) (4+k) V u.tight j hS oM oM oM;refine hc.mono ?_;rintro e V2 ⟨rfl,⟨m',h,c⟩,hs⟩;have d:=cm r;have b:V2.heap[bw]?=some (.cells (wZ m (yP i) (.pointer none)) 37 (0,0)):=by rw[hs.block bw d (λe=>by omega)];exact r
 have f:=l.size;refine⟨rfl,cG b,ED w0 a p s W V2 bw k i m' m _ t (j.trans (hs.below hS j.size)) n (j7 l hs (λq hq=>.inr hq.1)) b o c oM (λg hg=>⟨?_,hg.2⟩)⟩;rcases hg.1 with e|e
 .exact e.1
 .omega
def Q8(w0 W:World)(bw k:Nat)(e:Ending)(V1:World):Prop:=
 ∃bd,e=.returned (yP bd)/\V1.cell? (yA bw 1)=some (.pointer none)/\V1.frozen? (yA bw 1)=false/\(V1.setCell (yA bw 1) (yP bd)).cell? (yA bw 1)=some (yP bd)/\Calls prog 25 #[yP bd] (V1.setCell (yA bw 1) (yP bd)) λe V2=>Rd w0 W bw k bd e V2
theorem JX(w0:World)(a:Nat->Addr)(m:jm w0 a)(n:fL w0)(W:World)(bw k:Nat)(j:Int)(o:k<512)(h:Below w0.heap.size w0 W)(i:w0.heap.size<=bw)(l:W.heap[bw]?=some (.cells (wZ j (.pointer none) (.pointer none)) 37 (0,0))):
  Calls prog 24 #[.int .i64 (4+(k:Int))] W λe V1=>Q8 w0 W bw k e V1:=by
 refine(IR (4+k) (4+(k:Int)) oM oM oM W).mono ?_;rintro e V1 ⟨bd,rfl,hd,hb⟩;rw[Il _ (by omega)]at hd;have d:=cm l;have b:V1.heap[bw]?=some (.cells (wZ j (.pointer none) (.pointer none)) 37 (0,0)):=by rw[hb.block bw d];exact l
 have hs:cq (·=bw) V1 (V1.setCell (yA bw 1) (yP bd)):=(cq.refl (·=bw) V1).setCell (yA bw 1) rfl _;have c:(V1.setCell (yA bw 1) (yP bd)).heap[bw]?=some (.cells (wZ j (yP bd) (.pointer none)) 37 (0,0)):=by rw[gE V1 bw 1 _ _ _ b];rfl
 have f:=hb.size;refine⟨bd,rfl,cG b,fH V1 bw 1 _ _ b,cG c,BK w0 a m n W _ bw k bd j o ((h.trans (hb.mono h.size)).trans (hs.below (λg hg=>hg▸i) (by have:=h.size;omega))) i ((cq.of_below hb).trans hs) c d (hd.on hs (λg hg e=>by omega))⟩
theorem Dy(w0:World)(a:Nat->Addr)(o:jm w0 a)(p:fL w0)(W:World)(bw:Nat)(i:Int)(j:yD i)(l:Below w0.heap.size w0 W)(m:w0.heap.size<=bw)(n:W.heap[bw]?=some (.cells (wZ i (.pointer none) (.pointer none)) 37 (0,0))):
  Calls prog 20 #[yP bw] W λe W'=>∃k:Nat,k<512/\(0<=i->k=i.toNat%512)/\QX w0 W bw k e W':=by
 have c0:W.cell? (yA bw 0)=some (.int .i64 i):=cG n;have c1:W.cell? (yA bw 1)=some (.pointer none):=cG n;have d:Hid (Calls prog 33 #[.int .i64 i,.int .i64 512] W λe w'=>QV i 512 W e w'):=FP i 512 W j dE dE;have f:Hid (∀k:Nat,k<512->Calls prog 24 #[.int .i64 (4+(k:Int))] W λe V1=>Q8 w0 W bw k e V1):=λk hk=>JX w0 a o p W bw k i hk l m n
 clear o p j l m n;go_enter func20,ntmps20
 go_wp2_with (refine d.mono ?_)
 rintro e V ⟨k,hk,rfl,b,rfl⟩;have c:=Hid.mk' (f k hk);have HK:Hid (k<512/\(0<=i->k=i.toNat%512)):=⟨hk,b⟩;have h:(k:Int)<=512:=oM;have g:IntKind.i64.wrap (4+(k:Int))=4+(k:Int):=by rw[pH];omega
 clear d f hk b
 go_wp2_with (refine c.mono ?_)
 rintro e V1 ⟨bd,rfl,d1,d2,d3,d4⟩;have HF:=Hid.mk' d4;clear c d4 c0 c1
 go_wp2_with (refine HF.mono ?_)
 rintro e V2 ⟨rfl,f1,f2⟩;have HM:=Hid.mk' f2;clear HF f2 d1 d2 d3
 go_wp2_with (refine HM.mono ?_)
 rintro e V3 ⟨ba,rfl,m1,m2,m3⟩;have HB:=Hid.mk' m3;clear HM m3
 go_wp2
 go_ret;exact⟨k,HK.1,HK.2,HB⟩
end
section
open Go.RowKit Go.Maps
section
variable {w0 W W':World} {bw n i:Nat} {S:Nat->Nat->Prop} {x:lC} {st:jc} {M:fm} {T K:cS} {d:cX} {sh:List jb} {ks:List Int}
theorem eV.up(h:eV w0 W bw n i S x st M T K d sh ks)(a:i<=j):eV w0 W bw n j S x st M T K d sh ks:=
 ⟨h.fam,h.below,h.bw0,h.hs,h.arc,h.dsk,h.tree,h.shr,h.sht,h.keep,h.n4,h.nN,by have:=h.nk;omega,lZ h.nh (Nat.mul_le_mul_left _ a),by have:=h.ns;omega⟩
theorem DJ(m a:Int)(f g:Nat)(c e h k l:Value)(vd:Bool):(fS (wR m f g c e h) k l vd).setIfInBounds 0 (.int .i64 a)=fS (wR a f g c e h) k l vd:=rfl
theorem Fr(f:Int)(g h:Nat)(a c m e k l:Value)(vd:Bool):(fS (wR f g h a c m) k l vd).setIfInBounds 6 e=fS (wR f g h a c e) k l vd:=rfl
theorem eV.size(h:eV w0 W bw n i S x st M T K d sh ks)(oa:Int):eV w0 (W.setCell (yA bw 0) (.int .i64 oa)) bw n i S {x with sz:=oa} st M T K d sh ks/\mG W bw S (W.setCell (yA bw 0) (.int .i64 oa)) S:=by
 obtain⟨W6,a⟩:=eX (W.setCell (yA bw 0) (.int .i64 oa));rw[<-a];have hs:cq (·=bw) W W6:=by rw[a];exact(cq.refl (·=bw) W).setCell (yA bw 0) rfl _
 have off:∀{k q},S k q->¬q=bw:=λhk e=>(h.fam.hi _ _ hk).2.2 e
 have b:Below w0.heap.size W W6:=hs.below (λq hq=>hq▸h.bw0) h.below.size;refine⟨⟨h.fam.grow hs.size,h.below.trans b,h.bw0,⟨?_,rfl,h.hs.nb,h.hs.txt.on hs (λq hq=>off (h.hs.txt.2 q hq)),h.hs.sum.on hs (λq hq=>off (h.hs.sum.2 q hq)),h.hs.ap,h.hs.len⟩,h.arc.on hs (λq hq=>off hq),h.dsk.on hs (λq hq=>off hq),h.tree.on hs (λq hq=>off (h.tree.2 q hq)),h.shr.on hs (λq hq=>off (h.shr.2 q hq)),λy hy=>(h.sht y hy).on hs (λq hq=>off ((h.sht y hy).2 q hq)),h.keep.on hs (λq hq=>off (h.keep.2 q hq)),h.n4,h.nN,h.nk,h.nh,h.ns⟩,hs.weak (λq hq=>.inl hq),λk _ hq=>.inl ⟨k,hq⟩⟩;rw[a,gE W bw 0 _ _ _ h.hs.row];exact Ce (λc=>some (Obj.cells c _ (0,0))) (DJ _ _ _ _ _ _ _ _ _ _)
theorem eV.keepT(h:eV w0 W bw n i S x st M T K d sh ks){C:Nat}(r:cq (S 7) W W9)(hv:W9.ownsRow C 3 1 v ks'.length (ks'.map (Value.int .i64)))(p:∀q,v.ownBlock=some q->S 7 q\/W.heap.size<=q)(u:ks'.length<=i):
  W9.heap[bw]?=some (.cells (fS x.R x.tv x.ssv st.2.2) 37 (0,0))/\∃S',eV w0 (W9.setCell (yA bw 6) v) bw n i S' {x with kv:=v} st M T K d sh ks'/\mG W bw S (W9.setCell (yA bw 6) v) S':=by
 have g:=h.bwl;obtain⟨W6,b⟩:=eX (W9.setCell (yA bw 6) v);have f:W9.heap[bw]?=some (.cells (fS x.R x.tv x.ssv st.2.2) 37 (0,0)):=by rw[r.block bw g (λe=>(h.fam.hi 7 bw e).2.2 rfl)];exact h.hs.row
 refine⟨f,?_⟩;rw[<-b];have a:cq (λq=>q=bw\/S 7 q) W W6:=by rw[b];exact(r.weak (λq hq=>.inr hq)).setCell (yA bw 6) (.inl rfl) _
 have j:W6.heap.size=W9.heap.size:=by rw[b];simp
 have l:∀q,v.ownBlock=some q->q<W9.heap.size:=λq hq=>(cr hv q hq).2
 have o:∀q,v.ownBlock=some q->q≠bw:=λq hq e=>by
  rcases p q hq with e2|e2
  .exact(h.fam.hi 7 q e2).2.2 e
  .omega
 have hf:=h.fam.put 7 (λq=>v.ownBlock=some q) a.size h.below.size g (λq hq=>⟨p q hq,j▸l q hq⟩);have m:Below w0.heap.size W W6:=a.below (λq hq=>by rcases hq with e|e;exact(by have:=h.bw0;omega);exact(h.fam.hi 7 q e).1) h.below.size;refine⟨jV S 7 (λq=>v.ownBlock=some q),⟨hf,h.below.trans m,h.bw0,?_,?_,?_,?_,?_,λy hy=>?_,?_,h.n4,h.nN,u,h.nh,h.ns⟩,a.weak (λq hq=>by rcases hq with e|e;exact .inl e;exact .inr ⟨7,e⟩),λk q hq=>?_⟩
 .rw[cH _ _ (by decide)];refine⟨?_,rfl,h.hs.nb,h.hs.txt.on a (λq hq=>h.fam.off (h.hs.txt.2 q hq) dE),h.hs.sum.on a (λq hq=>h.fam.off (h.hs.sum.2 q hq) dE),h.hs.ap,h.hs.len⟩;rw[b,gE W9 bw 6 _ _ _ f];exact Ce (λc=>some (Obj.cells c _ (0,0))) (Fr _ _ _ _ _ _ _ _ _ _)
 .rw[cH _ _ (by decide)];exact h.arc.on a (λq hq=>h.fam.off hq dE)
 .rw[cH _ _ (by decide)];exact h.dsk.on a (λq hq=>h.fam.off hq dE)
 .rw[cH _ _ (by decide)];exact h.tree.on a (λq hq=>h.fam.off (h.tree.2 q hq) dE)
 .rw[cH _ _ (by decide)];exact h.shr.on a (λq hq=>h.fam.off (h.shr.2 q hq) dE)
 .rw[cH _ _ (by decide)];exact(h.sht y hy).on a (λq hq=>h.fam.off ((h.sht y hy).2 q hq) dE)
 .rw[eu];exact⟨cI (fq hv (fP _)) (λq hq=>b▸lq _ _ _ _ (o q hq)),λq hq=>hq⟩
 by_cases e:k=7
 .subst e;rw[eu]at hq;exact(p q hq).imp (λe=>⟨7,e⟩) (λe=>e)
 rw[cH _ _ e]at hq;exact .inl ⟨k,hq⟩
structure Re (w0 W:World) (bw n i:Nat) (S:Nat->Nat->Prop) (st:jc) (M:fm) (T K:cS) (d:cX) (sh:List jb) (V:World) (g m c:Nat):Prop where
 all:∃S' x' ks',mG W bw S V S'/\eV w0 V bw n i S' x' st M T K d sh ks'
theorem eV.keepA(h:eV w0 V bw n i S3 x st M T K d sh ks)(G:mG W bw S V S3)(F:Ed V bw S3 b ok oa s t)(H:ks.length+1<=i)(I:i<=100000)(k:Nat):
  ∃g' m' c' w',(Builtin.append_ #[34,34] 34 #[x.kv,.slice (yS V.heap.size 0) 1 1]).run prog (V.drew.alloc (.cells #[.int .i64 k] 3))=.ok (.slice (yS g' 0) m' c') w'/\w'.cell? (yA b 1)=some (.int .i64 oa)/\w'.cell? (yA bw 6)=some x.kv/\w'.frozen? (yA bw 6)=false/\(w'.setCell (yA bw 6) (.slice (yS g' 0) m' c')).cell? (yA b 1)=some (.int .i64 oa)/\Re w0 W bw n i S st M T K d sh (w'.setCell (yA bw 6) (.slice (yS g' 0) m' c')) g' m' c':=by
 obtain⟨i0,A,o,r,B⟩:=Ba Dx;obtain⟨W2,f⟩:=eX (V.drew.alloc (.cells #[.int .i64 k] 3));have a:Below V.heap.size V W2:=by rw[f];exact((dw V.heap.size V).drew).alloc (cO _) _
 have g:W2.heap[V.heap.size]?=some (.cells #[.int .i64 k] 3 (0,0)):=f▸dM V.drew _;have h2:=h.on a;have hz:=a.size;rw[<-f]
 obtain⟨v',w',r1,r2,r3,-,r5⟩:=Jl (P:=prog) W2 0 34 34 3 i0 (.int .i64 0) 1 8 underlying34 A o r B rfl dE x.kv _ _ h2.keep.1 (yA V.heap.size 0) 1 1 [.int .i64 k] rfl (λj u hj=>by
   have e1:((yA V.heap.size 0):Addr).add j=(yA V.heap.size j):=by unfold Addr.add;split<;>simp_all
   rw[e1,cG g]
   simpa using hj) (by intro u hu;simp at hu;rcases hu with rfl;rfl) (by unfold maxLen;omega) oM (fP _)
 have l:w'.ownsRow 0 3 1 v' (ks++[(k:Int)]).length ((ks++[(k:Int)]).map (Value.int .i64)):=by rw[qA,Cw,ir,qf];exact r2
 have m:cq (S3 7) V w':=((cq.of_below a:cq (λ_=>False) V W2).weak (λ_ e=>e.elim)).trans (cq.of_grown r3 (λq hq=>h.keep.2 q hq))
 have w:∀q,v'.ownBlock=some q->S3 7 q\/V.heap.size<=q:=λq hq=>by
  rcases r5 with e|e
  .exact .inl (h.keep.2 q (e▸hq))
  rw[e]at hq;cases hq;exact .inr hz
 obtain⟨q1,S6,q2,q3⟩:=h.keepT (ks':=ks++[(k:Int)]) (v:=v') (W9:=w') (C:=0) m l w (by rw[ir,qf];exact H);have z:=cm F.row;have D:=F.on (.below a)
 have p:w'.cell? (yA b 1)=some (.int .i64 oa):=by
  have e1:w'.heap[b]?=some (.cells (pZ ok oa s t) 40 (0,0)):=by rw[m.block b z (F.ns 7)];exact F.row
  exact cG e1
 have c:(w'.setCell (yA bw 6) v').cell? (yA b 1)=some (.int .i64 oa):=cG (F.on q3).row;rcases l.2 with⟨-,hn⟩|⟨g',c',E,y,-⟩
 .rw[ir,qf]at hn;omega
 rw[y]at r1 q2 q3 c;exact⟨g',_,c',w',r1,p,by rw[cG q1];rfl,fH w' bw 6 _ _ q1,c,⟨S6,_,_,G.trans q3,q2⟩⟩
end
def KY(w0 W:World)(bw n i:Nat)(S:Nat->Nat->Prop)(st:jc)(M:fm)(d:cX)(sh:List jb)(e:Ending)(W':World):Prop:=
 e=.returned (.bool true)/\∃S' x' T' K' ks',mG W bw S W' S'/\eV w0 W' bw n (i+1) S' x' st M T' K' d sh ks'/\mU n M T' K' d (sh.map (·.T))
theorem DD.st{w0 W a:World}{bw n i:Nat}{S:Nat->Nat->Prop}{st:jc}{M:fm}{c:cS}{d:cX}{sh:List jb}{ks:List Int}{e:Ending}{W':World}(h:DD w0 a bw n i S st M c d sh ks e W')(f:Below W.heap.size W a):KY w0 W bw n i S st M d sh e W':=by
 obtain⟨h1,S',x',T',K',-,h2,h3,h4⟩:=h;exact⟨h1,S',x',T',K',ks,(mG.below f).trans h2,h3.up (Nat.le_succ _),h4⟩
end
section
open Go.RowKit Go.Maps
variable {st:jc}
theorem tq{S:Nat->Nat->Prop}{x:lC}{c:List jb}(h:eV w0 W bw n i S x st M T K d c ks)(k a:Int)(s t:ByteArray):
  Ed (W.alloc (.cells (pZ k a s t) 40)) bw S W.heap.size k a s t:=
 ⟨dM _ _,by have:=h.bwl;omega,λj hj=>by have:=(h.fam.hi j _ hj).2.1;omega⟩
theorem Ed.all4{S:Nat->Nat->Prop}{k a:Int}(h:Ed V bw S b k a s t):V.cell? (yA b 0)=some (.int .i64 k)/\V.cell? (yA b 1)=some (.int .i64 a)/\V.cell? (yA b 2)=some (.string s)/\V.cell? (yA b 3)=some (.string t):=
 ⟨cG h.row,cG h.row,cG h.row,cG h.row⟩
theorem oH(w0:World)(W:World)(bw n i:Nat)(S:Nat->Nat->Prop)(x:lC)(st:jc)(M:fm)(T K q:cS)(d:cX)(p:List jb)(ks:List Int)(k m:Int)(s t:ByteArray)(r:Bool)(u:k=2\/k=3\/k=4)(h:eV w0 W bw n i S x st M T K d p ks)(o:∀V,Below W.heap.size W V->Calls prog 31 #[yP bw,sV k m s t] V λe W'=>DD w0 V bw n i S st M q d p ks e W'):
  Calls prog 18 #[yP bw,sV k m s t,.bool r] W λe W'=>∃V,Below W.heap.size W V/\DD w0 V bw n i S st M q d p ks e W':=by
 have c:=tq h k m s t;have a:Below W.heap.size W (W.alloc (.cells (pZ k m s t) 40)):=(dw _ _).alloc (cO _) _;obtain⟨W1,f⟩:=eX (W.alloc (.cells (pZ k m s t) 40));rw[<-f]at c a;obtain⟨b,hb⟩:=eX (W.heap.size);rw[<-hb]at c;obtain⟨o0,o1,o2,o3⟩:=c.all4;have j:=hD (lp W1 bw x.bd (h.on a).cells.1);have g:=hD (o W1 a);have l:=Hid.mk' a;clear h o c a;rcases u with rfl|rfl|rfl
 all_goals
  go_enter func18,ntmps18;go_upto_region 1 with fail
  rw[<-f,<-hb];clear f hb
  go_wp2_with (first|(go_at_call 20;refine j.mono ?_;rintro e w2 ⟨rfl,rfl⟩)|(go_at_call 31;refine g.mono ?_;rintro e w3 ⟨rfl,hC⟩;have HC:=Hid.mk' hC;clear hC o0 o1 o2 o3))
  go_ret;exact⟨W1,l,rfl,HC⟩
theorem Ac(w0:World)(W:World)(bw n i:Nat)(S:Nat->Nat->Prop)(x:lC)(st:jc)(M:fm)(T K:cS)(d:cX)(j:List jb)(ks:List Int)(g:Int)(s t:ByteArray)(h:eV w0 W bw n i S x st M T K d j ks)(k:mU n M T K d (j.map (·.T))):
  Calls prog 18 #[yP bw,sV 1 g s t,.bool false] W λe W'=>KY w0 W bw n i S st M d j e W':=by
 have a:=tq h 1 g s t;have c:Below W.heap.size W (W.alloc (.cells (pZ 1 g s t) 40)):=(dw _ _).alloc (cO _) _;obtain⟨W1,f⟩:=eX (W.alloc (.cells (pZ 1 g s t) 40));rw[<-f]at a c;obtain⟨b,hb⟩:=eX (W.heap.size);rw[<-hb]at a;obtain⟨o0,o1,o2,o3⟩:=a.all4;have h1:=h.on c;have c0:=h1.cell 0;have f0:=fH W1 bw 0 _ _ h1.hs.row;obtain⟨q1,q2⟩:=h1.size g;have HG:Hid (KY w0 W bw n i S st M d j (.returned (.bool true)) (W1.setCell (yA bw 0) (.int .i64 g))):=⟨rfl,S,_,T,K,ks,(mG.below c).trans q2,q1.up (K0 _),k⟩;clear h k a c h1 q1 q2;go_enter func18,ntmps18;go_upto_region 1 with fail
 rw[<-f,<-hb];clear f hb
 go_wp2_with fail
 go_ret;exact HG
theorem AJ(w0:World)(W:World)(bw n i:Nat)(S:Nat->Nat->Prop)(x:lC)(st:jc)(M:fm)(T K:cS)(d:cX)(q:List jb)(ks:List Int)(p:Int)(s t:ByteArray)(h:eV w0 W bw n i S x st M T K d q ks)(u:mU n M T K d (q.map (·.T)))(r:yD p)(v:i<=70000):
  Calls prog 18 #[yP bw,sV 7 p s t,.bool false] W λe W'=>KY w0 W bw n i S st M d q e W':=by
 have a:=tq h 7 p s t;have f:Below W.heap.size W (W.alloc (.cells (pZ 7 p s t) 40)):=(dw _ _).alloc (cO _) _;obtain⟨W1,g⟩:=eX (W.alloc (.cells (pZ 7 p s t) 40));rw[<-g]at a f;obtain⟨b,hb⟩:=eX (W.heap.size);rw[<-hb]at a;obtain⟨o0,o1,o2,o3⟩:=a.all4;have h1:=h.on f;have c6:=h1.cells.2.2.2.2.1;have m:=hD (lp W1 bw x.bd h1.cells.1);have j:Hid (Calls prog 33 #[.int .i64 p,.int .i64 200] W1.drew λe w'=>∃k:Nat,e=.returned (.int .i64 k)/\k<200/\W1.drew=w'):=by refine(FP p 200 W1.drew r dE dE).mono ?_;rintro e w' ⟨k,hk,rfl,-,rfl⟩;exact⟨k,rfl,hk,rfl⟩
 have c:=λk:Nat=>(h1.up (K0 i)).keepA (W:=W) (S:=S) (.below f) a (by have:=h.nk;omega) oM k
 have c:=Hid.mk' c;have o:=Hid.mk' u;clear h u a f h1 r;go_enter func18,ntmps18;go_upto_region 1 with fail
 rw[<-g,<-hb];clear g hb
 go_wp2_with (first|(go_at_call 20;refine m.mono ?_;rintro e w2 ⟨rfl,rfl⟩))
 refine kQ (Kd _ (λV=>V.cell? (yA b 1)=some (.int .i64 p)) (λk=>k<200) (Re w0 W bw n (i+1) S st M T K d q) b bw p x.kv W1 o1 (λV O hV=>by rw[vY _ _ _ (by rw[hV];rfl)];exact hV) (λV hV=>hV) c6 (λO=>by rw[vY _ _ _ (by rw[c6];rfl)];exact c6) j (λk _=>c k) (λV k g' m' c' hX uB hU=>?_));refine nU hU ?_;obtain⟨S',x',l,r1,r2⟩:=hX.all;have HG:Hid (KY w0 W bw n i S st M d q (.returned (.bool true)) V):=⟨rfl,S',x',T,K,l,r1,r2,o⟩;clear hX r1 r2 c j c6
 go_wp2_with fail
 go_ret;exact HG
theorem zz(w0:World)(W:World)(bw n i:Nat)(S:Nat->Nat->Prop)(x:lC)(st:jc)(M:fm)(T K:cS)(d:cX)(j:List jb)(ks:List Int)(k l:Int)(s t:ByteArray)(o:k<1\/9<=k)(h:eV w0 W bw n i S x st M T K d j ks)(m:mU n M T K d (j.map (·.T))):
  Calls prog 18 #[yP bw,sV k l s t,.bool false] W λe W'=>KY w0 W bw n i S st M d j e W':=by
 have a:=tq h k l s t;have c:Below W.heap.size W (W.alloc (.cells (pZ k l s t) 40)):=(dw _ _).alloc (cO _) _;obtain⟨W1,f⟩:=eX (W.alloc (.cells (pZ k l s t) 40));rw[<-f]at a c;obtain⟨b,hb⟩:=eX (W.heap.size);rw[<-hb]at a;obtain⟨o0,o1,o2,o3⟩:=a.all4;have h1:=h.on c;have g:=hD (lp W1 bw x.bd h1.cells.1);have HG:Hid (KY w0 W bw n i S st M d j (.returned (.bool true)) W1):=⟨rfl,S,x,T,K,ks,.below c,h1.up (K0 _),m⟩;have e1:(k==1)=false:=by rw[tC];omega
 have e2:(k==2)=false:=by rw[tC];omega
 have e3:(k==3)=false:=by rw[tC];omega
 have e4:(k==4)=false:=by rw[tC];omega
 have e5:(k==5)=false:=by rw[tC];omega
 have e6:(k==6)=false:=by rw[tC];omega
 have e7:(k==7)=false:=by rw[tC];omega
 have e8:(k==8)=false:=by rw[tC];omega
 clear h m a c h1 o;go_enter func18,ntmps18;go_upto_region 1 with fail
 rw[<-f,<-hb];clear f hb
 go_wp2_with (first|(go_at_call 20;refine g.mono ?_;rintro e w2 ⟨rfl,rfl⟩))
 go_ret;exact HG
theorem MM(w0:World)(a:Nat->Addr)(j:Int)(l:eS w0 a j)(W:World)(bw n i:Nat)(S:Nat->Nat->Prop)(x:lC)(st:jc)(M:fm)(T K:cS)(d:cX)(c:List jb)(ks:List Int)(k f:Int)(s t:ByteArray)(r:k≠5)(u:k≠6)(v:k≠8)(h:eV w0 W bw n i S x st M T K d c ks)(g:mU n M T K d (c.map (·.T)))(m:yD f)(p:i<=70000)(o:s.size<=262144)(q:t.size<=262144):
  Calls prog 18 #[yP bw,sV k f s t,.bool false] W λe W'=>KY w0 W bw n i S st M d c e W':=by
 by_cases h1:k=1
 .subst h1;exact Ac w0 W bw n i S x st M T K d c ks f s t h g
 by_cases h2:k=2
 .subst h2;refine(oH w0 W bw n i S x st M T K _ d c ks 2 f s t false (.inl rfl) h (λV hV=>AZ w0 a j l V bw n i S x st M T K d c ks f s t (h.on hV) g o q)).mono ?_;rintro e W' ⟨V,hV,hC⟩;exact hC.st hV
 by_cases h3:k=3
 .subst h3;refine(oH w0 W bw n i S x st M T K _ d c ks 3 f s t false (.inr (.inl rfl)) h (λV hV=>CM w0 a j l V bw n i S x st M T K d c ks f s t (h.on hV) g o)).mono ?_;rintro e W' ⟨V,hV,hC⟩;exact hC.st hV
 by_cases h4:k=4
 .subst h4;refine(oH w0 W bw n i S x st M T K _ d c ks 4 f s t false (.inr (.inr rfl)) h (λV hV=>Aa w0 a j l V bw n i S x st M T K d c ks f s t (h.on hV) g o)).mono ?_;rintro e W' ⟨V,hV,hC⟩;exact hC.st hV
 by_cases h7:k=7
 .subst h7;exact AJ w0 W bw n i S x st M T K d c ks f s t h g m p
 exact zz w0 W bw n i S x st M T K d c ks k f s t oM h g
end
section
open Go.RowKit Go.Maps
section
variable {w0 W V W':World} {bw n i:Nat} {S:Nat->Nat->Prop} {x:lC} {st:jc} {M:fm} {T K:cS} {d:cX} {sh:List jb} {ks:List Int}
theorem eV.noop(h:eV w0 W bw n i S x st M T K d sh ks)(j:Nat)(v:Value)(f:(fS x.R x.tv x.ssv st.2.2).setIfInBounds j v=fS x.R x.tv x.ssv st.2.2):eV w0 (W.setCell (yA bw j) v) bw n i S x st M T K d sh ks:=by
 obtain⟨W6,a⟩:=eX (W.setCell (yA bw j) v);rw[<-a];have hs:cq (·=bw) W W6:=by rw[a];exact(cq.refl (·=bw) W).setCell (yA bw j) rfl _
 have off:∀{k q},S k q->¬q=bw:=λhk e=>(h.fam.hi _ _ hk).2.2 e
 have b:Below w0.heap.size W W6:=hs.below (λq hq=>hq▸h.bw0) h.below.size;refine⟨h.fam.grow hs.size,h.below.trans b,h.bw0,⟨?_,rfl,h.hs.nb,h.hs.txt.on hs (λq hq=>off (h.hs.txt.2 q hq)),h.hs.sum.on hs (λq hq=>off (h.hs.sum.2 q hq)),h.hs.ap,h.hs.len⟩,h.arc.on hs (λq hq=>off hq),h.dsk.on hs (λq hq=>off hq),h.tree.on hs (λq hq=>off (h.tree.2 q hq)),h.shr.on hs (λq hq=>off (h.shr.2 q hq)),λy hy=>(h.sht y hy).on hs (λq hq=>off ((h.sht y hy).2 q hq)),h.keep.on hs (λq hq=>off (h.keep.2 q hq)),h.n4,h.nN,h.nk,h.nh,h.ns⟩;rw[a,gE W bw j _ _ _ h.hs.row];exact Ce (λc=>some (Obj.cells c _ (0,0))) f
theorem EL(e:Int)(f k ba':Nat)(b c g h j:Value)(vd:Bool):(fS (wR e f k b c g) h j vd).setIfInBounds 2 (yP ba')=fS (wR e f ba' b c g) h j vd:=rfl
theorem Af(h:eV w0 V bw n i S x st M T K d sh ks)(p:cq (S 2) V W')(r:V.heap.size<=B)(s:B<=W'.heap.size)(t:N'<=100000)(u:cD W' (up (S 2) B) x.bd m' d')(v:d'.wait=[])(w:gn W' (λg=>V.heap.size<=g/\g<B) ba' x.bd N' rb' b0 b1 b2 b3 M'.at_ (M'.seq-1) M'.chain sv' false M'.has M'.infos T'):
  W'.heap[bw]?=some (.cells (fS x.R x.tv x.ssv st.2.2) 37 (0,0))/\∃S',eV w0 (W'.setCell (yA bw 2) (yP ba')) bw n i S' {x with ba:=ba',N:=N',rb:=rb',a0:=b0,a1:=b1,a2:=b2,a3:=b3,sv:=sv'} st M' T' K d' sh ks:=by
 have hz:=p.size;have j:=h.bwl;have k:W'.heap[bw]?=some (.cells (fS x.R x.tv x.ssv st.2.2) 37 (0,0)):=by rw[p.block bw j (λe=>(h.fam.hi 2 bw e).2.2 rfl)];exact h.hs.row
 refine⟨k,?_⟩;obtain⟨W6,b⟩:=eX (W'.setCell (yA bw 2) (yP ba'));rw[<-b];have f:cq (·=bw) W' W6:=by rw[b];exact(cq.refl (·=bw) W').setCell (yA bw 2) rfl _
 have o:W6.heap.size=W'.heap.size:=by rw[b];simp
 have a:cq (λq=>q=bw\/S 2 q) V W6:=(p.weak (λq hq=>.inr hq)).trans (f.weak (λq hq=>.inl hq));have l:cD W' (λq=>up (S 2) B q/\q<W'.heap.size) x.bd 0 d':=(u.zero v).tight
 have hf:=h.fam.put2 1 2 dE (λg=>V.heap.size<=g/\g<B) (λq=>up (S 2) B q/\q<W'.heap.size) a.size h.below.size j (λq hq=>⟨.inr hq.1,oM⟩) (λq hq=>⟨by rcases hq.1 with e|e;exact .inl e;exact .inr oM,oM⟩) (λq hq e=>by
  rcases e.1 with e1|e1
  .have:=(h.fam.hi 2 q e1).2.1;omega
  omega)
 have m:Below w0.heap.size V W6:=a.below (λq hq=>by rcases hq with e|e;exact(by have:=h.bw0;omega);exact(h.fam.hi 2 q e).1) h.below.size;refine⟨jV (jV S 1 (λg=>V.heap.size<=g/\g<B)) 2 (λq=>up (S 2) B q/\q<W'.heap.size),⟨hf,h.below.trans m,h.bw0,?_,?_,?_,?_,?_,λy hy=>?_,?_,h.n4,t,h.nk,h.nh,h.ns⟩⟩
 .rw[cH _ _ (by decide),cH _ _ (by decide)];refine⟨?_,rfl,h.hs.nb,h.hs.txt.on a (λq hq=>h.fam.off (h.hs.txt.2 q hq) dE),h.hs.sum.on a (λq hq=>h.fam.off (h.hs.sum.2 q hq) dE),h.hs.ap,h.hs.len⟩;rw[b,gE W' bw 2 _ _ _ k];exact Ce (λc=>some (Obj.cells c _ (0,0))) (EL _ _ _ _ _ _ _ _ _ _)
 .rw[cH _ _ (by decide),eu];exact w.on f (λq hq e=>by omega)
 .rw[eu]
  exact l.on f (λq hq e=>by
   rw[e]at hq;rcases hq.1 with e1|e1
   .exact(h.fam.hi 2 bw e1).2.2 rfl
   omega)
 .rw[cH _ _ (by decide),cH _ _ (by decide)];exact h.tree.on a (λq hq=>h.fam.off (h.tree.2 q hq) dE)
 .rw[cH _ _ (by decide),cH _ _ (by decide)];exact h.shr.on a (λq hq=>h.fam.off (h.shr.2 q hq) dE)
 .rw[cH _ _ (by decide),cH _ _ (by decide)];exact(h.sht y hy).on a (λq hq=>h.fam.off ((h.sht y hy).2 q hq) dE)
 rw[cH _ _ (by decide),cH _ _ (by decide)];exact h.keep.on a (λq hq=>h.fam.off (h.keep.2 q hq) dE)
end
theorem yM(w:World)(B:Nat)(f v:Value)(k:w.ownsRow B 3 1 f 0 [])(h:w.ownsRow 0 3 1 v 0 [])(l:B<=w.heap.size):
  ∃v' w',(Builtin.append_ #[34,34] 34 #[f,v]).run prog w=.ok v' w'/\w'.ownsRow B 3 1 v' 0 []/\w.grownBy w' f.ownBlock:=by
 obtain⟨i,hi,c,a,b⟩:=Ba Dx;rcases h.2 with⟨h1,-⟩|⟨g,d,e,hv,-⟩
 .rw[h1];exact⟨f,w,run_append_owned_none w B _ 34 3 i 1 underlying34 hi f 0 _ k,k,⟨rfl,rfl,rfl,cO _,λ_ _ _=>rfl⟩⟩
 rw[hv];obtain⟨v',w',r1,r2,r3,-⟩:=Jl (P:=prog) w B 34 34 3 i (.int .i64 0) 1 8 underlying34 hi c a b rfl dE f 0 [] k (yA g 0) 0 d [] rfl (λj u hj=>by cases hj) (λu hu=>by cases hu) (by unfold maxLen;omega) oM l;exact⟨v',w',r1,r2,r3⟩
section
variable {w0 W:World} {a:Nat->Addr} {mx:Int} {bw i:Nat} {S:Nat->Nat->Prop} {x:lC} {st:jc} {y:jb}
theorem DI(h:AL w0 W bw i S x st [y] []):
  ∃v' w',(Builtin.append_ #[34,34] 34 #[.slice (yS W.heap.size 0) 0 0,x.kv]).run prog (W.drew.alloc (.cells #[] 3))=.ok v' w'/\(w'.cell? (yA bw 1)=some (yP x.bd)/\w'.cell? (yA bw 6)=some x.kv)/\Calls prog 34 #[yP x.bd,v'] w' λe w2=>e=.returned (.tuple #[])/\(w2.cell? (yA bw 1)=some (yP x.bd)/\w2.cell? (yA bw 6)=some x.kv)/\AL w0 w2 bw i S x st [y] []:=by
 obtain⟨W2,b⟩:=eX (W.drew.alloc (.cells #[] 3));have a:Below W.heap.size W W2:=by rw[b];exact((dw W.heap.size W).drew).alloc (cO _) _
 have h2:=h.on a;have h0:W2.ownsRow W.heap.size 3 1 (.slice (yS W.heap.size 0) 0 0) 0 []:=by rw[b];exact World.ownsRow_lit W.drew #[] 0 (cO _) dE rfl
 rw[<-b];obtain⟨v',w',r1,r2,r3⟩:=yM W2 W.heap.size _ x.kv h0 h2.keep.1 a.size;have c:Below W.heap.size W w':=a.grown r3 a.size (λq hq=>by cases hq;exact cO _);have h3:=h.on c;obtain⟨ao,d,hv⟩:=cQ r2;refine⟨v',w',r1,⟨h3.cells.1,h3.cells.2.2.2.2.1⟩,?_⟩;rw[hv];refine(zJ x.bd 0 (S 2) D1 ao d w' h3.dsk ⟨rfl,rfl⟩ rfl).mono ?_;rintro e w2 ⟨rfl,hd,hs⟩;have h4:=h3.dskOn hd hs rfl;exact⟨rfl,⟨h4.cells.1,h4.cells.2.2.2.2.1⟩,h4⟩
end
end
section
open Go.RowKit Go.Maps
section
variable {w0 W:World} {a:Nat->Addr} {mx:Int} {bw i:Nat} {S:Nat->Nat->Prop} {x:lC} {st:jc} {y:jb}
def RM(w0:World)(bw i:Nat)(x:lC)(st:jc)(y:jb)(e:Ending)(W':World):Prop:=
 ∃ba',e=.returned (.tuple #[yP ba',.int .i64 0])/\W'.cell? (yA bw 2)=some (yP x.ba)/\W'.frozen? (yA bw 2)=false/\W'.cell? (yA bw 7)=some (.bool false)/\W'.frozen? (yA bw 7)=false/\∀W6,W6=(W'.setCell (yA bw 2) (yP ba')).setCell (yA bw 7) (.bool false)->∃S' x',x'.ba=ba'/\AL w0 W6 bw i S' x' st [y] []
theorem Pv(h:0<D1.safe.length):D1.at 0 h=iD 54:=by
 have h1:=L9;rw[pI h]at h1;exact kM h1
theorem GE(k:eS w0 a mx)(l:fL w0)(h:AL w0 W bw i S x st [y] []):
  Calls prog 26 #[yP x.bd] W λe W'=>RM w0 bw i x st y e W':=by
 have hc:=qb w0 a k.sent x.bd 0 54 (S 2) D1 W h.dsk h.below (λg hg=>(h.fam.hi 2 g hg).1) dE dE uz (Pv _) JK (h.envR l) ⟨rfl,rfl⟩ rfl dE (λg hg=>(h.fam.hi 2 g hg).2.1) (λM=>∃f,gB (df D1) f M=true) ⟨6,kR⟩ (Mt _) (by rw[Bo];exact .inr ⟨_,NL,dB,rfl,O9,Iu⟩) (Bo▸MI);rw[Bo]at hc;refine hc.mono ?_;rintro e W' ⟨hs,ba,B,N,rb,a0,a1,a2,a3,sv,m',rfl,j,b,hN,-,d,hA⟩;rw[Iu]at hA;obtain⟨hr,S',h3⟩:=Af h hs j b (by have:N<=5:=hN;omega) d rfl hA;refine⟨ba,rfl,cG hr,fH W' bw 2 _ _ hr,cG hr,fH W' bw 7 _ _ hr,λW6 c=>?_⟩;rw[c];exact⟨S',_,rfl,h3.noop 7 (.bool false) rfl⟩
theorem Kt(h:eV w0 W bw 54 i S x st M1 T1 [] D1 [y] [])(b:y.T=T1):
  ∃v' w',(Builtin.append_ #[32,32] 32 #[.slice none 0 0,y.v]).run prog W.drew=.ok v' w'/\eV w0 w' bw 54 i S x st M1 T1 [] D1 [y] []/\(∃g1 n1 c1,v'=.slice g1 n1 c1)/\∃S',AL w0 (w'.setCell (yA bw 3) v') bw i S' {x with trv:=v'} st [y] []:=by
 have hd:=h.on (W':=W.drew) ((dw _ _).drew);have ho:=(hd.sht y sI).1;rw[b]at ho;obtain⟨v',w',r1,r2,r3⟩:=oV W.drew W.heap.size 0 32 (.slice none 0 0) y.v (T1.map tk) ⟨rfl,.inl ⟨rfl,rfl⟩⟩ ho (by rw[Lw];decide) (cO _);have hb:Below W.heap.size W.drew w':=(dw W.heap.size W.drew).grown r3 (cO _) (λq hq=>by cases hq);have h2:=hd.on hb;obtain⟨ao,c,hv⟩:=cQ r2;obtain⟨-,S',q2,-⟩:=hd.turn (K':=T1) (v:=v') (W9:=w') (C:=W.heap.size) (cq.of_below hb) r2 (λq hq=>.inr (cr r2 q hq).1);exact⟨v',w',r1,h2,⟨_,_,_,hv⟩,S',q2⟩
theorem Js(L:eS w0 a mx)(M:fL w0)(H:y.T=T1)(I:y.label=xB)(J:y.root=o4)(h:AL w0 W bw i S x st [y] []):
  Calls prog 19 #[yP bw] W λe W'=>e=.returned (.bool true)/\∃S' x',AL w0 W' bw i S' x' st [y] []:=by
 have r:=Hid.mk' (DI h);have s0:W.drew.cell? (yA bw 1)=some (yP x.bd)/\W.drew.cell? (yA bw 6)=some x.kv:=⟨h.cells.1,h.cells.2.2.2.2.1⟩;have z:=Hid.mk' L;have p:=Hid.mk' M;have HY:Hid (y.T=T1/\y.label=xB/\y.root=o4):=⟨H,I,J⟩;clear L M H I J h;go_enter func19,ntmps19;go_upto_region 1 with fail
 refine kQ (LS _ (λV=>V.cell? (yA bw 1)=some (yP x.bd)/\V.cell? (yA bw 6)=some x.kv) (λV=>AL w0 V bw i S x st [y] []) bw x.bd x.kv W s0 (λV O hV=>⟨by rw[vY _ _ _ (by rw[hV.1];rfl)];exact hV.1,by rw[vY _ _ _ (by rw[hV.2];rfl)];exact hV.2⟩) (λV hV=>hV) r (λV1 v' hX uB hU=>?_));refine nU hU ?_;have k6:=hX.cells.2.2.2.2.1;have f6:=fH V1 bw 6 _ _ hX.hs.row;obtain⟨-,S2,q2,-⟩:=hX.keepT (ks':=[]) (v:=.slice none 0 0) (W9:=V1) (C:=0) (cq.refl _ _) ⟨rfl,.inl ⟨rfl,rfl⟩⟩ (λq hq=>by cases hq) (fP _);obtain⟨W2,l⟩:=eX (V1.setCell (yA bw 6) (.slice none 0 0));rw[<-l]at q2;have s:=Hid.mk' (GE z p q2);have d1:=q2.cells.1;clear hX q2 r s0;go_upto_region 3 with fail
 rw[<-l];clear l k6 f6
 go_wp2_with fail
 refine s.mono ?_;rintro e W3 ⟨F,rfl,k2,f2,k7,f7,hN⟩;have HN:=Hid.mk' hN;clear hN s d1;obtain⟨W4,f⟩:=eX ((W3.setCell (yA bw 2) (yP F)).setCell (yA bw 7) (.bool false));obtain⟨S4,x4,B,h4⟩:=HN W4 f;have g:=Hid.mk' h4;subst B;clear h4 HN;go_upto_region 11 with fail
 rw[<-f];clear f k2 f2 k7 f7;have A:=Hid.mk' (AM g)
 go_wp2_with fail
 refine A.mono ?_;rintro e W5 ⟨gi,ci,rfl,o,-,-,-,-,-,-⟩;have h5:=g.on o;obtain⟨gs,cs,c,d⟩:=Cs h5;have G:=Hid.mk' d;obtain⟨k4,-,-,-⟩:=d W5 h5;have k5:=h5.cell 5;have f5:=fH W5 bw 5 _ _ h5.hs.row;obtain⟨W6,m⟩:=eX (W5.setCell (yA bw 5) (.slice none 0 0));have h6:=h5.noop 5 (.slice none 0 0) rfl;rw[<-m]at h6;have k3:=h6.cells.2.2.1;have f3:=fH W6 bw 3 _ _ h6.hs.row;obtain⟨-,S7,h7,-⟩:=h6.turn (K':=[]) (v:=.slice none 0 0) (W9:=W6) (C:=0) (cq.refl _ _) ⟨rfl,.inl ⟨rfl,rfl⟩⟩ (λq hq=>by cases hq);obtain⟨W7,n⟩:=eX (W6.setCell (yA bw 3) (.slice none 0 0));rw[<-n]at h7;have k:=Hid.mk' (Kt h7 HY.1)
 have b:Hid (∀V (K:cS) (S':Nat->Nat->Prop) (x':lC),x'.shv=x4.shv->eV w0 V bw 54 i S' x' st M1 T1 K D1 [y] []->V.cell? (yA bw 4)=some (.slice (yS gs 0) 1 cs)/\V.cell? (yA gs 0)=some y.v):=λV K S' x' hx hV=>by
  have hc:=λj u hj=>PK hV.shr.1 (show x'.shv.ownBlock=some gs by rw[hx,c];rfl) j u hj
  exact⟨by rw[hV.cells.2.2.2.1,hx,c],hc 0 _ rfl⟩
 have t4:=(b W7 [] S7 {x4 with trv:=.slice none 0 0} rfl h7).1;have c3:=h7.cells.2.2.1;have t:=Hid.mk' h7;clear h5 h6 h7 d c o A g;go_upto_region 16 with fail
 rw[<-m];clear m k5 f5 k4;go_upto_region 17 with fail
 rw[<-n];clear n k3 f3;go_upto_region 18 with fail
 obtain⟨yv,E⟩:∃v,v=y.v:=⟨_,rfl⟩;rw[<-E]at k b;refine kQ (ID _ (λV=>V.cell? (yA bw 4)=some (.slice (yS gs 0) 1 cs)/\V.cell? (yA gs 0)=some yv) (λV=>∃S' x',AL w0 V bw i S' x' st [y] []) bw gs cs yv W7 (b W7.drew [] S7 {x4 with trv:=.slice none 0 0} rfl (t.on ((dw _ _).drew))) (λV hV=>hV) c3 ?_ (λV8 v' hX uB hU=>?_))
 .obtain⟨v',w',r1,r2,r3,S',r4⟩:=k;exact⟨v',w',r1,b w' [] S7 {x4 with trv:=.slice none 0 0} rfl r2,r2.cells.2.2.1,fH w' bw 3 _ _ r2.hs.row,r3,b _ _ _ {x4 with trv:=v'} rfl r4,S',_,r4⟩
 refine nU hU ?_;obtain⟨S8,x8,h8⟩:=hX;have w:=hD (LN z p y HY.1 HY.2.1 HY.2.2 h8);clear h8 k b t c3 t4
 go_wp2_with fail
 refine w.mono ?_;rintro e W9 ⟨rfl,h9,-⟩;have D:=Hid.mk' h9;clear h9 w
 go_wp2_with fail
 go_ret;exact⟨rfl,S8,x8,D⟩
end
end
end Go.Proofs.YtapijhhmjjplmaaGreatDoor

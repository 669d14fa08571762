import Derived.Test.YtapijhhmjjplmaaGreatDoorJonce38
namespace Go.Proofs.YtapijhhmjjplmaaGreatDoor
set_option linter.all false
set_option maxRecDepth 100000
set_option maxHeartbeats 4000000
open Go.Proofs.Tryz
variable {C:Array Value}{a0 a1 a2 a3 c' g:Nat}{S:Nat→Prop}{w':World}
section
open Go.RowKit Go.Maps
theorem vR(h:¬S a0/\¬S a1/\¬S a2/\¬S a3)(j:Nat)(a:j<=3):¬S (dA j a0 a1 a2 a3):=by
 rcases pM j a0 a1 a2 a3 a with e|e|e|e
 .rw[e];exact h.1
 .rw[e];exact h.2.1
 .rw[e];exact h.2.2.1
 rw[e];exact h.2.2.2
def Q0(w:World)(S:Nat->Prop)(bd m n:Nat)(d:cX)(e:Ending)(w':World):Prop:=e=.returned (.tuple #[.int .i64 n,.bool false])/\cD w' S bd m d/\cq S w w'
theorem qB(S:Nat->Prop)(bd m n N a0 a1 a2 a3:Nat)(d:cX)(has:List Ob)(w:World)(hD:cD w S bd m d)(aS:∀q,S q->q<w.heap.size)(hk:dG w (λ_=>True) N a0 a1 a2 a3 has)(aQ:¬S a0/\¬S a1/\¬S a2/\¬S a3)(aT:∀V,cq S w V->fL V)(hn:d.safe.length=n)(hb:n<=4096)(aU:∀s∈df d,s.size=64)(hob:∀o∈has,jf d o.at_ o.text.size o.sum/\o.text.size<=1000/\o.sum.size=32)(hN:N<=1000000):
  Calls prog 178 #[ng a0 a1 a2 a3,yP bd] w λe w'=>Q0 w S bd m n d e w':=by
 have aK:(n:Int)<=4096:=oM;have H:Hid ((prog.info? 131).map (·.size)=some 32):=by show _=_;kernel_rfl
 have aJ:Hid ((prog.info? 361).map (·.size)=some 2):=by show _=_;kernel_rfl
 obtain⟨W0,B⟩:=eX (w.alloc (.cells #[.map (some a0),.map (some a1),.map (some a2),.map (some a3)] 117));have u:Below w.heap.size w W0:=by rw[B];exact(dw _ _).alloc (cO _) _
 obtain⟨b2,g⟩:=eX (w.heap.size);have f:W0.heap[b2]?=some (.cells #[.map (some a0),.map (some a1),.map (some a2),.map (some a3)] 117 (0,0)):=by rw[B,g];exact dM w _
 have e0:W0.cell? (yA b2 0)=some (.map (some a0)):=cG f;have e1:W0.cell? (yA b2 1)=some (.map (some a1)):=cG f;have e2:W0.cell? (yA b2 2)=some (.map (some a2)):=cG f;have e3:W0.cell? (yA b2 3)=some (.map (some a3)):=cG f;have W:Hid (Calls prog 62 #[yP bd] W0 λe w'=>e=.returned (.int .i64 n)/\W0=w'):=by have hx:=gA bd m S d W0 (hD.on (T:=λ_=>False) (cq.of_below u) (λ_ _ h=>h));rw[hn]at hx;exact hx
 have H0:Hid (cD W0 S bd m d/\cq S w W0):=⟨hD.on (T:=λ_=>False) (cq.of_below u) (λ_ _ h=>h),cq.of_below u⟩;have a5:Hid (∀j wr,j<=3->cq S w wr->∃D,wr.ownsMap prog 131 cY (dA j a0 a1 a2 a3) N D/\gj D (lH has j)):=by intro j wr hj hs;have h1:=hk.at' j hj;have ay:=vR aQ j hj;exact h1.on (hs.block _ h1.lt ay)
 have P:Hid (∀j,j<=3->¬S (dA j a0 a1 a2 a3)/\dA j a0 a1 a2 a3<w.heap.size):=λj hj=>⟨vR aQ j hj,(hk.at' j hj).lt⟩
 have ao:Hid (∀(V:World)(o:Ob)(A:Array Value),cq S w V->cD V S bd m d->o∈has->A=(db o.sum).toArray->Calls prog 248 #[.agg #[.int .i64 o.at_,.int .i64 o.text.size],yP bd,.agg A] V λe w'=>I6 V S bd m d o.at_ o.text.size e w'):=by intro V o A hs hd ho hA;obtain⟨q1,q2,q3⟩:=hob o ho;have hx:=ru S bd m n o.at_ o.text.size d o.sum V hd (λV' aE=>aT V' (hs.trans aE)) hn hb aU oM q3 q1;rw[show dL o.sum=.agg A by rw[hA];rfl]at hx;exact hx
 have ag:Hid (∀o∈has,o.at_<=n/\o.text.size<=1000):=λo ho=>⟨by have:=(hob o ho).1.1;omega,(hob o ho).2.1⟩
 have aa:Hid ((∀q,S q->q<w.heap.size)/\N<=1000000):=⟨aS,hN⟩;have aH:=mZ;clear hD aS hk aQ aT hn hb aU hob hN u f;unfold ng;go_enter func178,ntmps178;go_upto_region 1 with fail
 rw[<-B,<-g];clear B g
 go_wp2_with (go_at_call 62;refine W.out.mono ?_;rintro e w1 ⟨rfl,rfl⟩)
 go_loopw [6,7,17] (λf_ b_ i_ wr=>∃j:Nat,j<=4/\f_=.int .i64 n/\b_=.bool false/\i_=.int .i64 j/\Hid (cD wr S bd m d/\cq S w wr)) (λ_ _ i_ _=>4-(intOf i_).toNat)
 .exact⟨0,fP _,rfl,rfl,rfl,H0⟩
 obtain⟨j,hj,rfl,rfl,rfl,HJ⟩:=hrel;clear H0 W e0 e1 e2 e3;by_cases aL:j<4
 .have aB:(j:Int)<4:=oM;have aM:(0:Int)<=j:=oM;obtain⟨pa,F⟩:=eX (dA j a0 a1 a2 a3);have ap:∀V,(Instr.index 117 (.agg #[.map (some a0),.map (some a1),.map (some a2),.map (some a3)]) (.int .i64 j)).run prog V=.ok (.map (some pa)) V:=by intro V;have:j=0\/j=1\/j=2\/j=3:=oM;rcases this with rfl|rfl|rfl|rfl<;>rw[F]<;>rfl
  obtain⟨D,M,X⟩:=a5.out j wr oM HJ.out.2;rw[<-F]at M;have Y:=Hid.mk' M;have ax:=Hid.mk' X;have aC:Hid (¬S pa/\pa<w.heap.size):=F▸P.out j oM;obtain⟨r,hr⟩:=eX (wr.heap.size);have HR:Hid (r=wr.heap.size/\w.heap.size<=r):=⟨hr,hr▸HJ.out.2.size⟩;have ae:Hid (∀w0,w0.ranges prog 131 cY pa r N D (Maps.has D) (Maps.size D)->wr.grownBy w0 none->QB w S bd m N r pa d D (Maps.has D) (Maps.size D) w0):=by intro w0 h1 h2;obtain⟨x1,x2⟩:=HJ.out;have C:cq (λ_=>False) wr w0:=⟨h2.os,h2.tape,h2.output,h2.size,λk hk _=>h2.block k hk sI⟩;exact⟨h1,λ_ h=>h,x1.on C (λ_ _ h=>h),x2.trans (C.weak λ_ h=>h.elim)⟩
  clear M X F a5 P HJ
  go_wp2_with (at_range;refine wpList_range_own _ rfl _ 115 rfl 131 361 kq NO cY pa N _ rfl Y.out ?_;intro w0 l a8 C;rw[<-hr]at l⊢;have H0:=Hid.mk' (ae.out w0 l a8);clear l a8 C)
  go_frame;clear hr;go_loopw [6,7] (λf_ b_ wi=>f_=.int .i64 n/\b_=.bool false/\Hid (∃b c,QB w S bd m N r pa d D b c wi)) (λ_ _ wi=>wi.rangeLeft pa r)
  .exact⟨rfl,rfl,_,_,H0.out⟩
  obtain⟨rfl,rfl,HX⟩:=hrel;obtain⟨b,c,hI⟩:=HX.out;have HI:=Hid.mk' hI;clear hI HX H0 ae Y ap;have az:=hD (uO has j)
  go_wp2_with (at_next;refine lX _ rfl _ rfl pa r N D (lH has j) ax.out az.out b c HI.out.lf rfl HI.out.rg ?_ ?_)
  .intro au am;have HE:Hid (cD wr S bd m d/\cq S w wr):=⟨HI.out.dk,HI.out.same⟩;clear au am
   go_wp2
   go_roundw
   .exact⟨j+1,oM,rfl,rfl,by go_num,HE⟩
   exact mS
  intro s A x y w1 t ab hA a aq I G U af aO
  obtain⟨o,Q,hx,hy⟩:∃o,cF has j s=some o/\x=(o.at_:Int)/\y=(o.text.size:Int):=by
   unfold lH at a;by_cases e:j=0
   .rw[dq e]at a;cases a
   rw[dj e]at a
   cases ho:cF has j s with
   |none=>rw[ho]at a;cases a
   |some o=>
    rw[ho]at a;have a:=kM a;unfold qC at a;injection a with a;have h1:=Ce (·[0]?) a;have h2:=Ce (·[1]?) a;simp at h1 h2;exact⟨o,rfl,h1.symm,h2.symm⟩
  subst hx;subst hy;obtain⟨J,-,a4⟩:=tE Q;have HO:Hid (o∈has/\A=(db o.sum).toArray):=⟨J,a4▸hA⟩;have hob:=ag.out o J;have aI:¬(n:Int)<o.at_:=oM;have aN:(o.text.size:Int)<=1000:=oM;have E:Hid (A.size=32/\A.all (·.oneCell')=true):=⟨by rw[hA,jO,cE,ab],Array.all_eq_true_iff_forall_mem.2 (λv hv=>by rw[hA]at hv;exact eA _ v (by simpa using hv))⟩
  have H1:Hid (w1.ranges prog 131 cY pa r N D (λz=>b z&&!z.sameKey (.string (bl s))) t/\t<c/\cD w1 S bd m d/\cq S w w1/\r<w1.heap.size):=by
   have h:=HI.out;have a9:=my U;have L:¬S r:=λe=>by have:=aa.out.1 r e;have:=HR.out.2;omega
   have:r<wr.heap.size:=h.rg.lt;refine⟨I,G,h.dk.on a9 (λq hq e=>L (e▸hq)),h.same.then (a9.weak λq e=>.inr (by have:=HR.out.2;omega)),af▸this⟩
  have aA:Hid (∀V2 V3:World,V2=(w1.alloc (.cells fN 131)).alloc (.cells #[.int .i64 0,.int .i64 0] 361)->V3=V2.setRow w1.heap.size A->V3.cell? (yA (w1.heap.size+1) 0)=some (.int .i64 0)/\V3.cell? (yA (w1.heap.size+1) 1)=some (.int .i64 0)/\V3.frozen? (yA (w1.heap.size+1) 0)=false/\V3.frozen? (yA (w1.heap.size+1) 1)=false/\Hid (((V3.setCell (yA (w1.heap.size+1) 0) (.int .i64 o.at_)).setCell (yA (w1.heap.size+1) 1) (.int .i64 o.text.size)).heap[w1.heap.size]?=some (.cells A 131 (0,0))/\((V3.setCell (yA (w1.heap.size+1) 0) (.int .i64 o.at_)).setCell (yA (w1.heap.size+1) 1) (.int .i64 o.text.size)).heap[w1.heap.size+1]?=some (.cells #[.int .i64 o.at_,.int .i64 o.text.size] 361 (0,0))/\Below w1.heap.size w1 ((V3.setCell (yA (w1.heap.size+1) 0) (.int .i64 o.at_)).setCell (yA (w1.heap.size+1) 1) (.int .i64 o.text.size)))):=by
   intro V2 V3 e2 e3;have g:Below w1.heap.size w1 V2:=by rw[e2];exact((dw _ _).alloc (cO _) _).alloc sI _
   have an:V2.heap[w1.heap.size]?=some (.cells fN 131 (0,0)):=by rw[e2];exact(iy w1 _ _).1
   have av:V2.heap[w1.heap.size+1]?=some (.cells #[.int .i64 0,.int .i64 0] 361 (0,0)):=by rw[e2];exact(iy w1 _ _).2
   have i:V3.heap[w1.heap.size+1]?=some (.cells #[.int .i64 0,.int .i64 0] 361 (0,0)):=by rw[e3,l7 _ _ _ _ (by omega)];exact av
   have aD:V3.heap[w1.heap.size]?=some (.cells A 131 (0,0)):=e3▸ja _ _ _ _ _ _ an;have ac:Below w1.heap.size w1 V3:=e3▸cC g (cO _) _;refine⟨cG i,cG i,fH _ _ _ _ _ i,fH _ _ _ _ _ i,?_,?_,?_⟩
   .rw[lq _ _ _ _ (by show w1.heap.size≠w1.heap.size+1;omega),lq _ _ _ _ (by show w1.heap.size≠w1.heap.size+1;omega)];exact aD
   .rw[gE _ _ 1 _ _ _ (gE _ _ 0 _ _ _ i)];rfl
   have hs:cq (λq=>q=w1.heap.size+1) V3 ((V3.setCell (yA (w1.heap.size+1) 0) (.int .i64 o.at_)).setCell (yA (w1.heap.size+1) 1) (.int .i64 o.text.size)):=((cq.refl (λq=>q=w1.heap.size+1) V3).setCell (yA (w1.heap.size+1) 0) rfl _).setCell (yA (w1.heap.size+1) 1) rfl _;exact ac.trans ⟨hs.os,hs.tape,hs.output,hs.size,λk hk=>hs.block k (by have:=ac.size;omega) oM⟩
  have ah:Hid (∀V,cq S w1 V->cD V S bd m d->(∃b c,QB w S bd m N r pa d D b c V)/\V.rangeLeft pa r<wr.rangeLeft pa r):=by
   intro V O ak;obtain⟨x1,x2,x3,x4,x5⟩:=H1.out;have L:¬S r:=λe=>by have:=aa.out.1 r e;have:=HR.out.2;omega
   have Z:=Ax x1 (O.block _ x1.owns.lt aC.out.1) (O.block _ x5 L);exact⟨⟨_,t,⟨Z,λkl h=>HI.out.lf kl (by simp only[Dj]at h;exact h.1),ak,x4.trans O⟩⟩,by rw[Z.left_eq,HI.out.rg.left_eq];exact x2⟩
  clear I G U af aq a ab hA Q J a4 hob;have K:Hid (∀V,Below w1.heap.size w1 V->cq S w1 V/\cD V S bd m d/\cq S w V):=λV hV=>⟨cq.of_below hV,H1.out.2.2.1.on (T:=λ_=>False) (cq.of_below hV) (λ_ _ h=>h),H1.out.2.2.2.1.trans (cq.of_below hV)⟩
  go_wp2_with (first|(refine cu rfl 131 _ _ rfl w1.heap.size A rfl rfl 131 fN (iy w1 _ _).1 (by rw[E.out.1];exact H.out) (by rw[E.out.1];rfl) E.out.2 ?_;intro V3 ad;obtain⟨aF,ai,ar,aG,p⟩:=aA.out _ V3 rfl ad.out;clear ad)|(refine vk rfl 131 _ rfl w1.heap.size rfl 131 A (0,0) _ p.out.1 kb rfl (by rw[E.out.1];exact H.out) ?_))
  refine(ao.out _ o A (K.out _ p.out.2.2).2.2 (K.out _ p.out.2.2).2.1 HO.out.1 HO.out.2).mono ?_;rintro e w5 ⟨a7,a6,rfl⟩;have HN:=ah.out w5 ((K.out _ p.out.2.2).1.trans a6) a7;have al:=Hid.mk' HN.1;have aj:=Hid.mk' HN.2;clear HN a7 a6 p aF ai ar aG
  go_wp2_with fail
  go_roundw
  .exact⟨rfl,rfl,al⟩
  exact aj.out
 have aB:¬(j:Int)<4:=oM;have HE:Hid (Q0 w S bd m n d (.returned (.tuple #[.int .i64 n,.bool false])) wr):=⟨rfl,HJ.out.1,HJ.out.2⟩
 go_wp2
 refine gh (lB rfl _ _ _) rfl ?_;exact HE.out
def QO(w:World)(Sd:Nat->Prop)(bd m:Nat)(d:cX)(e:Ending)(w':World):Prop:=e=.returned .nilIface/\cD w' Sd bd m d/\cq Sd w w'
theorem AA(S j:Nat->Prop)(p l m n N I t u v a3 C D r:Nat)(J:Value)(K:Bool)(d:cX)(has:List Ob)(infos:List jR)(T:cS)(w:World)(h:gn w S p l N I t u v a3 C D r J K has infos T)(E:cD w j l m d)(y:∀q,j q->q<w.heap.size)(k:∀q,S q->¬j q)(B:iY w j)(F:d.safe.length=n)(G:n<=4096)(z:∀s∈df d,s.size=64)(A:∀o∈has,jf d o.at_ o.text.size o.sum/\o.text.size<=1000/\o.sum.size=32)(H:N<=1000000):
  Calls prog 103 #[yP p] w λe w'=>QO w j l m d e w':=by
 have a:¬j t/\¬j u/\¬j v/\¬j a3:=⟨k _ h.kn.s.1,k _ h.kn.s.2.1,k _ h.kn.s.2.2.1,k _ h.kn.s.2.2.2⟩;have g:∀V,cq j w V->V.cell? (yA p 4)=some (.map (some t))/\V.cell? (yA p 5)=some (.map (some u))/\V.cell? (yA p 6)=some (.map (some v))/\V.cell? (yA p 7)=some (.map (some a3))/\V.cell? (yA p 0)=some (yP l):=λV B=>by have ht:=h.tab.on B (k _ h.sb);exact⟨ht.cell oM,ht.cell oM,ht.cell oM,ht.cell oM,ht.cell oM⟩
 have c:cq j w w.drew:=(cq.refl _ w).drew;have f:Calls prog 178 #[.agg #[.map (some t),.map (some u),.map (some v),.map (some a3)],yP l] w.drew λe w'=>∃(x:Nat)(b:Bool),e=.returned (.tuple #[.int .i64 x,.bool b])/\cq j w w'/\(b=false/\cD w' j l m d/\cq j w w'):=by have hx:=qB j l m n N t u v a3 d has w.drew (E.on (T:=λ_=>False) (cq.refl _ w).drew (λ_ _ h=>h)) y ((h.kn.mono (λ_ _=>trivial)).onA c a.1 a.2.1 a.2.2.1 a.2.2.2) a (λV i=>B V (c.trans i)) F G z A H;refine iM hx ?_;rintro e w' ⟨rfl,x2,x3⟩;exact⟨n,false,rfl,c.trans x3,rfl,x2,c.trans x3⟩
 clear h E y k B F G z A H a;go_enter func103,ntmps103;go_upto_region 1 with fail
 refine kQ (Ln _ (λV=>cq j w V) (λx b w'=>b=false/\cD w' j l m d/\cq j w w') p l t u v a3 w c g f (λx b w1 hX uB hU=>?_));obtain⟨rfl,hX⟩:=hX;refine nU hU ?_;have HX:=Hid.mk' hX;clear hX f g c
 go_wp2
 go_ret;exact⟨rfl,HX⟩
end
section
open Go.RowKit
theorem Eh(A:Array Value)(c:A.size=32):prog.built 366 [(1,.int .u8 3),(2,.agg A)]=some (.string ⟨#[]⟩::.int .u8 3::A.toList).toArray:=by
 have hp:∃it z b a,prog.info? 366=some it/\prog.underlying 366=some (.struct b)/\it.zero=some z/\b.toList.mapM (λf=>(prog.info? f.type).map λi=>(f.offset,i.size))=some a/\a=[(0,1),(1,1),(2,32)]/\z.cells=ic:=by
  have h1:((prog.info? 366).bind λit=>it.zero.map λz=>z.cells)=some ic:=kR;have hu:=BH
  cases hi:prog.info? 366 with
  |none=>rw[hi]at h1;cases h1
  |some it=>
   rw[hi]at h1
   cases hz:it.zero with
   |none=>simp[hz]at h1
   |some z=>
    simp[hz]at h1;exact⟨it,z,_,[(0,1),(1,1),(2,32)],rfl,hu,hz,kR,rfl,h1⟩
 obtain⟨it,z,b,a,h1,h2,h3,h4,h5,h6⟩:=hp;unfold Program.built;rw[h1,h2];simp only[h3,h4];rw[h6,h5,tA [(1,.int .u8 3),(2,.agg A)] 1 ic ⟨rfl,by show _=some (2,A.size);rw[c];rfl,trivial⟩ (by show 1+([Value.int .u8 3]++(A.toList++[])).length<=34;simp[c])];have e:jQ [(1,Value.int .u8 3),(2,.agg A)]=Value.int .u8 3::A.toList:=by show([Value.int .u8 3]++(A.toList++[]))=_;simp
 rw[e];have e2:ic.toList.take 1=[Value.string ⟨#[]⟩]:=rfl;rw[e2,A9 (by simp[c])];simp
end
section
open Go.RowKit Go.Maps
structure DW (w:World) (S:Nat->Prop) (bd m b N a0 a1 a2 a3 b6 b8:Nat) (d:cX) (has:List Ob) (x:gS) (wr:World):Prop where
 arc:ed wr S bd m b N a0 a1 a2 a3 d has
 same:cq S w wr
 r6:wr.heap[b6]?=some (.cells ic 366 (0,0))
 r8:wr.heap[b8]?=some (.cells (gp x).toArray 366 (0,0))
 x32:x.sum.size=32
section
variable {w wr V:World} {S:Nat->Prop} {bd m b N a0 a1 a2 a3 b6 b8:Nat} {d:cX} {has:List Ob} {x:gS}
theorem DW.on(h:DW w S bd m b N a0 a1 a2 a3 b6 b8 d has x wr)(a:cq S wr V)(c:cD V S bd m d)(e:¬S b6)(f:¬S b8):DW w S bd m b N a0 a1 a2 a3 b6 b8 d has x V:=
 ⟨h.arc.on a c,h.same.trans a,by rw[a.block _ (cm h.r6) e];exact h.r6,by rw[a.block _ (cm h.r8) f];exact h.r8,h.x32⟩
theorem DW.below(h:DW w S bd m b N a0 a1 a2 a3 b6 b8 d has x wr)(a:Below wr.heap.size wr V):DW w S bd m b N a0 a1 a2 a3 b6 b8 d has x V:=
 ⟨h.arc.below a,h.same.trans (cq.of_below a),by rw[a.block _ (cm h.r6)];exact h.r6,by rw[a.block _ (cm h.r8)];exact h.r8,h.x32⟩
theorem DW.go(h:DW w S bd m b N a0 a1 a2 a3 b6 b8 d has x wr){y:gS}(g:C=(gp y).toArray)(i:y.sum.size=32)(a:b6≠b8)(j:b<w.heap.size/\a0<w.heap.size/\a1<w.heap.size/\a2<w.heap.size/\a3<w.heap.size)(c:∀q,S q->q<w.heap.size)(k:w.heap.size<=b8)(f:V=wr.setRow b8 C):DW w S bd m b N a0 a1 a2 a3 b6 b8 d has y V:=by
 have hs:cq (·=b8) wr V:=f▸fQ _ _ _;have l8:=cm h.r8;refine⟨h.arc.up hs (λq hq e=>by have:=c q hq;omega) oM oM oM oM oM,h.same.then (hs.weak λq e=>.inr oM),by rw[hs.block _ (cm h.r6) a];exact h.r6,?_,i⟩;rw[f,<-g];exact ja _ _ _ _ _ _ h.r8
end
end
section
open Go.RowKit Go.Maps
structure OQ (d:cX) (has:List Ob) (rt:ByteArray) (names:List ByteArray) (X:Nat->gS):Prop where
 x0:X 0=⟨⟨#[]⟩,true,rt⟩
 dir:∀j,j<names.length->(X j).dir=true/\(X (j+1)).dir=false
 good:∀j,j<names.length->jf d (cJ has 3 (X j).sum).1 (cJ has 3 (X j).sum).2 (X j).sum/\fO (gu d (cJ has 3 (X j).sum).1 (cJ has 3 (X j).sum).2)=some [X (j+1)]
 nm:∀j (h:j<names.length),(X (j+1)).name=names[j]
def Lj(w:World)(S:Nat->Prop)(bd m b N a0 a1 a2 a3:Nat)(d:cX)(has:List Ob)(x:gS)(e:Ending)(w':World):Prop:=
 ed w' S bd m b N a0 a1 a2 a3 d has/\cq S w w'/\x.sum.size=32/\e=.returned (.tuple #[.agg (gp x).toArray,.nilIface])
theorem ux(S:Nat->Prop)(bd m b N a0 a1 a2 a3 n:Nat)(sn:Int)(d:cX)(has:List Ob)(infos:List jR)(sv nv:Value)(bk:List ByteArray)(w:World)(h:ed w S bd m b N a0 a1 a2 a3 d has)(hV:iY w S)(hn:d.safe.length=n)(hb:n<=4096)(bG:∀s∈df d,s.size=64)(bH:∀k s,(cJ has k s).2<=6000)(bu:∀q,S q->q<w.heap.size)(bw:w.cell? (yA b 3)=some sv)(bm:w.ownsRow 0 133 33 sv infos.length (fG infos))(bI:∀q,sv.ownBlock=some q->¬S q)(bs:∀i∈infos,i.root.size=32)(bN:infos.length<=100000)(bx:gt w nv bk)(bJ:bk.length<=1)(s0:Nat)(bK:sn=(s0:Int)+1)(bB:s0<infos.length)(X:Nat->gS)(hW:OQ d has infos[s0].root bk X):
  Calls prog 231 #[yP b,.int .i64 sn,nv] w λe w'=>Lj w S bd m b N a0 a1 a2 a3 d has (X bk.length) e w':=by
 obtain⟨cs,a8,-⟩:=h.row;have ad:b<w.heap.size/\a0<w.heap.size/\a1<w.heap.size/\a2<w.heap.size/\a3<w.heap.size:=⟨cm a8,h.kn.k0.lt,h.kn.k1.lt,h.kn.k2.lt,h.kn.k3.lt⟩;have ax:=Hid.mk' ad;have az:=Hid.mk' bu;have a:Hid ((prog.info? 366).map (·.size)=some 34):=by show _=_;kernel_rfl
 have a7:Hid ((prog.info? 131).map (·.size)=some 32):=by show _=_;kernel_rfl
 have bj:Hid (prog.built 366 []=some ic):=by show _=_;kernel_rfl
 obtain⟨b6,D⟩:=eX (w.heap.size);obtain⟨W0,u⟩:=eX (w.alloc (.cells ic 366));have o:Below w.heap.size w W0:=by rw[u];exact(dw _ _).alloc (cO _) _
 have Q:W0.heap[b6]?=some (.cells ic 366 (0,0)):=by rw[u,D];exact dM w _
 obtain⟨ao,cc,rfl⟩:=cQ bm;obtain⟨k,hk⟩:=eX (infos.length);rw[<-hk]at bm bw;have bb:(k:Int)<=100000:=oM;have aY:W0.cell? (yA b 3)=some (.slice ao k cc):=by rw[o.cell (pr bw)];exact bw
 have K:ed W0 S bd m b N a0 a1 a2 a3 d has:=h.below o;have H0:Hid (ed W0 S bd m b N a0 a1 a2 a3 d has/\cq S w W0/\W0.heap[b6]?=some (.cells ic 366 (0,0))/\W0.heap.size=w.heap.size+1):=⟨K,cq.of_below o,Q,by rw[u];simp⟩;have bg:=hD D;have b0:Hid (∀V (jj:Nat) (A:Array Value),jj<bk.length->ed V S bd m b N a0 a1 a2 a3 d has->cq S w V->(X jj).sum.size=32->A=(db (X jj).sum).toArray->Calls prog 223 #[yP b,.agg A] V λe w'=>za V S bd m b N a0 a1 a2 a3 d has [X (jj+1)] e w'):=by intro V jj A ak x1 x2 x3 x4;have hg:=hW.good jj ak;have hx:=jP S bd m b N a0 a1 a2 a3 n d has (X jj).sum [X (jj+1)] V x1 (hV.on x2) hn hb bG (bH 3 _) x3 hg.1 hg.2 sI (by simpa using(hW.dir jj ak).2);rw[show dL (X jj).sum=.agg A by rw[x4];rfl]at hx;exact hx
 have aD:Hid (∀j,j<bk.length->(X (j+1)).sum.size=32):=λj hj=>((mC (hW.good j hj).2).1 _ sI).2.1
 have b3:Hid (∀V,Below w.heap.size w V->∀(j:Nat)(x:ByteArray),bk[j]?=some x->∃g c,nv=.slice (yS g 0) bk.length c/\V.cell? (yA g j)=some (.string x)):=by
  intro V hs j x hx;obtain⟨hj,hx⟩:=List.getElem?_eq_some_iff.1 hx;subst hx;rcases bx with⟨e,-⟩|⟨g,c,hv,-,hg,hc⟩
  .rw[e]at hj;cases hj
  exact⟨g,c,hv,by rw[hs.cell hg];exact hc j hj⟩
 obtain⟨no,nc,rfl⟩:∃no nc,nv=.slice no bk.length nc:=by
  rcases bx with⟨e,ao,c,hv⟩|⟨g,c,hv,-⟩
  .exact⟨ao,c,by rw[hv,e];rfl⟩
  exact⟨_,c,hv⟩
 obtain⟨q,hq⟩:=eX (bk.length);have HQ:=hD hq;rw[<-hq]at bJ;have b9:(q:Int)<=8:=oM;rw[<-hq];have aq:s0<k:=oM;obtain⟨gq,bh,aI,-,aA,a9⟩:=kr bm aq;have aZ:ao=some (yA gq 0):=by injection aI
 subst aZ;have F:((fG infos).drop (s0*33)).take 33=jA infos[s0]:=ou jA 33 infos (λy hy=>jN y (bs y hy)) s0 bB;rw[F]at a9;obtain⟨rt,W⟩:=eX (infos[s0].root);have t:rt.size=32:=W▸bs _ (mX _);obtain⟨A,hA⟩:=eX ((db rt).toArray);have T:A.size=32:=by rw[hA,jO,cE,t]
 have a5:W0.rangeAt gq (s0*33) A.toList:=by intro i v hv;rw[o.cell aA];refine a9 i v ?_;rw[hA]at hv;show(db infos[s0].root++[.string infos[s0].label])[i]?=some v;rw[<-W,FD (List.getElem?_eq_some_iff.1 hv).1];exact hv
 have a6:=Hid.mk' a5;have aH:Hid (A.size=32/\A.toList.toArray=A/\A.toList.length=32):=⟨T,sI,by rw[gf,T]⟩;obtain⟨x0,G⟩:=eX (⟨⟨#[]⟩,true,rt⟩:gS);obtain⟨C0,M⟩:=eX ((gp x0).toArray)
 have L:Hid (prog.built 366 [(1,.int .u8 3),(2,.agg A)]=some C0/\C0.size=34/\C0.all (·.oneCell')=true):=by
  have e:C0=(Value.string ⟨#[]⟩::.int .u8 3::A.toList).toArray:=by rw[M,G,hA];rfl
  refine⟨e▸Eh A T,by rw[M,jO];exact ef x0 (G▸t),Array.all_eq_true_iff_forall_mem.2 (λv hv=>gR x0 v (by rw[M]at hv;simpa using hv))⟩
 obtain⟨b8,J⟩:=eX (W0.heap.size);have aF:W0.heap.size=w.heap.size+1:=by rw[u];simp
 have ab:Hid (∀V,V=(W0.alloc (.cells ic 366)).setRow b8 C0->DW w S bd m b N a0 a1 a2 a3 b6 b8 d has x0 V/\Below w.heap.size w V):=by
  intro V hV;have P:Below W0.heap.size W0 V:=by rw[hV,J];exact cC ((dw _ _).alloc (cO _) _) (cO _) _
  refine⟨⟨K.below P,(cq.of_below o).trans (cq.of_below P),by rw[P.block _ (cm Q)];exact Q,?_,G▸t⟩,o.trans (P.mono o.size)⟩;rw[hV,J,<-M];exact ja _ _ _ _ _ _ (dM W0 _)
 have H:Hid (b6=w.heap.size/\b8=w.heap.size+1/\¬S b6/\¬S b8):=⟨D,by rw[J,aF],λe=>by have:=bu _ e;omega,λe=>by have:=bu _ e;omega⟩;have a4:x0=X 0:=by rw[G,hW.x0,W]
 rw[a4]at ab;have aG:=Hid.mk' hW;have bi:(s0:Int)<k:=oM;have bf:((s0:Int)).toNat=s0:=oM;have b7:=yH;have aa:W0.heap.size=b8:=J.symm;subst bK;clear h hV bm bI bs bx o K ad a8 bu bw aA a9 aI F W t hA T a5 G M aF Q hk hq hW a4;go_enter func231,ntmps231;go_upto_region 1 with fail
 refine eR (λV=>Hid (V=W0)) u.symm ?_;intro V0 aC;rw[aC.out,<-D];clear u aC D
 go_step3
 go_upto_region 4 with(first|(refine su rfl 131 _ rfl gq (s0*33) rfl A.toList _ a6.out kb rfl (by rw[aH.out.2.2];exact a7.out) ?_;rw[BO])|(refine QP rfl 366 _ rfl _ rfl C0 (by simp only[IW,vj,J6];exact L.out.1) ?_)|(refine N0 rfl (some 8) rfl (yP W0.heap.size) (.cells ic 366) kR ?_)|(refine cu rfl 366 _ _ rfl W0.heap.size C0 rfl rfl 366 ic (dM W0 _) (by rw[L.out.2.1];exact a.out) (by rw[L.out.2.1];rfl) L.out.2.2 ?_;intro V4 am))
 have ae:=Hid.mk' (ab.out V4 (by rw[<-aa];exact am.out));clear am ab a6 L aH aY;go_frame
 go_step3
 try rw[aa]
 clear aa J
 go_wp2
 go_loopw [40] (λi_ wr=>∃j:Nat,j<=q/\i_=.int .i64 j/\Hid (DW w S bd m b N a0 a1 a2 a3 b6 b8 d has (X j) wr)/\Hid (j=0->Below w.heap.size w wr)) (λi_ _=>q-(intOf i_).toNat)
 .exact⟨0,fP _,rfl,ae.out.1,λ_=>ae.out.2⟩
 obtain⟨j,hj,rfl,HI,aR⟩:=hrel;have hI:=HI.out;obtain⟨x,ai⟩:=eX (X j);rw[<-ai]at HI hI;have U:=Hid.mk' ai;clear ae ai;by_cases ad:j<q
 .have aT:(j:Int)<q:=oM;have ah:j<bk.length:=by have:=HQ.out;omega
  obtain⟨nm,ac⟩:=eX (bk[j]);obtain⟨g3,ba,av,aW⟩:=b3.out wr (aR.out oM) j nm (by rw[ac];exact pI ah);have aQ:no=some (yA g3 0):=by injection av
  subst aQ;have Y:wr.cell? (yA b8 1)=some (.int .u8 (eG x:Int)):=cG hI.r8;have aB:x.dir=true:=by rw[U.out];exact(aG.out.dir j ah).1
  have af:=Hid.mk' ah;have ay:=hD ac
  .have aK:eG x=3:=by unfold eG;rw[aB];rfl
   rw[aK]at Y;have Y:wr.cell? (yA b8 1)=some (.int .u8 3):=Y;obtain⟨A1,O⟩:=eX ((db x.sum).toArray);have aX:Hid (A1.toList.length=32):=by show _=_;rw[O];show(db x.sum).length=32;rw[cE,hI.x32]
   have aM:Hid (wr.rangeAt b8 2 A1.toList):=by intro i v hv;rw[cG hI.r8,<-kX];show((.string x.name:Value)::.int .u8 (eG x:Int)::db x.sum)[2+i]?=some v;rw[Gb,A6,A6];rw[O]at hv;exact hv
   have aL:=Hid.mk' (b0.out wr j A1 af.out hI.arc hI.same (U.out▸hI.x32) (by rw[O,U.out]));clear hI ac av aB aK O
   go_wp2_with (refine su rfl 131 _ rfl b8 2 rfl A1.toList _ aM.out kb rfl (by rw[aX.out];exact a7.out) ?_;rw[BO])
   refine aL.out.mono ?_;rintro e w5 ⟨g1,g2,g4⟩;have b1:=Hid.mk' (HI.out.on g2 g1.dsk H.out.2.2.1 H.out.2.2.2);have bc:Hid (wr.heap.size<=w5.heap.size/\w.heap.size<=wr.heap.size):=⟨g2.size,HI.out.same.size⟩;clear g1 g2 aL aM HI Y;obtain⟨v,rfl,z⟩:=g4
   .obtain⟨aP,c5,rfl⟩:=cQ z;rw[show[X (j+1)].length=1 from rfl]at z⊢;obtain⟨q5,b5,aJ,-,-,f⟩:=kr z (show 0<1 by decide);have al:aP=some (yA q5 0):=by injection aJ
    subst al;obtain⟨y,hy⟩:=eX (X (j+1));have r:y.sum.size=32:=hy▸aD.out j af.out;rw[<-hy]at z f;rw[oe (l:=[y]) (by simpa using r) 0 (by simp)]at f;have be:(y.name.toList==nm.toList)=true:=by rw[fI,EP,hy,ay.out];exact aG.out.nm j af.out
    have b2:=Hid.mk' hy;have b4:Hid (∀V,Below w5.heap.size w5 V->V.rangeAt q5 0 (gp y)):=λV hb i v hv=>by have hc:=f i v hv;have aj:=(cr z q5 rfl).2;rw[hb.cell aj];exact hc
    clear z aW aJ f hy
    go_wp2
    go_loopw [62] (λi_ wi=>i_=.int .i64 0/\Hid (DW w S bd m b N a0 a1 a2 a3 b6 b8 d has x wi/\Below w5.heap.size w5 wi)) (λ_ _=>0)
    .exact⟨rfl,b1.out,dw _ _⟩
    obtain⟨rfl,HX⟩:=hrel
    .have f:=b4.out _ HX.out.2;obtain⟨C,hC⟩:=eX ((gp y).toArray);have E:C.toList=gp y:=by rw[hC]
     have B:C.size=34:=by rw[<-gf,E];exact ef y r
     have HC:Hid (C.toList.length=34/\C.size=34/\C.all (·.oneCell')=true/\C=(gp y).toArray/\y.sum.size=32):=⟨by rw[gf,B],B,Array.all_eq_true_iff_forall_mem.2 (λv hv=>gR y v (by rw[<-E];simpa using hv)),hC,r⟩;have Z:Hid (wr.rangeAt q5 0 C.toList):=E▸f;have ap:Hid (∀V1,V1=(wr.alloc (.cells ic 366)).setRow wr.heap.size C->DW w S bd m b N a0 a1 a2 a3 b6 b8 d has x V1/\V1.heap[wr.heap.size]?=some (.cells C 366 (0,0))/\V1.cell? (yA wr.heap.size 0)=some (.string y.name)):=by intro V1 h1;have aS:Below wr.heap.size wr V1:=h1▸cC ((dw _ _).alloc (cO _) _) (cO _) _;have aN:V1.heap[wr.heap.size]?=some (.cells C 366 (0,0)):=h1▸ja _ _ _ _ _ _ (dM wr _);exact⟨HX.out.1.below aS,aN,by rw[cG aN,<-kX,E];rfl⟩
     clear f hC E B r;go_upto_region 15 with(first|(refine su rfl 366 _ rfl q5 0 rfl C.toList _ Z.out BH rfl (by rw[HC.out.1];exact a.out) ?_;rw[BO])|(refine cu rfl 366 _ _ rfl wr.heap.size C rfl rfl 366 ic (dM wr _) (by rw[HC.out.2.1];exact a.out) (by rw[HC.out.2.1];rfl) HC.out.2.2.1 ?_;intro V1 an))
     obtain⟨y1,y3,y4⟩:=ap.out V1 an.out;have ag:=Hid.mk' y1;have aV:=Hid.mk' y3;clear y1 y3 an ap Z
     go_wp2_with (first|(refine vk rfl 366 _ rfl wr.heap.size rfl 366 C (0,0) _ aV.out BH rfl (by rw[HC.out.2.1];exact a.out) ?_)|(refine cu rfl 366 _ _ rfl b8 C rfl rfl 366 (gp x).toArray ag.out.r8 (by rw[HC.out.2.1];exact a.out) (by rw[HC.out.2.1,jO];exact ef x ag.out.x32) HC.out.2.2.1 ?_;intro V2 au))
     have HN:=Hid.mk' (ag.out.go HC.out.2.2.2.1 HC.out.2.2.2.2 (by have:=H.out;omega) ax.out az.out (by have:=H.out.2.1;omega) au.out);clear au;go_roundw
     case rel=>
      repeat apply Exists.intro
      refine⟨?_,rfl⟩;exact⟨j+1,oM,by go_num,b2.out▸HN.out,λe=>by omega⟩
     exact mS
 have aT:¬(j:Int)<q:=oM;obtain⟨Cx,I⟩:=eX ((gp x).toArray);have ar:wr.heap[b8]?=some (.cells Cx 366 (0,0)):=I▸hI.r8;have B:Cx.size=34:=by rw[I,jO];exact ef x hI.x32
 have p:Hid (Cx.size=34/\Cx.all (·.oneCell')=true/\wr.heap[b8]?=some (.cells Cx 366 (0,0))/\wr.heap[b6]?=some (.cells ic 366 (0,0))):=⟨B,Array.all_eq_true_iff_forall_mem.2 (λv hv=>gR x v (by rw[I]at hv;simpa using hv)),ar,hI.r6⟩
 have aU:Hid (∀V7,V7=wr.setRow b6 Cx->Lj w S bd m b N a0 a1 a2 a3 d has (X q) (.returned (.tuple #[.agg Cx,.nilIface])) V7/\V7.heap[b6]?=some (.cells Cx 366 (0,0))):=by
  intro V7 h7;have hs:cq (·=b6) wr V7:=h7▸fQ _ _ _;have hl:=ax.out;have h6:=H.out.1;have aE:x=X q:=by rw[U.out,show j=q by omega]
  refine⟨⟨hI.arc.up hs (λq hq e=>by have:=az.out q hq;omega) oM oM oM oM oM,hI.same.then (hs.weak λq e=>.inr oM),aE▸hI.x32,by rw[I,aE]⟩,h7▸ja _ _ _ _ _ _ hI.r6⟩
 clear hI I ar B HI
 go_wp2_with (first|(refine vk rfl 366 _ rfl b8 rfl 366 Cx (0,0) _ p.out.2.2.1 BH rfl (by rw[p.out.1];exact a.out) ?_)|(refine cu rfl 366 _ _ rfl b6 Cx rfl rfl 366 ic p.out.2.2.2 (by rw[p.out.1];exact a.out) (by rw[p.out.1];rfl) p.out.2.1 ?_;intro V7 aO))
 have HW:=Hid.mk' (aU.out V7 aO.out)
 try rw[Exit.noGoto_ret]
 refine gh (dX rfl _ _ b6 (.agg Cx) rfl (zo _ _ 366 366 _ (0,0) _ HW.out.2 BH rfl (by rw[p.out.1];exact a.out))) rfl ?_;exact HW.out.1
end
section
open Go.RowKit Go.Maps
structure A4 (w w5:World) (S:Nat->Prop) (bd m b N a0 a1 a2 a3:Nat) (d:cX) (has:List Ob) (l:List gS) (lv:Value) (i:Nat) (es:List (ByteArray×Bool×Nat)) (v:Value) (wr:World):Prop where
 arc:ed wr S bd m b N a0 a1 a2 a3 d has
 same:cq S w wr
 lnk:wr.ownsRow 0 366 34 lv l.length (fM l)
 ll:∀q,lv.ownBlock=some q->w.heap.size<=q/\q<w5.heap.size
 own:wr.ownsRow w5.heap.size 52 3 v es.length (eE es)
 le:es.length=i
 s5:w5.heap.size<=wr.heap.size/\w.heap.size<=w5.heap.size
section
variable {w w5 wr V:World} {S:Nat->Prop} {bd m b N a0 a1 a2 a3 i:Nat} {d:cX} {has:List Ob} {l:List gS} {lv v:Value} {es:List (ByteArray×Bool×Nat)}
theorem A4.on(h:A4 w w5 S bd m b N a0 a1 a2 a3 d has l lv i es v wr)(a:∀q,S q->q<w.heap.size)(c:cq S wr V)(f:ed V S bd m b N a0 a1 a2 a3 d has):A4 w w5 S bd m b N a0 a1 a2 a3 d has l lv i es v V:=
 ⟨f,h.same.trans c,cU h.lnk c (λq e e2=>by have:=(h.ll q e).1;have:=a q e2;omega),h.ll,cU h.own c (λq e e2=>by have:=(cr h.own q e).1;have:=a q e2;have:=h.s5.2;omega),h.le,⟨lZ h.s5.1 c.size,h.s5.2⟩⟩
theorem A4.below(h:A4 w w5 S bd m b N a0 a1 a2 a3 d has l lv i es v wr)(a:∀q,S q->q<w.heap.size)(c:Below wr.heap.size wr V):A4 w w5 S bd m b N a0 a1 a2 a3 d has l lv i es v V:=h.on a (cq.of_below c) (h.arc.below c)
theorem A4.app{k:Nat}{x:ByteArray×Bool×Nat}(h:A4 w w5 S bd m b N a0 a1 a2 a3 d has l lv i es v wr)(f:∀q,S q->q<w.heap.size)(n:b<w.heap.size/\a0<w.heap.size/\a1<w.heap.size/\a2<w.heap.size/\a3<w.heap.size)(c:w'.ownsRow w5.heap.size 52 3 (.slice (yS k 0) (es.length+1) c') (es.length+1) (eE es++[.string x.1,.bool x.2.1,.int .i64 x.2.2]))(j:(wr.alloc (.cells C 52)).grownBy w' v.ownBlock):
  A4 w w5 S bd m b N a0 a1 a2 a3 d has l lv (i+1) (es++[x]) (.slice (yS k 0) (es.length+1) c') w':=by
 have a:Below wr.heap.size wr (wr.alloc (.cells C 52)):=(dw _ _).alloc (cO _) _;have sA:cq (λq=>v.ownBlock=some q) wr w':=(cq.of_below a).trans (cq.of_grown j (λq e=>e));have hv:∀q,v.ownBlock=some q->w5.heap.size<=q:=λq e=>(cr h.own q e).1
 have h5:=h.s5;have nv:∀q,q<w5.heap.size->v.ownBlock≠some q:=λq hq e=>by have:=hv q e;omega
 refine⟨h.arc.up sA (λq hq=>nv q (by have:=f q hq;omega)) (nv _ oM) (nv _ oM) (nv _ oM) (nv _ oM) (nv _ oM),h.same.then (sA.weak λq e=>.inr (by have:=hv q e;omega)),cU h.lnk sA (λq e=>nv q (h.ll q e).2),h.ll,xu (x:=x) c,by rw[ir,h.le];rfl,⟨lZ h5.1 sA.size,h5.2⟩⟩
theorem A4.put(h:A4 w w5 S bd m b N a0 a1 a2 a3 d has l lv i es v wr)(c:∀q,S q->q<w.heap.size)(j:b<w.heap.size/\a0<w.heap.size/\a1<w.heap.size/\a2<w.heap.size/\a3<w.heap.size)(k:w5.heap.size<=g)(f:v.ownBlock≠some g)(a:cq (·=g) wr V):A4 w w5 S bd m b N a0 a1 a2 a3 d has l lv i es v V:=by
 have h5:=h.s5;refine⟨h.arc.up a (λq hq e=>by have:=c q hq;omega) oM oM oM oM oM,h.same.then (a.weak λq e=>.inr oM),cU h.lnk a (λq e e2=>by have:=(h.ll q e).2;omega),h.ll,cU h.own a (λq e e2=>f (by rw[e,e2])),h.le,⟨lZ h5.1 a.size,h5.2⟩⟩
end
end
end Go.Proofs.YtapijhhmjjplmaaGreatDoor

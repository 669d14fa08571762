import Derived.Test.YtapijhhmjjplmaaGreatDoorJonce32
namespace Go.Proofs.YtapijhhmjjplmaaGreatDoor
set_option linter.all false
set_option maxRecDepth 100000
set_option maxHeartbeats 4000000
open Go.Proofs.Tryz
variable {s t:ByteArray}{g:Nat}{p0 bv:Value}{w W wr V w':World}
section
open Go.RowKit Go.Maps
theorem rC(S:Nat->Prop)(g ba N a0 a1 a2 a3 N2 f0 f1 f2 f3 k:Nat)(bu:List Value)(has:List Ob)(D:lI)(p0 bv:Value)(t:ByteArray)(w:World)(h:j0 w S g ba N a0 a1 a2 a3 N2 f0 f1 f2 f3 bu has D p0 bv)(bJ:∀V,cq (λq=>S q\/q=ba) w V->fL V)(h1:1<=k)(h3:k<=3)(bK:N2<=100000)(bL:D.at_<=1000000)(bM:D.seq<=1000000)(bN:D.chain<4294967296)(bO:t.size<=60000)(bP:D.whole.size<=5000000):
  Calls prog 236 #[yP g,.int .u8 k,.string t] w λe w'=>FL w S g ba N a0 a1 a2 a3 N2 f0 f1 f2 f3 bu has D k t e w':=by
 obtain⟨T,hT⟩:=eX (λq=>S q/\q<w.heap.size:Nat->Prop);have b5:∀q,T q->q<w.heap.size:=by rw[hT];exact λq h=>h.2
 have aN:∀q,T q->S q:=by rw[hT];exact λq h=>h.1
 have hD:j0 w T g ba N a0 a1 a2 a3 N2 f0 f1 f2 f3 bu has D p0 bv:=hT▸h.cut;obtain⟨lb,l0,l1,l2,l3⟩:=hD.lts;obtain⟨A,hA⟩:=eX ((db (cV t)).toArray);have aj:dL (cV t)=.agg A:=by rw[hA];rfl
 have aJ:A.size=32:=by rw[hA,jO,cE,el]
 have x:Hid ((prog.info? 131).map (·.size)=some 32):=by show _=_;kernel_rfl
 have c:Hid ((prog.info? 131).map (·.size)=some A.toList.length/\A.toList.toArray=A/\A.size=32/\A.all (·.oneCell')=true):=⟨by rw[gf,aJ];kernel_rfl,sI,aJ,Array.all_eq_true_iff_forall_mem.2 (λv hv=>by rw[hA]at hv;exact eA _ v (by simpa using hv))⟩;have aP:=c.out.1;obtain⟨W1,ao⟩:=eX (w.alloc (.cells fN 131));have ap:Below w.heap.size w W1:=by rw[ao];exact(dw _ _).alloc (cO _) _
 have r1:W1.heap[w.heap.size]?=some (.cells fN 131 (0,0)):=ao▸dM w _;have ay:Hid (Calls prog 107 #[.string t] W1 λe w'=>e=.returned (.agg A)/\Below W1.heap.size W1 w'):=by have:=tV t W1 (bJ W1 (cq.of_below ap)) oM;rw[aj]at this;exact this
 have B:Hid (∀V V6 T' D' N' af av,j0 V T' g ba N a0 a1 a2 a3 N' f0 f1 f2 f3 bu has D' af av->N'<=N2+1->(∀q,T' q->up T w.heap.size q/\q≠w.heap.size)->cq (λq=>T q\/q=ba) w V->D'=kO has D k t->V6=V.setRow w.heap.size A->FL w S g ba N a0 a1 a2 a3 N2 f0 f1 f2 f3 bu has D k t (.returned (.agg A)) V6):=by intro V V6 T' D' N' af av e1 e2 e3 e4 e5 e6;have P:cq (·=w.heap.size) V V6:=e6▸fQ _ _ _;refine⟨by rw[aj],(e4.then (P.weak λq hq=>.inr oM)).weak (λq hq=>hq.elim (λh=>.inl (aN q h)) .inr),af,av,?_⟩;rw[<-e5];exact((e1.on P (λq hq e=>(e3 q hq).2 e) oM ⟨oM,oM,oM,oM⟩).upN e2).grow (λq hq=>(e3 q hq).1.elim (λh=>.inl (aN q h)) .inr) (λe=>e.elim h.nb (λe=>by omega)) ⟨λe=>e.elim h.na.1 (λe=>by omega),λe=>e.elim h.na.2.1 (λe=>by omega),λe=>e.elim h.na.2.2.1 (λe=>by omega),λe=>e.elim h.na.2.2.2 (λe=>by omega)⟩
 have Q:Hid (∀q,T q->q<w.heap.size):=b5;have ai:Hid (j0 W1 T g ba N a0 a1 a2 a3 N2 f0 f1 f2 f3 bu has D p0 bv/\cq (λq=>T q\/q=ba) w W1/\W1.heap[w.heap.size]?=some (.cells fN 131 (0,0))):=⟨hD.below ap,cq.of_below ap,r1⟩;have u:Hid (1<=k/\k<=3/\N2<=100000/\D.at_<=1000000/\D.seq<=1000000/\D.chain<4294967296/\t.size<=60000/\D.whole.size<=5000000/\dL (cV t)=.agg A):=⟨h1,h3,bK,bL,bM,bN,bO,bP,aj⟩;obtain⟨y,hy⟩:=eX (D.at_);obtain⟨sq,z⟩:=eX (D.seq);obtain⟨ch,C⟩:=eX (D.chain);have HY:Hid (y=D.at_/\sq=D.seq/\ch=D.chain):=⟨hy,z,C⟩;have bn:(k:Int)<=3:=oM;have bo:(t.size:Int)<=60000:=oM;clear h bJ hD hA aj aJ ap r1 hT aN b5 bL bM bN bP hy z C h1 h3 bK bO;go_enter func236,ntmps236;go_upto_region 1 with fail
 refine eR (λV=>Hid (V=W1)) ao.symm ?_;intro V1 aT;rw[aT.out];clear ao aT
 go_wp2_with fail
 refine ay.out.mono ?_;rintro e w2 ⟨rfl,aI⟩;have aU:=Hid.mk' aI;have b0:=cm ai.out.2.2;have aD:=aI.size;clear aI ay;go_upto_region 2 with(refine cu rfl 131 _ _ rfl w2.heap.size A rfl rfl 131 fN (dM w2 _) (by rw[c.out.2.2.1];exact x.out) (by rw[c.out.2.2.1];rfl) c.out.2.2.2 ?_;intro V3 aL)
 obtain⟨c7,aA⟩:=eX (w2.heap.size);obtain⟨J,hJ⟩:=eX (λV=>j0 V T g ba N a0 a1 a2 a3 N2 f0 f1 f2 f3 bu has D p0 bv/\cq (λq=>T q\/q=ba) w V/\V.heap[w.heap.size]?=some (.cells fN 131 (0,0))/\V.heap[c7]?=some (.cells A 131 (0,0)):World->Prop)
 have aW:J V3:=by
  have aQ:Below W1.heap.size W1 V3:=by rw[aL.out];exact cC (aU.out.alloc aD _) aD _
  rw[hJ,aA];refine⟨ai.out.1.below aQ,ai.out.2.1.trans (cq.of_below aQ),by rw[aQ.block _ b0];exact ai.out.2.2,?_⟩;rw[aL.out];exact ja _ _ _ _ _ _ (dM w2 _)
 have a9:∀V V',J V->Below V.heap.size V V'->J V':=by rw[hJ];rintro V V' ⟨j1,j2,j3,j4⟩ hb;exact⟨j1.below hb,j2.trans (cq.of_below hb),by rw[hb.block _ (cm j3)];exact j3,by rw[hb.block _ (cm j4)];exact j4⟩
 have ad:∀V,J V->V.cell? (yA g 0)=some (.map (some a0))/\V.cell? (yA g 1)=some (.map (some a1))/\V.cell? (yA g 2)=some (.map (some a2))/\V.cell? (yA g 3)=some (.map (some a3))/\V.cell? (yA g 5)=some (.map (some f0))/\V.cell? (yA g 6)=some (.map (some f1))/\V.cell? (yA g 7)=some (.map (some f2))/\V.cell? (yA g 8)=some (.map (some f3))/\V.cell? (yA g 11)=some (.int .i64 y)/\V.rangeAt c7 0 A.toList:=by rw[hJ];rintro V ⟨j1,-,-,j4⟩;have hr:=j1.bld.row;rw[<-HY.out.1]at hr;refine⟨cG hr,cG hr,cG hr,cG hr,cG hr,cG hr,cG hr,cG hr,cG hr,λi v hv=>?_⟩;rw[nS,cG j4,<-kX];exact hv
 have HJ:Hid (∀V,J V->j0 V T g ba N a0 a1 a2 a3 N2 f0 f1 f2 f3 bu has D p0 bv/\cq (λq=>T q\/q=ba) w V/\V.heap[w.heap.size]?=some (.cells fN 131 (0,0))/\V.heap[c7]?=some (.cells A 131 (0,0))):=by rw[hJ];exact λV h=>h
 have Z:Hid (w.heap.size<c7):=by show _<_;omega
 have U:=a9 _ _ aW (dw _ _).drew;have K:Hid (∀b,b=(cF has k (cV t)).isSome->Calls prog 220 #[.agg #[.map (some a0),.map (some a1),.map (some a2),.map (some a3)],.int .u8 k,.agg A] V3.drew λe w'=>e=.returned (.bool b)/\J w'/\J w'):=by intro b hb;have:=qm (λ_=>True) N a0 a1 a2 a3 k has (cV t) V3.drew (HJ.out _ U).1.kn u.out.1 u.out.2.1 (el t);rw[u.out.2.2.2.2.2.2.2.2]at this;refine iM this ?_;rintro e w' ⟨rfl,bg⟩;have hj:=a9 _ _ U bg;exact⟨by rw[hb],hj,hj⟩
 obtain⟨JJ,aa⟩:=eX (λfr M V=>j0 V T g ba N a0 a1 a2 a3 M f0 f1 f2 f3 bu has {D with fresh:=fr} p0 bv/\cq (λq=>T q\/q=ba) w V/\V.heap[w.heap.size]?=some (.cells fN 131 (0,0))/\V.heap[c7]?=some (.cells A 131 (0,0)):List Ob->Nat->World->Prop);have ac:Hid (∀V,J V->JJ D.fresh N2 V):=by rw[aa,hJ];exact λV h=>h
 have ah:Hid (∀fr M V,JJ fr M V->j0 V T g ba N a0 a1 a2 a3 M f0 f1 f2 f3 bu has {D with fresh:=fr} p0 bv/\cq (λq=>T q\/q=ba) w V/\V.heap[w.heap.size]?=some (.cells fN 131 (0,0))/\V.heap[c7]?=some (.cells A 131 (0,0))):=by rw[aa];exact λfr M V h=>h
 have a8:Hid (∀V,(∃fr M,JJ fr M V)->V.cell? (yA g 0)=some (.map (some a0))/\V.cell? (yA g 1)=some (.map (some a1))/\V.cell? (yA g 2)=some (.map (some a2))/\V.cell? (yA g 3)=some (.map (some a3))/\V.cell? (yA g 5)=some (.map (some f0))/\V.cell? (yA g 6)=some (.map (some f1))/\V.cell? (yA g 7)=some (.map (some f2))/\V.cell? (yA g 8)=some (.map (some f3))/\V.cell? (yA g 11)=some (.int .i64 y)/\V.rangeAt c7 0 A.toList):=by rw[aa];rintro V ⟨fr,M,j1,-,-,j4⟩;have hr:=j1.bld.row;rw[<-HY.out.1]at hr;refine⟨cG hr,cG hr,cG hr,cG hr,cG hr,cG hr,cG hr,cG hr,cG hr,λi v hv=>?_⟩;rw[nS,cG j4,<-kX];exact hv
 obtain⟨o,ho⟩:=eX (⟨k,cV t,D.at_,t⟩:Ob)
 have I:Hid (∀r,r=!(cF D.fresh k (cV t)).isSome->∀w1,J w1->Calls prog 222 #[.agg #[.map (some f0),.map (some f1),.map (some f2),.map (some f3)],.int .u8 k,.agg A,.agg #[.int .i64 y,.int .i64 t.size]] w1 λe w'=>e=.returned (.bool r)/\(∃fr M,JJ fr M w')/\JJ (iJ D.fresh o) (N2+1) w'):=by
  intro r hr w1 hj;obtain⟨j1,j2,j3,j4⟩:=HJ.out w1 hj;obtain⟨b1,b2,b3,b4,-,-,b7,-,b9⟩:=u.out;have hA:Calls prog 222 #[.agg #[.map (some f0),.map (some f1),.map (some f2),.map (some f3)],.int .u8 k,dL (cV t),.agg #[.int .i64 D.at_,.int .i64 t.size]] w1 λe w'=>JE w1 T N2 f0 f1 f2 f3 D.fresh o e w':=by rw[ho];exact wq T N2 f0 f1 f2 f3 D.fresh ⟨k,cV t,D.at_,t⟩ w1 j1.fr b1 b2 (el t) oM oM (by show t.size<=_;omega)
  rw[b9,<-HY.out.1]at hA;refine iM hA ?_;rintro e w' ⟨rfl,h2,h3⟩;have an:cq (·=dA k f0 f1 f2 f3) w1 w':=by rw[ho]at h2;exact h2
  obtain⟨f,hf⟩:=j1.fr.at k
  have hX:JJ (iJ D.fresh o) (N2+1) w':=by
   rw[aa];refine⟨j1.turn an h3,j2.trans (an.weak λq e=>.inl (e▸j1.fr.inS k)),?_,?_⟩
   .rw[an.block _ (cm j3) (λe=>hf.ne_row j3 e.symm)];exact j3
   rw[an.block _ (cm j4) (λe=>hf.ne_row j4 e.symm)];exact j4
  exact⟨by rw[hr,ho],⟨_,_,hX⟩,hX⟩
 have HO:=hD ho;clear aa ho;rw[<-aA];clear aL ai aU b0 aD aA hJ aW;cases hkn:(cF has k (cV t)).isSome
 .have L:=K.out false hkn.symm;have ax:∃fr M,JJ fr M V3.drew:=⟨_,_,ac.out _ U⟩;have G:Calls prog 220 #[.agg #[.map (some a0),.map (some a1),.map (some a2),.map (some a3)],.int .u8 k,.agg A] V3.drew λe w'=>e=.returned (.bool false)/\(∃fr M,JJ fr M w')/\J w':=iM L (λe w' h=>⟨h.1,⟨_,_,ac.out _ h.2.1⟩,h.2.2⟩)
  have aE:=Hid.mk' hkn;clear L hkn;cases hfr:(cF D.fresh k (cV t)).isSome
  .have E:=I.out true (by rw[hfr];rfl);refine kQ (CZ _ (λV=>∃fr M,JJ fr M V) J (JJ (iJ D.fresh o) (N2+1)) true g c7 a0 a1 a2 a3 f0 f1 f2 f3 k y t A V3 ax a8.out aP G E (λV5 hX uB hU=>?_));have n:=Hid.mk' (ah.out _ _ V5 hX);obtain⟨y',aG⟩:=eX (y+dU t.size);obtain⟨d,z⟩:=eX (sq+1);obtain⟨l,C⟩:=eX (pU (sq+1) ch k t);obtain⟨s,hs⟩:=eX (sB (sq+1) ch k t);have m:kO has D k t=⟨iJ D.fresh o,y',d,l,D.whole++s⟩:=by unfold kO;rw[dj (by rw[aE.out,hfr];simp),aG,z,C,hs,HY.out.1,HY.out.2.1,HY.out.2.2,HO.out];unfold iJ;rw[dj (by show¬(cF D.fresh k (cV t)).isSome=true;rw[hfr];simp)]
   obtain⟨j1,j2,j3,j4⟩:=n.out;have aF:=cm j1.bld.row;have be:=j1.tab.lt;have aH:=cm j4;have az:=cm j3;have aV:g≠ba:=λe=>j1.nb (e▸j1.sg)
   have al:V5.heap[g]?=some (.cells (qh a0 a1 a2 a3 ba f0 f1 f2 f3 p0 bv y sq ch) 284 (0,0)):=by have:=j1.bld.row;rw[HY.out.1,HY.out.2.1,HY.out.2.2];exact this
   obtain⟨R,hR⟩:=eX (λV=>V.heap[g]?=some (.cells (qh a0 a1 a2 a3 ba f0 f1 f2 f3 p0 bv y sq ch) 284 (0,0)):World->Prop);obtain⟨VB,a7⟩:=eX ((V5.alloc (.cells #[.int .i64 0,.int .u32 0,.int .u32 0] 119)).drew);have W:Below V5.heap.size V5 VB:=by rw[a7];exact((dw _ _).alloc (cO _) _).drew
   have a6:Below V5.heap.size V5 V5.drew:=(dw _ _).drew;have aX:∀V,R V->V.cell? (yA g 4)=some (.pointer (yS ba 12))/\V.cell? (yA g 11)=some (.int .i64 y)/\V.cell? (yA g 12)=some (.int .u32 sq)/\V.cell? (yA g 13)=some (.int .u32 ch):=by rw[hR];intro V hr;exact⟨cG hr,cG hr,cG hr,cG hr⟩
   have ag:∀V,V=V5.drew\/V=VB->Calls prog 163 #[.agg #[.int .i64 y,.int .u32 sq,.int .u32 ch],.int .u8 k,.string t,.pointer (yS ba 12)] V λe w'=>e=.returned (.tuple #[.string s,.agg #[.int .i64 y',.int .u32 d,.int .u32 l]])/\R w'/\(dt bu w' ba/\cq (·=ba) V w'):=by
    intro V hV;have aC:Below V5.heap.size V5 V:=by rcases hV with e|e<;>rw[e]<;>assumption
    have hL:=uV bu ba y sq ch k t V (j1.below aC).tab (by rw[HY.out.1];exact u.out.2.2.2.1) (by rw[HY.out.2.1];exact u.out.2.2.2.2.1) (by rw[HY.out.2.2];exact u.out.2.2.2.2.2.1) (by have:=u.out.2.1;omega) u.out.2.2.2.2.2.2.1;refine iM hL ?_;rintro e w' ⟨rfl,h2,h3⟩;refine⟨by rw[hs,aG,z,C];rfl,?_,h2,h3⟩;rw[hR];show w'.heap[g]?=_;rw[h3.block _ (by have:=aC.size;omega) aV,aC.block _ aF];exact al
   have a4:∀w1,(dt bu w1 ba/\cq (·=ba) VB w1)->w1.heap[V5.heap.size]?=some (.cells #[.int .i64 0,.int .u32 0,.int .u32 0] 119 (0,0)):=by rintro w1 ⟨-,h3⟩;have e:VB.heap[V5.heap.size]?=some (.cells #[.int .i64 0,.int .u32 0,.int .u32 0] 119 (0,0)):=a7▸dM V5 _;rw[h3.block _ (cm e) (by omega)];exact e
   have aS:R V5.drew:=hR▸al;have aB:R VB:=by rw[hR];show VB.heap[g]?=_;rw[W.block _ aF];exact al
   have aZ:∀V O,R V->R (V.alloc O):=by rw[hR];intro V O h;show(V.alloc O).heap[g]?=_;rw[((dw V.heap.size V).alloc (cO _) O).block _ (cm h)];exact h
   have b6:∀V Y,R V->R (V.setRow V5.heap.size Y):=by rw[hR];intro V Y h;show(V.setRow V5.heap.size Y).heap[g]?=_;rw[(fQ V V5.heap.size Y).block _ (cm h) (by omega)];exact h
   have F:Hid (∀V6 c9,V5.heap.size<=c9->j0 V6 T g ba N a0 a1 a2 a3 (N2+1) f0 f1 f2 f3 bu has {D with fresh:=iJ D.fresh o} p0 bv->cq (λq=>T q\/q=ba) w V6->V6.heap[w.heap.size]?=some (.cells fN 131 (0,0))->V6.heap[c7]?=some (.cells A 131 (0,0))->V6.heap[c9]?=some (.cells #[.int .i64 y',.int .u32 d,.int .u32 l] 119 (0,0))->
     Calls prog 211 #[.pointer (yS g 9),.string s] V6 λe w8=>e=.returned (.tuple #[.int .i64 s.size,.nilIface])/\(w8.cell? (yA c9 0)=some (.int .i64 y')/\w8.cell? (yA c9 1)=some (.int .u32 d)/\w8.cell? (yA c9 2)=some (.int .u32 l))/\(∃v,w8.cell? (yA g 11)=some v)/\(∃v,w8.cell? (yA g 12)=some v)/\(∃v,w8.cell? (yA g 13)=some v)/\(∀j,w8.frozen? (yA g j)=false)/\Hid (∀V9,V9=((w8.setCell (yA g 11) (.int .i64 y')).setCell (yA g 12) (.int .u32 d)).setCell (yA g 13) (.int .u32 l)->V9.rangeAt c7 0 A.toList/\V9.heap[w.heap.size]?=some (.cells fN 131 (0,0))/\(∀ar,ar=V9.setRow w.heap.size A->FL w S g ba N a0 a1 a2 a3 N2 f0 f1 f2 f3 bu has D k t (.returned (.agg A)) ar))):=by
    intro V6 c9 h9 d1 d2 d3 d4 d5;have bi:=cm d4;have bs:s.size<=61000:=by have:=u.out.2.2.2.2.2.2.1;rw[hs,oI];unfold dU;omega
    refine iM (oE V6 284 g 9 _ bv _ s d1.bld (by have:=u.out.2.2.2.2.2.2.2.1;rw[gf];show D.whole.size+_<=_;omega)) ?_;rintro e w8 ⟨rfl,hW⟩;obtain⟨av,hM,bf,-⟩:=id hW
    have n9:¬pm g bv c9:=by
     rintro(e|e)
     .omega
     .have:=Q.out _ (d1.sw _ e.symm);omega
    have aO:w8.heap[c9]?=_:=(bf.block _ (cm d5) n9).trans d5;refine⟨rfl,⟨cG aO,cG aO,cG aO⟩,⟨_,cG hM.row⟩,⟨_,cG hM.row⟩,⟨_,cG hM.row⟩,λj=>fH w8 g j _ _ hM.row,?_⟩;intro V9 a5;obtain⟨af,b8,k1,k2,k3⟩:=d1.wrote hW a5;have nT:∀q,w.heap.size<=q->¬T q:=λq hq e=>by have:=Q.out q e;omega
    have q7:V9.heap[c7]?=_:=(k2.block _ bi (nT _ (by have:=Z.out;omega))).trans d4;have q3:V9.heap[w.heap.size]?=_:=(k2.block _ (cm d3) (nT _ (cO _))).trans d3;refine⟨λi v hv=>?_,q3,λar aR=>?_⟩
    .rw[nS,cG q7,<-kX];exact hv
    refine B.out V9 ar _ _ (N2+1) af b8 k1 (cO _) ?_ (d2.trans (k2.weak λq h=>.inl h)) m.symm aR;have hc:=Z.out;rintro q (hq|hq)
    .exact⟨.inl hq,λe=>by have:=Q.out q hq;omega⟩
    rcases k3 q hq.symm with e|e
    .exact⟨.inl e,λe2=>by have:=Q.out q e;omega⟩
    exact⟨.inr oM,oM⟩
   have H5:Hid (∀V,R V->True):=λ_ _=>trivial
   rw[a7]at ag a4 aB
   have aM:Hid (∀w1,(dt bu w1 ba/\cq (·=ba) V5.drew w1)->∀V6,V6=w1.alloc (.cells #[.int .i64 y',.int .u32 d,.int .u32 l] 119)->V5.heap.size<=w1.heap.size/\j0 V6 T g ba N a0 a1 a2 a3 (N2+1) f0 f1 f2 f3 bu has {D with fresh:=iJ D.fresh o} p0 bv/\cq (λq=>T q\/q=ba) w V6/\V6.heap[w.heap.size]?=some (.cells fN 131 (0,0))/\V6.heap[c7]?=some (.cells A 131 (0,0))/\V6.heap[w1.heap.size]?=some (.cells #[.int .i64 y',.int .u32 d,.int .u32 l] 119 (0,0))):=by
    rintro w1 ⟨h2,h3⟩ V6 a;have hz:=h3.size;have bb:=a6.size;have ak:Below w1.heap.size w1 V6:=by rw[a];exact(dw _ _).alloc (cO _) _
    have d1:=((j1.below a6).tabd h3 h2).below ak;refine⟨oM,d1,(j2.trans (cq.of_below a6)).trans ((h3.weak λq e=>.inr e).trans (cq.of_below ak)),?_,?_,a▸dM w1 _⟩
    .rw[ak.block _ (by omega),h3.block _ (by omega) (by omega),a6.block _ az];exact j3
    rw[ak.block _ (by omega),h3.block _ (by omega) (by have:=Z.out;omega),a6.block _ aH];exact j4
   have aq:Hid (∀w1,(dt bu w1 ba/\cq (·=ba) VB w1)->∀V6,V6=w1.setRow V5.heap.size #[.int .i64 y',.int .u32 d,.int .u32 l]->j0 V6 T g ba N a0 a1 a2 a3 (N2+1) f0 f1 f2 f3 bu has {D with fresh:=iJ D.fresh o} p0 bv/\cq (λq=>T q\/q=ba) w V6/\V6.heap[w.heap.size]?=some (.cells fN 131 (0,0))/\V6.heap[c7]?=some (.cells A 131 (0,0))/\V6.heap[V5.heap.size]?=some (.cells #[.int .i64 y',.int .u32 d,.int .u32 l] 119 (0,0))):=by
    rintro w1 ⟨h2,h3⟩ V6 a;have hz:=h3.size;have bb:=W.size;have P:cq (·=V5.heap.size) w1 V6:=a▸fQ _ _ _;have dB:=(j1.below W).tabd h3 h2;have d1:=dB.on P (λq hq e=>by have:=Q.out q hq;have:=j2.size;omega) oM ⟨oM,oM,oM,oM⟩;refine⟨d1,((j2.trans (cq.of_below W)).trans (h3.weak λq e=>.inr e)).then (P.weak λq e=>.inr (by have:=j2.size;omega)),?_,?_,?_⟩
    .rw[P.block _ (by omega) (by omega),h3.block _ (by omega) (by omega),W.block _ az];exact j3
    .rw[P.block _ (by omega) (by omega),h3.block _ (by omega) (by have:=Z.out;omega),W.block _ aH];exact j4
    rw[a];refine ja _ _ _ _ _ _ (?_:w1.heap[V5.heap.size]?=some (.cells #[.int .i64 0,.int .u32 0,.int .u32 0] 119 (0,0)));exact a4 w1 (by rw[<-a7];exact⟨h2,h3⟩)
   rw[a7]at aq;refine nU hU ?_;have HX:=Hid.mk' (Jp aS (Jp aB (Jp aZ (Jp b6 (Jp aX (Jp ag a4))))));clear hX m aG z C hs j1 j2 j3 j4 aF be aH az aV al hR W a6 aX ag a4 aS aB aZ b6 H5 a7 hfr E G ax aE I a8 ac ah K U a9 ad B n;go_upto_region 4 with fail
   refine kQ (Mh _ R (λV w'=>dt bu w' ba/\cq (·=ba) V w') g ba k y sq ch (y':Int) (d:Int) (l:Int) t s V5 HX.out.1 HX.out.2.1 HX.out.2.2.1 HX.out.2.2.2.1 HX.out.2.2.2.2.1 HX.out.2.2.2.2.2.1 HX.out.2.2.2.2.2.2 (λw1 ae uB hU=>?_) (λw1 ae uB hU=>?_));obtain⟨V6,a⟩:=eX (w1.alloc (.cells #[.int .i64 y',.int .u32 d,.int .u32 l] 119));obtain⟨d0,d1,d2,d3,d4,d5⟩:=aM.out w1 ae V6 a;obtain⟨c9,X⟩:=eX (w1.heap.size);rw[<-X]at d5 d0;have aK:=Hid.mk' (F.out V6 c9 d0 d1 d2 d3 d4 d5);refine nU hU ?_;rw[<-a,<-X];clear a X ae d1 d2 d3 d4 d5 aM aq HX F d0
   rotate_left
   obtain⟨V6,a⟩:=eX (w1.setRow V5.heap.size #[.int .i64 y',.int .u32 d,.int .u32 l]);obtain⟨d1,d2,d3,d4,d5⟩:=aq.out w1 ae V6 a;obtain⟨c9,X⟩:=eX (V5.heap.size);rw[<-X]at d5;have aK:=Hid.mk' (F.out V6 c9 oM d1 d2 d3 d4 d5);refine nU hU ?_;rw[<-a,<-X];clear a X ae d1 d2 d3 d4 d5 aM aq HX F
   all_goals
    go_upto_region 6 with(go_at_call 211;refine aK.out.mono ?_;rintro e w8 ⟨rfl,⟨e0,e1,e2⟩,⟨br,bh⟩,⟨bp,bj⟩,⟨bq,bm⟩,au,am⟩)
    have bk:=au 11;have bd:=au 12;have bc:=au 13;clear au aK;go_upto_region 7 with fail
    refine eR (λV=>Hid (V=((w8.setCell (yA g 11) (.int .i64 y')).setCell (yA g 12) (.int .u32 d)).setCell (yA g 13) (.int .u32 l))) rfl ?_;intro V9 a5;have ab:=Hid.mk' (am.out V9 a5.out).2.1;have H:=Hid.mk' (am.out V9 a5.out).1;have HF:=Hid.mk' (am.out V9 a5.out).2.2;clear a5 am e0 e1 e2 bh bj bm bk bd bc
    go_wp2_with (first|(refine su rfl 131 _ rfl c7 0 rfl A.toList _ H.out kb rfl c.out.1 ?_;rw[BO])|(refine cu rfl 131 _ _ rfl w.heap.size A rfl rfl 131 fN ab.out (by rw[c.out.2.2.1];exact x.out) (by rw[c.out.2.2.1];rfl) c.out.2.2.2 ?_;intro V6 a))
    refine gh (Bj (p:=6) (ty:=131) rfl _ _ w.heap.size 131 A (0,0) _ rfl (by rw[a.out];exact ja _ _ _ _ _ _ ab.out) kb rfl (by rw[c.out.2.2.1];exact x.out)) rfl ?_;exact HF.out V6 a.out
  have E:=I.out false (by rw[hfr];rfl);have m:kO has D k t=D:=by unfold kO;rw[dq (.inr hfr)]
  have aY:iJ D.fresh o=D.fresh:=by unfold iJ;rw[HO.out,dq hfr]
  rw[aY]at E;refine kQ (CZ _ (λV=>∃fr M,JJ fr M V) J (JJ D.fresh (N2+1)) false g c7 a0 a1 a2 a3 f0 f1 f2 f3 k y t A V3 ax a8.out aP G E (λV5 hX uB hU=>?_));have n:=Hid.mk' (ah.out _ _ V5 hX);have H:=Hid.mk' (a8.out V5 ⟨_,_,hX⟩).2.2.2.2.2.2.2.2.2;have ab:=Hid.mk' n.out.2.2.1;have HF:Hid (∀V6,V6=V5.setRow w.heap.size A->FL w S g ba N a0 a1 a2 a3 N2 f0 f1 f2 f3 bu has D k t (.returned (.agg A)) V6):=λV6 e=>B.out V5 V6 T D (N2+1) p0 bv n.out.1 (cO _) (λq hq=>⟨.inl hq,λe=>by have:=Q.out q hq;omega⟩) n.out.2.1 m.symm e
  refine nU hU ?_;clear G hX m aY hfr E aE ax I a8 ac ah K U a9 ad B n
  go_wp2_with (first|(refine su rfl 131 _ rfl c7 0 rfl A.toList _ H.out kb rfl c.out.1 ?_;rw[BO])|(refine cu rfl 131 _ _ rfl w.heap.size A rfl rfl 131 fN ab.out (by rw[c.out.2.2.1];exact x.out) (by rw[c.out.2.2.1];rfl) c.out.2.2.2 ?_;intro V6 a))
  refine gh (Bj (p:=6) (ty:=131) rfl _ _ w.heap.size 131 A (0,0) _ rfl (by rw[a.out];exact ja _ _ _ _ _ _ ab.out) kb rfl (by rw[c.out.2.2.1];exact x.out)) rfl ?_;exact HF.out V6 a.out
 have m:kO has D k t=D:=by unfold kO;rw[dq (.inl hkn)]
 have L:=K.out true hkn.symm;refine kQ (Ey _ J J g c7 a0 a1 a2 a3 f0 f1 f2 f3 k y t A V3 U ad aP L (λV5 hX uB hU=>?_));have n:=Hid.mk' (HJ.out V5 hX);have H:=Hid.mk' (ad V5 hX).2.2.2.2.2.2.2.2.2;have HF:Hid (∀V6,V6=V5.setRow w.heap.size A->FL w S g ba N a0 a1 a2 a3 N2 f0 f1 f2 f3 bu has D k t (.returned (.agg A)) V6):=λV6 e=>B.out V5 V6 T D N2 p0 bv n.out.1 (K0 _) (λq hq=>⟨.inl hq,λe=>by have:=Q.out q hq;omega⟩) n.out.2.1 m.symm e
 refine nU hU ?_;clear L hX m hkn K U a9 ad B I a8 ac ah
 go_wp2_with (first|(refine su rfl 131 _ rfl c7 0 rfl A.toList _ H.out kb rfl c.out.1 ?_;rw[BO])|(refine cu rfl 131 _ _ rfl w.heap.size A rfl rfl 131 fN n.out.2.2.1 (by rw[c.out.2.2.1];exact x.out) (by rw[c.out.2.2.1];rfl) c.out.2.2.2 ?_;intro V6 a))
 refine gh (Bj (p:=6) (ty:=131) rfl _ _ w.heap.size 131 A (0,0) _ rfl (by rw[a.out];exact ja _ _ _ _ _ _ n.out.2.2.1) kb rfl (by rw[c.out.2.2.1];exact x.out)) rfl ?_;exact HF.out V6 a.out
end
section
open Go.RowKit
theorem vu(s:ByteArray):∀u∈Lib.strCells s,u.oneCell'=true:=by
 intro u hu;unfold Lib.strCells at hu;obtain⟨b,-,rfl⟩:=List.mem_map.1 hu;rfl
theorem DR(w:World)(T:TypeId)(g o:Nat)(B:Array Value)(bv:Value)(l:List UInt8)(s:ByteArray)(q p c:Nat)(R:Array Value)(U:TypeId)(h:mO w T g o B bv l)(A:w.heap[q]?=some (.cells R U (0,0)))(E:∀(j:Nat) u,(Lib.strCells s)[j]?=some u->R[p+j]?=some u)(C:q≠g)(D:0<s.size)(F:l.length+s.size<=10000000):
  Calls prog 278 #[.pointer (yS g o),.slice (yS q p) s.size c] w λe w'=>e=.returned (.tuple #[.int .i64 s.size,.nilIface])/\pC w T g o B bv (l++s.data.toList) w':=by
 have HC:=hD (rn w T g o B bv l h);have i:=h.kind.lt;have z:(s.size:Int)<=10000000:=oM;have HZ:=hD i;have HQ:Hid (w.heap[q]?=some (.cells R U (0,0))/\q≠g/\0<s.size/\∀(j:Nat) u,(Lib.strCells s)[j]?=some u->R[p+j]?=some u):=⟨A,C,D,E⟩;obtain⟨i0,hi,m,r,t⟩:=Bq;have HI:Hid (prog.info? 5=some i0/\i0.zero=some (.int .u8 0)/\i0.size=1/\i0.bytes=1):=⟨hi,m,r,t⟩;clear h i A E C D hi m r t;go_enter func278,ntmps278
 go_wp2_with fail
 refine HC.out.mono ?_;rintro e w1 ⟨rfl,hM,hS⟩;have HM:=hD hM;have HS:=hD hS;have c1:w1.cell? (yA g (o+1))=some bv:=(cG hM.row).trans hM.c1
 have y:Hid (∀(j:Nat) u,(Lib.strCells s)[j]?=some u->w1.cell? (((yA q p):Addr).add j)=some u):=by
  intro j u hj;have v:w1.heap[q]?=some (.cells R U (0,0)):=by rw[hS.block _ (cm HQ.out.1) HQ.out.2.1];exact HQ.out.1
  rw[show((yA q p):Addr).add j=(yA q (p+j)) by simp[Addr.add],cG v];exact HQ.out.2.2.2 j u hj
 obtain⟨ba,bc,rfl⟩:=cQ hM.own;clear hM hS HC
 go_wp2_with (refine F0 _ rfl _ _ 134 rfl 0 5 i0 (.int .u8 0) 1 1 yE HI.out.1 HI.out.2.1 HI.out.2.2.1 HI.out.2.2.2 rfl oM _ l.length _ rfl HM.out.own (yA q p) s.size c (Lib.strCells s) rfl (by rw[Lib.strCells_length];omega) y.out (vu s) HQ.out.2.2.1 (by unfold maxLen;omega) oM (fP _) _ rfl ?_;intro g2 b w2 a d f n;have HG:Hid (w1.grownBy w2 (Value.slice ba l.length bc).ownBlock):=d;have HO:Hid (w2.ownsRow 0 5 1 (.slice (yS g2 0) (l.length+s.size) b) (l.length+s.size) (Lib.byteCells l++Lib.strCells s)):=a;have r2:w2.heap[g]?=some (.cells (B.setIfInBounds o (.pointer (yS g o))) T (0,0)):=(by rw[d.block g (cm HM.out.row) (λe=>HM.out.ne e.symm)];exact HM.out.row);have R2:Hid (w2.heap[g]?=some (.cells (B.setIfInBounds o (.pointer (yS g o))) T (0,0))):=r2;have d1:w2.cell? (yA g (o+1))=some (.slice ba l.length bc):=(cG r2).trans HM.out.c1;have f1:w2.frozen? (yA g (o+1))=false:=fH w2 g (o+1) _ _ r2;have HN:Hid ((Value.slice ba l.length bc).ownBlock=some g2\/g2=w1.heap.size):=f;clear a d f n r2 c1)
 refine gh (lB rfl _ _ _) rfl ?_;have hz:=HZ.out
 have k:(Value.slice (yS g2 0) (l.length+s.size) b).ownBlock≠some g:=by
  have hg:=cm HM.out.row;intro e;have e:g2=g:=by injection e
  rcases HN.out with e1|e1
  .exact HM.out.ne (by rw[e1,e])
  .omega
 refine⟨rfl,.slice (yS g2 0) (l.length+s.size) b,⟨gE _ _ _ _ _ _ R2.out,?_,.inr ?_,?_,?_,k,?_⟩,?_,?_⟩
 .rw[JQ];exact HM.out.kind
 .rw[wU,dj (by omega),wU,dq rfl,dq (by omega)]
 .rw[wU,dq rfl,dq (by rw[JQ];exact hz)]
 .have e1:(l++s.data.toList).length=l.length+s.size:=by rw[ir];rfl
  have e2:Lib.byteCells (l++s.data.toList)=Lib.byteCells l++Lib.strCells s:=by unfold Lib.byteCells Lib.strCells;rw[qA]
  rw[e1,e2];exact cI HO.out (λq A=>lq _ _ _ _ (λe=>k (by rw[A,e])))
 .intro e;obtain⟨e1,e2⟩:=List.append_eq_nil_iff.1 e;have:=HQ.out.2.2.1;rw[<-show s.data.toList.length=s.size from rfl,e2]at this;exact absurd this sI
 .have h1:cq (pm g (.slice ba l.length bc)) w w1:=HS.out.weak λq A=>.inl A
  have h2:cq (pm g (.slice ba l.length bc)) w1 w2:=cq.of_grown HG.out (λq e=>.inr e.symm);exact(h1.trans h2).setCell _ (.inl rfl) _
 intro x hx;have hx:g2=x:=by injection hx
 have hz:=HS.out.size;rcases HN.out with e|e
 .exact .inl (by rw[e,hx])
 exact .inr oM
theorem GB(w:World)(T:TypeId)(g o:Nat)(B:Array Value)(bv:Value)(l:List UInt8)(b:UInt8)(h:mO w T g o B bv l)(C:l.length+1<=10000000):
  Calls prog 277 #[.pointer (yS g o),.int .u8 b.toNat] w λe w'=>e=.returned .nilIface/\pC w T g o B bv (l++[b]) w':=by
 have HC:=hD (rn w T g o B bv l h);have m:=h.kind.lt;have y:=b.toNat_lt;have A:(b.toNat:Int)<=255:=oM;clear y;have HZ:=hD m;obtain⟨i0,hi,p,s,k⟩:=Bq;have HI:Hid (prog.info? 5=some i0/\i0.zero=some (.int .u8 0)/\i0.size=1/\i0.bytes=1):=⟨hi,p,s,k⟩;clear h m hi p s k;go_enter func277,ntmps277
 go_wp2_with fail
 refine HC.out.mono ?_;rintro e w1 ⟨rfl,hM,hS⟩;have HM:=hD hM;have HS:=hD hS;have c1:w1.cell? (yA g (o+1))=some bv:=(cG hM.row).trans hM.c1;obtain⟨ba,bc,rfl⟩:=cQ hM.own;clear hM hS HC;obtain⟨W,hW⟩:=eX (w1.alloc (.cells #[.int .u8 b.toNat] 5));have i:Below w1.heap.size w1 W:=by rw[hW];exact(dw _ _).alloc (cO _) _
 have t:=hD i;have HW:=hD (HM.out.onA (U:=λ_=>False) (cq.of_below i) (λh=>h) (λ_ _ h=>h));have v:Hid (∀(j:Nat) u,[Value.int .u8 b.toNat][j]?=some u->W.cell? (((yA w1.heap.size 0):Addr).add j)=some u):=by have e:W.heap[w1.heap.size]?=some (.cells #[.int .u8 b.toNat] 5 (0,0)):=hW▸dM w1 _;exact λj u h=>NB e j u h
 have z:=hD hW.symm;clear hW i
 go_wp2_with (rw[z.out];refine F0 W rfl _ _ 134 rfl 0 5 i0 (.int .u8 0) 1 1 yE HI.out.1 HI.out.2.1 HI.out.2.2.1 HI.out.2.2.2 rfl oM _ l.length _ rfl HW.out.own (yA w1.heap.size 0) 1 1 [.int .u8 b.toNat] rfl rfl v.out (by intro u hu;rw[List.mem_singleton.1 hu];rfl) oM (by unfold maxLen;omega) oM (fP _) _ rfl ?_;intro g2 d w2 c a f r;have HG:Hid (W.grownBy w2 (Value.slice ba l.length bc).ownBlock):=a;have HO:Hid (w2.ownsRow 0 5 1 (.slice (yS g2 0) (l.length+1) d) (l.length+1) (Lib.byteCells l++[Value.int .u8 b.toNat])):=c;have r2:w2.heap[g]?=some (.cells (B.setIfInBounds o (.pointer (yS g o))) T (0,0)):=(by rw[a.block g (cm HW.out.row) (λe=>HW.out.ne e.symm)];exact HW.out.row);have R2:Hid (w2.heap[g]?=some (.cells (B.setIfInBounds o (.pointer (yS g o))) T (0,0))):=r2;have d1:w2.cell? (yA g (o+1))=some (.slice ba l.length bc):=(cG r2).trans HW.out.c1;have f1:w2.frozen? (yA g (o+1))=false:=fH w2 g (o+1) _ _ r2;have HN:Hid ((Value.slice ba l.length bc).ownBlock=some g2\/g2=W.heap.size):=f;clear c a f r r2 c1)
 refine gh (Qm rfl _ _ _) rfl ?_;have hz:=HZ.out
 have n:(Value.slice (yS g2 0) (l.length+1) d).ownBlock≠some g:=by
  have hg:=cm HW.out.row;intro e;have e:g2=g:=by injection e
  rcases HN.out with e1|e1
  .exact HW.out.ne (by rw[e1,e])
  .omega
 refine⟨rfl,.slice (yS g2 0) (l.length+1) d,⟨gE _ _ _ _ _ _ R2.out,?_,.inr ?_,?_,?_,n,?_⟩,?_,?_⟩
 .rw[JQ];exact HW.out.kind
 .rw[wU,dj (by omega),wU,dq rfl,dq (by omega)]
 .rw[wU,dq rfl,dq (by rw[JQ];exact hz)]
 .have e1:(l++[b]).length=l.length+1:=by rw[ir];rfl
  have e2:Lib.byteCells (l++[b])=Lib.byteCells l++[Value.int .u8 b.toNat]:=by unfold Lib.byteCells;rw[qA];rfl
  rw[e1,e2];exact cI HO.out (λq hq=>lq _ _ _ _ (λe=>n (by rw[hq,e])))
 .intro e;exact absurd e sI
 .have h1:cq (pm g (.slice ba l.length bc)) w w1:=HS.out.weak λq hq=>.inl hq
  have h2:cq (pm g (.slice ba l.length bc)) w1 w2:=(cq.of_below t.out).trans (cq.of_grown HG.out (λq e=>.inr e.symm));exact(h1.trans h2).setCell _ (.inl rfl) _
 intro x hx;have hx:g2=x:=by injection hx
 have hz:=HS.out.size;have k:=t.out.size;rcases HN.out with e|e
 .exact .inl (by rw[e,hx])
 exact .inr oM
def lD(w:World)(g:Nat)(s:ByteArray)(wr:World):Prop:=
 Below w.heap.size w wr/\w.heap.size<=g/\∃p0 bv,mO wr 282 g 0 #[p0,bv] bv s.data.toList/\(∀q,bv.ownBlock=some q->w.heap.size<=q)
def KR(g:Nat)(wr w':World):Prop:=∀q C U,q≠g->U≠5->wr.heap[q]?=some (.cells C U (0,0))->w'.heap[q]?=some (.cells C U (0,0))
theorem lD.new(a:Below w.heap.size w W):lD w W.heap.size ⟨#[]⟩ (W.alloc (.cells #[.pointer none,.slice none 0 0] 282)):=by
 refine⟨a.alloc a.size _,a.size,.pointer none,.slice none 0 0,⟨dM W _,.inl ⟨rfl,rfl,rfl⟩,.inl rfl,rfl,⟨rfl,.inl ⟨rfl,rfl⟩⟩,(by intro e;cases e),λ_=>rfl⟩,?_⟩;intro q e;cases e
theorem lD.below(h:lD w g s wr)(a:Below wr.heap.size wr V):lD w g s V:=by
 obtain⟨h1,h2,p0,bv,hM,hq⟩:=h;exact⟨h1.trans (a.mono h1.size),h2,p0,bv,hM.onA (U:=λ_=>False) (cq.of_below a) (λh=>h) (λ_ _ h=>h),hq⟩
theorem lD.wrote(j:Below w.heap.size w wr)(l:w.heap.size<=g)(n:mO wr 282 g 0 #[p0,bv] bv s.data.toList)(m:∀q,bv.ownBlock=some q->w.heap.size<=q)(o:pC wr 282 g 0 #[p0,bv] bv (s.data.toList++t.data.toList) w'):lD w g (s++t) w'/\KR g wr w':=by
 obtain⟨d,b,hs,hn⟩:=o;have e:(s++t).data.toList=s.data.toList++t.data.toList:=sI;refine⟨⟨j.trans (hs.below (λk hk=>?_) j.size),l,yP g,d,e▸b,λq c=>?_⟩,?_⟩
 .rcases hk with rfl|hk
  .exact l
  exact m k hk.symm
 .rcases hn q c with e|e
  .exact m q e.symm
  have:=j.size;omega
 intro q C U a hU hr;rw[hs.block _ (cm hr) ?_]
 .exact hr
 rintro(e|e)
 .exact a e
 rcases n.own.2 with⟨e0,-⟩|⟨g0,h,i,e0,-,f,-⟩
 .rw[e0]at e;cases e
 rw[e0]at e;have e:q=g0:=by injection e
 rw[e,f]at hr;injection hr with hr;injection hr with _ hr _;exact hU hr.symm
theorem lD.write(h:lD w g s wr)(t:ByteArray)(a:s.size+t.size<=10000000):
  Calls prog 211 #[yP g,.string t] wr λe w'=>e=.returned (.tuple #[.int .i64 t.size,.nilIface])/\lD w g (s++t) w'/\KR g wr w':=by
 obtain⟨h1,h2,p0,bv,hM,hq⟩:=h;refine iM (oE wr _ g 0 _ bv _ t hM a) ?_;rintro e w' ⟨rfl,hW⟩;exact⟨rfl,lD.wrote h1 h2 hM hq hW⟩
theorem lD.byte(h:lD w g s wr)(b:UInt8)(a:s.size+1<=10000000):
  Calls prog 277 #[yP g,.int .u8 b.toNat] wr λe w'=>e=.returned .nilIface/\lD w g (s++⟨#[b]⟩) w'/\KR g wr w':=by
 obtain⟨h1,h2,p0,bv,hM,hq⟩:=h;refine iM (GB wr _ g 0 _ bv _ b hM a) ?_;rintro e w' ⟨rfl,hW⟩;exact⟨rfl,lD.wrote h1 h2 hM hq hW⟩
theorem lD.bytes(h:lD w g s wr)(t:ByteArray)(q p c:Nat)(R:Array Value)(U:TypeId)(f:wr.heap[q]?=some (.cells R U (0,0)))(i:∀(j:Nat) u,(db t)[j]?=some u->R[p+j]?=some u)(d:q≠g)(k:0<t.size)(b:s.size+t.size<=10000000):
  Calls prog 278 #[yP g,.slice (yS q p) t.size c] wr λe w'=>e=.returned (.tuple #[.int .i64 t.size,.nilIface])/\lD w g (s++t) w'/\KR g wr w':=by
 obtain⟨h1,h2,p0,bv,hM,a⟩:=h;refine iM (DR wr _ g 0 _ bv _ t q p c R U hM f i d k b) ?_;rintro e w' ⟨rfl,hW⟩;exact⟨rfl,lD.wrote h1 h2 hM a hW⟩
theorem lD.string(h:lD w g s wr)(a:s.size<=10000000):
  Calls prog 213 #[yP g] wr λe w'=>e=.returned (.string s)/\Below w.heap.size w w':=by
 obtain⟨h1,h2,p0,bv,hM,hq⟩:=h
 have hU:∀k,pm g bv k->w.heap.size<=k:=by
  rintro k (rfl|hk)
  .exact h2
  exact hq k hk.symm
 by_cases h0:s.data.toList=[]
 .have e:s=⟨#[]⟩:=ej h0;have hb:=hM.nil h0;have hc:wr.cell? (yA g (0+1))=some (.slice none 0 0):=by rw[cG hM.row,<-hb];rfl
  refine iM (nX g 0 wr hc) ?_;rintro e' w' ⟨rfl,hs⟩;exact⟨by rw[e],h1.trans (hs.mono h1.size)⟩
 refine iM (po wr _ g 0 _ bv _ hM h0 a) ?_;rintro e w' ⟨rfl,hs⟩;exact⟨sI,h1.trans (hs.below hU h1.size)⟩
end
end Go.Proofs.YtapijhhmjjplmaaGreatDoor

import Derived.Test.YtapijhhmjjplmaaGreatDoorJonce40
namespace Go.Proofs.YtapijhhmjjplmaaGreatDoor
set_option linter.all false
set_option maxRecDepth 100000
set_option maxHeartbeats 4000000
open Go.Proofs.Tryz
section
open Go.RowKit Go.Maps
def Rs(w:World)(S:Nat->Prop)(bd m b N a0 a1 a2 a3:Nat)(d:cX)(has:List Ob)(es:List (ByteArray×Bool×Nat))(e:Ending)(w':World):Prop:=
 ed w' S bd m b N a0 a1 a2 a3 d has/\cq S w w'/\∃(v:Value),e=.returned (.tuple #[v,.nilIface])/\w'.ownsRow w.heap.size 52 3 v es.length (eE es)
theorem tF(S:Nat->Prop)(bd m b N a0 a1 a2 a3 n:Nat)(sn:Int)(d:cX)(has:List Ob)(infos:List jR)(sv nv:Value)(bq:List ByteArray)(w:World)(h:ed w S bd m b N a0 a1 a2 a3 d has)(hV:iY w S)(hn:d.safe.length=n)(hb:n<=4096)(bB:∀s∈df d,s.size=64)(bC:∀k s,(cJ has k s).2<=6000)(bH:∀q,S q->q<w.heap.size)(bJ:w.cell? (yA b 3)=some sv)(bD:w.ownsRow 0 133 33 sv infos.length (fG infos))(bK:∀q,sv.ownBlock=some q->¬S q)(bF:∀i∈infos,i.root.size=32)(bL:infos.length<=100000)(bM:gt w nv bq)(bN:bq.length<=1)(s0:Nat)(bO:sn=(s0:Int)+1)(bG:s0<infos.length)(X:Nat->gS)(hW:OQ d has infos[s0].root bq X)(bI:(X bq.length).dir=true)(l:List gS)(bz:jf d (cJ has 3 (X bq.length).sum).1 (cJ has 3 (X bq.length).sum).2 (X bq.length).sum/\fO (gu d (cJ has 3 (X bq.length).sum).1 (cJ has 3 (X bq.length).sum).2)=some l/\l.length<=16)(ent:gS->ByteArray×Bool×Nat)(bA:∀y∈l,y.dir=false/\jf d (cJ has 2 y.sum).1 (cJ has 2 y.sum).2 y.sum/\∃sz,jJ (gu d (cJ has 2 y.sum).1 (cJ has 2 y.sum).2)=some sz/\ent y=(y.name,false,sz)):
  Calls prog 160 #[yP b,.int .i64 sn,nv] w λe w'=>Rs w S bd m b N a0 a1 a2 a3 d has (l.map ent) e w':=by
 obtain⟨cs,al,-⟩:=h.row;have aJ:Hid (b<w.heap.size/\a0<w.heap.size/\a1<w.heap.size/\a2<w.heap.size/\a3<w.heap.size):=⟨cm al,h.kn.k0.lt,h.kn.k1.lt,h.kn.k2.lt,h.kn.k3.lt⟩;have au:=Hid.mk' (ux S bd m b N a0 a1 a2 a3 n sn d has infos sv nv bq w h hV hn hb bB bC bH bJ bD bK bF bL bM bN s0 bO bG X hW);obtain⟨x,hx⟩:=eX (X bq.length);rw[<-hx]at au bI bz;have T:Hid ((prog.info? 366).map (·.size)=some 34):=by show _=_;kernel_rfl
 have aj:Hid ((prog.info? 131).map (·.size)=some 32):=by show _=_;kernel_rfl
 obtain⟨i0,aT,aA,aO,aW⟩:=Ba xY;have U:Hid (prog.info? 52=some i0/\i0.zero=some (.agg #[.string ⟨#[]⟩,.bool false,.int .i64 0])/\i0.size=3/\i0.bytes=32):=⟨aT,aA,aO,aW⟩;have p:=Hid.mk' bH;have b3:Hid (∀V (A:Array Value),ed V S bd m b N a0 a1 a2 a3 d has->cq S w V->x.sum.size=32->A=(db x.sum).toArray->Calls prog 223 #[yP b,.agg A] V λe w'=>za V S bd m b N a0 a1 a2 a3 d has l e w'):=by intro V A x1 x2 x3 x4;have hx:=jP S bd m b N a0 a1 a2 a3 n d has x.sum l V x1 (hV.on x2) hn hb bB (bC 3 _) x3 bz.1 bz.2.1 bz.2.2 (λy hy=>(bA y hy).1);rw[show dL x.sum=.agg A by rw[x4];rfl]at hx;exact hx
 have bb:Hid (∀V (y:gS) (A:Array Value),y∈l->ed V S bd m b N a0 a1 a2 a3 d has->cq S w V->y.sum.size=32->A=(db y.sum).toArray->∃sz,sz<=1536/\ent y=(y.name,false,sz)/\Calls prog 232 #[yP b,.agg A] V λe w'=>ed w' S bd m b N a0 a1 a2 a3 d has/\cq S V w'/\∃(ca:Option Addr)(cn cc:Nat),e=.returned (.tuple #[.agg #[.int .i64 sz,.slice ca cn cc],.nilIface])):=by intro V y A hy x1 x2 x3 x4;obtain⟨-,b9,aN,ai,b7⟩:=bA y hy;have hx:=nG S bd m b N a0 a1 a2 a3 n d has y.sum aN V x1 (hV.on x2) hn hb bB (bC 2 _) x3 b9 ai;rw[show dL y.sum=.agg A by rw[x4];rfl]at hx;refine⟨aN,(kA ai).1,b7,iM hx ?_⟩;rintro e w' ⟨g1,g2,cv,rfl,g3⟩;obtain⟨ca,cc,rfl⟩:=cQ g3;exact⟨g1,g2,ca,_,cc,rfl⟩
 have ao:Hid (l.length<=16/\∀y∈l,y.dir=false/\y.sum.size=32):=⟨bz.2.2,λy hy=>⟨(bA y hy).1,((mC bz.2.1).1 y hy).2.1⟩⟩;have bj:=yH;have bi:=mZ;clear h hV hn hb bB bC bH bJ bD bK bF bL bM bN hW bz bA hx bO bG al aT aA aO aW;go_enter func160,ntmps160
 go_wp2_with fail
 refine au.mono ?_;rintro e w1 ⟨g1,g2,D,rfl⟩
 .obtain⟨C,hC⟩:=eX ((gp x).toArray);have c:C.toList=gp x:=by rw[hC]
  have G:C.size=34:=by rw[<-gf,c];exact ef x D
  have HC:Hid (C.size=34/\C.all (·.oneCell')=true):=⟨G,Array.all_eq_true_iff_forall_mem.2 (λv hv=>gR x v (by rw[<-c];simpa using hv))⟩;rw[<-hC];obtain⟨b8,ar⟩:=eX (w1.heap.size);obtain⟨A,hA⟩:=eX ((db x.sum).toArray);have HA:Hid (A.toList.length=32):=by show _=_;rw[hA];show(db x.sum).length=32;rw[cE,D]
  have aH:Hid (∀V1,V1=(w1.alloc (.cells ic 366)).setRow w1.heap.size C->ed V1 S bd m b N a0 a1 a2 a3 d has/\cq S w V1/\V1.cell? (yA b8 1)=some (.int .u8 (eG x:Int))/\V1.rangeAt b8 2 A.toList):=by
   intro V1 h1;have ac:Below w1.heap.size w1 V1:=h1▸cC ((dw _ _).alloc (cO _) _) (cO _) _;have r:V1.heap[b8]?=some (.cells C 366 (0,0)):=by rw[h1,ar];exact ja _ _ _ _ _ _ (dM w1 _)
   refine⟨g1.below ac,g2.trans (cq.of_below ac),by rw[cG r,<-kX,c];rfl,?_⟩;intro i v hv;rw[cG r,<-kX,c];show((.string x.name:Value)::.int .u8 (eG x:Int)::db x.sum)[2+i]?=some v;rw[Gb,A6,A6];rw[hA]at hv;exact hv
  have aI:Hid (A=(db x.sum).toArray/\x.sum.size=32):=⟨hA,D⟩;have bp:=ar.symm;clear hC c G g1 g2 hA D ar au;go_upto_region 2 with(first|(refine N0 rfl (some 8) rfl (yP w1.heap.size) (.cells ic 366) kR ?_)|(refine cu rfl 366 _ _ rfl w1.heap.size C rfl rfl 366 ic (dM w1 _) (by rw[HC.out.1];exact T) (by rw[HC.out.1];rfl) HC.2 ?_;intro V1 b1))
  obtain⟨y1,y2,y3,y4⟩:=aH V1 b1.out;have HY:Hid (ed V1 S bd m b N a0 a1 a2 a3 d has/\cq S w V1/\V1.rangeAt b8 2 A.toList):=⟨y1,y2,y4⟩;clear y1 y2 y4 b1 aH HC
  .have H:eG x=3:=by unfold eG;rw[bI];rfl
   rw[H]at y3;have be:=y3;clear y3 H bI;have aR:=Hid.mk' (b3 V1 A HY.1 HY.2.1 aI.2 aI.1)
   go_wp2_with (refine su rfl 131 _ rfl b8 2 rfl A.toList _ HY.2.2 kb rfl (by rw[HA.out];exact aj) ?_;rw[BO])
   refine aR.mono ?_;rintro e w5 ⟨q1,q2,v,rfl,I⟩;have aM:=ao.1
   .obtain⟨aq,c5,rfl⟩:=cQ I;obtain⟨k5,Z⟩:=eX (l.length);have aL:Hid (A4 w w5 S bd m b N a0 a1 a2 a3 d has l (.slice aq k5 c5) 0 [] (.slice none 0 0) w5):=by rw[Z];exact⟨q1,HY.2.1.trans q2,fq I (fP _),λq e=>⟨by have:=(cr I q e).1;have:=HY.2.1.size;omega,(cr I q e).2⟩,⟨rfl,.inl ⟨rfl,rfl⟩⟩,rfl,⟨cO _,by have:=HY.2.1.size;have:=q2.size;omega⟩⟩
    have HL:Hid (k5=l.length/\(∀y∈l,y.sum.size=32)):=⟨Z,λy hy=>(ao.2 y hy).2⟩;rw[<-Z]at aM⊢;have bg:(k5:Int)<=16:=oM;clear I Z q1 q2 be aR HY
    go_wp2
    go_loopw [11,43] (λv_ i_ wr=>∃i:Nat,i<=k5/\i_=.int .i64 i/\Hid (A4 w w5 S bd m b N a0 a1 a2 a3 d has l (.slice aq k5 c5) i ((l.take i).map ent) v_ wr)) (λ_ i_ _=>k5-(intOf i_).toNat)
    .exact⟨0,fP _,rfl,aL⟩
    obtain⟨i,hi,rfl,HI⟩:=hrel;obtain⟨es,M⟩:=eX ((l.take i).map ent);rw[<-M]at HI;have b0:=Hid.mk' M;have hI:=HI;clear aL M;by_cases bc:i<k5
    .have bf:(i:Int)<k5:=oM;have am:i<l.length:=by have:=HL.1;omega
     have H:=hI.lnk;rw[<-HL.out.1]at H;obtain⟨q5,bk,aU,-,-,Q⟩:=kr H bc;have aY:aq=some (yA q5 0):=by injection aU
     subst aY;obtain⟨y,hy⟩:=eX (l[i]);have B:y.sum.size=32:=hy▸HL.2 _ (mX _);rw[oe (λz hz=>HL.out.2 z hz) i am,<-hy]at Q;obtain⟨C,hC⟩:=eX ((gp y).toArray);have c:C.toList=gp y:=by rw[hC]
     have G:C.size=34:=by rw[<-gf,c];exact ef y B
     have HC:Hid (C.toList.length=34/\C.size=34/\C.all (·.oneCell')=true/\y.sum.size=32):=⟨by rw[gf,G],G,Array.all_eq_true_iff_forall_mem.2 (λv hv=>gR y v (by rw[<-c];simpa using hv)),B⟩;have ah:Hid (wr.rangeAt q5 (i*34) C.toList):=c▸Q;obtain⟨A2,aa⟩:=eX ((db y.sum).toArray);have aZ:Hid (A2.toList.length=32/\A2=(db y.sum).toArray):=⟨by rw[aa];show(db y.sum).length=32;rw[cE,B],aa⟩;obtain⟨f,L⟩:=eX (wr.heap.size)
     have ax:Hid (∀V2,V2=(wr.alloc (.cells ic 366)).setRow wr.heap.size C->A4 w w5 S bd m b N a0 a1 a2 a3 d has l (.slice (yS q5 0) k5 c5) i es u11 V2/\V2.cell? (yA f 0)=some (.string y.name)/\V2.cell? (yA f 1)=some (.int .u8 (eG y:Int))/\V2.rangeAt f 2 A2.toList/\f<V2.heap.size):=by
      intro V2 h1;have ac:Below wr.heap.size wr V2:=h1▸cC ((dw _ _).alloc (cO _) _) (cO _) _;have r:V2.heap[f]?=some (.cells C 366 (0,0)):=by rw[h1,L];exact ja _ _ _ _ _ _ (dM wr _)
      refine⟨HI.below p ac,by rw[cG r,<-kX,c];rfl,by rw[cG r,<-kX,c];rfl,?_,cm r⟩;intro i v hv;rw[cG r,<-kX,c];show((.string y.name:Value)::.int .u8 (eG y:Int)::db y.sum)[2+i]?=some v;rw[Gb,A6,A6];rw[aa]at hv;exact hv
     obtain⟨nm,av⟩:=eX (y.name);rw[<-av]at ax;have a5:Hid (nm=y.name/\y∈l/\(l.take (i+1)).map ent=es++[ent y]):=⟨av,hy▸mX _,by rw[sN am,qA,b0.out,hy];rfl⟩;have ad:=L.symm;have b5:=hI.le;clear hI H aU Q hy hC c G B aa av L;go_upto_region 13 with(first|(refine su rfl 366 _ rfl q5 (i*34) rfl C.toList _ ah BH rfl (by rw[HC.out.1];exact T) ?_;rw[BO])|(refine N0 rfl (some 13) rfl (yP wr.heap.size) (.cells ic 366) kR ?_)|(refine cu rfl 366 _ _ rfl wr.heap.size C rfl rfl 366 ic (dM wr _) (by rw[HC.out.2.1];exact T) (by rw[HC.out.2.1];rfl) HC.2.2.1 ?_;intro V2 aK))
     obtain⟨y1,y2,y3,y4,y5⟩:=ax V2 aK.out;have a4:=Hid.mk' y1;have an:Hid (V2.rangeAt f 2 A2.toList/\f<V2.heap.size):=⟨y4,y5⟩;clear y1 y4 y5 aK ax ah
     try rw[ad]
     clear ad;obtain⟨a,t⟩:=eX (V2.heap.size);have aV:y.dir=false:=(ao.2 y a5.2.1).1;have af:eG y=2:=by unfold eG;rw[aV];rfl
     rw[af]at y3;have aX:=y3;clear y3 af aV;obtain⟨V3,a7⟩:=eX (V2.alloc (.cells #[.string nm,.bool false,.int .i64 0] 52));have ap:Below V2.heap.size V2 V3:=by rw[a7];exact(dw _ _).alloc (cO _) _
     have J:V3.heap[a]?=some (.cells #[.string nm,.bool false,.int .i64 0] 52 (0,0)):=by rw[a7,t];exact dM V2 _
     have F:=Hid.mk' (a4.below p ap);have a8:Hid (V3.rangeAt f 2 A2.toList/\V3.heap[a]?=some (.cells #[.string nm,.bool false,.int .i64 0] 52 (0,0))):=⟨λi v hv=>by rw[ap.cell an.out.2];exact an.1 i v hv,J⟩;have aG:V3.cell? (yA a 1)=some (.bool false):=cG J;have O:Hid (w5.heap.size<=a/\u11.ownBlock≠some a):=⟨t▸a4.s5.1,λe=>by have:=(cr a4.own _ e).2;omega⟩;obtain⟨sz,bm,aC,ae⟩:=bb V3 y A2 a5.2.1 F.arc F.same HC.2.2.2 aZ.2;have ak:=Hid.mk' ae;have ba:=Hid.mk' aC;clear ap J a4 an ae aC;go_upto_region 14 with fail
     refine eR (λV=>Hid (V=V3)) a7.symm ?_;intro V0 g;rw[g.out,<-t];clear a7 g t aX y2
     go_wp2_with (refine su rfl 131 _ rfl f 2 rfl A2.toList _ a8.1 kb rfl (by rw[aZ.out.1];exact aj) ?_;rw[BO])
     refine ak.mono ?_;rintro e w6 ⟨z1,z2,z3⟩;have aF:=Hid.mk' (F.on p z2 z1);have ab:w6.heap[a]?=some (.cells #[.string nm,.bool false,.int .i64 0] 52 (0,0)):=by rw[z2.block _ (cm a8.out.2) (λe=>by have:=p.out _ e;have:=O.out.1;have:=F.out.s5.2;omega)];exact a8.2
     have b2:=Hid.mk' ab;have bo:=z2.size;have bn:=F.same.size;clear z1 z2 F a8 ak aG;obtain⟨ca,cn,cc,rfl⟩:=z3
     .have bh:(sz:Int)<=1536:=oM;obtain⟨W7,Y⟩:=eX (w6.alloc (.cells #[.int .i64 sz,.slice ca cn cc] 376));have az:Below w6.heap.size w6 W7:=by rw[Y];exact(dw _ _).alloc (cO _) _
      obtain⟨aE,K⟩:=eX (w6.heap.size);have ag:W7.heap[aE]?=some (.cells #[.int .i64 sz,.slice ca cn cc] 376 (0,0)):=by rw[Y,K];exact dM w6 _
      have a9:W7.heap[a]?=some (.cells #[.string nm,.bool false,.int .i64 0] 52 (0,0)):=by rw[az.block _ (cm ab)];exact ab
      have aS:=Hid.mk' (aF.below p az);obtain⟨W8,W⟩:=eX (W7.setCell (yA a 2) (.int .i64 sz));have aB:cq (·=a) W7 W8:=by rw[W];exact(cq.refl (·=a) W7).setCell (yA a 2) rfl _
      have ay:=Hid.mk' (aS.put p aJ O.1 O.2 aB);have a6:W8.heap[a]?=some (.cells #[.string nm,.bool false,.int .i64 sz] 52 (0,0)):=by rw[W,gE _ _ _ _ _ _ a9];rfl
      have k0:W7.cell? (yA aE 0)=some (.int .i64 sz):=cG ag;have k1:W7.cell? (yA a 2)=some (.int .i64 0):=cG a9;have k2:=fH W7 a 2 _ _ a9;have m0:W8.cell? (yA a 0)=some (.string nm):=cG a6;have m1:W8.cell? (yA a 1)=some (.bool false):=cG a6;have m2:W8.cell? (yA a 2)=some (.int .i64 sz):=cG a6;clear az ag a9 aB a6 ab b2 aF aS;go_upto_region 16 with fail
      refine eR (λV=>Hid (V=W7)) Y.symm ?_;intro V0 g;rw[g.out,<-K];clear Y g K;go_upto_region 19 with fail
      refine eR (λV=>Hid (V=W8)) W.symm ?_;intro V0 g;rw[g.out];clear W g k0 k1 k2;have b6:=Hid.mk' (ay.own);have aP:Hid (∀g9 o W9,W9.ownsRow w5.heap.size 52 3 (.slice (yS g9 0) (es.length+1) o) (es.length+1) (eE es++[.string nm,.bool false,.int .i64 sz])->(W8.alloc (.cells #[.string nm,.bool false,.int .i64 sz] 52)).grownBy W9 u11.ownBlock->A4 w w5 S bd m b N a0 a1 a2 a3 d has l (.slice (yS q5 0) k5 c5) (i+1) (es++[(nm,false,sz)]) (.slice (yS g9 0) (es.length+1) o) W9):=λg9 o W9 h1 h2=>ay.app (x:=(nm,false,sz)) p aJ h1 h2
      go_wp2_with (at_builtin;refine F0 _ rfl (.tmp 69) (.tmp 71) 48 rfl w5.heap.size 52 i0 (.agg #[.string ⟨#[]⟩,.bool false,.int .i64 0]) 3 32 QC U.1 U.2.1 U.2.2.1 U.2.2.2 rfl dE u11 es.length (eE es) rfl (rI (w:=W8) b6 _) (yA W8.heap.size 0) 1 1 [.string nm,.bool false,.int .i64 sz] rfl rfl (λj u hj=>ip W8 _ _ _ _ j u hj) (by intro u hu;simp at hu;rcases hu with rfl|rfl|rfl<;>rfl) dE (by unfold maxLen;omega) oM (by have:=ay.s5.1;simp;omega) (W8.heap.size+1) sI ?_;intro g9 o W9 P E aQ aD;have b4:=Hid.mk' (aP g9 o W9 P E);clear P E aQ aD)
      go_roundw
      .exact⟨i+1,oM,by go_num,by rw[a5.out.2.2,ba.out,<-a5.out.1];exact b5▸b4⟩
      exact mS
    have bf:¬(i:Int)<k5:=oM
    have HE:Hid (Rs w S bd m b N a0 a1 a2 a3 d has (l.map ent) (.returned (.tuple #[u11,.nilIface])) wr):=by
     have h:=HI;have e:es=l.map ent:=by rw[b0.out,pK (by have:=HL.out.1;omega)]
     rw[e]at h;exact⟨h.arc,h.same,u11,rfl,fq h.own h.s5.2⟩
    go_wp2
    refine gh (lB rfl _ _ _) rfl ?_;exact HE
theorem xz(f:Nat)(c:Int)(d:1<=c)(g:Value)(w:World)(Q:Ending->World->Prop)(b:Calls prog 160 #[yP f,.int .i64 c,g] w λe w'=>∃v,e=.returned (.tuple #[v,.nilIface])/\Q (.returned (.tuple #[v,.nilIface])) w'):
  Calls prog 91 #[yP f,.int .i64 c,g] w λe w'=>Q e w':=by
 have HL:=Hid.mk' b;have a:(c==0)=false:=by rw[tC];omega
 clear b d;go_enter func91,ntmps91
 go_wp2_with (go_at_call 160;refine HL.mono ?_;rintro e w1 ⟨v,rfl,hq⟩;have HQ:=Hid.mk' hq;clear hq)
 exact HQ
def QS(H:Nat)(most:Int)(E:List (ByteArray×Bool×Nat))(w':World):Prop:=∃B lv ov,og w' H B most lv (ui most E) 0 ov
theorem D4(H:Nat)(a:Int)(r:Nat)(s:Int)(S:Nat->Prop)(f m:Nat)(d:cX)(t:Value)(E:List (ByteArray×Bool×Nat))(u y z A:Nat)(w:World)(C:yD a)(b:∀q,S q->q<H)(i:E.length<=256)(c:∀w1,Below w.heap.size w w1->Calls prog 91 #[yP r,.int .i64 s,t] w1 λe w'=>∃v,e=.returned (.tuple #[v,.nilIface])/\cq S w1 w'/\cD w' S f m d/\w'.ownsRow w1.heap.size 52 3 v E.length (eE E))(o:og w H w.heap.size a (.slice none 0 0) [] 0 false)(D:w.cell? (yA u 0)=some (yP r))(F:w.cell? (yA y 0)=some (.int .i64 s))(G:w.cell? (yA z 0)=some t)(I:w.cell? (yA A 0)=some .nilIface):
  Calls prog 90 #[.func (.func 48) #[] #[yP (H+4),yP (H+5),yP (H+2),yP (H+3),yP (H+1),yP H],yP A,yP u,yP y,yP z] w λe w'=>e=.returned (.tuple #[])/\QS H a E w'/\cq (λg=>S g\/H<=g) w w'/\cD w' S f m d:=by
 have HE:=Hid.mk' c;have heq:∀(caps:Array Value)(w:World),(binOp BinOp.eql 99 (.func (.func 48) #[] caps) .nilFunc).run prog w=.ok (.bool false) w:=λ_ _=>by rfl
 have hnot:=mZ;have hnl:=yH;have hel:∀w,(binOp BinOp.eql 92 .nilIface .nilIface).run prog w=.ok (.bool true) w:=λw=>by rfl
 have HP:=hD o;obtain⟨G2,lb2⟩:=o.hB;have HSLH:=Hid.mk' b;clear c o b;go_enter func90,ntmps90
 go_wp2
 go_quiet (fail)
 go_wp2_with fail
 refine iM (HE.out _ ?hbq) ?_
 case hbq=>exact⟨rfl,rfl,rfl,cO _,λ_ _=>rfl⟩
 rintro e w3 ⟨v,rfl,hs3',hd3,hown⟩;clear HE D F G I;have hs3:cq S w w3:=(cN (show Below w.heap.size w (w.drewN nq) from⟨rfl,rfl,rfl,cO _,λ_ _=>rfl⟩)).trans hs3';clear hs3';have hown:=hown;have hsz3:=hs3.size;have HB3:=hD hs3;have HD3:=Hid.mk' hd3;have HLB:Hid (og w3 H w3.heap.size a (.slice none 0 0) [] 0 false):=by have h:=HP.out;have hsl:=HSLH.out;exact⟨by rw[hs3.block _ (by omega) (λe=>by have:=hsl _ e;omega)];exact h.most,by rw[hs3.block _ (by omega) (λe=>by have:=hsl _ e;omega)];exact h.l,by rw[hs3.block _ (by omega) (λe=>by have:=hsl _ e;omega)];exact h.e,by rw[hs3.block _ (by omega) (λe=>by have:=hsl _ e;omega)];exact h.at_,by rw[hs3.block _ (by omega) (λe=>by have:=hsl _ e;omega)];exact h.over,by rw[hs3.block _ (by omega) (λe=>by have:=hsl _ e;omega)];exact h.more,⟨rfl,.inl ⟨rfl,rfl⟩⟩,⟨oM,cO _⟩⟩
 .obtain⟨ao,cp,rfl⟩:=cQ hown;have HOW:Hid (0<E.length->∃g,ao=some (yA g 0)/\H+6<=g/\g<w3.heap.size/\∀k (hk:k<E.length),w3.cell? (yA g (k*3))=some (.string E[k].1)/\w3.cell? (yA g (k*3+1))=some (.bool E[k].2.1)/\w3.cell? (yA g (k*3+2))=some (.int .i64 (E[k].2.2:Int))):=by intro hn;obtain⟨g,cap,hv,h1,h2,h3⟩:=uj hown hn;refine⟨g,by injection hv,?_,h2,h3⟩;have:w.heap.size<=g:=h1;have:=HP.out.hB.1;omega
  have HPS:Hid (∀wr,cq (sO H w3.heap.size) w3 wr->cq (λg=>S g\/H<=g) w wr):=λwr hs=>(HB3.out.weak (λg hg=>.inl hg)).trans (hs.weak (by rintro g (h|h|h)<;>exact .inr oM))
  have HDS:Hid (∀wr,cq (sO H w3.heap.size) w3 wr->cD wr S f m d):=λwr hs=>HD3.out.on hs (λg hg e=>by have:=HSLH.out g hg;rcases e with e|e|e<;>omega)
  obtain⟨n,hn⟩:=eX (E.length);rw[<-hn]at i⊢;have HN:=hD hn;obtain⟨B,hBB⟩:=eX (w3.heap.size);rw[<-hBB]at HLB HPS HDS;have HBB:=hD hBB;have hni:(n:Int)<=256:=oM;clear hown hs3 hn hBB hsz3 hd3
  go_wp2
  go_loopw [30] (λiv_ wr=>∃k:Nat,k<=n/\iv_=.int .i64 k/\Hid ((∃lv,og wr H B a lv (E.take k) 0 false)/\cq (sO H B) w3 wr/\∀j,j<k->oW a (j+1)=false)) (λiv_ _=>n-(intOf iv_).toNat)
  .exact⟨0,oM,rfl,⟨_,HLB.out⟩,cq.refl _ _,λj hj=>absurd hj oM⟩
  clear HLB;obtain⟨k,hk,rfl,HI⟩:=hrel;by_cases hlt:k<n
  .obtain⟨⟨lv,hlb⟩,hsm,hyo⟩:=HI.out;have hkE:k<E.length:=by rw[<-HN.out];exact hlt
   obtain⟨g,rfl,hg6,hgl,hcs⟩:=HOW.out oM;have hng:¬sO H B g:=by rintro(h|h|h)<;>(have:=HBB.out;omega)
   obtain⟨q0,q1,q2⟩:=hcs k hkE;have r0:=hsm.cell (p:=(yA g (k*3))) hng q0;have r1:=hsm.cell (p:=(yA g (k*3+1))) hng q1;have r2:=hsm.cell (p:=(yA g (k*3+2))) hng q2;have htl:(E.take k).length=k:=by rw[vx];omega
   have hts:E.take k++[E[k]]=E.take (k+1):=(sN hkE).symm;have HY:=Gr H B a lv (E.take k) E[k] (wr.alloc (.cells #[.string E[k].1,.bool E[k].2.1,.int .i64 (E[k].2.2:Int)] 52)) (hlb.alloc _) oM C;rw[htl,hts]at HY;obtain⟨⟨nm,dr,sz⟩,hx⟩:∃x,x=E[k]:=⟨_,rfl⟩;rw[<-hx]at r0 r1 r2 HY;have r0:=r0;have r1:=r1;have r2:=r2;unfold Ii at HY;have HYY:=hD HY;have HSM:Hid (∀w',cq (sO H B) (wr.alloc (.cells #[.string nm,.bool dr,.int .i64 sz] 52)) w'->cq (sO H B) w3 w'):=λw' h=>(hsm.alloc _).trans h
   have HYO:=hD hyo;have hki:(k:Int)<n:=oM;clear HI hlb hsm hyo hcs hng q0 q1 q2 htl hts hx HY hg6 hgl hkE;cases hyk:oW a (k+1)
   .rw[hyk]at HYY;have HYK:=hD hyk;clear hyk
    go_wp2_with (go_at_call 48;refine HYY.out.mono ?_;rintro e w4 ⟨rfl,hl4,hs4⟩;have HL4:Hid (∃lv',og w4 H B a lv' (E.take (k+1)) 0 false):=hl4;have HS4:Hid (cq (sO H B) w3 w4):=HSM.out w4 hs4;clear hl4 hs4 HYY HSM)
    go_roundw
    case rel=>
     refine⟨k+1,oM,by go_num,HL4.out,HS4.out,λj hj=>?_⟩;by_cases e:j=k
     .rw[e];exact HYK.out
     exact HYO.out j oM
    exact mS
   rw[hyk]at HYY;have HYK:=hD hyk;clear hyk
   go_wp2_with (go_at_call 48;refine HYY.out.mono ?_;rintro e w4 ⟨rfl,hl4,hs4⟩;have HL4:Hid (∃lv',og w4 H B a lv' (E.take (k+1)) 0 true):=hl4;have HS4:Hid (cq (sO H B) w3 w4):=HSM.out w4 hs4;clear hl4 hs4 HYY HSM)
   first|go_end0|(simp only[Exit.inBlock,Exit.then];refine gh (MR rfl _ _ _) rfl ?_)|refine gh (MR rfl _ _ _) rfl ?_
   obtain⟨lv',hl4⟩:=HL4.out;rw[<-CN a E k HYK.out]at hl4;exact⟨rfl,⟨B,lv',_,hl4⟩,HPS.out w4 HS4.out,HDS.out w4 HS4.out⟩
  have hkn:k=n:=oM;have hki:¬(k:Int)<n:=oM
  go_wp2
  first|go_end0|(simp only[Exit.inBlock,Exit.then];refine gh (MR rfl _ _ _) rfl ?_)|refine gh (MR rfl _ _ _) rfl ?_
  obtain⟨⟨lv,hlb⟩,hsm,hyo⟩:=HI.out;rw[hkn,HN.out,NP]at hlb;have ht:=ES a E (λj hj=>hyo j (by rw[hkn,HN.out];exact hj));rw[<-ht]at hlb;exact⟨rfl,⟨B,lv,_,hlb⟩,HPS.out _ hsm,HDS.out _ hsm⟩
def K1(w:World)(a:Nat->Addr)(ba:Nat)(sn:Int)(s:ByteArray)(e:Ending)(w':World):Prop:=∃b0 b1 b2 b3 nv ev,e=.returned (.func (.func 90) #[] #[yP b3,yP b0,yP b1,yP b2])/\Below w.heap.size w w'/\w'.cell? (yA b0 0)=some (yP ba)/\w'.cell? (yA b1 0)=some (.int .i64 sn)/\w'.cell? (yA b2 0)=some nv/\w'.cell? (yA b3 0)=some ev/\((∃l,cZ s=some l/\ev=.nilIface/\gt w' nv l)\/(cZ s=none/\ev=rv (a 4)))
theorem Fo(q:Nat)(r:Int)(s:ByteArray)(w:World)(a:Nat->Addr)(m:Int)(t:eS w a m)(u:s.size<=262144):
  Calls prog 47 #[yP q,.int .i64 r,.string s] w λe w'=>K1 w a q r s e w':=by
 have p:=Mf
 have HN:Hid (∀w1,Below w.heap.size w w1->Calls prog 89 #[.string s] w1 λe w'=>∃v ev,e=.returned (.tuple #[v,ev])/\Hid (Below w1.heap.size w1 w'/\((∃l,cZ s=some l/\ev=.nilIface/\gt w' v l)\/(cZ s=none/\ev=rv (a 4)/\v=.slice none 0 0)))):=λw1 hb=>by
  have j:=t.on hb;refine(rN s w1 a m j.sent.v4 j.max u).mono ?_;rintro e w' ⟨v,c,rfl,h1,⟨l,h2,rfl,h3⟩|⟨h2,rfl,h3⟩⟩
  .exact⟨v,_,rfl,h1,.inl ⟨l,h2,rfl,h3⟩⟩
  exact⟨v,_,rfl,h1,.inr ⟨h2,rfl,h3⟩⟩
 clear t;go_enter func47,ntmps47
 go_wp2_with fail
 refine iM (HN.out _ ?hb) ?_
 case hb=>exact((dw _ _).alloc (cO _) _).alloc sI _
 rintro e w1 ⟨v,ev,rfl,HK⟩;have b:=HK.out.1;have k0:w1.cell? (yA w.heap.size 0)=some (yP q):=by rw[b.cell (by simp;omega)];simp
 have k1:w1.cell? (yA (w.heap.size+1) 0)=some (.int .i64 r):=by rw[b.cell (by simp)];simp
 have hb:Below w.heap.size w w1:=(((dw _ _).alloc (cO _) _).alloc sI _).trans (b.mono (by simp;omega));have o:w.heap.size+2<=w1.heap.size:=by have:=b.size;simp at this;omega
 have HB:=hD hb;have HC:Hid (w1.cell? (yA w.heap.size 0)=some (yP q)/\w1.cell? (yA (w.heap.size+1) 0)=some (.int .i64 r)):=⟨k0,k1⟩;clear b hb k0 k1;have d:=hD HK.out.2
 have i:Hid (K1 w a q r s (.returned (.func (.func 90) #[] #[yP (w1.heap.size+1),yP w.heap.size,yP (w.heap.size+1),yP w1.heap.size])) ((w1.alloc (.cells #[v] 35)).alloc (.cells #[ev] 92))):=by
  have f:Below w1.heap.size w1 ((w1.alloc (.cells #[v] 35)).alloc (.cells #[ev] 92)):=((dw _ _).alloc (cO _) _).alloc sI _;refine⟨_,_,_,_,v,ev,rfl,HB.out.trans (f.mono HB.out.size),?_,?_,?_,?_,?_⟩
  .rw[f.cell (by show w.heap.size<_;omega)];exact HC.out.1
  .rw[f.cell (by show w.heap.size+1<_;omega)];exact HC.out.2
  .simp
  .simp
  .rcases d.out with⟨l,h1,h2,h3⟩|h
   .exact .inl ⟨l,h1,h2,h3.on f⟩
   exact .inr ⟨h.1,h.2.1⟩
 clear HK HN;rcases d.out with⟨l,-,rfl,k⟩|⟨-,rfl,rfl⟩
 .obtain⟨ao,n,c,rfl⟩:∃ao n c,v=.slice ao n c:=by
   rcases k with⟨-,ao,c,h⟩|⟨g,c,h,-⟩
   .exact⟨ao,0,c,h⟩
   exact⟨_,_,c,h⟩
  clear d k
  go_wp2
  go_ret;exact i.out
 clear d
 go_wp2
 go_ret;exact i.out
def Hm(w:World)(S:Nat->Prop)(bd m:Nat)(d:cX)(E:List (ByteArray×Bool×Nat))(e:Ending)(w':World):Prop:=∃v,e=.returned (.tuple #[v,.int .i64 0,.int .i64 (-1),.bool false])/\cq S w w'/\cD w' S bd m d/\w'.ownsRow w.heap.size 52 3 v E.length (eE E)
def Qj(w:World)(S:Nat->Prop)(bd m:Nat)(d:cX)(E:List (ByteArray×Bool×Nat))(w':World):Prop:=∃v,w'.cell? (yA (w.heap.size+1) 0)=some v/\w'.cell? (yA (w.heap.size+2) 0)=some (.int .i64 0)/\w'.cell? (yA (w.heap.size+3) 0)=some (.int .i64 (-1))/\w'.cell? (yA (w.heap.size+5) 0)=some (.bool false)/\cq S w w'/\cD w' S bd m d/\w'.ownsRow w.heap.size 52 3 v E.length (eE E)
theorem rX(F:Nat)(G:Int)(S:Nat->Prop)(H I:Nat)(d:cX)(E:List (ByteArray×Bool×Nat))(l:List ByteArray)(a:Nat->Addr)(m:Int)(s:ByteArray)(D:Int)(w:World)(M:D=0)(J:∀q,S q->q<w.heap.size)(K:E.length<=256)(N:cZ s=some l)(L:∀w1 nv,Below w.heap.size w w1->gt w1 nv l->Calls prog 91 #[yP F,.int .i64 G,nv] w1 λe w'=>∃v,e=.returned (.tuple #[v,.nilIface])/\cq S w1 w'/\cD w' S H I d/\w'.ownsRow w1.heap.size 52 3 v E.length (eE E))(O:eS w a m)(P:s.size<=262144)(Q:yD D):
  Calls prog 28 #[yP F,.int .i64 G,.string s,.int .i64 D] w λe w'=>Hm w S H I d E e w':=by
 have C:=Mf;have A:∀(fn:Fn)(caps:Array Value)(w:World),(binOp BinOp.eql 97 (.func fn #[] caps) .nilFunc).run prog w=.ok (.bool false) w:=λ_ _ _=>by rfl
 have HA:=hD (Fo F G s _ a m (O.on (zF w D)) P)
 have i:Hid (∀w1 b0 b1 b2 b3 nv ev,Below (W6 w D).heap.size (W6 w D) w1->w1.cell? (yA b0 0)=some (yP F)->w1.cell? (yA b1 0)=some (.int .i64 G)->w1.cell? (yA b2 0)=some nv->w1.cell? (yA b3 0)=some ev->((∃l,cZ s=some l/\ev=.nilIface/\gt w1 nv l)\/(cZ s=none/\ev=rv (a 4)))->Calls prog 90 #[.func (.func 48) #[] #[yP (w.heap.size+4),yP (w.heap.size+5),yP (w.heap.size+2),yP (w.heap.size+3),yP (w.heap.size+1),yP w.heap.size],yP b3,yP b0,yP b1,yP b2] w1 λe w'=>e=.returned (.tuple #[])/\Hid (Qj w S H I d E w')):=by
  intro w1 b0 b1 b2 b3 nv ev f k0 k1 k2 k3 c;have g:Below w.heap.size w w1:=(zF w D).trans (f.mono (by rw[Df];omega));have y:og w1 w.heap.size w1.heap.size D (.slice none 0 0) [] 0 false:=(LK w D).on f;rcases c with⟨l',b,rfl,z⟩|⟨b,rfl⟩
  .rw[N]at b;cases b;refine(D4 w.heap.size D F G S H I d nv E b0 b1 b2 b3 w1 Q J K (λw2 r=>L w2 nv (g.trans (r.mono g.size)) (z.on r)) y k0 k1 k2 k3).mono ?_;rintro e w' ⟨rfl,⟨B,lv,ov,b⟩,x,u⟩;have ht:ui D E=E:=by unfold ui;rw[dj (by omega)]
   rw[ht]at b;exact⟨rfl,lv,cG b.l,cG b.e,cG b.at_,cG b.more,(cN g).then (x.weak (λq hq=>hq)),u,ii b.own (by have:=b.hB.1;omega)⟩
  rw[N]at b;cases b
 have t:Hid (W6 w D=(((((w.alloc (.cells #[.int .i64 D] 3)).alloc (.cells #[.slice none 0 0] 48)).alloc (.cells #[.int .i64 0] 3)).alloc (.cells #[.int .i64 (-1)] 3)).alloc (.cells #[.bool false] 4)).alloc (.cells #[.bool false] 4)):=rfl;clear L O P J K N Q M;go_enter func28,ntmps28
 go_wp2_with fail
 rw[<-t.out];refine HA.out.mono ?_;rintro e w1 ⟨b0,b1,b2,b3,nv,ev,rfl,f,k0,k1,k2,k3,c⟩;have o:=i.out w1 b0 b1 b2 b3 nv ev f k0 k1 k2 k3 c;clear HA i t f k0 k1 k2 k3 c
 go_wp2_with fail
 refine o.mono ?_;rintro e w2 ⟨rfl,HE⟩;obtain⟨v,g1,g2,g3,g5,p,j,c⟩:=HE.out;obtain⟨ao,cp,rfl⟩:=cQ c;obtain⟨n,hn⟩:=eX (E.length);rw[<-hn]at g1;have g2:=g2;have g3:=g3;have g5:=g5;have HF:Hid (∀k,Hm w S H I d E (.returned (.tuple #[.slice ao n cp,.int .i64 0,.int .i64 (-1),.bool false])) (w2.drewN k)):=λk=>by have hb:Below w2.heap.size w2 (w2.drewN k):=⟨rfl,rfl,rfl,cO _,λ_ _=>rfl⟩;exact⟨_,rfl,p.trans (cN hb),j.on (T:=λ_=>False) (cN hb) (λ_ _ h=>h),by rw[hn];exact cI c (λq hq=>rfl)⟩
 clear c HE o hn p j
 go_wp2
 go_quiet (fail)
 go_wp2
 refine gh (xn rfl _ _ _) rfl ?_;exact HF.out _
theorem ut(S:Nat->Prop)(J m b N K L M O n:Nat)(sn:Int)(d:cX)(has:List Ob)(infos:List jR)(sv nv:Value)(I:List ByteArray)(w:World)(h:ed w S J m b N K L M O d has)(hV:iY w S)(hn:d.safe.length=n)(hb:n<=4096)(U:∀s∈df d,s.size=64)(W:∀k s,(cJ has k s).2<=6000)(a4:∀q,S q->q<w.heap.size)(a5:w.cell? (yA b 3)=some sv)(P:w.ownsRow 0 133 33 sv infos.length (fG infos))(a6:∀q,sv.ownBlock=some q->¬S q)(Q:∀i∈infos,i.root.size=32)(a7:infos.length<=100000)(a8:gt w nv I)(a9:I.length<=1)(s0:Nat)(aa:sn=(s0:Int)+1)(T:s0<infos.length)(X:Nat->gS)(hW:OQ d has infos[s0].root I X)(Y:(X I.length).dir=false)(Z:uJ d has (X I.length).sum):
  Calls prog 168 #[yP b,.int .i64 sn,nv] w λe w'=>ed w' S J m b N K L M O d has/\cq S w w'/\e=.returned (.tuple #[.string (mF d has (X I.length).sum),.nilIface]):=by
 have g:=Hid.mk' (ux S J m b N K L M O n sn d has infos sv nv I w h hV hn hb U W a4 a5 P a6 Q a7 a8 a9 s0 aa T X hW);obtain⟨x,hx⟩:=eX (X I.length);rw[<-hx]at g Y Z⊢;have r:Hid ((prog.info? 366).map (·.size)=some 34):=by show _=_;kernel_rfl
 have D:Hid ((prog.info? 131).map (·.size)=some 32):=by show _=_;kernel_rfl
 obtain⟨dd,j⟩:=eX (mF d has x.sum);have E:Hid (∀V (A:Array Value),ed V S J m b N K L M O d has->cq S w V->x.sum.size=32->A=(db x.sum).toArray->Calls prog 240 #[yP b,.agg A] V λe w'=>e=.returned (.tuple #[.string dd,.nilIface])/\ed w' S J m b N K L M O d has/\cq S w w'):=by intro V A x1 x2 x3 x4;have hx:=nC S J m b N K L M O n d has x.sum V x1 (hV.on x2) hn hb U W x3 Z;rw[show dL x.sum=.agg A by rw[x4];rfl]at hx;refine iM hx ?_;rintro e w' ⟨g1,g2,rfl⟩;exact⟨by rw[j],g1,x2.trans g2⟩
 rw[<-j];have F:=yH;clear h hV hn hb U W a4 a5 P a6 Q a7 a8 a9 hW Z j hx aa T;go_enter func168,ntmps168
 go_wp2_with fail
 refine g.mono ?_;rintro e w1 ⟨g1,g2,a,rfl⟩;obtain⟨C,hC⟩:=eX ((gp x).toArray);have c:C.toList=gp x:=by rw[hC]
 have p:C.size=34:=by rw[<-gf,c];exact ef x a
 have HC:Hid (C.size=34/\C.all (·.oneCell')=true):=⟨p,Array.all_eq_true_iff_forall_mem.2 (λv hv=>gR x v (by rw[<-c];simpa using hv))⟩;rw[<-hC];obtain⟨b8,l⟩:=eX (w1.heap.size);obtain⟨A,hA⟩:=eX ((db x.sum).toArray);have HA:Hid (A.toList.length=32):=by show _=_;rw[hA];show(db x.sum).length=32;rw[cE,a]
 have z:Hid (∀V1,V1=(w1.alloc (.cells ic 366)).setRow w1.heap.size C->ed V1 S J m b N K L M O d has/\cq S w V1/\V1.cell? (yA b8 1)=some (.int .u8 (eG x:Int))/\V1.rangeAt b8 2 A.toList):=by
  intro V1 h1;have B:Below w1.heap.size w1 V1:=h1▸cC ((dw _ _).alloc (cO _) _) (cO _) _;have f:V1.heap[b8]?=some (.cells C 366 (0,0)):=by rw[h1,l];exact ja _ _ _ _ _ _ (dM w1 _)
  refine⟨g1.below B,g2.trans (cq.of_below B),by rw[cG f,<-kX,c];rfl,?_⟩;intro i v hv;rw[cG f,<-kX,c];show((.string x.name:Value)::.int .u8 (eG x:Int)::db x.sum)[2+i]?=some v;rw[Gb,A6,A6];rw[hA]at hv;exact hv
 have t:Hid (A=(db x.sum).toArray/\x.sum.size=32):=⟨hA,a⟩;have H:=l.symm;clear hC c p g1 g2 hA a l g;go_upto_region 2 with(first|(refine N0 rfl (some 8) rfl (yP w1.heap.size) (.cells ic 366) kR ?_)|(refine cu rfl 366 _ _ rfl w1.heap.size C rfl rfl 366 ic (dM w1 _) (by rw[HC.out.1];exact r) (by rw[HC.out.1];rfl) HC.2 ?_;intro V1 u))
 obtain⟨y1,y2,y3,y4⟩:=z V1 u.out;have HY:Hid (ed V1 S J m b N K L M O d has/\cq S w V1/\V1.rangeAt b8 2 A.toList):=⟨y1,y2,y4⟩;clear y1 y2 y4 u z HC;have y:eG x=2:=by unfold eG;rw[Y];rfl
 rw[y]at y3;have G:=y3;clear y3 y Y
 go_wp2_with (refine su rfl 131 _ rfl b8 2 rfl A.toList _ HY.2.2 kb rfl (by rw[HA.out];exact D) ?_;rw[BO])
 refine(E V1 A HY.1 HY.2.1 t.2 t.1).mono ?_;rintro e w5 ⟨rfl,f,o⟩;have HR:Hid (ed w5 S J m b N K L M O d has/\cq S w w5):=⟨f,o⟩;clear f o
 go_wp2_with fail
 refine gh (lB rfl _ _ _) rfl ?_;exact⟨HR.1,HR.2,rfl⟩
theorem Ev(Q:World->Prop)(q:Nat)(n:Int)(o:1<=n)(l:List ByteArray)(r s:ByteArray)(a:Nat->Addr)(m:Int)(w:World)(p:eS w a m)(t:s.size<=262144)(u:cZ s=some l)(k:∀V nv,Below w.heap.size w V->gt V nv l->Calls prog 168 #[yP q,.int .i64 n,nv] V λe w'=>e=.returned (.tuple #[.string r,.nilIface])/\Q w'):
  Calls prog 94 #[yP q,.int .i64 n,.string s] w λe w'=>e=.returned (.tuple #[.string r,.nilIface])/\Q w':=by
 have HN:=hD (pq s w a m p.sent.v4 p.max t);have d:=Hid.mk' k;have HL:=Hid.mk' u;have j:(n==0)=false:=by rw[tC];omega
 clear p k u o t;go_enter func94,ntmps94
 go_wp2_with fail
 refine HN.mono ?_;rintro e w1 ⟨v,c,rfl,h,⟨l',b,rfl,g⟩|⟨b,-⟩⟩
 .rw[HL.out]at b;cases b;rw[show fg a 0=.nilIface from rfl];have HR:=Hid.mk' (d w1 v h g);clear h g HN d
  go_wp2_with (go_at_call 168;refine HR.mono ?_;rintro e w2 ⟨rfl,f⟩;have i:=Hid.mk' f;clear f)
  refine gh (lB rfl _ _ _) rfl ?_;exact⟨rfl,i⟩
 rw[HL.out]at b;cases b
theorem B1(Q:World->Prop)(k:Nat)(j:Int)(n:1<=j)(l:List ByteArray)(o s:ByteArray)(a:Nat->Addr)(m:Int)(w:World)(p:eS w a m)(r:s.size<=262144)(t:cZ s=some l)(h:∀V nv,Below w.heap.size w V->gt V nv l->Calls prog 168 #[yP k,.int .i64 j,nv] V λe w'=>e=.returned (.tuple #[.string o,.nilIface])/\Q w')(q:∀V V',Q V->Below V.heap.size V V'->Q V')(i:∀V,Q V->jm V a):
  Calls prog 51 #[yP k,.int .i64 j,.string s] w λe w'=>e=.returned (.tuple #[.string o,.int .i64 0,.int .i64 (-1)])/\Q w':=by
 have HR:=Hid.mk' (Ev Q k j n l o s a m w p r t h);have HN:Hid (∀w',Q w'->Calls prog 43 #[.nilIface] w' λe w2=>e=.returned (.tuple #[.int .i64 0,.int .i64 (-1)])/\Q w2):=λw' h'=>by refine(gT 0 oM a w' (i w' h')).mono ?_;rintro e w2 ⟨rfl,f⟩;exact⟨rfl,q _ _ h' f⟩
 clear p h q i;go_enter func51,ntmps51
 go_wp2_with (first|(go_at_call 94;refine HR.mono ?_;rintro e w1 ⟨rfl,b⟩;have d:=Hid.mk' b;clear b)|(go_at_call 43;refine(HN _ d).mono ?_;rintro e w2 ⟨rfl,c⟩;have g:=Hid.mk' c;clear c))
 refine gh (Lu rfl _ _ _) rfl ?_;exact⟨rfl,g⟩
end
end Go.Proofs.YtapijhhmjjplmaaGreatDoor

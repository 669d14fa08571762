import Derived.Test.YtapijhhmjjplmaaGreatDoorJonce29
import Derived.Test.YtapijhhmjjplmaaGreatDoorJonce30
namespace Go.Proofs.YtapijhhmjjplmaaGreatDoor
set_option linter.all false
set_option maxRecDepth 100000
set_option maxHeartbeats 4000000
open Go.Proofs.Tryz
variable {nm t:ByteArray}{d:cX}{infos:List jR}{has:List Ob}{pre:List Value}{M M':fm}{mr fb N g a0 a1 a2 a3 sh b c7 bd m j N':Nat}{S U SI:Nat→Prop}{sv sv':Value}{w wr w' V:World}
section
open Go.RowKit Go.Maps
theorem Lp(w:World)(f c:Nat)(D:DataW Value)(n:ByteArray)(b:Nat)(h:w.ownsMap prog 9 cY f c D)(hc:c<=1000)(g:n.size<=1000000):
  ∃w2,(Instr.mapUpdate 272 (.map (some f)) (.string n) (yP b)).run prog w=.ok () w2/\w2.ownsMap prog 9 cY f (c+1) (D.put (.string (bl n)) (.held (eM b)))/\cq (·=f) w w2:=by
 obtain⟨w2,h1,h2,h3⟩:=h.update mm La (by unfold maxLen;omega) (key:=.string n) (val:=yP b) (kl:=.string (bl n)) (d:=.held (eM b)) (ps:=[]) (NQ xV (by unfold maxLen;omega)) rfl;exact⟨w2,h1,h2,⟨h3.os,h3.tape,h3.output,h3.size,λk hk a=>h3.block k hk (λe=>a (kM e))⟩⟩
theorem dC.one(o:w.ownsMap prog 9 cY mr 1 ((DataW.map []).put (.string (bl nm)) (.held (eM fb))))(r:w.heap[mr+1]?=some (.cells #[.string ⟨#[]⟩,.map (some mr)] 274 (0,0)))(s:w.heap[fb]?=some (.cells #[.string t,.map none] 274 (0,0)))(s1:S mr)(s2:S (mr+1))(s3:S fb)(u:fb≠mr)(n:fb≠mr+1):dC w S (mr+1) [⟨[nm],false,t⟩] (λp=>if p=[]then mr+1 else fb) (λ_=>mr):=by
 have a:∀k:ByteArray,[k]≠[]:=λk h=>by cases h
 have hl:∀p,cA [⟨[nm],false,t⟩] p=if[nm]=p then some ⟨[nm],false,t⟩else none:=λp=>by
  unfold cA;rw[IE];by_cases h:[nm]=p
  .rw[dq h,jX h]
  rw[dj h,lW h];rfl
 have b:∀p,dK [⟨[nm],false,t⟩] p->p=[]\/p=[nm]:=by
  rintro p (h|h)
  .exact .inl h
  rw[hl]at h;split at h
  .rename_i e;exact .inr e.symm
  cases h
 have hF:eO [⟨[nm],false,t⟩] [nm]=true:=by unfold eO;rw[hl,dq rfl];rfl
 have f:eO [⟨[nm],false,t⟩] []=false:=by unfold eO;rw[hl,dj (a nm)]
 have c:∀p,dK [⟨[nm],false,t⟩] p->eO [⟨[nm],false,t⟩] p=false->p=[]:=λp hp hf=>(b p hp).resolve_right λe=>by rw[e,hF]at hf;cases hf
 refine⟨dq rfl,λp _=>?_,λp hp=>?_,λ_ _ _=>s1,λp hp hf=>?_,λp q hp hq e=>?_,λp q hp g hq m _=>by rw[c p hp g,c q hq m],λp q hp _ _ e=>?_⟩
 .show S (if p=[]then _ else _);split
  .exact s2
  exact s3
 .rcases b p hp with rfl|rfl
  .have e:i8 [⟨[nm],false,t⟩] []=⟨#[]⟩:=by unfold i8;rw[hl,dj (a nm)]
   rw[dq rfl,iK f,e];exact r
  have e:i8 [⟨[nm],false,t⟩] [nm]=t:=by unfold i8;rw[hl,dq rfl]
  rw[dj (a nm),oz hF,e];exact s
 .rw[c p hp hf];have e:(if([]++[nm]:List ByteArray)=[]then mr+1 else fb)=fb:=dj (a nm);have j:jr [] (λp=>if p=[]then mr+1 else fb) [] (.map []):=⟨⟨[],rfl,sI⟩,[],rfl,λl d=>⟨λh=>(by cases h),by rintro⟨k,-,h,-⟩;exact absurd h (by unfold cA;simp)⟩⟩
  have i:=j.put (T':=[⟨[nm],false,t⟩]) (nb':=λp=>if p=[]then mr+1 else fb) nm rfl (λk=>by
   rw[hl];by_cases e:k=nm
   .rw[dq (by rw[e];rfl),jX e];rfl
   .rw[dj (λh=>e (by injection h with h;exact h.symm)),lW e];rfl) (λ_ _=>rfl) (by
   show Tidy (DataW.put _ _ (.held (eM (if([]++[nm]:List ByteArray)=[]then mr+1 else fb))));rw[e]
   exact o.tidy mm)
  refine⟨_,?_,i⟩;show World.ownsMap _ _ _ _ _ _ (DataW.put _ _ (.held (eM (if([]++[nm]:List ByteArray)=[]then mr+1 else fb))));rw[e];exact o.mono dE
 .rcases b p hp with rfl|rfl<;>rcases b q hq with rfl|rfl
  .rfl
  .rw[dq rfl,dj (a nm)]at e;exact absurd e.symm n
  .rw[dq rfl,dj (a nm)]at e;exact absurd e n
  .rfl
 rcases b p hp with rfl|rfl
 .rw[dq rfl]at e;omega
 rw[dj (a nm)]at e;exact u e
structure One (d:cX) (has:List Ob) (s:ByteArray) (x:gS) (t:ByteArray):Prop where
 s32:s.size=32
 good:jf d (cJ has 3 s).1 (cJ has 3 s).2 s
 links:fO (gu d (cJ has 3 s).1 (cJ has 3 s).2)=some [x]
 dir:x.dir=false
 nm:x.name.size<=1000
 x32:x.sum.size=32
 ok:uJ d has x.sum
 data:mF d has x.sum=t
 lo:∀k s,(cJ has k s).2<=6000
structure QL (w:World) (T:Nat->Prop) (bd m b N a0 a1 a2 a3 tb mr:Nat) (d:cX) (has:List Ob) (lv:Value) (x:gS) (t:ByteArray) (j:Nat) (wr:World):Prop where
 arc:ed wr T bd m b N a0 a1 a2 a3 d has
 same:cq (λq=>T q\/q=tb) w wr
 own:wr.ownsRow w.heap.size 366 34 lv 1 (fM [x])
 tree:wr.heap[tb]?=some (.cells #[.pointer none,.int .i64 j] 113 (0,0))
 mr0:w.heap.size<=mr
 row:wr.heap[mr+1]?=some (.cells #[.string ⟨#[]⟩,.map (some mr)] 274 (0,0))
 map:if j=0 then wr.heap[mr]?=some (.map #[] 0)else∃fb,w.heap.size<=fb/\fb≠mr/\fb≠mr+1/\wr.heap[fb]?=some (.cells #[.string t,.map none] 274 (0,0))/\wr.ownsMap prog 9 cY mr 1 ((DataW.map []).put (.string (bl x.name)) (.held (eM fb)))
structure RO (w:World) (T:Nat->Prop) (b a0 a1 a2 a3 tb:Nat):Prop where
 tl:∀q,T q->q<w.heap.size
 bl:b<w.heap.size/\a0<w.heap.size/\a1<w.heap.size/\a2<w.heap.size/\a3<w.heap.size
 tt:tb<w.heap.size/\¬T tb
 tn:tb≠b/\tb≠a0/\tb≠a1/\tb≠a2/\tb≠a3
def KW(w:World)(T:Nat->Prop)(bd m b N a0 a1 a2 a3 tb:Nat)(d:cX)(has:List Ob)(x:gS)(t:ByteArray)(e:Ending)(w':World):Prop:=
 ∃rb nb mb,e=.returned (.tuple #[yP rb,.nilIface])/\ed w' T bd m b N a0 a1 a2 a3 d has/\cq (λq=>T q\/q=tb) w w'/\w'.heap[tb]?=some (.cells #[.pointer none,.int .i64 1] 113 (0,0))/\dC w' (λg=>w.heap.size<=g) rb [⟨[x.name],false,t⟩] nb mb
theorem iY.sub(h:iY w U)(a:∀q,S q->U q):iY w S:=λV hV=>h V (hV.weak a)
theorem Fk(T:Nat->Prop)(bd m b N a0 a1 a2 a3 tb n:Nat)(d:cX)(has:List Ob)(s:ByteArray)(x:gS)(t:ByteArray)(w:World)(hn:d.safe.length=n)(hb:n<=4096)(aP:∀s∈df d,s.size=64)(hO:One d has s x t)(h:ed w T bd m b N a0 a1 a2 a3 d has)(hV:iY w (λq=>T q\/q=tb))(hS:RO w T b a0 a1 a2 a3 tb)(aR:w.heap[tb]?=some (.cells #[.pointer none,.int .i64 0] 113 (0,0))):
  Calls prog 152 #[yP b,yP tb,dL s] w λe w'=>KW w T bd m b N a0 a1 a2 a3 tb d has x t e w':=by
 have hs:=hO.s32;obtain⟨A,hA⟩:=eX ((db s).toArray);have W:dL s=.agg A:=by rw[hA];rfl
 have G:A.size=32:=by rw[hA,jO,cE,hs]
 rw[W];obtain⟨W1,F⟩:=eX (w.alloc (.cells A 131));have B:Below w.heap.size w W1:=by rw[F];exact(dw _ _).alloc (cO _) _
 have r1:W1.heap[w.heap.size]?=some (.cells A 131 (0,0)):=F▸dM w _;have L:Hid (W1.rangeAt w.heap.size 0 A.toList):=by intro i v hv;rw[nS,cG r1,<-kX];exact hv
 have ab:Hid ((prog.info? 131).map (·.size)=some 32):=by show _=_;kernel_rfl
 have Q:Hid ((prog.info? 366).map (·.size)=some 34):=by show _=_;kernel_rfl
 have u:Hid ((prog.info? 131).map (·.size)=some A.toList.length/\A.toList.toArray=A):=⟨by rw[gf,G];kernel_rfl,sI⟩;have a9:Hid (Calls prog 223 #[yP b,.agg A] W1 λe w'=>za W1 T bd m b N a0 a1 a2 a3 d has [x] e w'):=by have:=jP T bd m b N a0 a1 a2 a3 n d has s [x] W1 (h.below B) ((hV.sub (λq hq=>.inl hq)).below B) hn hb aP (hO.lo 3 s) hs hO.good hO.links sI (by simpa using hO.dir);rw[W]at this;exact this
 have a6:Hid (∀V,Calls prog 155 #[] V λe w'=>e=.returned (yP (V.heap.size+1))/\w'=(V.alloc (.map #[] 0)).alloc (.cells #[.string ⟨#[]⟩,.map (some V.heap.size)] 274)):=λV=>oj V
 have ak:Hid (∀w2 lv,ed w2 T bd m b N a0 a1 a2 a3 d has->cq T W1 w2->w2.ownsRow W1.heap.size 366 34 lv 1 (fM [x])->QL w T bd m b N a0 a1 a2 a3 tb w2.heap.size d has lv x t 0 ((w2.alloc (.map #[] 0)).alloc (.cells #[.string ⟨#[]⟩,.map (some w2.heap.size)] 274))):=by
  intro w2 lv g1 g2 g3;have K:Below w2.heap.size w2 ((w2.alloc (.map #[] 0)).alloc (.cells #[.string ⟨#[]⟩,.map (some w2.heap.size)] 274)):=((dw _ _).alloc (cO _) _).alloc sI _;have a7:=B.size;have aH:=g2.size;have av:cq (λq=>T q\/q=tb) w w2:=(cq.of_below B).trans (g2.weak λq hq=>.inl hq);have P:w2.heap[tb]?=some (.cells #[.pointer none,.int .i64 0] 113 (0,0)):=by rw[g2.block _ (by rw[F];have:=hS.tt.1;simp;omega) hS.tt.2,B.block _ hS.tt.1];exact aR
  refine⟨g1.below K,av.trans (cq.of_below K),cU (fq g3 oM) (U:=λ_=>False) (cq.of_below K) (λ_ _ h=>h),?_,oM,(iy w2 _ _).2,(iy w2 _ _).1⟩;rw[K.block _ (cm P)];exact P
 have am:Hid (∀V (A':Array Value),cq (λq=>T q\/q=tb) w V->ed V T bd m b N a0 a1 a2 a3 d has->dL x.sum=.agg A'->Calls prog 224 #[yP b,.agg A'] V λe w'=>Ic V T bd m b N a0 a1 a2 a3 d has x.sum e w'):=by intro V A' g1 g2 g5;have:=vI T bd m b N a0 a1 a2 a3 n d has x.sum V g2 ((hV.on g1).sub (λq hq=>.inl hq)) hn hb aP hO.lo hO.x32 hO.ok;rw[g5]at this;exact this
 have HL:Hid (x.sum.size=32/\x.dir=false/\x.name.size<=1000/\mF d has x.sum=t):=⟨hO.x32,hO.dir,hO.nm,hO.data⟩;have HS:=hD hS;have aF:=yH;clear h hV aR hs hA W G B r1 hn aP hO hS;go_enter func152,ntmps152;go_upto_region 1 with fail
 rw[<-F];clear F
 go_wp2_with (refine su rfl 131 _ rfl w.heap.size 0 rfl A.toList _ L kb rfl u.1 ?_;rw[u.out.2])
 refine a9.mono ?_;rintro e w2 ⟨h1,h2,lv,rfl,h3⟩;obtain⟨ao,cc,rfl⟩:=cQ h3;have H:=Hid.mk' (ak w2 _ h1 h2 h3);rw[show[x].length=1 from rfl]at H⊢;clear h1 h2 h3 a9 ak L u
 go_wp2_with fail
 refine(a6 _).mono ?_;rintro e w3 ⟨rfl,ad⟩;obtain⟨mr,c⟩:=eX (w2.heap.size);rw[<-ad,<-c]at H;rw[<-c];clear ad c a6
 go_wp2
 go_loopw [26] (λj_ wr=>∃j:Nat,j<=1/\j_=.int .i64 j/\Hid (QL w T bd m b N a0 a1 a2 a3 tb mr d has (.slice ao 1 cc) x t j wr)) (λj_ _=>1-(intOf j_).toNat)
 .exact⟨0,fP _,rfl,H⟩
 obtain⟨j,hj,rfl,HJ⟩:=hrel;clear H;obtain rfl|rfl:j=0\/j=1:=oM
 .obtain⟨q,aB,hv,au,aC,S⟩:=kr HJ.own (show 0<1 by decide);rw[oe (l:=[x]) (by simpa using HL.out.1) 0 (by simp)]at S;have aq:ao=some (yA q 0):=by injection hv
  subst aq;obtain⟨C,hC⟩:=eX ((gp x).toArray);have z:C.toList=gp x:=by rw[hC]
  have a4:C.size=34:=by rw[<-gf,z];exact ef x HL.1
  have D:Hid (C.toList.length=34/\C.toList.toArray=C/\C.size=34/\C.all (·.oneCell')=true):=⟨by rw[gf,a4],sI,a4,Array.all_eq_true_iff_forall_mem.2 (λv hv=>gR x v (by rw[<-z];simpa using hv))⟩;have L:Hid (wr.rangeAt q 0 C.toList):=z▸S;obtain⟨A',J⟩:=eX ((db x.sum).toArray);have G:A'.size=32:=by rw[J,jO,cE,HL.out.1]
  have u:Hid (A'.toList.length=32/\A'.toList.toArray=A'):=⟨by rw[gf,G],sI⟩;obtain⟨V1,M⟩:=eX ((wr.alloc (.cells ic 366)).setRow wr.heap.size C);have k:Below wr.heap.size wr V1:=M▸cC ((dw _ _).alloc (cO _) _) (cO _) _;have O:V1.heap[wr.heap.size]?=some (.cells C 366 (0,0)):=M▸ja _ _ _ _ _ _ (dM wr _);have r:∀i,V1.cell? (yA wr.heap.size i)=(gp x)[i]?:=λi=>by rw[cG O,<-kX,z]
  have aj:eG x=2:=by unfold eG;rw[HL.out.2.1];rfl
  have e1:V1.cell? (yA wr.heap.size 1)=some (.int .u8 2):=by rw[r 1];show some (Value.int .u8 (eG x:Int))=_;rw[aj];rfl
  have ai:Hid (V1.rangeAt wr.heap.size 2 A'.toList):=by intro i v hv;rw[r (2+i)];show((.string x.name:Value)::.int .u8 (eG x:Int)::db x.sum)[2+i]?=some v;rw[Gb,A6,A6];rw[J]at hv;exact hv
  have a7:=k.size;have af:=HJ.same.size;have ap:=HS.tt.1;have a8:=Hid.mk' (am V1 A' (HJ.same.trans (cq.of_below k)) (HJ.arc.below k) (by rw[J];rfl))
  
  have E:Hid (∀w5 rc,ed w5 T bd m b N a0 a1 a2 a3 d has->cq T V1 w5->V1.heap.size<=rc->w5.heap[rc]?=some (.cells #[.string (mF d has x.sum),.map none] 274 (0,0))->
    ∃W8,(Instr.mapUpdate 272 (.map (some mr)) (.string x.name) (yP rc)).run prog w5.drew=.ok () W8/\(∀V,V=w5.drew\/V=W8->V.cell? (yA (mr+1) 1)=some (.map (some mr))/\V.cell? (yA wr.heap.size 0)=some (.string x.name))/\W8.cell? (yA tb 1)=some (.int .i64 0)/\W8.frozen? (yA tb 1)=false/\QL w T bd m b N a0 a1 a2 a3 tb mr d has (.slice (yS q 0) 1 cc) x t 1 (W8.setCell (yA tb 1) (.int .i64 1))):=by
   intro w5 rc g1 g2 g3 g4;have hJ:=HJ;obtain⟨t1,t2⟩:=HS.tt;obtain⟨b1,b2,b3,b4,b5⟩:=HS.bl;have X:wr.heap[mr]?=some (.map #[] 0):=hJ.map;have aa:=cm X;have ay:=cm hJ.row;have c:=hJ.mr0;have hT:∀g,w.heap.size<=g->¬T g:=λg hg h=>by have:=HS.tl g h;omega
   have old:∀g,w.heap.size<=g->g<wr.heap.size->w5.heap[g]?=wr.heap[g]?:=λg h1 h2=>by rw[g2.block _ (by omega) (hT g h1),k.block _ h2]
   obtain⟨W8,I,al,an⟩:=Lp w5.drew mr 0 (.map []) x.name rc (wH (w:=w5.drew) ((old mr c aa).trans X)) dE (by have:=HL.2.2.1;omega);have a:cq (·=mr) w5 W8:=(cq.refl _ w5).drew.trans an;have Z:w5.heap[wr.heap.size]?=some (.cells C 366 (0,0)):=by rw[g2.block _ (cm O) (hT _ af)];exact O
   have p:=(old (mr+1) oM ay).trans hJ.row;have f:W8.heap[mr+1]?=some (.cells #[.string ⟨#[]⟩,.map (some mr)] 274 (0,0)):=by rw[a.block _ (cm p) (by omega)];exact p
   have ax:W8.heap[wr.heap.size]?=some (.cells C 366 (0,0)):=by rw[a.block _ (cm Z) (by omega)];exact Z
   have ah:w5.heap[tb]?=some (.cells #[.pointer none,.int .i64 0] 113 (0,0)):=by rw[g2.block _ (by omega) t2,k.block _ (by omega)];exact hJ.tree
   have Y:W8.heap[tb]?=some (.cells #[.pointer none,.int .i64 0] 113 (0,0)):=by rw[a.block _ (cm ah) (by omega)];exact ah
   have ac:C[0]?=some (.string x.name):=by rw[<-kX,z];rfl
   have y:cq (·=tb) W8 (W8.setCell (yA tb 1) (.int .i64 1)):=(cq.refl (·=tb) W8).setCell (yA tb 1) rfl _;have aE:=g2.size;have aG:=a.size;have o:w5.ownsRow w.heap.size 366 34 (.slice (yS q 0) 1 cc) 1 (fM [x]):=cI hJ.own (λg e=>old g (cr hJ.own g e).1 (cr hJ.own g e).2)
   have ar:q≠mr:=by
    rintro rfl;rcases o.2 with⟨e,-⟩|⟨g,aB,aD,e,-,hg,-⟩
    .cases e
    have eg:q=g:=by injection e with e1;injection e1 with e2;injection e2
    rw[<-eg,old q c aa,X]at hg;cases hg
   refine⟨W8,I,?_,cG Y,fH _ _ _ _ _ Y,(g1.up a (λg h1 h2=>by have:=HS.tl g h1;omega) oM oM oM oM oM).up y (λg h1 h2=>t2 (h2▸h1)) (zq HS.tn.1) (zq HS.tn.2.1) (zq HS.tn.2.2.1) (zq HS.tn.2.2.2.1) (zq HS.tn.2.2.2.2),?_,?_,?_,c,?_,?_⟩
   .rintro V (e|e)
    .rw[e];exact⟨Gp w5.drew _ _ _ _ _ p,(Gp w5.drew _ _ _ _ _ Z).trans ac⟩
    rw[e];exact⟨cG f,(cG ax).trans ac⟩
   .have e1:cq (λq=>T q\/q=tb) w w5:=(hJ.same.trans (cq.of_below k)).trans (g2.weak λq hq=>.inl hq);have e2:cq (λq=>T q\/q=tb) w W8:=e1.then (a.weak λg hg=>.inr oM)
    exact e2.trans (y.weak λq hq=>.inr hq)
   .refine cU (cU o a (λg e h1=>ar ?_)) y (λg e h1=>?_)
    .cases e;exact h1
    cases e;have:=(cr o q rfl).1;have h1:q=tb:=h1;omega
   .rw[gE _ _ _ _ _ _ Y];rfl
   .rw[y.block _ (cm f) (by omega)];exact f
   rw[dj (by decide)];rw[HL.out.2.2.2]at g4;refine⟨rc,oM,oM,oM,?_,dg al (y.block _ oM oM)⟩;rw[y.block _ (by have:=cm g4;omega) (by omega),a.block _ (cm g4) (by omega)];exact g4
  have aA:=hD M;clear S hC z a4 O k M r hv au aC aj J a7 af ap am
  go_wp2_with (first|(refine su rfl 366 _ rfl q 0 rfl C.toList _ L BH rfl (by rw[D.out.1];exact Q) ?_;rw[D.out.2.1])|(refine cu rfl 366 _ _ rfl wr.heap.size C rfl rfl 366 ic (dM wr _) (by rw[D.out.2.2.1];exact Q) (by rw[D.out.2.2.1];rfl) D.2.2.2 ?_;intro V' ag;obtain rfl:V'=V1:=ag.out.trans aA.symm;clear ag)|(refine su rfl 131 _ rfl wr.heap.size 2 rfl A'.toList _ ai kb rfl (by rw[u.out.1];exact ab) ?_;rw[u.out.2]))
  refine a8.mono ?_;rintro e w5 ⟨g1,g2,rc,g3,g4,rfl⟩;obtain⟨W8,I,a5,u1,u2,ae⟩:=E w5 rc g1 g2 g3 g4;have az:=Hid.mk' ae;clear g1 g2 g3 g4 ae a8 E;go_upto_region 14 with fail
  refine kQ (Kx _ (λV=>V=w5.drew\/V=W8) W8 (mr+1) mr wr.heap.size rc x.name w5 (.inl rfl) (.inr rfl) a5 I (λV hX uB hU=>?_));subst hX;refine nU hU ?_;clear I a5
  go_wp2
  go_roundw
  .exact⟨1,cO _,by go_num,az⟩
  exact mS
 have HF:Hid (KW w T bd m b N a0 a1 a2 a3 tb d has x t (.returned (.tuple #[yP (mr+1),.nilIface])) wr):=by have hJ:=HJ;obtain⟨fb,f1,f2,f3,f4,f5⟩:∃fb,w.heap.size<=fb/\fb≠mr/\fb≠mr+1/\wr.heap[fb]?=some (.cells #[.string t,.map none] 274 (0,0))/\wr.ownsMap prog 9 cY mr 1 ((DataW.map []).put (.string (bl x.name)) (.held (eM fb))):=hJ.map;exact⟨mr+1,_,_,rfl,hJ.arc,hJ.same,hJ.tree,dC.one f5 hJ.row f4 hJ.mr0 (show w.heap.size<=mr+1 by have:=hJ.mr0;omega) f1 f2 f3⟩
 go_wp2
 refine gh (lB rfl _ _ _) rfl ?_;exact HF
theorem Az(M:fm)(t:ByteArray):sE M.has M.infos t↔pP M t:=by
 unfold sE ob pP;rw[Kn];show _/\(cF M.has 3 (t.extract 4 36)).isSome=true/\(Fv M.has (t.extract 4 36)).1<=8/\min (Fv M.has (t.extract 4 36)).2 257<=256↔_;constructor
 .rintro⟨⟨a,b,c⟩,d,e,f⟩;exact⟨a,b,c,d,e,oM⟩
 rintro⟨a,b,c,d,e,f⟩;exact⟨⟨a,b,c⟩,d,e,oM⟩
theorem Av(M:fm)(k:Nat)(t:ByteArray):qq M k t=(y9 M.has M.infos M.at_ k t).map λx=>{M with has:=x.1,infos:=x.2}:=by
 unfold qq y9;split
 .by_cases h:pP M t
  .rw[dq h,dq ((Az M t).2 h)];rfl
  rw[dj h,dj (λh'=>h ((Az M t).1 h'))];rfl
 split<;>rfl
def EI(g a0 a1 a2 a3 sh:Nat)(sv:Value)(q:Nat):Prop:=q=g\/q=a0\/q=a1\/q=a2\/q=a3\/q=sh\/some q=sv.ownBlock
theorem jd.exact(h:jd w S N g a0 a1 a2 a3 sh sv has infos):jd w (EI g a0 a1 a2 a3 sh sv) N g a0 a1 a2 a3 sh sv has infos:=
 ⟨h.row,⟨h.kn.k0,h.kn.k1,h.kn.k2,h.kn.k3,⟨.inr (.inl rfl),.inr (.inr (.inl rfl)),.inr (.inr (.inr (.inl rfl))),.inr (.inr (.inr (.inr (.inl rfl))))⟩,h.kn.d⟩,h.shp,h.inf,λq hq=>⟨.inr (.inr (.inr (.inr (.inr (.inr hq.symm))))),(h.infS q hq).2⟩,.inl rfl,.inr (.inr (.inr (.inr (.inr (.inl rfl))))),h.sd⟩
theorem jd.fixed(h:jd w S N g a0 a1 a2 a3 sh sv has infos):S g/\S a0/\S a1/\S a2/\S a3/\S sh:=⟨h.sg,h.kn.s.1,h.kn.s.2.1,h.kn.s.2.2.1,h.kn.s.2.2.2,h.ss⟩
theorem jd.lts(h:jd w S N g a0 a1 a2 a3 sh sv has infos):∀q,EI g a0 a1 a2 a3 sh sv q->q<w.heap.size:=by
 rintro q (rfl|rfl|rfl|rfl|rfl|rfl|e)
 .exact cm h.row
 .exact h.kn.k0.lt
 .exact h.kn.k1.lt
 .exact h.kn.k2.lt
 .exact h.kn.k3.lt
 .exact h.shp.lt
 exact(cr h.inf q e.symm).2
structure jq (w:World) (T SI:Nat->Prop) (bd m b g a0 a1 a2 a3 sh c7 N j:Nat) (d:cX) (pre:List Value) (M:fm) (wr:World):Prop where
 dsk:cD wr T bd m d
 tab:dt pre wr b
 r7:wr.heap[c7]?=some (.cells #[.int .i64 M.at_,.int .u32 (M.seq-1:Nat),.int .u32 M.chain] 119 (0,0))
 r6:wr.heap[w.heap.size]?=some (.cells #[.int .i64 0,.int .u32 0,.int .u32 0] 119 (0,0))
 inm:∃sv N',N'+j<=N+M.seq/\jd wr (EI g a0 a1 a2 a3 sh sv) N' g a0 a1 a2 a3 sh sv M.has M.infos/\(∀q,sv.ownBlock=some q->SI q\/(w.heap.size<q/\q≠c7))
 same:cq (λq=>T q\/q=b\/SI q) w wr
 mw:MW (df d) M
structure uY (w:World) (T SI:Nat->Prop) (b g a0 a1 a2 a3 sh c7:Nat):Prop where
 tl:∀q,T q->q<w.heap.size
 il:∀q,SI q->q<w.heap.size
 bl:b<w.heap.size
 ti:∀q,T q->¬SI q
 tb:¬T b
 ib:¬SI b
 fx:SI g/\SI a0/\SI a1/\SI a2/\SI a3/\SI sh
 cl:w.heap.size<c7
theorem uY.ei{T:Nat->Prop}(h:uY w T SI b g a0 a1 a2 a3 sh c7)(a:∀q,sv.ownBlock=some q->SI q\/(w.heap.size<q/\q≠c7)):∀q,EI g a0 a1 a2 a3 sh sv q->SI q\/(w.heap.size<q/\q≠c7):=by
 rintro q (rfl|rfl|rfl|rfl|rfl|rfl|e)
 .exact .inl h.fx.1
 .exact .inl h.fx.2.1
 .exact .inl h.fx.2.2.1
 .exact .inl h.fx.2.2.2.1
 .exact .inl h.fx.2.2.2.2.1
 .exact .inl h.fx.2.2.2.2.2
 exact a q e.symm
theorem jq.read{T:Nat->Prop}(h:jq w T SI bd m b g a0 a1 a2 a3 sh c7 N j d pre M wr)(f:uY w T SI b g a0 a1 a2 a3 sh c7)(k:cD w' T bd m d)(l:dt pre w' b)(i:cq (λq=>T q\/q=b) wr w'):jq w T SI bd m b g a0 a1 a2 a3 sh c7 N j d pre M w':=by
 have c:=f.cl;have e:=f.bl
 have hn:∀q,w.heap.size<=q->¬(T q\/q=b):=λq hq hu=>by
  rcases hu with h|h
  .have:=f.tl q h;omega
  .omega
 obtain⟨sv,N',hN,hI,hq⟩:=h.inm;refine⟨k,l,by rw[i.block _ (cm h.r7) (hn _ (by omega))];exact h.r7,by rw[i.block _ (cm h.r6) (hn _ (cO _))];exact h.r6,⟨sv,N',hN,hI.on i (λq a hu=>?_),hq⟩,h.same.trans (i.weak λq hq=>hq.elim .inl (λh=>.inr (.inl h))),h.mw⟩;rcases f.ei hq q a with h1|h1
 .rcases hu with h2|rfl
  .exact f.ti q h2 h1
  exact f.ib h1
 exact hn q oM hu
theorem jq.below{T:Nat->Prop}(h:jq w T SI bd m b g a0 a1 a2 a3 sh c7 N j d pre M wr)(c:uY w T SI b g a0 a1 a2 a3 sh c7)(a:Below wr.heap.size wr w'):jq w T SI bd m b g a0 a1 a2 a3 sh c7 N j d pre M w':=
 h.read c (h.dsk.on (T:=λ_=>False) (cq.of_below a) (λ_ _ h=>h)) (h.tab.on (S:=λ_=>False) (cq.of_below a) (λh=>h)) (cq.of_below a)
theorem fQ(w:World)(g:Nat)(a:Array Value):cq (·=g) w (w.setRow g a):=⟨rfl,rfl,rfl,sI,λk _ hk=>l7 w g k a hk⟩
theorem jq.next{T:Nat->Prop}(h:jq w T SI bd m b g a0 a1 a2 a3 sh c7 N j d pre M wr)(o:uY w T SI b g a0 a1 a2 a3 sh c7)(u:∀q,sv.ownBlock=some q->SI q\/(w.heap.size<q/\q≠c7))(p:cq (EI g a0 a1 a2 a3 sh sv) wr w')(s:jd w' (up (EI g a0 a1 a2 a3 sh sv) wr.heap.size) N' g a0 a1 a2 a3 sh sv' M'.has M'.infos)(v:N'+1<=N+M'.seq)(t:V=w'.setRow c7 #[.int .i64 M'.at_,.int .u32 (M'.seq-1:Nat),.int .u32 M'.chain])(r:MW (df d) M'):jq w T SI bd m b g a0 a1 a2 a3 sh c7 N 1 d pre M' V:=by
 have l:=o.cl;have n:=o.bl;have hE:=o.ei u;have h7:=cm h.r7;have h6:=cm h.r6
 have c:∀q,sv'.ownBlock=some q->SI q\/(w.heap.size<q/\q≠c7):=λq e=>by
  rcases(s.infS q e).1 with h3|h3
  .exact hE q h3
  exact .inr oM
 have k:=o.ei c;have a:cq (·=c7) w' V:=t▸fQ _ _ _
 have i:w'.heap[c7]?=some (.cells #[.int .i64 M.at_,.int .u32 (M.seq-1:Nat),.int .u32 M.chain] 119 (0,0)):=by
  rw[p.block _ h7 (λh2=>?_)]
  .exact h.r7
  rcases hE c7 h2 with h3|h3
  .have:=o.il _ h3;omega
  exact h3.2 rfl
 have f:w'.heap[w.heap.size]?=some (.cells #[.int .i64 0,.int .u32 0,.int .u32 0] 119 (0,0)):=by
  rw[p.block _ h6 (λh2=>?_)]
  .exact h.r6
  rcases hE _ h2 with h3|h3
  .have:=o.il _ h3;omega
  .omega
 refine⟨(h.dsk.on p (λq h1 h2=>?_)).on a (λq h1 h2=>?_),(h.tab.on p (λh2=>?_)).on a oM,?_,?_,⟨sv',N',v,s.exact.on a (λq h1 h2=>?_),c⟩,(h.same.then (p.weak λq h2=>?_)).then (a.weak λq h2=>?_),r⟩
 .rcases hE q h2 with h3|h3
  .exact o.ti q h1 h3
  have:=o.tl q h1;omega
 .have:=o.tl q h1;omega
 .rcases hE b h2 with h3|h3
  .exact o.ib h3
  .omega
 .rw[t];exact ja _ _ _ _ _ _ i
 .rw[a.block _ (cm f) (by omega)];exact f
 .rcases k q h1 with h3|h3
  .have:=o.il _ h3;omega
  exact h3.2 h2
 .rcases hE q h2 with h3|h3
  .exact .inl (.inr (.inr h3))
  exact .inr oM
 exact .inr oM
theorem iY.up(h:iY w S)(b:cq S w V):iY V (Go.Proofs.YtapijhhmjjplmaaGreatDoor.up S w.heap.size):=λV' a=>h V' (b.then a)
def GC(d:cX)(has:List Ob)(infos:List jR):Prop:=infos=[]\/∃i x t,infos=[i]/\One d has i.root x t/\nP has infos=[⟨[x.name],false,t⟩]
def C3(w:World)(T:Nat->Prop)(bd m b N a0 a1 a2 a3:Nat)(d:cX)(has:List Ob)(infos:List jR)(e:Ending)(w':World):Prop:=
 ∃rb nb mb,e=.returned (.tuple #[.agg #[yP rb,.int .i64 ((nP has infos).length:Int)],.nilIface])/\ed w' T bd m b N a0 a1 a2 a3 d has/\cq T w w'/\dC w' (λg=>w.heap.size<=g) rb (nP has infos) nb mb
theorem Bz(g i:Nat)(j:Option Addr)(w:World)(h:w.cell? (yA g 3)=some (.slice j 0 i)):Calls prog 87 #[yP g] w λe w'=>∃rb,e=.returned (.tuple #[.agg #[yP (rb+1),.int .i64 0],.nilIface])/\Below w.heap.size w w'/\w.heap.size<=rb/\w'.heap[rb]?=some (.map #[] 0)/\w'.heap[rb+1]?=some (.cells #[.string ⟨#[]⟩,.map (some rb)] 274 (0,0)):=by
 have hl:=pr h;have HT:=yy;go_enter func87,ntmps87
 go_wp2_with fail
 refine(HT _).mono ?_;rintro e w1 ⟨rfl,d,c,a,b⟩;have k0:w1.heap[w.heap.size]?=some (.cells #[.pointer none,.int .i64 0] 113 (0,0)):=by rw[d.block _ (by simp)];exact dM w _
 have c0:w1.cell? (yA w.heap.size 0)=some (.pointer none):=cG k0;have c1:w1.cell? (yA w.heap.size 1)=some (.int .i64 0):=cG k0;have f0:=fH w1 w.heap.size 0 _ _ k0;have f1:=fH w1 w.heap.size 1 _ _ k0;have es:(w.alloc (.cells #[.pointer none,.int .i64 0] 113)).heap.size=w.heap.size+1:=sI;rw[es]at d c a b⊢;have f:Hid (Below w.heap.size w w1):=((dw _ _).alloc (cO _) _).trans (d.mono oM);have HK:Hid (w1.heap.size=w.heap.size+1+3/\w1.heap[w.heap.size+1+1]?=some (.map #[] 0)/\w1.heap[w.heap.size+1+2]?=some (.cells #[.string ⟨#[]⟩,.map (some (w.heap.size+1+1))] 274 (0,0))/\w1.heap[w.heap.size]?=some (.cells #[.pointer none,.int .i64 0] 113 (0,0))):=⟨c,a,b,k0⟩;clear d c a b k0 es HT
 go_wp2
 obtain⟨c,a,b,k0⟩:=HK;obtain⟨a1,-⟩:=Qi w1 w.heap.size _ _ (.pointer (some ⟨w.heap.size+1+2,0,none⟩)) (.int .i64 0) _ k0;have l1:=zo (P:=prog) _ _ _ 113 _ _ _ a1 underlying113 rfl kR;refine gh (v:=.tuple #[.agg #[.pointer (some ⟨w.heap.size+1+2,0,none⟩),.int .i64 0],.nilIface]) ?_ rfl ⟨w.heap.size+1+1,rfl,(f.setCell (cO _) _).setCell (cO _) _,oM,?_,?_⟩
 .rw[results_cell_tmp rfl];simp[asAddr,Result.andThen,l1]
 .rw[lq _ _ _ _ (by show w.heap.size+1+1≠w.heap.size;omega),lq _ _ _ _ (by show w.heap.size+1+1≠w.heap.size;omega)];exact a
 rw[lq _ _ _ _ (by show w.heap.size+1+1+1≠w.heap.size;omega),lq _ _ _ _ (by show w.heap.size+1+1+1≠w.heap.size;omega)];exact b
theorem vm(T:Nat->Prop)(bd m b N a0 a1 a2 a3 n:Nat)(sv:Value)(d:cX)(has:List Ob)(infos:List jR)(w:World)(h:ed w T bd m b N a0 a1 a2 a3 d has)(hV:iY w T)(ah:∀q,T q->q<w.heap.size)(hn:d.safe.length=n)(hb:n<=4096)(ar:∀s∈df d,s.size=64)(hL:GC d has infos)(aj:w.cell? (yA b 3)=some sv)(ai:w.ownsRow 0 133 33 sv infos.length (fG infos))(au:∀q,sv.ownBlock=some q->¬T q):
  Calls prog 87 #[yP b] w λe w'=>C3 w T bd m b N a0 a1 a2 a3 d has infos e w':=by
 obtain⟨ao,cc,rfl⟩:=cQ ai;rcases hL with rfl|⟨i0,x,tx,rfl,hO,het⟩
 .refine iM (Bz b cc ao w aj) ?_;rintro e w' ⟨rb,rfl,O,a8,k1,k2⟩;exact⟨rb+1,_,_,rfl,h.below O,cq.of_below O,dC.new k1 k2 (show w.heap.size<=rb from a8) (show w.heap.size<=rb+1 by omega)⟩
 have D:0<[i0].length:=sI;obtain⟨x0,t⟩:∃s,s=i0.root:=⟨_,rfl⟩;rw[<-t]at hO;obtain⟨q,af,hv,-,a6,C⟩:=kr ai D;have Q:ao=some (yA q 0):=by injection hv
 subst Q;have k:((fG [i0]).drop (0*33)).take 33=jA i0:=ou jA 33 [i0] (λy hy=>jN y (by rw[List.mem_singleton.1 hy,<-t];exact hO.s32)) 0 D;rw[k]at C;obtain⟨A,hA⟩:=eX ((db x0).toArray);have H:dL x0=.agg A:=by rw[hA];rfl
 have L:A.size=32:=by rw[hA,jO,cE,hO.s32]
 have z:w.rangeAt q 0 A.toList:=by intro i v hv;refine C i v ?_;rw[hA,t]at hv;show(db i0.root++[.string i0.label])[i]?=some v;rw[FD (List.getElem?_eq_some_iff.1 hv).1];exact hv
 have K:¬T q:=au q rfl;obtain⟨W2,j⟩:=eX ((w.alloc (.cells #[.pointer none,.int .i64 0] 113)).alloc (.cells #[.pointer none,.int .i64 0] 113));have f:Below w.heap.size w W2:=by rw[j];exact((dw _ _).alloc (cO _) _).alloc sI _
 have r0:W2.heap[w.heap.size]?=some (.cells #[.pointer none,.int .i64 0] 113 (0,0)):=by rw[j];exact(iy w _ _).1
 have r1:W2.heap[w.heap.size+1]?=some (.cells #[.pointer none,.int .i64 0] 113 (0,0)):=by rw[j];exact(iy w _ _).2
 have a9:=cm r1;obtain⟨U,ag,ad,ac,ae⟩:b<w.heap.size/\a0<w.heap.size/\a1<w.heap.size/\a2<w.heap.size/\a3<w.heap.size:=by obtain⟨cs,q0,-⟩:=h.row;exact⟨cm q0,h.kn.k0.lt,h.kn.k1.lt,h.kn.k2.lt,h.kn.k3.lt⟩
 have a:=f.drew;have c:=Fk T bd m b N a0 a1 a2 a3 (w.heap.size+1) n d has x0 x tx W2.drew hn hb ar hO (h.below a) ((hV.up (cq.of_below a)).sub (λy hy=>hy.elim .inl (λe=>.inr oM))) ⟨λy hy=>ny (ah y hy) a.size,⟨by have:=a.size;omega,by have:=a.size;omega,by have:=a.size;omega,by have:=a.size;omega,by have:=a.size;omega⟩,⟨a9,λh'=>by have:=ah _ h';omega⟩,⟨oM,oM,oM,oM,oM⟩⟩ r1;rw[H]at c;obtain⟨S,hS⟩:=eX (λV=>V.cell? (yA b 3)=some (.slice (yS q 0) 1 cc)/\V.rangeAt q 0 A.toList:World->Prop);have G:S W2.drew:=by rw[hS];refine⟨by rw[nZ,f.cell U];exact aj,λi v hv=>?_⟩;rw[nZ,f.cell a6];exact z i v hv
 have F:∀V V',S V->w.heap.size<=V.heap.size->cq (λy=>T y\/y=w.heap.size+1) V V'->S V':=by
  rw[hS];rintro V V' ⟨s1,s2⟩ hz hs;have a7:¬(T b\/b=w.heap.size+1):=λe=>e.elim h.nb (λe=>by omega)
  have a5:¬(T q\/q=w.heap.size+1):=λe=>e.elim K (λe=>by omega)
  exact⟨hs.cell a7 s1,λi v hv=>hs.cell a5 (s2 i v hv)⟩
 obtain⟨X,hX⟩:=eX (λrb V'=>∃nb mb,ed V' T bd m b N a0 a1 a2 a3 d has/\cq (λy=>T y\/y=w.heap.size+1) W2 V'/\V'.heap[w.heap.size+1]?=some (.cells #[.pointer none,.int .i64 1] 113 (0,0))/\dC V' (λg=>W2.heap.size<=g) rb [⟨[x.name],false,tx⟩] nb mb:Nat->World->Prop);have o:Calls prog 152 #[yP b,yP (w.heap.size+1),.agg A] W2.drew λe w'=>∃rb,e=.returned (.tuple #[yP rb,.nilIface])/\S w'/\(w'.cell? (yA (w.heap.size+1) 0)=some (.pointer none)/\w'.frozen? (yA (w.heap.size+1) 0)=false/\S (w'.setCell (yA (w.heap.size+1) 0) (yP rb)))/\X rb w':=by refine iM c ?_;rintro e w' ⟨rb,nb,mb,rfl,g1,g2,g3,g4⟩;have s1:=F _ _ G a.size g2;have W:=g2.size;refine⟨rb,rfl,s1,⟨cG g3,fH _ _ _ _ _ g3,F _ _ s1 (by have:=a.size;omega) ((cq.refl _ w').setCell _ (.inr rfl) _)⟩,?_⟩;rw[hX];exact⟨nb,mb,g1,(cq.refl _ W2).drew.trans g2,g3,g4⟩
 have E:∀V,S V->V.cell? (yA b 3)=some (.slice (yS q 0) 1 cc)/\V.rangeAt q 0 A.toList:=by rw[hS];exact λV h=>h
 have u:Hid (∀rb V',X rb V'->∃V6,V6=V'.setCell (yA (w.heap.size+1) 0) (yP rb)/\V6.cell? (yA (w.heap.size+1) 0)=some (yP rb)/\V6.cell? (yA (w.heap.size+1) 1)=some (.int .i64 1)/\V6.heap[w.heap.size]?=some (.cells #[.pointer none,.int .i64 0] 113 (0,0))/\∀V7,V7=V6.setRow w.heap.size #[yP rb,.int .i64 1]->C3 w T bd m b N a0 a1 a2 a3 d has [i0] (.returned (.tuple #[.agg #[yP rb,.int .i64 1],.nilIface])) V7):=by
  intro rb V' l;rw[hX]at l;obtain⟨nb,mb,g1,g2,g3,g4⟩:=l;have W:=g2.size;have I:(V'.setCell (yA (w.heap.size+1) 0) (yP rb)).heap[w.heap.size+1]?=some (.cells #[yP rb,.int .i64 1] 113 (0,0)):=by rw[gE _ _ _ _ _ _ g3];rfl
  refine⟨_,rfl,cG I,cG I,?_,λV7 r=>?_⟩
  .rw[lq _ _ _ _ (by show w.heap.size≠w.heap.size+1;omega),g2.block _ (cm r0) (λe=>e.elim (λe=>by have:=ah _ e;omega) (λe=>by omega))];exact r0
  have p:cq (λy=>y=w.heap.size\/y=w.heap.size+1) V' V7:=by
   have Z:∀(V:World)(Y:Array Value),cq (λy=>y=w.heap.size\/y=w.heap.size+1) V (V.setRow w.heap.size Y):=λV Y=>⟨rfl,rfl,rfl,sI,λy _ hy=>l7 V _ y Y (λe=>hy (.inl e))⟩
   rw[r];exact((cq.refl _ V').setCell (yA (w.heap.size+1) 0) (.inr rfl) _).trans (Z _ _)
  rw[C3,het];refine⟨rb,nb,mb,rfl,g1.up p (λy hy e=>?_) oM oM oM oM oM,?_,(g4.on p (λg hg e=>by omega)).mono λg hg=>?_⟩
  .have:=ah y hy;omega
  .have e1:cq T w V':=(cq.of_below f).then (g2.weak λy hy=>hy.elim .inl (λe=>.inr oM))
   exact e1.then (p.weak λy hy=>.inr oM)
  have:=f.size;show w.heap.size<=g;have ab:=hg;omega
 have c3:=aj;have a4:(prog.info? 131).map (·.size)=some A.toList.length:=by rw[gf,L];kernel_rfl
 clear h hV hn ar hO aj ai au het hv C k hA H L z K f r0 r1 a c hS F hX ah D t;go_enter func87,ntmps87;go_upto_region 5 with fail
 rw[<-j];clear j;refine kQ (MA _ S X b q 1 0 cc (w.heap.size+1) A W2 G (λV hV=>⟨(E V hV).1,by rw[NW];exact(E V hV).2⟩) a4 rfl dE dE dE o (λrb V' l uB hU=>?_));obtain⟨V6,P,d0,d1,J,B⟩:=u rb V' l;have M:=Hid.mk' J;have HF:=Hid.mk' B;rw[<-P];refine nU hU ?_;clear P o E G l u J B
 go_wp2_with (refine cu rfl 113 _ _ rfl w.heap.size #[yP rb,.int .i64 1] rfl rfl 113 _ M kR rfl kR ?_;intro V7 r)
 have aa:V7.heap[w.heap.size]?=some (.cells #[yP rb,.int .i64 1] 113 (0,0)):=by rw[r.out];exact ja _ _ _ _ _ _ M
 refine gh (dX rfl _ _ w.heap.size (.agg #[yP rb,.int .i64 1]) rfl (zo _ _ 113 113 _ (0,0) _ aa underlying113 rfl kR)) rfl ?_;exact HF V7 r.out
end
end Go.Proofs.YtapijhhmjjplmaaGreatDoor

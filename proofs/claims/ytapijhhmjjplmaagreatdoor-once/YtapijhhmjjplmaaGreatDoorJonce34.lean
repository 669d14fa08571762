import Derived.Test.YtapijhhmjjplmaaGreatDoorJonce33
namespace Go.Proofs.YtapijhhmjjplmaaGreatDoor
set_option linter.all false
set_option maxRecDepth 100000
set_option maxHeartbeats 4000000
open Go.Proofs.Tryz
variable {r:ByteArray}{has:List Ob}{pre:List Value}{b g ba N a0 a1 a2 a3 N2 f0 f1 f2 f3 b4 b5 j c' m:Nat}{S:Nat→Prop}{sv p0 bv:Value}{w wr V w1 w':World}
section
open Go.RowKit
theorem mL(σ:Nat->ByteArray)(j:Nat):iI ((List.range (j+1)).map σ)=iI ((List.range j).map σ)++σ j:=by rw[JO,qA,Cw,jy]
theorem iO(σ:Nat->ByteArray)(h:∀j,(σ j).size=32):∀j,(iI ((List.range j).map σ)).size=32*j
 |0=>rfl
 |j+1=>by rw[mL,lY,iO σ h j,h];omega
theorem B9(n k B:Nat)(Y:Value)(xs:List Value)(σ:Nat->ByteArray)(w:World)(U:w.ownsRow B 131 32 Y k xs)(W:∀j,j<k->(xs.drop (j*32)).take 32=db (σ j))(X:∀j,(σ j).size=32)(Z:n<=1000000)(hk:k<=10000):
  Calls prog 276 #[.agg #[.int .i64 n,Y]] w λe w'=>e=.returned (.string (fb n++iI ((List.range k).map σ)))/\Below w.heap.size w w':=by
 obtain⟨ao,cc,rfl⟩:=cQ U;have d:Hid ((prog.info? 131).map (·.size)=some 32):=by show _=_;kernel_rfl
 have P:(n:Int)<=1000000:=oM;have T:(k:Int)<=10000:=oM;have HO:=hD U;have HX:Hid ((∀j,j<k->(xs.drop (j*32)).take 32=db (σ j))/\(∀j,(σ j).size=32)):=⟨W,X⟩;obtain⟨F,hF⟩:=eX (λj=>fb n++iI ((List.range j).map σ):Nat->ByteArray);have r:F 0=fb n:=hF▸qG _;have s:∀j,F (j+1)=F j++σ j:=by rw[hF];intro j;show fb n++iI _=_;rw[mL,<-iA]
 have C:∀j,(F j).size=4+32*j:=by rw[hF];intro j;show(fb n++_).size=_;rw[lY,gL,iO σ X]
 have y:fb n++iI ((List.range k).map σ)=F k:=by rw[hF]
 rw[y];have HF:Hid (F 0=fb n/\(∀j,F (j+1)=F j++σ j)/\(∀j,(F j).size=4+32*j)):=⟨r,s,C⟩;have H4:Hid (∀V,Calls prog 144 #[.int .u32 n] V λe w'=>e=.returned (.string (fb n))/\Below V.heap.size V w'):=λV=>kj n V oM
 clear U W X hF r s C y;go_enter func276,ntmps276;go_upto_region 2 with fail
 refine eR (λV=>Hid (lD w (w.heap.size+1) ⟨#[]⟩ V/\V.heap[w.heap.size]?=some (.cells #[.int .i64 n,.slice ao k cc] 376 (0,0)))) (?_:_) ?_
 .obtain⟨W0,b⟩:=eX (w.alloc (.cells #[.int .i64 n,.slice ao k cc] 376));have hb:Below w.heap.size w W0:=by rw[b];exact(dw _ _).alloc (cO _) _
  have hz:W0.heap.size=w.heap.size+1:=by rw[b];simp
  have hr:W0.heap[w.heap.size]?=some (.cells #[.int .i64 n,.slice ao k cc] 376 (0,0)):=b▸dM w _;rw[<-b];have ht:=lD.new hb;rw[hz]at ht;refine⟨ht,?_⟩;rw[((dw W0.heap.size W0).alloc (cO _) _).block _ (by omega)];exact hr
 intro V1 H1;obtain⟨g,hg⟩:=eX (w.heap.size+1);rw[<-hg]at H1⊢;have HG:=hD hg;clear hg;have c0:V1.cell? (yA w.heap.size 0)=some (.int .i64 n):=cG H1.2
 go_wp2_with fail
 refine(H4 _).mono ?_;rintro e w2 ⟨rfl,l⟩;have H2:Hid (lD w g ⟨#[]⟩ w2/\w2.heap[w.heap.size]?=some (.cells #[.int .i64 n,.slice ao k cc] 376 (0,0))):=⟨H1.1.below l,by rw[l.block _ (cm H1.out.2)];exact H1.2⟩;clear l H1 H4 c0
 go_wp2_with fail
 refine(H2.1.write (fb n) (by rw[gL];show 0+4<=_;omega)).mono ?_;rintro e w3 ⟨rfl,p,D⟩;have H3:Hid (lD w g (F 0) w3):=by show lD w g (F 0) w3;rw[HF.out.1];rw[wA]at p;exact p
 have c1:w3.cell? (yA w.heap.size 1)=some (.slice ao k cc):=cG (D _ _ _ (by have:=HG.out;omega) dE H2.out.2);clear p D H2
 go_wp2_with fail
 clear c1;go_loopw [14] (λj_ wr=>∃j:Nat,j<=k/\j_=.int .i64 j/\Hid (lD w g (F j) wr)) (λj_ _=>k-(intOf j_).toNat)
 .exact⟨0,fP _,rfl,H3⟩
 obtain⟨j,hj,rfl,HT⟩:=hrel;by_cases t:j<k
 .have N:(j:Int)<k:=oM;have z:=HT.1;have hO:=cI HO (λq hq=>z.block _ (cr HO q hq).2);obtain⟨q,M,hv,Q,O,o⟩:=kr hO t;cases hv;rw[HX.out.1 j t]at o;obtain⟨A,hA⟩:=eX ((db (σ j)).toArray);have f:A.size=32:=by rw[hA,jO,cE,HX.out.2]
  have H:Hid (∀v∈A.toList,v.oneCell'=true):=hA▸eA _;have I:Hid (wr.rangeAt q (j*32) A.toList):=hA▸o;have J:Hid (A.all (·.oneCell')=true):=Array.all_eq_true_iff_forall_mem.2 (λv hv=>H v (by simpa using hv));have a:Hid (A.toList.length=32/\A.size=32/\A=(db (σ j)).toArray):=⟨by rw[gf,f],f,hA⟩;have S:(0:Int)<=j:=oM;clear z hO o hA f
  go_wp2_with (first|(refine su rfl 131 _ rfl q (j*32) rfl A.toList _ I kb rfl (by rw[a.out.1];exact d) ?_;rw[BO])|(refine cu rfl 131 _ _ rfl wr.heap.size A rfl rfl 131 fN (dM wr _) (by rw[a.out.2.1];exact d) (by rw[a.out.2.1];rfl) J ?_;intro V5 m))
  have c:Below wr.heap.size wr V5:=by rw[m.out];exact cC ((dw _ _).alloc (cO _) _) (cO _) _
  have x:V5.heap[wr.heap.size]?=some (.cells A 131 (0,0)):=by rw[m.out];exact ja _ _ _ _ _ _ (dM wr _)
  have K:g<wr.heap.size:=by obtain⟨-,-,p0,bv,hM,-⟩:=HT;exact cm hM.row
  have G:Hid (Calls prog 278 #[yP g,.slice (yS wr.heap.size 0) 32 32] V5 λe w'=>e=.returned (.tuple #[.int .i64 (32:Nat),.nilIface])/\lD w g (F j++σ j) w'/\KR g V5 w'):=by have h:=(HT.below c).bytes (σ j) wr.heap.size 0 32 A 131 x (λi u hu=>by rw[a.out.2.2,nS,Ew];exact hu) oM (by rw[HX.out.2];omega) (by rw[HX.out.2,HF.out.2.2];omega);rw[HX.out.2 j]at h;exact h
  clear c x K m;refine G.mono ?_;rintro e w6 ⟨rfl,E,-⟩;have H6:Hid (lD w g (F (j+1)) w6):=by show lD _ _ _ _;rw[HF.out.2.1];exact E
  clear E G
  go_wp2_with fail
  go_roundw
  .exact⟨j+1,oM,by go_num,H6⟩
  exact mS
 obtain rfl:j=k:=oM;have L:Hid (Calls prog 213 #[yP g] wr λe w'=>e=.returned (.string (F j))/\Below w.heap.size w w'):=HT.string (by rw[HF.out.2.2];omega)
 go_wp2_with (go_at_call 213;refine L.mono ?_;rintro e w5 ⟨rfl,c⟩)
 go_ret;exact⟨rfl,c⟩
end
section
open Go.RowKit Go.Maps
def DB(D:lI)(a:Nat):Prop:=D.at_<=a/\D.seq<=a/\D.chain<4294967296/\D.whole.size<=64*a
theorem DB.mono{D:lI}{a:Nat}(h:DB D a)(c:a<=b):DB D b:=⟨lZ h.1 c,lZ h.2.1 c,h.2.2.1,lZ h.2.2.2 oM⟩
theorem DB.obj{D:lI}{a:Nat}(h:DB D a)(has:List Ob)(k:Nat)(t:ByteArray):DB (kO has D k t) (a+dU t.size):=by
 unfold kO;split
 .exact h.mono oM
 have h1:1<=dU t.size:=by unfold dU;omega
 have h2:=yw (D.seq+1) D.chain k t;unfold dQ at h2;obtain⟨e1,e2,e3,e4⟩:=h;refine⟨?_,?_,h2,?_⟩
 .show D.at_+dU t.size<=_;omega
 .show D.seq+1<=_;omega
 show(D.whole++sB _ _ _ _).size<=_;rw[lY,oI];omega
def gX(has:List Ob)(D:lI)(d:ByteArray):Nat->lI
 |0=>D
 |j+1=>kO has (gX has D d j) 1 (eZ d j)
def Ap(has:List Ob)(D:lI)(d:ByteArray):lI:=kO has (gX has D d (du d.size)) 2 (iC d)
theorem DB.chunks{D:lI}{a:Nat}(h:DB D a)(has:List Ob)(d:ByteArray):∀j,j<=du d.size->DB (gX has D d j) (a+2*j)
 |0,_=>h
 |j+1,hj=>by have ih:=DB.chunks h has d j oM;have hs:=(rj d j oM).2.2;refine(ih.obj has 1 (eZ d j)).mono ?_;unfold dU;omega
def lu(d:ByteArray)(j:Nat):List Value:=(List.range j).flatMap λi=>db (cV (eZ d i))
theorem nF(d:ByteArray)(j:Nat):lu d (j+1)=lu d j++db (cV (eZ d j)):=by
 unfold lu;rw[JO,LQ];simp
theorem oR(d:ByteArray):∀j,(lu d j).length=32*j
 |0=>rfl
 |j+1=>by rw[nF,ir,oR d j,cE,el];omega
theorem vX(d:ByteArray):∀k j,j<k->((lu d k).drop (j*32)).take 32=db (cV (eZ d j))
 |0,j,h=>absurd h (KE _)
 |k+1,j,h=>by
  have hl:=oR d k;have a:(db (cV (eZ d j))).length=32:=by rw[cE,el]
  rw[nF];by_cases e:j=k
  .rw[e]at a⊢;rw[NN (by omega),A9 (by omega),Ab];exact pK oM
  rw[NN (by omega),Ny (by rw[Lx];omega)];exact vX d k j oM
structure EN (w:World) (S:Nat->Prop) (g ba N a0 a1 a2 a3 N2 f0 f1 f2 f3 b4 b5:Nat) (pre:List Value) (has:List Ob) (D:lI) (d:ByteArray) (j:Nat) (sv:Value) (T:Nat->Prop) (p0 bv:Value) (wr:World):Prop where
 dr:j0 wr T g ba N a0 a1 a2 a3 (N2+j) f0 f1 f2 f3 pre has (gX has D d j) p0 bv
 tS:∀q,T q->up S w.heap.size q/\q<wr.heap.size
 n4:¬T b4
 n5:¬T b5
 r4:wr.heap[b4]?=some (.cells fN 131 (0,0))
 r5:wr.heap[b5]?=some (.cells #[.int .i64 d.size,sv] 376 (0,0))
 own:wr.ownsRow 0 131 32 sv j (lu d j)
 nsv:∀q,sv.ownBlock=some q->¬T q/\w.heap.size<=q/\q≠b4
 same:cq (λq=>S q\/q=ba) w wr
theorem EN.below{T:Nat->Prop}{D:lI}{d:ByteArray}(h:EN w S g ba N a0 a1 a2 a3 N2 f0 f1 f2 f3 b4 b5 pre has D d j sv T p0 bv wr)(a:Below wr.heap.size wr V):EN w S g ba N a0 a1 a2 a3 N2 f0 f1 f2 f3 b4 b5 pre has D d j sv T p0 bv V:=
 ⟨h.dr.below a,λq hq=>⟨(h.tS q hq).1,ny (h.tS q hq).2 a.size⟩,h.n4,h.n5,by rw[a.block _ (cm h.r4)];exact h.r4,by rw[a.block _ (cm h.r5)];exact h.r5,cI h.own (λq hq=>a.block _ (cr h.own q hq).2),h.nsv,h.same.trans (cq.of_below a)⟩
def rr(wr:World)(T:Nat->Prop)(g ba N a0 a1 a2 a3 M f0 f1 f2 f3:Nat)(pre:List Value)(has:List Ob)(E:lI)(w1:World):Prop:=
 cq (λq=>T q\/q=ba) wr w1/\∃p0 bv,j0 w1 (up T wr.heap.size) g ba N a0 a1 a2 a3 M f0 f1 f2 f3 pre has E p0 bv
theorem EN.sv5{T:Nat->Prop}{D:lI}{d:ByteArray}(h:EN w S g ba N a0 a1 a2 a3 N2 f0 f1 f2 f3 b4 b5 pre has D d j sv T p0 bv wr):sv.ownBlock≠some b5:=by
 intro e;rcases h.own.2 with⟨e0,-⟩|⟨g0,c,b,e0,-,a,-⟩
 .rw[e0]at e;cases e
 rw[e0]at e;have e:g0=b5:=by injection e
 have h5:=h.r5;rw[<-e,a]at h5;injection h5 with h5;injection h5 with _ h5 _;exact absurd h5 dE
theorem EN.kept{T:Nat->Prop}{M:Nat}{D E:lI}{d:ByteArray}(h:EN w S g ba N a0 a1 a2 a3 N2 f0 f1 f2 f3 b4 b5 pre has D d j sv T p0 bv wr)(a:ba<w.heap.size)(f:w.heap.size<=b4)(i:w.heap.size<=b5)(c:rr wr T g ba N a0 a1 a2 a3 M f0 f1 f2 f3 pre has E w1):
  w1.heap[b4]?=some (.cells fN 131 (0,0))/\w1.heap[b5]?=some (.cells #[.int .i64 d.size,sv] 376 (0,0))/\w1.ownsRow 0 131 32 sv j (lu d j)/\cq (λq=>S q\/q=ba) w w1:=by
 obtain⟨hs,-⟩:=c;refine⟨?_,?_,?_,?_⟩
 .rw[hs.block _ (cm h.r4) (by rintro(e|e);exact h.n4 e;omega)];exact h.r4
 .rw[hs.block _ (cm h.r5) (by rintro(e|e);exact h.n5 e;omega)];exact h.r5
 .refine cU h.own hs ?_;rintro q e (e2|e2)
  .exact(h.nsv q e).1 e2
  have:=(h.nsv q e).2.1;omega
 exact h.same.then (hs.weak λq hq=>hq.elim (λe=>(h.tS q e).1.elim (λe=>.inl (.inl e)) .inr) (λe=>.inl (.inr e)))
theorem EN.next{T:Nat->Prop}{s:Nat}{D:lI}{d:ByteArray}{A:Array Value}(h:EN w S g ba N a0 a1 a2 a3 N2 f0 f1 f2 f3 b4 b5 pre has D d j sv T p0 bv wr)(u:ba<w.heap.size)(t:a0<w.heap.size/\a1<w.heap.size/\a2<w.heap.size/\a3<w.heap.size)(E:w.heap.size<=b4)(F:w.heap.size<=b5)(z:b4≠b5)(C:rr wr T g ba N a0 a1 a2 a3 (N2+j+1) f0 f1 f2 f3 pre has (kO has (gX has D d j) 1 (eZ d j)) w1)(G:A.toList=db (cV (eZ d j)))(v:w'.ownsRow 0 131 32 (.slice (yS s 0) (j+1) c') (j+1) (lu d j++A.toList))(x:(w1.alloc (.cells A 131)).grownBy w' sv.ownBlock)(y:some s=sv.ownBlock\/s=w1.heap.size+1)(B:V=w'.setCell (yA b5 1) (.slice (yS s 0) (j+1) c')):
  ∃T' p0' bv',EN w S g ba N a0 a1 a2 a3 N2 f0 f1 f2 f3 b4 b5 pre has D d (j+1) (.slice (yS s 0) (j+1) c') T' p0' bv' V:=by
 obtain⟨k4,k5,o,f⟩:=h.kept u E F C;have c:=h.sv5;obtain⟨hs,p0',bv',hd⟩:=C;have m:=hd.cut;have i:Below w1.heap.size w1 (w1.alloc (.cells A 131)):=(dw _ _).alloc (cO _) _;have r:=hs.size;have p:=h.same.size;have l4:=cm h.r4;have l5:=cm h.r5;have b:cq (λq=>some q=sv.ownBlock\/q=b5) w1 V:=by rw[B];exact((cq.of_below i).trans (cq.of_grown x (λq e=>.inl e.symm))).setCell _ (.inr rfl) _
 have a:∀q,some q=sv.ownBlock->¬T q/\w.heap.size<=q/\q<wr.heap.size/\q≠b4:=λq e=>⟨(h.nsv q e.symm).1,(h.nsv q e.symm).2.1,(cr h.own q e.symm).2,(h.nsv q e.symm).2.2⟩
 have hU:∀q,q<w.heap.size->¬(some q=sv.ownBlock\/q=b5):=by
  rintro q hq (e|e)
  .have:=(a q e).2.1;omega
  .omega
 have n:w'.heap[b5]?=some (.cells #[.int .i64 d.size,sv] 376 (0,0)):=by rw[x.block _ (by have:=i.size;omega) (λe=>c e.symm),i.block _ (by omega)];exact k5
 have l:s≠b5:=by
  intro e;rcases y with e2|e2
  .exact c (by rw[<-e2,e])
  .omega
 refine⟨_,p0',bv',⟨m.on b ?_ (hU _ u) ⟨hU _ t.1,hU _ t.2.1,hU _ t.2.2.1,hU _ t.2.2.2⟩,?_,?_,?_,?_,?_,?_,?_,?_⟩⟩
 .rintro q ⟨hq|hq,-⟩ (e|e)
  .exact(a q e).1 hq
  .exact h.n5 (e▸hq)
  .have:=(a q e).2.2.1;omega
  .omega
 .rintro q ⟨hq|hq,k⟩
  .exact⟨(h.tS q hq).1,ny k b.size⟩
  exact⟨.inr oM,ny k b.size⟩
 .rintro⟨hq|hq,-⟩
  .exact h.n4 hq
  .omega
 .rintro⟨hq|hq,-⟩
  .exact h.n5 hq
  .omega
 .rw[b.block _ (by omega) (by rintro(e|e);exact(a _ e).2.2.2 rfl;exact z e)];exact k4
 .rw[B,gE _ _ _ _ _ _ n];rfl
 .rw[B,nF,<-G];exact cI v (λq hq=>lq _ _ _ _ (λe=>by have hq:s=q:=(by injection hq);exact l (hq.trans e)))
 .intro q hq;have hq:s=q:=by injection hq
  rw[<-hq];rcases y with e|e
  .obtain⟨c1,c2,c3,c4⟩:=a s e;refine⟨?_,c2,c4⟩;rintro⟨e2|e2,-⟩
   .exact c1 e2
   .omega
  refine⟨?_,oM,oM⟩;rintro⟨-,e2⟩;omega
 exact f.then (b.weak λq hq=>.inr (hq.elim (λe=>(a q e).2.1) (λe=>by omega)))
def kG(d:ByteArray)(j:Nat):ByteArray:=d.extract (96*j) d.size
theorem o9(d:ByteArray)(j:Nat):(kG d j).size=d.size-96*j:=by unfold kG;rw[mM];omega
theorem Bt(d:ByteArray):kG d 0=d:=by unfold kG;simp
theorem Fp(d:ByteArray)(j:Nat)(a:j<du d.size):(kG d j).extract 0 (oO d.size j)=eZ d j:=by
 unfold kG eZ oO;unfold du at a;rw[Rr];apply Pf;simp only[O1];apply Array.ext
 .simp;omega
 intro i h1 h2;simp
theorem Cn(d:ByteArray)(j:Nat)(a:j<du d.size):(kG d j).extract (oO d.size j) (kG d j).size=kG d (j+1):=by
 rw[o9];unfold kG oO;unfold du at a;rw[Rr];apply Pf;simp only[O1];apply Array.ext
 .simp;omega
 intro i h1 h2;simp at h1 h2⊢;congr 1;omega
theorem CG{d:ByteArray}(a:r=kG d j)(b:m=oO d.size j)(c:j<du d.size):r.extract 0 m=eZ d j:=by rw[a,b,Fp d j c]
def Qr:Value->Nat
 | .string s=>s.size
 |_=>0
def yl(w:World)(S:Nat->Prop)(g ba N a0 a1 a2 a3 N2 f0 f1 f2 f3:Nat)(pre:List Value)(has:List Ob)(D:lI)(d:ByteArray)(e:Ending)(w':World):Prop:=
 e=.returned (dL (cV (iC d)))/\cq (λq=>S q\/q=ba) w w'/\∃p0 bv,j0 w' (up S w.heap.size) g ba N a0 a1 a2 a3 (N2+du d.size+1) f0 f1 f2 f3 pre has (Ap has D d) p0 bv
theorem Fu(S:Nat->Prop)(g ba N a0 a1 a2 a3 N2 f0 f1 f2 f3 a:Nat)(an:List Value)(has:List Ob)(D:lI)(p0 bv:Value)(d:ByteArray)(w:World)(h:j0 w S g ba N a0 a1 a2 a3 N2 f0 f1 f2 f3 an has D p0 bv)(aB:∀V,cq (λq=>S q\/q=ba) w V->fL V)(aD:N2+20<=100000)(aC:DB D a)(ha:a<=70000)(aE:d.size<=1536):
  Calls prog 235 #[yP g,.string d] w λe w'=>yl w S g ba N a0 a1 a2 a3 N2 f0 f1 f2 f3 an has D d e w':=by
 obtain⟨lb,l0,l1,l2,l3⟩:=h.lts;have H:=h.cut;have aj:(d.size:Int)<=1536:=oM;have G:Hid ((prog.info? 131).map (·.size)=some 32):=by show _=_;kernel_rfl
 have HD:=hD H;clear H;obtain⟨b4,u⟩:=eX (w.heap.size);obtain⟨b5,b⟩:=eX (w.heap.size+1);obtain⟨T0,a7⟩:=eX (λq=>S q/\q<w.heap.size:Nat->Prop);obtain⟨W0,n⟩:=eX ((w.alloc (.cells fN 131)).alloc (.cells #[.int .i64 d.size,.slice none 0 0] 376))
 have H0:Hid (EN w S g ba N a0 a1 a2 a3 N2 f0 f1 f2 f3 b4 b5 an has D d 0 (.slice none 0 0) T0 p0 bv W0):=by
  have a6:Below w.heap.size w (w.alloc (.cells fN 131)):=(dw _ _).alloc (cO _) _;have hb:Below w.heap.size w W0:=n▸a6.alloc a6.size _;have hz:(w.alloc (.cells fN 131)).heap.size=w.heap.size+1:=sI;have r5:W0.heap[w.heap.size+1]?=some (.cells #[.int .i64 d.size,.slice none 0 0] 376 (0,0)):=by rw[n,<-hz];exact dM _ _
  have r4:W0.heap[w.heap.size]?=some (.cells fN 131 (0,0)):=by rw[n,((dw (w.alloc (.cells fN 131)).heap.size (w.alloc (.cells fN 131))).alloc (cO _) _).block _ (by rw[hz];omega)];exact dM w _
  have l5:=cm r5;rw[a7,u,b];refine⟨HD.out.below hb,λq hq=>⟨.inl hq.1,oM⟩,λe=>by have:=e.2;omega,λe=>by have:=e.2;omega,r4,r5,⟨rfl,.inl ⟨rfl,rfl⟩⟩,?_,cq.of_below hb⟩;intro q e;cases e
 have HB:Hid (b4=w.heap.size/\b5=w.heap.size+1):=⟨u,b⟩;have HP:Hid (N2+20<=100000/\DB D a/\a<=70000/\d.size<=1536):=⟨aD,aC,ha,aE⟩;have ai:=hD aB;have O:Hid (ba<w.heap.size/\a0<w.heap.size/\a1<w.heap.size/\a2<w.heap.size/\a3<w.heap.size):=⟨lb,l0,l1,l2,l3⟩;have HS:Hid (¬S ba/\¬S a0/\¬S a1/\¬S a2/\¬S a3):=⟨h.nb,h.na⟩
 have F:Hid (∀(j:Nat)(V:World)(sa:Option Addr)(sc:Nat)(T:Nat->Prop)(q0 qv:Value)(k:Nat)(t:ByteArray),1<=k->k<=3->j<=du d.size->EN w S g ba N a0 a1 a2 a3 N2 f0 f1 f2 f3 b4 b5 an has D d j (.slice sa j sc) T q0 qv V->t.size<=60000->Calls prog 236 #[yP g,.int .u8 k,.string t] V λe w'=>e=.returned (dL (cV t))/\rr V T g ba N a0 a1 a2 a3 (N2+j+1) f0 f1 f2 f3 an has (kO has (gX has D d j) k t) w'):=by
  intro j V sa sc T q0 qv k t h1 h3 hj hI o;have ac:du d.size<=16:=by unfold du;omega
  obtain⟨e1,e2,e3,e4⟩:=aC.chunks has d j hj;refine iM (rC T g ba N a0 a1 a2 a3 (N2+j) f0 f1 f2 f3 k an has (gX has D d j) q0 qv t V hI.dr (λV' ad=>aB V' (hI.same.then (ad.weak λq hq=>hq.elim (λe=>(hI.tS q e).1.elim (λe=>.inl (.inl e)) .inr) (λe=>.inl (.inr e))))) h1 h3 oM oM oM e3 o oM) ?_;rintro e w' ⟨rfl,x1,x2⟩;exact⟨rfl,x1,x2⟩
 clear h aB aD aC ha aE a7 HD lb l0 l1 l2 l3;go_enter func235,ntmps235
 go_wp2_with fail
 refine eR (λV=>Hid (V=W0)) n.symm ?_;intro V0 a9;rw[a9.out];clear n a9;rw[<-b,<-u];clear u b;go_loopw [1] (λs_ wr=>∃j:Nat,j<=du d.size/\s_=.string (kG d j)/\Hid (∃sa sc T p0 bv,EN w S g ba N a0 a1 a2 a3 N2 f0 f1 f2 f3 b4 b5 an has D d j (.slice sa j sc) T p0 bv wr)) (λs_ _=>Qr s_)
 .exact⟨0,fP _,by rw[Bt],_,_,_,_,_,H0.out⟩
 obtain⟨j,hj,rfl,HJ⟩:=hrel;by_cases C:j<du d.size
 .obtain⟨r,hr⟩:=eX (kG d j);have K:r.size=d.size-96*j:=by rw[hr,o9]
  have U:96*j<d.size:=by unfold du at C;omega
  have ak:r.toList.isEmpty=false:=by
   rw[FF]
   cases hc:r.data.toList with
   |nil=>have h0:r.data.toList.length=d.size-96*j:=K;rw[hc]at h0;have h0:0=d.size-96*j:=h0;omega
   |cons x y=>rfl
  have al:(r.size:Int)<=1536:=by have:=HP.out.2.2.2;omega
  rw[<-hr];have HR:Hid (r=kG d j/\r.size=d.size-96*j/\96*j<d.size):=⟨hr,K,U⟩;clear hr K U;go_upto_region 4 with fail
  obtain⟨m,hm⟩:=eX (oO d.size j);have W:min (96:Int) (r.size:Int)=(m:Int):=by have h:=HR.out.2.1;rw[hm];unfold oO;omega
  have L:m<=r.size:=by have h:=HR.out.2.1;rw[hm];unfold oO;omega
  have a5:1<=m:=by have h:=HR.out.2.2;rw[hm];unfold oO;omega
  rw[W];clear W;obtain⟨sa,sc,T,Q,P,hI⟩:=HJ.out;have z:=hI.below (dw wr.heap.size wr).drew;have hx:=F.out j wr.drew sa sc T Q P 1 (eZ d j) oM oM hj z (by have:=(rj d j C).2.2;omega);obtain⟨A,hA⟩:=eX ((db (cV (eZ d j))).toArray);have c:dL (cV (eZ d j))=.agg A:=by rw[hA];rfl
  rw[c]at hx;have s:=O.out;have ab:=HB.out;refine kQ (M9 _ (rr wr.drew T g ba N a0 a1 a2 a3 (N2+j+1) f0 f1 f2 f3 an has (kO has (gX has D d j) 1 (eZ d j))) g b5 j m sc sa r (lu d j) A #[.int .i64 d.size,.slice sa j sc] 376 wr L (by have:=HP.out.2.2.2;have:=HR.out.2.2;omega) (by rw[hA,jO,cE,el]) (hA▸eA _) (cG hI.r5) (λw1 h1=>?_) hI.sv5 (by rw[CG HR.out.1 hm C];exact hx) (λw1 g' c' w' hX E Z a8 uB hU=>?_))
  .obtain⟨-,k5,ko,-⟩:=z.kept s.1 oM oM h1;exact⟨k5,cG k5,ko⟩
  obtain⟨V,hV⟩:=eX (w'.setCell (yA b5 1) (.slice (yS g' 0) (j+1) c'));obtain⟨T',p1,am,hN⟩:=z.next s.1 s.2 oM oM oM hX (by rw[hA]) E Z a8 hV;have HN:=Hid.mk' hN;have ag:(m:Int)<=(r.size:Int):=oM;have ae:(0:Int)<=m:=oM;have HM:Hid (m=oO d.size j/\m<=r.size/\1<=m):=⟨hm,L,a5⟩;refine nU hU ?_;rw[<-hV];clear hV hN hX E Z a8 hx hA c z hI s ab hm L a5 HJ
  go_wp2_with fail
  go_roundw
  .exact⟨j+1,oM,by rw[HR.out.1,HM.out.1,Cn d j C],_,_,_,_,_,HN.out⟩
  have h1:=HM.out;show(r.extract m r.size).size<r.size;rw[mM];omega
 obtain rfl:j=du d.size:=oM;have he:kG d (du d.size)=⟨#[]⟩:=ej (List.length_eq_zero_iff.1 (by have h:=o9 d (du d.size);rw[dO,h];unfold du;omega));have ah:(⟨#[]⟩:ByteArray).toList.isEmpty=true:=by rw[FF];rfl
 rw[he];obtain⟨sa,sc,T,Q,P,hI⟩:=HJ.out;have ac:du d.size<=16:=by have:=HP.out.2.2.2;unfold du;omega
 obtain⟨k,hk⟩:=eX (du d.size);obtain⟨tx,f⟩:=eX (iC d);have Y:Hid (∀V,Below wr.heap.size wr V->Calls prog 276 #[.agg #[.int .i64 d.size,.slice sa (du d.size) sc]] V λe w'=>e=.returned (.string tx)/\Below wr.heap.size wr w'):=by intro V hV;refine iM (B9 d.size (du d.size) 0 (.slice sa (du d.size) sc) (lu d (du d.size)) (λi=>cV (eZ d i)) V (hI.below hV).own (vX d _) (λ_=>el _) (by have:=HP.out.2.2.2;omega) oM) ?_;rintro e w' ⟨rfl,hb⟩;exact⟨by rw[f];rfl,hV.trans (hb.mono hV.size)⟩
 obtain⟨A,hA⟩:=eX ((db (cV tx)).toArray);have c:dL (cV tx)=.agg A:=by rw[hA];rfl
 have o:tx.size<=60000:=by rw[f];unfold iC gG;rw[lY,gL,iO _ (λ_=>el _)];omega
 have HX:Hid (∀V,Below wr.heap.size wr V->Calls prog 236 #[yP g,.int .u8 2,.string tx] V λe w'=>e=.returned (.agg A)/\rr V T g ba N a0 a1 a2 a3 (N2+du d.size+1) f0 f1 f2 f3 an has (kO has (gX has D d (du d.size)) 2 tx) w'):=by intro V hV;have hx:=F.out (du d.size) V sa sc T Q P 2 tx oM oM hj (hI.below hV) o;rw[c]at hx;exact hx
 have B:Hid (A.size=32/\A.all (·.oneCell')=true):=⟨by rw[hA,jO,cE,el],Array.all_eq_true_iff_forall_mem.2 (λv hv=>by rw[hA]at hv;exact eA _ v (by simpa using hv))⟩
 have HE:Hid (∀V w6 V7,Below wr.heap.size wr V->rr V T g ba N a0 a1 a2 a3 (N2+du d.size+1) f0 f1 f2 f3 an has (kO has (gX has D d (du d.size)) 2 tx) w6->w6.heap[b4]?=some (.cells fN 131 (0,0))/\(V7=w6.setRow b4 A->yl w S g ba N a0 a1 a2 a3 N2 f0 f1 f2 f3 an has D d (.returned (.agg A)) V7)):=by
  intro V w6 V7 hV hx;have l:=hI.below hV;obtain⟨k4,-,-,ks⟩:=l.kept O.out.1 (by have:=HB.out;omega) (by have:=HB.out;omega) hx;refine⟨k4,λe7=>?_⟩;obtain⟨hs,q0,qv,hd⟩:=hx;have a4:cq (·=b4) w6 V7:=e7▸fQ _ _ _;have l4:=cm l.r4;have hB:=HB.out;have hL:=O.out;have af:=l.same.size;refine⟨by rw[<-c,f],ks.then (a4.weak λq e=>.inr oM),q0,qv,?_⟩;have e8:Ap has D d=kO has (gX has D d (du d.size)) 2 tx:=by rw[f];rfl
  rw[e8];exact(hd.on a4 (by rintro q (hq|hq) e;exact l.n4 (e▸hq);omega) oM ⟨oM,oM,oM,oM⟩).grow (λq hq=>hq.elim (λh=>(l.tS q h).1) (λh=>.inr oM)) (λe=>e.elim HS.out.1 (λe=>by omega)) ⟨λe=>e.elim HS.out.2.1 (λe=>by omega),λe=>e.elim HS.out.2.2.1 (λe=>by omega),λe=>e.elim HS.out.2.2.2.1 (λe=>by omega),λe=>e.elim HS.out.2.2.2.2 (λe=>by omega)⟩
 have c0:wr.cell? (yA b5 0)=some (.int .i64 d.size):=cG hI.r5;have c1:wr.cell? (yA b5 1)=some (.slice sa (du d.size) sc):=cG hI.r5;clear he hI hA c o f hk HJ
 go_wp2_with fail
 refine(Y.out wr (dw _ _)).mono ?_;rintro e w5 ⟨rfl,b⟩;have X:=Hid.mk' (HX.out w5 b);have I:Hid (∀w6 V7,rr w5 T g ba N a0 a1 a2 a3 (N2+du d.size+1) f0 f1 f2 f3 an has (kO has (gX has D d (du d.size)) 2 tx) w6->w6.heap[b4]?=some (.cells fN 131 (0,0))/\(V7=w6.setRow b4 A->yl w S g ba N a0 a1 a2 a3 N2 f0 f1 f2 f3 an has D d (.returned (.agg A)) V7)):=λw6 V7 hx=>HE.out w5 w6 V7 b hx
 clear b Y HX HE c0 c1
 go_wp2_with fail
 refine X.out.mono ?_;rintro e w6 ⟨rfl,J⟩;have M:Hid (w6.heap[b4]?=some (.cells fN 131 (0,0))/\∀V7,V7=w6.setRow b4 A->yl w S g ba N a0 a1 a2 a3 N2 f0 f1 f2 f3 an has D d (.returned (.agg A)) V7):=⟨(I.out w6 w6 J).1,λV7 e=>(I.out w6 V7 J).2 e⟩;clear J I X
 go_wp2_with (refine cu rfl 131 _ _ rfl b4 A rfl rfl 131 fN M.out.1 (by rw[B.out.1];exact G.out) (by rw[B.out.1];rfl) B.out.2 ?_;intro V7 aa)
 refine gh (Bj (p:=4) (ty:=131) rfl _ _ b4 131 A (0,0) _ rfl (by rw[aa.out];exact ja _ _ _ _ _ _ M.out.1) kb rfl (by rw[B.out.1];exact G.out)) rfl ?_;exact M.out.2 V7 aa.out
end
section
open Go.RowKit
def nI(x:gS):ByteArray:=gW (!x.dir) x.name x.sum
def G2(x:gS):UInt8:=if x.dir then 2 else 1
theorem Cg(s:ByteArray)(x:gS):s++⟨#[G2 x]⟩++⟨#[UInt8.ofNat (x.name.size%256)]⟩++x.name++x.sum=s++nI x:=by
 unfold nI gW G2;apply ej;simp only[eQ];cases x.dir<;>simp[bl]
theorem DX(x:gS):((G2 x).toNat:Int)=(eG x:Int)-1:=by
 unfold G2 eG;cases x.dir<;>rfl
theorem Fd(x:gS)(h:x.sum.size=32):(nI x).size=34+x.name.size:=by
 unfold nI;rw[pD,h];omega
theorem Co(B:Nat)(cv:Value)(ls:List gS)(w:World)(aa:w.ownsRow B 366 34 cv ls.length (fM ls))(ab:∀x∈ls,x.sum.size=32/\x.name.size<=255)(hk:ls.length<=1000):
  Calls prog 237 #[cv] w λe w'=>e=.returned (.string (iI (ls.map nI)))/\Below w.heap.size w w':=by
 obtain⟨k,l⟩:=eX (ls.length);rw[<-l]at aa hk;obtain⟨ao,cc,rfl⟩:=cQ aa;have o:Hid ((prog.info? 366).map (·.size)=some 34):=by show _=_;kernel_rfl
 have a8:(k:Int)<=1000:=oM;have HO:Hid (w.ownsRow B 366 34 (.slice ao k cc) k (fM ls)/\k=ls.length/\∀x∈ls,x.sum.size=32/\x.name.size<=255):=⟨aa,l,ab⟩;obtain⟨F,hF⟩:=eX (λj=>iI ((ls.take j).map nI):Nat->ByteArray);have d:F 0=⟨#[]⟩:=by rw[hF];rfl
 have s:∀j (h:j<ls.length),F (j+1)=F j++nI ls[j]:=by rw[hF];intro j h;show iI _=iI _++_;rw[sN h,qA,Cw,jy]
 have P:∀j,j<=ls.length->(F j).size<=289*j:=by
  intro j
  induction j with
  |zero=>intro _;rw[d];exact cO _
  |succ j ih=>
   intro h;rw[s j (by omega),lY,Fd _ (ab _ (mX _)).1];have:=ih oM;have:=(ab ls[j] (mX _)).2;omega
 have K:iI (ls.map nI)=F k:=by rw[hF,l];show _=iI ((ls.take ls.length).map nI);rw[NP]
 rw[K];have HF:Hid (F 0=⟨#[]⟩/\(∀j (h:j<ls.length),F (j+1)=F j++nI ls[j])/\(∀j,j<=ls.length->(F j).size<=289*j)):=⟨d,s,P⟩;obtain⟨g,hg⟩:=eX (w.heap.size);have H1:Hid (lD w g (F 0) (w.alloc (.cells #[.pointer none,.slice none 0 0] 282))):=by show lD _ _ _ _;rw[d,hg];exact lD.new (dw _ _)
 clear aa ab hF d s P K l;go_enter func237,ntmps237
 go_wp2_with fail
 refine eR (λV=>Hid (lD w g (F 0) V)) H1 ?_;intro V1 Z;rw[<-hg];clear H1 hg;go_loopw [8] (λj_ wr=>∃j:Nat,j<=k/\j_=.int .i64 j/\Hid (lD w g (F j) wr)) (λj_ _=>k-(intOf j_).toNat)
 .exact⟨0,fP _,rfl,Z⟩
 obtain⟨j,hj,rfl,HT⟩:=hrel;by_cases X:j<k
 .have a1:(j:Int)<k:=oM;have M:=HT.1;have hO:=cI HO.1 (λq hq=>M.block _ (cr HO.1 q hq).2);obtain⟨q,a0,hv,a5,a2,f⟩:=kr hO X;have S:ao=some (yA q 0):=by injection hv
  subst S;have z:j<ls.length:=by have:=HO.2.1;omega
  rw[oe (λy hy=>(HO.out.2.2 y hy).1) j z]at f;obtain⟨x,hx⟩:=eX (ls[j]);rw[<-hx]at f;obtain⟨p,G⟩:=HO.2.2 x (hx▸mX _);obtain⟨C,hC⟩:=eX ((gp x).toArray);have a:C.toList=gp x:=by rw[hC]
  have A:C.size=34:=by rw[<-gf,a];exact ef x p
  have n:Hid (C.toList.length=34/\C.size=34/\C.all (·.oneCell')=true):=⟨by rw[gf,A],A,Array.all_eq_true_iff_forall_mem.2 (λv hv=>gR x v (by rw[<-a];simpa using hv))⟩;have E:Hid (wr.rangeAt q (j*34) C.toList):=a▸f;obtain⟨nm,b⟩:=eX (x.name);obtain⟨kk,c⟩:=eX ((eG x:Int):Int);have a6:2<=kk:=by rw[c];unfold eG;split<;>omega
  have a3:kk<=3:=by rw[c];unfold eG;split<;>omega
  have a4:(nm.size:Int)<=255:=by rw[b];omega
  have HR:Hid (∀V:World,V.heap[wr.heap.size]?=some (.cells C 366 (0,0))->V.cell? (yA wr.heap.size 0)=some (.string nm)/\V.cell? (yA wr.heap.size 1)=some (.int .u8 kk)):=λV hV=>⟨by rw[cG hV,<-kX,a,b];rfl,by rw[cG hV,<-kX,a,c];rfl⟩
  have HX:Hid (x.sum.size=32/\nm=x.name/\kk=(eG x:Int)/\nm.size<=255/\F (j+1)=F j++nI x/\(F j).size<=289000/\(∀(i:Nat) u,(db x.sum)[i]?=some u->C[2+i]?=some u)):=by refine⟨p,b,c,b▸G,hx▸HF.2.1 j z,by have:=HF.2.2 j oM;omega,λi u hu=>?_⟩;rw[<-kX,a];show((.string x.name:Value)::.int .u8 (eG x:Int)::db x.sum)[2+i]?=some u;rw[Gb,A6,A6];exact hu
  have a7:(0:Int)<=j:=oM;clear M hO f hC a A b c hx p G z hv;go_upto_region 5 with(first|(refine su rfl 366 _ rfl q (j*34) rfl C.toList _ E BH rfl (by rw[n.out.1];exact o) ?_;rw[BO])|(refine cu rfl 366 _ _ rfl wr.heap.size C rfl rfl 366 ic (dM wr _) (by rw[n.out.2.1];exact o) (by rw[n.out.2.1];rfl) n.2.2 ?_;intro V5 r))
  have m:Below wr.heap.size wr V5:=by rw[r.out];exact cC ((dw _ _).alloc (cO _) _) (cO _) _
  have t:V5.heap[wr.heap.size]?=some (.cells C 366 (0,0)):=by rw[r.out];exact ja _ _ _ _ _ _ (dM wr _)
  have I:wr.heap.size≠g:=by obtain⟨-,-,p0,bv,hM,-⟩:=HT;have:=cm hM.row;omega
  have H5:Hid (lD w g (F j) V5/\V5.heap[wr.heap.size]?=some (.cells C 366 (0,0))/\wr.heap.size≠g):=⟨HT.below m,t,I⟩;have U:=(HR V5 t).2;clear m t I r E
  go_wp2_with fail
  refine iM (R:=λe w'=>e=.returned .nilIface/\lD w g (F j++⟨#[G2 x]⟩) w'/\KR g V5 w') ?_ ?_
  .have h:=H5.out.1.byte (G2 x) (by have:=HX.out;omega);rw[DX,<-HX.out.2.2.1]at h;exact h
  rintro e w6 ⟨rfl,Q,N⟩;have H6:Hid (lD w g (F j++⟨#[G2 x]⟩) w6/\w6.heap[wr.heap.size]?=some (.cells C 366 (0,0))):=⟨Q,N _ _ _ H5.2.2 dE H5.2.1⟩;have T:=(HR w6 H6.2).1;clear Q N U
  go_wp2_with fail
  refine iM (R:=λe w'=>e=.returned .nilIface/\lD w g (F j++⟨#[G2 x]⟩++⟨#[UInt8.ofNat (x.name.size%256)]⟩) w'/\KR g w6 w') ?_ ?_
  .have h:=H6.out.1.byte (UInt8.ofNat (x.name.size%256)) (by have:=HX.out;rw[lY];show(F j).size+1+1<=_;omega);have e:((UInt8.ofNat (x.name.size%256)).toNat:Int)=(nm.size:Int):=by have h1:=HX.2.2.2.1;rw[HX.out.2.1]at h1⊢;rw[MJ];omega
   rw[e]at h;exact h
  rintro e w7 ⟨rfl,L,H⟩;have H7:Hid (lD w g (F j++⟨#[G2 x]⟩++⟨#[UInt8.ofNat (x.name.size%256)]⟩) w7/\w7.heap[wr.heap.size]?=some (.cells C 366 (0,0))):=⟨L,H _ _ _ H5.2.2 dE H6.2⟩;have W:=(HR w7 H7.2).1;clear L H T H6
  go_wp2_with fail
  refine iM (R:=λe w'=>e=.returned (.tuple #[.int .i64 nm.size,.nilIface])/\lD w g (F j++⟨#[G2 x]⟩++⟨#[UInt8.ofNat (x.name.size%256)]⟩++x.name) w'/\KR g w7 w') ?_ ?_
  .have h:=H7.out.1.write nm (by have:=HX.out;rw[lY,lY];show(F j).size+1+1+_<=_;omega);rw[<-HX.out.2.1]at h⊢;exact h
  rintro e w8 ⟨rfl,J,D⟩;have H8:Hid (Calls prog 278 #[yP g,.slice (yS wr.heap.size 2) 32 32] w8 λe w'=>e=.returned (.tuple #[.int .i64 (32:Nat),.nilIface])/\lD w g (F (j+1)) w'):=by have h8:=D _ _ _ H5.2.2 dE H7.2;have h:=J.bytes x.sum wr.heap.size 2 32 C 366 h8 HX.out.2.2.2.2.2.2 H5.out.2.2 (by rw[HX.out.1];omega) (by have h1:=HX.out;rw[h1.1,lY,lY,lY,<-h1.2.1];show(F j).size+1+1+_+_<=_;omega);rw[Cg,<-HX.out.2.2.2.2.1,HX.out.1]at h;exact iM h (λe w' h=>⟨h.1,h.2.1⟩)
  clear J D W H7
  go_wp2_with fail
  refine H8.mono ?_;rintro e w9 ⟨rfl,O⟩;have H9:=Hid.mk' O;clear O H8
  go_wp2_with fail
  go_roundw
  .exact⟨j+1,oM,by go_num,H9⟩
  exact mS
 obtain rfl:j=k:=oM;have Y:Hid (Calls prog 213 #[yP g] wr λe w'=>e=.returned (.string (F j))/\Below w.heap.size w w'):=HT.string (by have:=HF.2.2 j (by have:=HO.2.1;omega);omega)
 go_wp2_with (go_at_call 213;refine Y.mono ?_;rintro e w5 ⟨rfl,m⟩)
 go_ret;exact⟨rfl,m⟩
end
section
def jH(E:mu)(ps:im):lI:=⟨ju E ps,(jo E ps).at_,(jo E ps).seq-1,(jo E ps).chain,ri E ps⟩
theorem oC(E:mu)(a:1<=E.seq)(has:List Ob)(ps:im)(k:Nat)(t:ByteArray):kO has (jH E ps) k t=jH E (gP has ps k t):=by
 have hf:(cF (jH E ps).fresh k (cV t)).isSome=tm ps k (cV t):=lV ps E k (cV t);unfold kO gP;rw[hf];by_cases hc:(cF has k (cV t)).isSome=true\/tm ps k (cV t)=true
 .rw[dq hc,dq (by simpa using hc)]
 rw[dj hc,dj (by simpa using hc)];have hs:(jo E ps).seq-1+1=(jo E ps).seq:=by have:=pO ps E;omega
 unfold jH;rw[wj,Ex,Em];show(⟨ju E ps++[⟨k,cV t,(jo E ps).at_,t⟩],(jo E ps).at_+dU t.size,(jo E ps).seq-1+1,pU ((jo E ps).seq-1+1) (jo E ps).chain k t,ri E ps++sB ((jo E ps).seq-1+1) (jo E ps).chain k t⟩:lI)=_;rw[hs];rfl
theorem pQ(E:mu)(a:1<=E.seq)(has:List Ob)(ps:im)(d:ByteArray):∀j,gX has (jH E ps) d j=jH E (iQ has ps d j)
 |0=>rfl
 |j+1=>by show kO has (gX has (jH E ps) d j) 1 (eZ d j)=_;rw[pQ E a has ps d j,oC E a];rfl
theorem uu(E:mu)(a:1<=E.seq)(has:List Ob)(ps:im)(d:ByteArray):Ap has (jH E ps) d=jH E (qp has ps d):=by
 unfold Ap qp;rw[pQ E a,oC E a]
end
end Go.Proofs.YtapijhhmjjplmaaGreatDoor

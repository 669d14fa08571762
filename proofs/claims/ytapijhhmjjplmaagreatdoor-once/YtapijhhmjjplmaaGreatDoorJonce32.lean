import Derived.Test.YtapijhhmjjplmaaGreatDoorJonce31
namespace Go.Proofs.YtapijhhmjjplmaaGreatDoor
set_option linter.all false
set_option maxRecDepth 100000
set_option maxHeartbeats 4000000
open Go.Proofs.Tryz
variable {X cs args:Array Value}{br:Bool}{s:ByteArray}{d:cX}{img:List ByteArray}{nb mb:List ByteArray→Nat}{infos:List jR}{ws:List Nat}{has fresh':List Ob}{pre:List Value}{M:fm}{n bd m b g a0 a1 a2 a3 sh c7 N j ba rb at_ seq chain N2 f0 f1 f2 f3 M2 k sq ch:Nat}{SI S I U:Nat→Prop}{T T':cS}{sv bv p0:Value}{w wr V w' w8 V9:World}
section
open Go.RowKit Go.Maps
def M0(n:Nat):fm:=⟨1,1,iE n,[],[]⟩
theorem MW.first(h:1<=img.length):MW img (M0 n):=
 ⟨cO _,h,cO _,cO _,Nat.zero_lt_one,zg n,RS.nil,(by intro o ho;cases ho),(by intro i hi;cases hi)⟩
def atOf(c:Nat)(wr:World):Nat:=match wr.cell? (yA c 0)with
 |some (.int _ x)=>x.toNat
 |_=>0
theorem jq.atOf{T:Nat->Prop}(h:jq w T SI bd m b g a0 a1 a2 a3 sh c7 N j d pre M wr):Go.Proofs.YtapijhhmjjplmaaGreatDoor.atOf c7 wr=M.at_:=by
 unfold Go.Proofs.YtapijhhmjjplmaaGreatDoor.atOf;rw[cG h.r7];rfl
def Hv(w:World)(S SI:Nat->Prop)(bd m b g a0 a1 a2 a3 sh N:Nat)(d:cX)(pre:List Value)(M:fm)(e:Ending)(w':World):Prop:=
 e=.returned (oP M.at_ (M.seq-1) M.chain)/\cD w' S bd m d/\dt pre w' b/\(∃sv N',N'<=N+M.seq/\jd w' (up SI w.heap.size) N' g a0 a1 a2 a3 sh sv M.has M.infos)/\cq (λq=>S q\/q=b\/SI q) w w'/\MW (df d) M
theorem jq.fin{T:Nat->Prop}(h:jq w T SI bd m b g a0 a1 a2 a3 sh c7 N j d pre M wr)(e:uY w T SI b g a0 a1 a2 a3 sh c7)(f:∀q,T q->S q)(i:∀q,SI q->I q)(k:V=wr.setRow w.heap.size X):
  V.heap[w.heap.size]?=some (.cells X 119 (0,0))/\Hv w S I bd m b g a0 a1 a2 a3 sh N d pre M (.returned (oP M.at_ (M.seq-1) M.chain)) V:=by
 have a:cq (·=w.heap.size) wr V:=k▸fQ _ _ _;have c:=e.bl;obtain⟨sv,N',hN,hI,hq⟩:=h.inm;refine⟨k▸ja _ _ _ _ _ _ h.r6,rfl,(h.dsk.on a (λq h1 h2=>by have:=e.tl q h1;omega)).mono f,h.tab.on a oM,⟨sv,N',oM,(hI.on a (λq h1 h2=>?_)).grow λq h1=>?_⟩,(h.same.then (a.weak λq h2=>.inr oM)).weak λq hq=>hq.elim (λh=>.inl (f q h)) (λh=>h.elim (λh=>.inr (.inl h)) (λh=>.inr (.inr (i q h)))),h.mw⟩
 .rcases e.ei hq q h1 with h3|h3
  .have:=e.il _ h3;omega
  .omega
 rcases e.ei hq q h1 with h3|h3
 .exact .inl (i q h3)
 exact .inr oM
def GI(img:List ByteArray)(G:fm->Prop):Prop:=∀M,G M->(img[M.at_]?=some z64\/jS img M.at_ M.seq M.chain≠none)/\∀k t c,jS img M.at_ M.seq M.chain=some (k,t,c)->KG M.has M.infos k t/\∀M',gQ img M=some M'->G M'
def gB(img:List ByteArray):Nat->fm->Bool
 |0,_=>false
 |f+1,M=>match jS img M.at_ M.seq M.chain with
  |none=>decide (img[M.at_]?=some z64)
  |some (k,t,_)=>(if k=4 then decide (sE M.has M.infos t)else qu M.has k t&&((fO t).all λl=>l.all λx=>!x.dir)&&(cF M.has k (cV t)).isNone)&&match gQ img M with
   |none=>true
   |some M'=>gB img f M'
theorem Mt(img:List ByteArray):GI img λM=>∃f,gB img f M=true:=by
 rintro M ⟨f,hf⟩
 cases f with
 |zero=>cases hf
 |succ f=>
  unfold gB at hf;refine⟨?_,λk t c hr=>?_⟩
  .cases hr:jS img M.at_ M.seq M.chain with
   |none=>rw[hr]at hf;exact .inl (FE hf)
   |some _=>exact .inr (λh=>by cases h)
  rw[hr]at hf;simp only[Dj]at hf;refine⟨⟨λh4=>?_,λh4=>?_⟩,λM' h'=>⟨f,?_⟩⟩
  .have h:=hf.1;rw[dq h4]at h;exact FE h
  .have h:=hf.1;rw[dj h4]at h;simp only[Dj]at h;refine⟨h.1.1,λl hl x hx=>?_,by simpa using h.2⟩;have h2:=h.1.2;rw[hl]at h2;simp only[Option.all_some,List.all_eq_true]at h2;simpa using h2 x hx
  have h:=hf.2;rw[h']at h;exact h
theorem sL(S I:Nat->Prop)(bd m b g a0 a1 a2 a3 sh N n:Nat)(sv:Value)(d:cX)(pre:List Value)(w:World)(h:cD w S bd m d)(aT:dt pre w b)(hI:jd w I N g a0 a1 a2 a3 sh sv [] [])(aU:¬S b)(aV:∀q,S q->¬I q)(aW:¬I b)(aS:∀V,cq (λq=>S q\/q=b\/I q) w V->fL V)(hn:d.safe.length=n)(b4:4<=n)(hb:n<=4096)(aX:∀s∈df d,s.size=64)(hN:N<=100000)(G:fm->Prop)(aY:G (M0 n))(aZ:GI (df d) G):
  Calls prog 85 #[yP bd,.pointer (yS b 12),.func (.func 86) #[yP g] #[]] w λe w'=>Hv w S I bd m b g a0 a1 a2 a3 sh N d pre (g6 (df d) (M0 n)) e w':=by
 obtain⟨T,hT⟩:=eX (λq=>S q/\q<w.heap.size:Nat->Prop);obtain⟨J,hJ⟩:=eX (λq=>I q/\q<w.heap.size:Nat->Prop);have an:∀q,T q->q<w.heap.size:=by rw[hT];exact λq h=>h.2
 have A:∀q,T q->S q:=by rw[hT];exact λq h=>h.1
 have az:∀q,J q->q<w.heap.size:=by rw[hJ];exact λq h=>h.2
 have B:∀q,J q->I q:=by rw[hJ];exact λq h=>h.1
 have hd:cD w T bd m d:=hT▸h.tight;have O:jd w J N g a0 a1 a2 a3 sh sv [] []:=hJ▸hI.cut;have ab:(df d).length=n:=by unfold df;rw[eo,hn]
 have av:=aT.lt;have HS:Hid (∀w2,Below w.heap.size w w2->Calls prog 62 #[yP bd] w2 λe w'=>e=.returned (.int .i64 n)/\w2=w'):=by intro w2 z;have:=gA bd m S d w2 (h.on (T:=λ_=>False) (.of_below z) (λ_ _ h=>h));rw[hn]at this;exact this
 have HT:Hid (∀w,Calls prog 147 #[.int .i64 n] w λe w'=>e=.returned (.agg #[.int .i64 1,.int .u32 0,.int .u32 (iE n:Int)])/\Below w.heap.size w w'):=λw=>vp n hb w
 have ax:Hid (∀c7,w.heap.size<c7->uY w T J b g a0 a1 a2 a3 sh c7):=λc7 hc=>⟨an,az,av,λq h1 h2=>aV q (A q h1) (B q h2),λh=>aU (A _ h),λh=>aW (B _ h),O.fixed,hc⟩
 have E:Hid ((∀q,T q->S q)/\(∀q,J q->I q)/\(∀V,cq (λq=>T q\/q=b\/J q) w V->cq (λq=>S q\/q=b\/I q) w V)):=⟨A,B,λV h=>h.weak λq hq=>hq.elim (λh=>.inl (A q h)) (λh=>h.elim (λh=>.inr (.inl h)) (λh=>.inr (.inr (B q h))))⟩;have aE:Hid (∀V,cq (λq=>T q\/q=b\/J q) w V->fL V):=λV hV=>aS V (E.2.2 V hV)
 have HG:Hid (¬T b):=λh=>aU (A _ h)
 have x:Hid ((df d).length=n/\(∀s∈df d,s.size=64)/\d.safe.length=n):=⟨ab,aX,hn⟩;have v:Hid (∀w2 c7,w.heap.size<c7->Below w.heap.size w w2->w2.heap[w.heap.size]?=some (.cells #[.int .i64 0,.int .u32 0,.int .u32 0] 119 (0,0))->w2.heap[c7]?=some (.cells #[.int .i64 1,.int .u32 0,.int .u32 (iE n:Int)] 119 (0,0))->jq w T J bd m b g a0 a1 a2 a3 sh c7 N 1 d pre (M0 n) w2):=by intro w2 c7 hc z h6 h7;exact⟨hd.on (T:=λ_=>False) (cq.of_below z) (λ_ _ h=>h),aT.on (S:=λ_=>False) (cq.of_below z) (λh=>h),h7,h6,⟨sv,N,cO _,(O.below z (cO _)).exact,λq hq=>.inl (O.infS q hq).1⟩,cq.of_below z,MW.first (by rw[ab];omega)⟩
 have aL:=mZ;have K:Hid (G (M0 n)/\GI (df d) G):=⟨aY,aZ⟩;clear aY aZ h aT hI aU aV aW aS hn aX hT hJ an A az B hd O ab av;go_enter func85,ntmps85
 go_wp2_with fail
 refine(HS _ ((dw _ _).alloc (cO _) _)).mono ?_;rintro e w1 ⟨rfl,rfl⟩
 go_wp2_with fail
 refine(HT _).mono ?_;rintro e w1 ⟨rfl,a8⟩;have o:w1.heap[w.heap.size]?=some (.cells #[.int .i64 0,.int .u32 0,.int .u32 0] 119 (0,0)):=by rw[a8.block _ (by simp)];exact dM w _
 have a5:Below w.heap.size w w1:=((dw _ _).alloc (cO _) _).trans (a8.mono sI);have L:Hid (jq w T J bd m b g a0 a1 a2 a3 sh w1.heap.size N 1 d pre (M0 n) (w1.alloc (.cells #[.int .i64 1,.int .u32 0,.int .u32 (iE n:Int)] 119))):=v _ _ (cm o) (a5.alloc a5.size _) (by rw[cK _ _ (cm o)];exact o) (dM w1 _);have i:=hD (ax _ (cm o));clear a8 o a5 HS HT v ax
 go_wp2
 obtain⟨c7,ar⟩:=eX (w1.heap.size);rw[<-ar]at L i⊢;obtain⟨w2,ac⟩:=eX (w1.alloc (.cells #[.int .i64 1,.int .u32 0,.int .u32 (iE n:Int)] 119));rw[<-ac]at L⊢;clear ac ar;go_loopw [10] (λ_ wr=>∃M:fm,Hid (jq w T J bd m b g a0 a1 a2 a3 sh c7 N 1 d pre M wr/\g6 (df d) M=g6 (df d) (M0 n)/\G M)) (λ_ wr=>n-atOf c7 wr)
 .exact⟨M0 n,L,rfl,K.1⟩
 obtain⟨M,HM⟩:=hrel;clear L;have f:=HM.1.mw;have ah:M.seq-1+1=M.seq:=by have:=f.sq1;omega
 have aQ:M.at_<=4096:=by have:=f.at2;rw[x.out.1]at this;omega
 have aN:M.seq<=4096:=by have:=f.sq2;omega
 have aa:=xA T bd m b M.at_ (M.seq-1) M.chain n d pre wr HM.1.dsk HM.1.tab HG x.2.2 hb x.2.1 oM f.ch (by rw[ah];exact(K.2 M HM.2.2).1);obtain⟨y,hy⟩:=eX (M.at_);obtain⟨sq,D⟩:=eX (M.seq-1);obtain⟨ch,a7⟩:=eX (M.chain);have a:=HM.1.r7;rw[<-hy,<-D,<-a7]at aa a;have HY:Hid (y=M.at_/\sq=M.seq-1/\ch=M.chain/\sq+1=M.seq):=⟨hy,D,a7,oM⟩;have c0:wr.cell? (yA c7 0)=some (.int .i64 y):=cG a;have c1:wr.cell? (yA c7 1)=some (.int .u32 sq):=cG a;have c2:wr.cell? (yA c7 2)=some (.int .u32 ch):=cG a
 have ad:Hid (Calls prog 148 #[.agg #[.int .i64 y,.int .u32 sq,.int .u32 ch],yP bd,.pointer (yS b 12)] wr λe w'=>jq w T J bd m b g a0 a1 a2 a3 sh c7 N 1 d pre M w'/\((∃(k:Nat)(t:ByteArray)(c:Nat),e=.returned (.tuple #[.agg #[.int .u8 k,.int .i64 y,.string t],.agg #[.int .i64 (y+dU t.size:Nat),.int .u32 (sq+1:Nat),.int .u32 c],.bool true])/\jS (df d) M.at_ M.seq M.chain=some (k,t,c))\/(e=.returned (.tuple #[.agg #[.int .u8 0,.int .i64 0,.string ⟨#[]⟩],.agg #[.int .i64 0,.int .u32 0,.int .u32 0],.bool false])/\jS (df d) M.at_ M.seq M.chain=none))):=by
  refine iM aa ?_;rintro e w' ⟨h1,h2,h3,h4⟩;refine⟨HM.1.read i h1 h2 h3,?_⟩;rw[HY.out.2.2.2,HY.out.1,HY.out.2.2.1]at h4;rw[HY.out.2.2.2,HY.out.1];rcases h4 with⟨k,t,c,rfl,h5⟩|⟨rfl,h5⟩
  .exact .inl ⟨k,t,c,by rw[vl,oP],h5⟩
  exact .inr ⟨by rw[vl,oP];rfl,h5⟩
 clear aa a hy D a7 f ah
 go_wp2_with fail
 refine ad.mono ?_;rintro e w3 ⟨F,Z⟩;have P:=Hid.mk' F;have aj:=cm F.r7;have ae:=cm F.r6;clear F ad c0 c1 c2;rcases Z with⟨k,t,c,rfl,l⟩|⟨rfl,l⟩
 .have r:=Hid.mk' l;clear l;have aI:=wV x.2.1 r;obtain⟨aq,ak,aF,W,-,-⟩:=aI;obtain⟨sw,N',ai,a4,ap⟩:=P.inm;have Y:=a4.lts;have aK:=hD Y;have a6:Hid ((∀q,sw.ownBlock=some q->J q\/(w.heap.size<q/\q≠c7))/\N'+1<=N+M.seq):=⟨ap,ai⟩;go_upto_region 3 with fail
  refine eR (λV=>Hid (Below w3.heap.size w3 V/\V.heap[w3.heap.size]?=some (.cells #[.int .u8 k,.int .i64 y,.string t] 261 (0,0))/\V.heap[w3.heap.size+1]?=some (.cells #[.int .i64 (y+dU t.size:Nat),.int .u32 (sq+1:Nat),.int .u32 c] 119 (0,0)))) (?_:_) ?_
  .exact Hid.mk' ⟨((dw _ _).alloc (cO _) _).alloc sI _,(iy w3 _ _).1,(iy w3 _ _).2⟩
  intro V4 H4;have j:=Hid.mk' (P.below i H4.1);have f:=j.mw;have a9:=EH (EI g a0 a1 a2 a3 sh sw) N' g a0 a1 a2 a3 sh sw M.has M.infos y k t V4 (a4.below H4.1 (cO _)) (aE _ j.same) aq ak oM (by have:=f.len;omega) (by have:=f.len;omega) (by rw[HY.out.1];omega) oM ((K.2 M HM.2.2).2 k t c r).1;rw[vl]at a9
  have ag:Hid (Calls prog 86 #[yP g,.agg #[.int .u8 k,.int .i64 y,.string t]] V4 λe w'=>e=.returned (.bool true)/\cq (EI g a0 a1 a2 a3 sh sw) V4 w'/\∀V,V=w'.setRow c7 #[.int .i64 (y+dU t.size:Nat),.int .u32 (sq+1:Nat),.int .u32 c]->∃M':fm,jq w T J bd m b g a0 a1 a2 a3 sh c7 N 1 d pre M' V/\g6 (df d) M'=g6 (df d) (M0 n)/\M.at_<M'.at_/\G M'):=by
   refine iM a9 ?_;rintro e w' ⟨hs,hh⟩;have aB:=Av M k t;rw[HY.out.1]at hh;obtain⟨Q,u,aM,rfl,hy,hi⟩:=hh;refine⟨rfl,hs,λV hV=>?_⟩;rw[hy]at aB;have fR:gQ (df d) M=some (zx {M with has:=Q,infos:=u} t.size c):=by unfold gQ;rw[r.out];simp only;rw[aB];rfl
   have aP:=jM t.size;refine⟨zx {M with has:=Q,infos:=u} t.size c,j.next i a6.1 hs hi ?_ ?_ (f.step x.2.1 fR),?_,?_,((K.2 M HM.2.2).2 k t c r).2 _ fR⟩
   .show N'+1+1<=N+(M.seq+1);have:=a6.2;omega
   .rw[hV,HY.out.1];show _=w'.setRow c7 #[.int .i64 (M.at_+dU t.size:Nat),.int .u32 (M.seq+1-1:Nat),.int .u32 c];rw[HY.out.2.2.2,Nat.add_sub_cancel]
   .rw[<-Hh fR];exact HM.2.1
   show M.at_<M.at_+dU t.size;omega
  have e0:V4.cell? (yA w3.heap.size 0)=some (.int .u8 k):=cG H4.2.1;have e1:V4.cell? (yA w3.heap.size 1)=some (.int .i64 y):=cG H4.2.1;have e2:V4.cell? (yA w3.heap.size 2)=some (.string t):=cG H4.2.1;have U:M.at_<n:=by have:=jM t.size;rw[x.out.1]at W;omega
  clear a9 f a4 ap ai Y aq ak aF W
  go_wp2_with fail
  refine ag.mono ?_;rintro e w5 ⟨rfl,H,aA⟩;have aO:=Hid.mk' H;have am:=Hid.mk' aA;have C:w5.heap[w3.heap.size+1]?=some (.cells #[.int .i64 (y+dU t.size:Nat),.int .u32 (sq+1:Nat),.int .u32 c] 119 (0,0)):=by rw[H.block _ (cm H4.out.2.2) (λh=>by have:=aK.out _ h;omega)];exact H4.2.2
  have a:∃X:Array Value,X.size=3/\w5.heap[c7]?=some (.cells X 119 (0,0)):=by
   refine⟨#[.int .i64 M.at_,.int .u32 (M.seq-1:Nat),.int .u32 M.chain],rfl,?_⟩;rw[H.block _ (cm j.out.r7) (λh=>?_)]
   .exact j.r7
   rcases i.ei a6.1 c7 h with h3|h3
   .have:=i.il _ h3;have:=i.cl;omega
   exact h3.2 rfl
  obtain⟨X,aC,a⟩:=a;have HX:=Hid.mk' (Jp aC a);obtain⟨u0,ao⟩:=eX (((y+dU t.size:Nat):Int):Int);obtain⟨u1,ay⟩:=eX (((sq+1:Nat):Int):Int);rw[<-ao,<-ay]at C am;have g0:w5.cell? (yA (w3.heap.size+1) 0)=some (.int .i64 u0):=cG C;have g1:w5.cell? (yA (w3.heap.size+1) 1)=some (.int .u32 u1):=cG C;have g2:w5.cell? (yA (w3.heap.size+1) 2)=some (.int .u32 c):=cG C;have au:Hid (atOf c7 wr=M.at_/\M.at_<n):=⟨HM.1.atOf,U⟩;clear C a aC aj ae ag H aA ao ay e0 e1 e2 U
  go_wp2_with (refine cu rfl 119 _ _ rfl c7 #[.int .i64 u0,.int .u32 u1,.int .u32 c] rfl rfl 119 X HX.2 kR HX.1 kR ?_;intro V6 aJ)
  obtain⟨M',af,aG,aR,aD⟩:=am V6 aJ.out;simp only[Act.put];go_roundw
  .exact⟨M',af,aG,aD⟩
  rw[af.atOf,au.out.1];have:=au.2;omega
 have al:Hid (g6 (df d) (M0 n)=M):=by show _=_;rw[<-HM.out.2.1];refine vU ?_;unfold gQ;rw[l]
 clear l;go_upto_region 3 with fail
 refine eR (λV=>Hid (Below w3.heap.size w3 V)) (?_:_) ?_
 .exact Hid.mk' (((dw _ _).alloc (cO _) _).alloc sI _)
 intro V4 H4;have j:=Hid.mk' (P.below i H4);have a:=j.r7;rw[<-HY.out.1,<-HY.out.2.1,<-HY.out.2.2.1]at a;have c0:V4.cell? (yA c7 0)=some (.int .i64 y):=cG a;have c1:V4.cell? (yA c7 1)=some (.int .u32 sq):=cG a;have c2:V4.cell? (yA c7 2)=some (.int .u32 ch):=cG a;clear a aj ae P H4
 go_wp2_with (refine cu rfl 119 _ _ rfl w.heap.size #[.int .i64 y,.int .u32 sq,.int .u32 ch] rfl rfl 119 _ j.r6 kR rfl kR ?_;intro V5 aH)
 obtain⟨a1,a2⟩:=j.fin (S:=S) (I:=I) i E.1 E.2.1 aH.out;refine gh (Bj (p:=6) (ty:=119) rfl _ _ w.heap.size 119 _ (0,0) _ rfl a1 Oy rfl kR) rfl ?_;rw[al.out];unfold oP at a2;rw[<-HY.out.1,<-HY.out.2.1,<-HY.out.2.2.1]at a2;exact a2
theorem dt.row(h:dt pre w b):∃t,pre.length=12/\w.heap[b]?=some (.cells (pre++t).toArray 129 (0,0)):=by
 rcases h with h|h
 .exact⟨_,h.1,h.2⟩
 exact⟨_,h.1,h.2⟩
theorem dt.cell(h:dt pre w b)(a:j<12):w.cell? (yA b j)=pre[j]?:=by
 obtain⟨t,h1,h2⟩:=h.row;rw[cG h2];rw[Ew,FD (by omega)]
theorem dt.frozen(h:dt pre w b)(j:Nat):w.frozen? (yA b j)=false:=by
 obtain⟨t,h1,h2⟩:=h.row;exact fH w b j _ _ h2
theorem fa.setP{d m:Int}(h:fa pre w b d m ws)(a:j<12)(v:Value):fa (pre.set j v) (w.setCell (yA b j) v) b d m ws:=by
 refine⟨by rw[KV];exact h.1,?_⟩;rw[gE _ _ _ _ _ _ h.2];have:(pre++gm d m ws).toArray.setIfInBounds j v=(pre.set j v++gm d m ws).toArray:=by rw[Ow,List.set_append_left _ _ (by rw[h.1];exact a)]
 rw[this]
theorem dt.setP(h:dt pre w b)(a:j<12)(v:Value):dt (pre.set j v) (w.setCell (yA b j) v) b:=
 h.elim (λh=>.inl (h.setP a v)) (λh=>.inr (h.setP a v))
def jL(bd:Nat)(rt:Value)(tn:Nat)(sv:Value)(m0 m1 m2 m3:Option Nat)(at_ seq chain:Nat)(br:Bool):List Value:=[yP bd,rt,.int .i64 tn,sv,.map m0,.map m1,.map m2,.map m3,.int .i64 at_,.int .u32 seq,.int .u32 chain,.bool br]
def mf(a0 a1 a2 a3 q:Nat):Prop:=q=a0\/q=a1\/q=a2\/q=a3
structure gn (w:World) (S:Nat->Prop) (ba bd N rb a0 a1 a2 a3 at_ seq chain:Nat) (sv:Value) (br:Bool) (has:List Ob) (infos:List jR) (T:cS):Prop where
 tab:dt (jL bd (yP rb) T.length sv (some a0) (some a1) (some a2) (some a3) at_ seq chain br) w ba
 kn:dG w S N a0 a1 a2 a3 has
 inf:w.ownsRow 0 133 33 sv infos.length (fG infos)
 infS:∀q,sv.ownBlock=some q->S q
 tree:∃nb mb,dC w (λq=>S q/\¬mf a0 a1 a2 a3 q) rb T nb mb
 sb:S ba
theorem gn.on(h:gn w S ba bd N rb a0 a1 a2 a3 at_ seq chain sv br has infos T)(a:cq U w w')(c:∀g,S g->¬U g):gn w' S ba bd N rb a0 a1 a2 a3 at_ seq chain sv br has infos T:=by
 obtain⟨nb,mb,ht⟩:=h.tree;exact⟨h.tab.on a (c _ h.sb),h.kn.on a c,cU h.inf a (λq e=>c _ (h.infS q e)),h.infS,⟨nb,mb,ht.on a (λq hq=>c q hq.1)⟩,h.sb⟩
structure lI where
 fresh:List Ob
 at_:Nat
 seq:Nat
 chain:Nat
 whole:ByteArray
def kO(has:List Ob)(D:lI)(k:Nat)(t:ByteArray):lI:=
 if(cF has k (cV t)).isSome=true\/(cF D.fresh k (cV t)).isSome=true then D
 else⟨D.fresh++[⟨k,cV t,D.at_,t⟩],D.at_+dU t.size,D.seq+1,pU (D.seq+1) D.chain k t,D.whole++sB (D.seq+1) D.chain k t⟩
def qh(a0 a1 a2 a3 ba f0 f1 f2 f3:Nat)(p0 bv:Value)(at_ seq chain:Nat):Array Value:=#[.map (some a0),.map (some a1),.map (some a2),.map (some a3),.pointer (yS ba 12),.map (some f0),.map (some f1),.map (some f2),.map (some f3),p0,bv,.int .i64 at_,.int .u32 seq,.int .u32 chain]
structure j0 (w:World) (S:Nat->Prop) (g ba N a0 a1 a2 a3 N2 f0 f1 f2 f3:Nat) (pre:List Value) (has:List Ob) (D:lI) (p0 bv:Value):Prop where
 bld:mO w 284 g 9 (qh a0 a1 a2 a3 ba f0 f1 f2 f3 p0 bv D.at_ D.seq D.chain) bv D.whole.data.toList
 kn:dG w (λ_=>True) N a0 a1 a2 a3 has
 fr:dG w S N2 f0 f1 f2 f3 D.fresh
 tab:dt pre w ba
 sg:S g
 sw:∀q,bv.ownBlock=some q->S q
 nb:¬S ba
 na:¬S a0/\¬S a1/\¬S a2/\¬S a3
 nba:ba≠a0/\ba≠a1/\ba≠a2/\ba≠a3
theorem mO.onA{T:TypeId}{o:Nat}{l:List UInt8}(h:mO w T g o cs bv l)(a:cq U w w')(b:¬U g)(c:∀q,bv.ownBlock=some q->¬U q):mO w' T g o cs bv l:=
 ⟨by rw[a.block _ (cm h.row) b];exact h.row,h.kind,h.c0,h.c1,cU h.own a c,h.ne,h.nil⟩
theorem j0.on{D:lI}(h:j0 w S g ba N a0 a1 a2 a3 N2 f0 f1 f2 f3 pre has D p0 bv)(a:cq U w w')(c:∀q,S q->¬U q)(d:¬U ba)(b:¬U a0/\¬U a1/\¬U a2/\¬U a3):j0 w' S g ba N a0 a1 a2 a3 N2 f0 f1 f2 f3 pre has D p0 bv:=
 ⟨h.bld.onA a (c _ h.sg) (λq e=>c _ (h.sw q e)),h.kn.onA a b.1 b.2.1 b.2.2.1 b.2.2.2,h.fr.on a c,h.tab.on a d,h.sg,h.sw,h.nb,h.na,h.nba⟩
theorem j0.below{D:lI}(h:j0 w S g ba N a0 a1 a2 a3 N2 f0 f1 f2 f3 pre has D p0 bv)(a:Below w.heap.size w w'):j0 w' S g ba N a0 a1 a2 a3 N2 f0 f1 f2 f3 pre has D p0 bv:=
 h.on (U:=λ_=>False) (cq.of_below a) (λ_ _ h=>h) (λh=>h) ⟨λh=>h,λh=>h,λh=>h,λh=>h⟩
theorem j0.grow{T:Nat->Prop}{D:lI}(h:j0 w S g ba N a0 a1 a2 a3 N2 f0 f1 f2 f3 pre has D p0 bv)(a:∀q,S q->T q)(b:¬T ba)(c:¬T a0/\¬T a1/\¬T a2/\¬T a3):j0 w T g ba N a0 a1 a2 a3 N2 f0 f1 f2 f3 pre has D p0 bv:=
 ⟨h.bld,h.kn,h.fr.mono a,h.tab,a _ h.sg,λq e=>a _ (h.sw q e),b,c,h.nba⟩
theorem j0.lts{D:lI}(h:j0 w S g ba N a0 a1 a2 a3 N2 f0 f1 f2 f3 pre has D p0 bv):ba<w.heap.size/\a0<w.heap.size/\a1<w.heap.size/\a2<w.heap.size/\a3<w.heap.size:=⟨h.tab.lt,h.kn.k0.lt,h.kn.k1.lt,h.kn.k2.lt,h.kn.k3.lt⟩
theorem j0.cut{D:lI}(h:j0 w S g ba N a0 a1 a2 a3 N2 f0 f1 f2 f3 pre has D p0 bv):j0 w (λq=>S q/\q<w.heap.size) g ba N a0 a1 a2 a3 N2 f0 f1 f2 f3 pre has D p0 bv:=
 ⟨h.bld,h.kn,⟨h.fr.k0,h.fr.k1,h.fr.k2,h.fr.k3,⟨⟨h.fr.s.1,h.fr.k0.lt⟩,⟨h.fr.s.2.1,h.fr.k1.lt⟩,⟨h.fr.s.2.2.1,h.fr.k2.lt⟩,⟨h.fr.s.2.2.2,h.fr.k3.lt⟩⟩,h.fr.d⟩,h.tab,⟨h.sg,cm h.bld.row⟩,λq e=>⟨h.sw q e,(cr h.bld.own q e).2⟩,λe=>h.nb e.1,⟨λe=>h.na.1 e.1,λe=>h.na.2.1 e.1,λe=>h.na.2.2.1 e.1,λe=>h.na.2.2.2 e.1⟩,h.nba⟩
theorem j0.turn{D:lI}(h:j0 w S g ba N a0 a1 a2 a3 N2 f0 f1 f2 f3 pre has D p0 bv)(a:cq (·=dA k f0 f1 f2 f3) w w')(b:dG w' S M2 f0 f1 f2 f3 fresh'):j0 w' S g ba N a0 a1 a2 a3 M2 f0 f1 f2 f3 pre has {D with fresh:=fresh'} p0 bv:=by
 obtain⟨f,hf⟩:=h.fr.at k;have hS:=h.fr.inS k;refine⟨h.bld.onA a (λe=>hf.ne_row h.bld.row e.symm) (λq e e2=>hf.ne_own h.bld.own (by rw[e,e2])),h.kn.onA a (λe=>h.na.1 (e▸hS)) (λe=>h.na.2.1 (e▸hS)) (λe=>h.na.2.2.1 (e▸hS)) (λe=>h.na.2.2.2 (e▸hS)),b,h.tab.on a (λe=>h.nb (e▸hS)),h.sg,h.sw,h.nb,h.na,h.nba⟩
def FL(w:World)(S:Nat->Prop)(g ba N a0 a1 a2 a3 N2 f0 f1 f2 f3:Nat)(pre:List Value)(has:List Ob)(D:lI)(k:Nat)(t:ByteArray)(e:Ending)(w':World):Prop:=
 e=.returned (dL (cV t))/\cq (λq=>S q\/q=ba) w w'/\∃p0 bv,j0 w' (up S w.heap.size) g ba N a0 a1 a2 a3 (N2+1) f0 f1 f2 f3 pre has (kO has D k t) p0 bv
theorem j0.upN{D:lI}(h:j0 w S g ba N a0 a1 a2 a3 N2 f0 f1 f2 f3 pre has D p0 bv)(a:N2<=M2):j0 w S g ba N a0 a1 a2 a3 M2 f0 f1 f2 f3 pre has D p0 bv:=⟨h.bld,h.kn,h.fr.up a,h.tab,h.sg,h.sw,h.nb,h.na,h.nba⟩
theorem j0.tabd{D:lI}(h:j0 w S g ba N a0 a1 a2 a3 N2 f0 f1 f2 f3 pre has D p0 bv)(a:cq (·=ba) w w')(b:dt pre w' ba):j0 w' S g ba N a0 a1 a2 a3 N2 f0 f1 f2 f3 pre has D p0 bv:=
 ⟨h.bld.onA a (λe=>h.nb (e▸h.sg)) (λq e e2=>h.nb (e2▸h.sw q e)),h.kn.onA a (zq h.nba.1) (zq h.nba.2.1) (zq h.nba.2.2.1) (zq h.nba.2.2.2),h.fr.on a (λ_ hq e=>h.nb (e▸hq)),b,h.sg,h.sw,h.nb,h.na,h.nba⟩
theorem j0.wrote{y:Nat}{D:lI}(h:j0 w S g ba N a0 a1 a2 a3 N2 f0 f1 f2 f3 pre has D p0 bv)(n:pC w 284 g 9 (qh a0 a1 a2 a3 ba f0 f1 f2 f3 p0 bv D.at_ D.seq D.chain) bv (D.whole.data.toList++s.data.toList) w8)(m:V9=((w8.setCell (yA g 11) (.int .i64 y)).setCell (yA g 12) (.int .u32 sq)).setCell (yA g 13) (.int .u32 ch)):
  ∃p0' bv',j0 V9 (λq=>S q\/some q=bv'.ownBlock) g ba N a0 a1 a2 a3 N2 f0 f1 f2 f3 pre has ⟨D.fresh,y,sq,ch,D.whole++s⟩ p0' bv'/\cq S w V9/\(∀q,bv'.ownBlock=some q->S q\/w.heap.size<=q):=by
 obtain⟨bv',hM,hs,hn⟩:=n;have c:∀q,bv'.ownBlock=some q->S q\/w.heap.size<=q:=λq e=>(hn q e).elim (λe2=>.inl (h.sw q e2.symm)) .inr
 have i:cq (·=g) w8 V9:=by rw[m];exact(((cq.refl (·=g) w8).setCell (yA g 11) rfl _).setCell (yA g 12) rfl _).setCell (yA g 13) rfl _
 have hU:∀q,pm g bv q->S q:=by
  rintro q (rfl|e)
  .exact h.sg
  exact h.sw q e.symm
 have k:=hM.row;have j:V9.heap[g]?=some (.cells (qh a0 a1 a2 a3 ba f0 f1 f2 f3 (.pointer (yS g 9)) bv' y sq ch) 284 (0,0)):=by rw[m,gE _ g 13 _ _ _ (gE _ g 12 _ _ _ (gE _ g 11 _ _ _ k))];rfl
 have l:=h.lts
 have nW:∀{b M:Nat}{f:ByteArray->Option Value},KM w b M f->¬pm g bv b:=λhk hu=>by
  rcases hu with e|e
  .exact hk.ne_row h.bld.row e
  exact hk.ne_own h.bld.own e.symm
 have a:∀{b M:Nat}{f:ByteArray->Option Value},KM w b M f->KM V9 b M f:=λhk=>(hk.on (hs.block _ hk.lt (nW hk))).on (i.block _ (by have:=hs.size;have:=hk.lt;omega) (λe=>hk.ne_row h.bld.row e))
 refine⟨.pointer (yS g 9),bv',⟨⟨j,.inr ⟨rfl,rfl,rfl⟩,.inr rfl,rfl,?_,hM.ne,?_⟩,⟨a h.kn.k0,a h.kn.k1,a h.kn.k2,a h.kn.k3,h.kn.s,h.kn.d⟩,⟨a h.fr.k0,a h.fr.k1,a h.fr.k2,a h.fr.k3,⟨.inl h.fr.s.1,.inl h.fr.s.2.1,.inl h.fr.s.2.2.1,.inl h.fr.s.2.2.2⟩,h.fr.d⟩,(h.tab.on hs (λe=>h.nb (hU _ e))).on i (λe=>h.nb (e▸h.sg)),.inl h.sg,λq e=>.inr e.symm,?_,?_,h.nba⟩,(hs.weak hU).trans (i.weak λq e=>e▸h.sg),c⟩
 .have e:(D.whole++s).data.toList=D.whole.data.toList++s.data.toList:=sI;show V9.ownsRow 0 _ 1 bv' (D.whole++s).data.toList.length (Lib.byteCells (D.whole++s).data.toList);rw[e];exact cU hM.own i (λq e1 e2=>hM.ne (by rw[e1,e2]))
 .intro e;refine hM.nil ?_;have e':(D.whole++s).data.toList=D.whole.data.toList++s.data.toList:=sI;rw[<-e'];exact e
 .rintro(e|e)
  .exact h.nb e
  rcases c ba e.symm with e2|e2
  .exact h.nb e2
  .omega
 refine⟨?_,?_,?_,?_⟩
 .rintro(e|e)
  .exact h.na.1 e
  rcases c _ e.symm with e2|e2
  .exact h.na.1 e2
  .omega
 .rintro(e|e)
  .exact h.na.2.1 e
  rcases c _ e.symm with e2|e2
  .exact h.na.2.1 e2
  .omega
 .rintro(e|e)
  .exact h.na.2.2.1 e
  rcases c _ e.symm with e2|e2
  .exact h.na.2.2.1 e2
  .omega
 rintro(e|e)
 .exact h.na.2.2.2 e
 rcases c _ e.symm with e2|e2
 .exact h.na.2.2.2 e2
 .omega
end
section
open Go.RowKit Go.Maps
def vq(T:cS)(nb mb:List ByteArray->Nat)(g:Nat):Prop:=(∃p,dK T p/\g=nb p)\/(∃p,dK T p/\eO T p=false/\g=mb p)
theorem dC.exact{w:World}{S:Nat->Prop}{rb:Nat}{T:cS}(h:dC w S rb T nb mb):dC w (vq T nb mb) rb T nb mb:=
 ⟨h.root,λp hp=>.inl ⟨p,hp,rfl⟩,h.node,λp hp hf=>.inr ⟨p,hp,hf,rfl⟩,h.map,h.i1,h.i2,h.i3⟩
theorem dC.in_set{w:World}{S:Nat->Prop}{rb:Nat}{T:cS}(h:dC w S rb T nb mb)(b:vq T nb mb g):S g:=by
 rcases b with⟨p,hp,rfl⟩|⟨p,hp,hf,rfl⟩
 .exact h.sn p hp
 exact h.sm p hp hf
theorem dC.kind{w:World}{S:Nat->Prop}{rb:Nat}{T:cS}(h:dC w S rb T nb mb)(b:vq T nb mb g):(∃c,w.heap[g]?=some (.cells c 274 (0,0)))\/∃es c,w.heap[g]?=some (.map es c):=by
 rcases b with⟨p,hp,rfl⟩|⟨p,hp,hf,rfl⟩
 .exact .inl ⟨_,h.node p hp⟩
 obtain⟨D,h1,-⟩:=h.map p hp hf;obtain⟨es,a,hb,-⟩:=h1;exact .inr ⟨es,a,hb⟩
theorem dC.notype{w:World}{S:Nat->Prop}{rb:Nat}{T:cS}(h:dC w S rb T nb mb){c:Array Value}{t:TypeId}{z:Nat×Nat}(hc:w.heap[g]?=some (.cells c t z))(b:t≠274):¬vq T nb mb g:=λhg=>by
 rcases h.kind hg with⟨c',h'⟩|⟨es,cl,h'⟩
 .rw[hc]at h';injection h' with e;injection e with _ e2 _;exact b e2
 rw[hc]at h';injection h' with e;cases e
theorem M5{w:World}{S:Nat->Prop}{rb:Nat}{T:cS}(h:dC w S rb T nb mb)(b:vq T nb mb g):g<w.heap.size:=by
 rcases h.kind b with⟨c',h'⟩|⟨es,cl,h'⟩
 .exact cm h'
 exact cm h'
section
variable {w:World} {S:Nat->Prop} {ba bd N rb a0 a1 a2 a3 at_ seq chain:Nat} {sv:Value} {br:Bool} {has:List Ob} {infos:List jR} {T:cS}
theorem gn.arcP(h:gn w S ba bd N rb a0 a1 a2 a3 at_ seq chain sv br has infos T)(b:dC w (λq=>S q/\¬mf a0 a1 a2 a3 q) rb T nb mb){t:List Value}(c:w.heap[ba]?=some (.cells (jL bd (yP rb) T.length sv (some a0) (some a1) (some a2) (some a3) at_ seq chain br++t).toArray 129 (0,0))):
  gd w (λg=>g=ba\/vq T nb mb g) ba (jL bd (yP rb) T.length sv (some a0) (some a1) (some a2) (some a3) at_ seq chain br++t).toArray T:=by
 refine⟨_,rb,nb,mb,c,.inl rfl,rfl,rfl,rfl,b.exact.mono (λg hg=>⟨.inr hg,?_⟩)⟩;rintro rfl;exact b.notype c dE hg
theorem gn.back(h:gn w S ba bd N rb a0 a1 a2 a3 at_ seq chain sv br has infos T)(v:dC w (λq=>S q/\¬mf a0 a1 a2 a3 q) rb T nb mb){d m:Int}(y:∀pre' V,fa pre' V ba d m ws->dt pre' V ba)(x:fa (jL bd (yP rb) T.length sv (some a0) (some a1) (some a2) (some a3) at_ seq chain br) w ba d m ws)(A:gd w' (λg=>(g=ba\/vq T nb mb g)\/w.heap.size<=g) ba (jL bd (yP rb) T.length sv (some a0) (some a1) (some a2) (some a3) at_ seq chain br++gm d m ws).toArray T')(z:cq (λg=>g=ba\/vq T nb mb g) w w'):
  gn w' (λg=>S g\/w.heap.size<=g) ba bd N rb a0 a1 a2 a3 at_ seq chain sv br has infos T':=by
 obtain⟨R',k,n,o,hv⟩:=A;have p:=hv.r0;have e0:R'.setIfInBounds 2 .nilIface=(jL bd (yP rb) T.length sv (some a0) (some a1) (some a2) (some a3) at_ seq chain br++gm d m ws).toArray.setIfInBounds 2 .nilIface:=p
 have e1:∀j,j≠2->R'[j]?=(jL bd (yP rb) T.length sv (some a0) (some a1) (some a2) (some a3) at_ seq chain br++gm d m ws)[j]?:=λj hj=>by
  have h1:(R'.setIfInBounds 2 .nilIface)[j]?=R'[j]?:=by rw[wU,dj (λe=>hj e.symm)]
  rw[<-h1,e0,wU,dj (λe=>hj e.symm),Ew]
 have r:k=rb:=by have h1:=hv.r1;rw[e1 1 (by decide)]at h1;have h2:some (Value.pointer (yS rb 0))=some (eM k):=h1;injection h2 with h3;injection h3 with h4;injection h4 with h5;injection h5 with h6;exact h6.symm
 have hR:R'=(jL bd (yP rb) T'.length sv (some a0) (some a1) (some a2) (some a3) at_ seq chain br++gm d m ws).toArray:=by
  apply N7;intro j;by_cases hj:j=2
  .subst hj;rw[hv.r2];rfl
  rw[e1 j hj,Ew];rcases Fc j 12 with h12|h12
  .rw[FD (by exact h12),FD (by exact h12)];have:j=0\/j=1\/j=3\/j=4\/j=5\/j=6\/j=7\/j=8\/j=9\/j=10\/j=11:=oM;rcases this with rfl|rfl|rfl|rfl|rfl|rfl|rfl|rfl|rfl|rfl|rfl<;>rfl
  rw[F8 (by exact h12),F8 (by exact h12)];rfl
 have b:∀a,mf a0 a1 a2 a3 a->(∃es c,w.heap[a]?=some (.map es c))->¬(a=ba\/vq T nb mb a):=λa ha hm e=>by
  rcases e with e|e
  .obtain⟨es,c,hm⟩:=hm;rw[e,x.2]at hm;injection hm with e2;cases e2
  exact(v.in_set e).2 ha
 have mp:∀{a N:Nat}{f:ByteArray->Option Value},KM w a N f->∃es c,w.heap[a]?=some (.map es c):=λh=>by obtain⟨D,⟨es,i,x,-⟩,-⟩:=h;exact⟨es,i,x⟩
 refine⟨?_,?_,?_,?_,⟨n,o,?_⟩,.inl h.sb⟩
 .have s:fa (jL bd (yP rb) T'.length sv (some a0) (some a1) (some a2) (some a3) at_ seq chain br) w' ba d m ws:=⟨rfl,by rw[hv.blk,hR]⟩;exact y _ _ s
 .exact(h.kn.onA z (b a0 (.inl rfl) (mp h.kn.k0)) (b a1 (.inr (.inl rfl)) (mp h.kn.k1)) (b a2 (.inr (.inr (.inl rfl))) (mp h.kn.k2)) (b a3 (.inr (.inr (.inr rfl))) (mp h.kn.k3))).mono (λ_ h=>.inl h)
 .refine cI h.inf (λq hq=>?_);refine z.block q (cr h.inf q hq).2 (λe=>?_);obtain⟨-,h2|⟨g,u,t,l,-,hh,-⟩⟩:=h.inf
  .rw[h2.1]at hq;cases hq
  rw[l]at hq;cases hq;rcases e with e|e
  .have e':g=ba:=e;rw[e',x.2]at hh;injection hh with e2;injection e2 with _ e3 _;exact absurd e3 dE
  exact v.notype hh dE e
 .exact λq hq=>.inl (h.infS q hq)
 rw[<-r];refine hv.tree.mono (λg hg=>?_);rcases hg.1 with(e|e)|e
 .exact absurd e hg.2
 .exact⟨.inl (v.in_set e).1,(v.in_set e).2⟩
 refine⟨.inr e,λha=>?_⟩;rcases ha with rfl|rfl|rfl|rfl
 .have:=h.kn.k0.lt;omega
 .have:=h.kn.k1.lt;omega
 .have:=h.kn.k2.lt;omega
 have:=h.kn.k3.lt;omega
theorem gn.call{f:FuncId}{Q:Ending->Prop}(h:gn w S ba bd N rb a0 a1 a2 a3 at_ seq chain sv br has infos T)(b:∀(R:Array Value)(X:Nat->Prop),(∀q,X q->S q)->gd w X ba R T->Calls prog f args w λe w'=>Q e/\gd w' (λg=>X g\/w.heap.size<=g) ba R T'/\cq X w w'):
  Calls prog f args w λe w'=>Q e/\gn w' (λg=>S g\/w.heap.size<=g) ba bd N rb a0 a1 a2 a3 at_ seq chain sv br has infos T'/\cq S w w':=by
 obtain⟨nb,mb,ht⟩:=h.tree
 have hX:∀q,(q=ba\/vq T nb mb q)->S q:=λq hq=>by
  rcases hq with e|e
  .rw[e];exact h.sb
  exact(ht.in_set e).1
 rcases h.tab with hb|hb
 .refine(b _ _ hX (h.arcP ht hb.2)).mono ?_;rintro e w' ⟨h1,h2,h3⟩;exact⟨h1,h.back ht (λ_ _ h=>.inl h) hb h2 h3,h3.weak hX⟩
 refine(b _ _ hX (h.arcP ht hb.2)).mono ?_;rintro e w' ⟨h1,h2,h3⟩;exact⟨h1,h.back ht (λ_ _ h=>.inr h) hb h2 h3,h3.weak hX⟩
end
section
variable (w0:World) (a:Nat->Addr) (mx:Int) {w:World} {S:Nat->Prop} {ba bd N rb a0 a1 a2 a3 at_ seq chain:Nat} {sv:Value} {br:Bool} {has:List Ob} {infos:List jR} {T:cS} (s d:ByteArray)
theorem Ph(c:eS w0 a mx)(h:gn w S ba bd N rb a0 a1 a2 a3 at_ seq chain sv br has infos T)(f:eN T)(i:Below w0.heap.size w0 w)(j:∀g,S g->w0.heap.size<=g)(b:∀g,S g->g<w.heap.size)(k:s.size<=262144)(m:d.size<=262144):
  Calls prog 49 #[yP ba,.string s,.string d] w λe w'=>e=.returned (.int .i64 (da (λl=>iG T l d) s:Nat))/\gn w' (λg=>S g\/w.heap.size<=g) ba bd N rb a0 a1 a2 a3 at_ seq chain sv br has infos (dz T (λl=>ia T l d) s)/\cq S w w':=
 h.call (λR X hX hA=>D3 w0 a mx c ba R X T s d w hA f i (λg hg=>j g (hX g hg)) (λg hg=>b g (hX g hg)) k m)
theorem I1(c:eS w0 a mx)(h:gn w S ba bd N rb a0 a1 a2 a3 at_ seq chain sv br has infos T)(f:eN T)(i:Below w0.heap.size w0 w)(j:∀g,S g->w0.heap.size<=g)(b:∀g,S g->g<w.heap.size)(k:s.size<=262144):
  Calls prog 27 #[yP ba,.string s] w λe w'=>e=.returned (.int .i64 (da (eY T) s:Nat))/\gn w' (λg=>S g\/w.heap.size<=g) ba bd N rb a0 a1 a2 a3 at_ seq chain sv br has infos (dz T (ff T) s)/\cq S w w':=
 h.call (λR X hX hA=>zB w0 a mx c ba R X T s w hA f i (λg hg=>j g (hX g hg)) (λg hg=>b g (hX g hg)) k)
theorem FX(b:eS w0 a mx)(h:gn w S ba bd N rb a0 a1 a2 a3 at_ seq chain sv br has infos T)(c:eN T)(f:Below w0.heap.size w0 w)(i:∀g,S g->w0.heap.size<=g)(j:s.size<=262144):
  Calls prog 56 #[yP ba,.string s] w λe w'=>e=.returned (.int .i64 (da (dV T) s:Nat))/\gn w' (λg=>S g\/w.heap.size<=g) ba bd N rb a0 a1 a2 a3 at_ seq chain sv br has infos (dz T (d9 T) s)/\cq S w w':=
 h.call (λR X hX hA=>xm w0 a mx b ba R X T s w hA c f (λg hg=>i g (hX g hg)) j)
end
end
end Go.Proofs.YtapijhhmjjplmaaGreatDoor

import Derived.Test.YtapijhhmjjplmaaGreatDoorJonce18
namespace Go.Proofs.YtapijhhmjjplmaaGreatDoor
set_option linter.all false
set_option maxRecDepth 100000
set_option maxHeartbeats 4000000
open Go.Proofs.Tryz
variable {t label:ByteArray}{d:cX}{x:pp}{img:List ByteArray}{has more:List Ob}{M:fm}{k n bd m:Nat}{S:Nat→Prop}{T:cS}{w wr:World}
section
open Go.RowKit Go.Maps
theorem rp:∀n,Lib.repeatL [(0:UInt8)] n=List.replicate n 0
 |0=>rfl
 |n+1=>by
  have:=rp n
  simp_all [Lib.repeatL,PU]
theorem nO(n:Nat)(a:n<=1000000)(w:World):Calls prog 139 #[.string ⟨#[0]⟩,.int .i64 n] w λe w'=>e=.returned (.string (zb n))/\Below w.heap.size w w':=by
 have h:=Tryz.strings_Repeat ⟨#[0]⟩ n w oM (by show 1*n<=_;omega);have e:(⟨#[0]⟩:ByteArray).data.toList=[0]:=rfl;rw[e,rp]at h;exact h
theorem kj(n:Nat)(w:World)(b:(n:Int)<=4294967295):Calls prog 144 #[.int .u32 n] w λe w'=>e=.returned (.string (fb n))/\Below w.heap.size w w':=by
 have a:(convert 134 9 (.slice (yS w.heap.size 0) 4 4)).run prog (w.alloc (.cells #[.int .u8 ((n:Int)/16777216),.int .u8 ((n:Int)/65536%256),.int .u8 ((n:Int)/256%256),.int .u8 ((n:Int)%256)] 5))=.ok (.string (fb n)) (w.alloc (.cells #[.int .u8 ((n:Int)/16777216),.int .u8 ((n:Int)/65536%256),.int .u8 ((n:Int)/256%256),.int .u8 ((n:Int)%256)] 5)):=by
  have e0:(n:Int)/16777216=(n:Int)/16777216%256:=oM;rw[e0];refine KH (P:=prog) _ 134 9 5 (yA w.heap.size 0) 4 (oZ n) yE I0 xV ?_;have hb:∀m:Nat,(UInt8.ofNat (m%256)).toNat=m%256:=λm=>by rw[MJ];omega
  intro j hj
  match j,hj with
  |0,_=>simp[oZ,Addr.add,hb]
  |1,_=>simp[oZ,Addr.add,hb]
  |2,_=>simp[oZ,Addr.add,hb]
  |3,_=>simp[oZ,Addr.add,hb]
 go_enter func144,ntmps144
 go_wp2
 go_ret;exact⟨rfl,(dw _ _).alloc (cO _) _⟩
theorem iL(n:Nat)(a:n<=1000000)(w:World):Calls prog 217 #[.int .i64 n] w λe w'=>e=.returned (.int .i64 (((n+63)/64:Nat):Int))/\w=w':=by
 go_enter func217,ntmps217
 go_wp2
 go_ret;exact⟨by go_num,rfl⟩
theorem vg(s:ByteArray)(c:s.size=16)(w:World):Calls prog 142 #[.string s] w λe w'=>e=.returned (.string (s++zb 48))/\Below w.heap.size w w':=by
 have H1:Hid (∀w,Calls prog 217 #[.int .i64 16] w λe w'=>e=.returned (.int .i64 1)/\w=w'):=λw=>iL 16 oM w
 have H2:Hid (∀w,Calls prog 139 #[.string ⟨#[0]⟩,.int .i64 48] w λe w'=>e=.returned (.string (zb 48))/\Below w.heap.size w w'):=λw=>nO 48 oM w
 have b:(s.size:Int)=16:=oM;obtain⟨z,hz⟩:=eX (zb 48);rw[<-hz]at H2⊢;have a:z.size=48:=hz▸tz 48;clear hz;go_enter func142,ntmps142
 go_wp2_with (first|(go_at_call 217;refine(H1 _).mono ?_;rintro e w1 ⟨rfl,rfl⟩)|(go_at_call 139;refine(H2 _).mono ?_;rintro e w2 ⟨rfl,hb⟩;have HB:Hid (Below w.heap.size w w2):=hb;clear hb))
 go_ret;exact⟨rfl,HB⟩
theorem oh(n:Nat)(h:n<=4096)(w:World):Calls prog 143 #[.int .i64 n] w λe w'=>e=.returned (.string (lP n))/\Below w.heap.size w w':=by
 have H1:Hid (∀w,Calls prog 144 #[.int .u32 n] w λe w'=>e=.returned (.string (fb n))/\Below w.heap.size w w'):=λw=>kj n w oM
 have d:(n:Int)<=4096:=oM;obtain⟨f,hf⟩:=eX (fb n);have g:f.size=4:=by rw[hf];rfl
 have a:lP n=Ie++f:=by rw[hf];rfl
 rw[<-hf]at H1;rw[a];unfold Ie;clear hf a;go_enter func143,ntmps143
 go_wp2_with (go_at_call 144;refine(H1 _).mono ?_;rintro e w1 ⟨rfl,b⟩;have c:Hid (Below w.heap.size w w1):=b;clear b)
 go_ret;exact⟨rfl,c⟩
theorem qz(n:Nat)(f:n<=4096)(w:World):Calls prog 145 #[.int .i64 n] w λe w'=>e=.returned (.int .u32 (iE n:Int))/\Below w.heap.size w w':=by
 have H1:Hid (∀w,Calls prog 143 #[.int .i64 n] w λe w'=>e=.returned (.string (lP n))/\Below w.heap.size w w'):=λw=>oh n f w
 have H2:Hid (∀w,Calls prog 185 #[.string (lP n)] w λe w'=>e=.returned (.int .u32 (iE n:Int))/\Below w.heap.size w w'):=λw=>Ji (lP n) w (by rw[pu];omega)
 go_enter func145,ntmps145
 go_wp2_with (first|(go_at_call 143;refine(H1 _).mono ?_;rintro e w1 ⟨rfl,b⟩;have c:Hid (Below w.heap.size w w1):=b;clear b)|(go_at_call 185;refine(H2 _).mono ?_;rintro e w2 ⟨rfl,a⟩;have d:Hid (Below w.heap.size w w2):=c.trans (a.mono c.size);clear a))
 go_ret;exact⟨rfl,d⟩
theorem rE(n:Nat)(o:n<=4096)(w:World):Calls prog 82 #[.int .i64 n] w λe w'=>e=.returned (.string (iD n))/\Below w.heap.size w w':=by
 have H1:Hid (∀w,Calls prog 143 #[.int .i64 n] w λe w'=>e=.returned (.string (lP n))/\Below w.heap.size w w'):=λw=>oh n o w
 have H2:Hid (∀w,Calls prog 145 #[.int .i64 n] w λe w'=>e=.returned (.int .u32 (iE n:Int))/\Below w.heap.size w w'):=λw=>qz n o w
 have H3:Hid (∀w,Calls prog 144 #[.int .u32 (iE n:Int)] w λe w'=>e=.returned (.string (fb (iE n)))/\Below w.heap.size w w'):=λw=>kj (iE n) w (by have:=zg n;unfold dQ at this;omega)
 have H4:Hid (∀w,Calls prog 142 #[.string (lP n++fb (iE n))] w λe w'=>e=.returned (.string (iD n))/\Below w.heap.size w w'):=λw=>vg _ (rx n) w
 have m:=pu n;have l:=gL (iE n);obtain⟨t,ht⟩:=eX (lP n);obtain⟨g,hg⟩:=eX (fb (iE n));obtain⟨c,hc⟩:=eX (iE n);obtain⟨s,hs⟩:=eX (iD n);rw[<-hs]at H4⊢;rw[<-ht]at H1 H4 m;rw[<-hg]at H3 H4 l;rw[<-hc]at H2 H3;clear ht hg hc hs;go_enter func82,ntmps82
 go_wp2_with (first|(go_at_call 143;refine(H1 _).mono ?_;rintro e w1 ⟨rfl,i⟩;have j:Hid (Below w.heap.size w w1):=i;clear i)|(go_at_call 145;refine(H2 _).mono ?_;rintro e w2 ⟨rfl,b⟩;have h:Hid (Below w.heap.size w w2):=j.trans (b.mono j.size);clear b)|(go_at_call 144;refine(H3 _).mono ?_;rintro e w3 ⟨rfl,f⟩;have d:Hid (Below w.heap.size w w3):=h.trans (f.mono h.size);clear f)|(go_at_call 142;refine(H4 _).mono ?_;rintro e w4 ⟨rfl,a⟩;have k:Hid (Below w.heap.size w w4):=d.trans (a.mono d.size);clear a))
 go_ret;exact⟨rfl,k⟩
end
section
structure mu where
 at_:Nat
 seq:Nat
 chain:Nat
def kC(E:mu)(x:Nat×ByteArray):mu:=⟨E.at_+dU x.2.size,E.seq+1,pU E.seq E.chain x.1 x.2⟩
def jo(E:mu)(ps:im):mu:=ps.foldl kC E
def jY(E:mu)(x:Nat×ByteArray):ByteArray:=sB E.seq E.chain x.1 x.2
def Lg(E:mu)(x:Nat×ByteArray):Ob:=⟨x.1,cV x.2,E.at_,x.2⟩
def yW:mu->im->List ByteArray
 |_,[]=>[]
 |E,x::r=>jY E x::yW (kC E x) r
def ju:mu->im->List Ob
 |_,[]=>[]
 |E,x::r=>Lg E x::ju (kC E x) r
def ri(E:mu)(ps:im):ByteArray:=iI (yW E ps)
theorem Ex(E:mu)(ps:im)(x:Nat×ByteArray):jo E (ps++[x])=kC (jo E ps) x:=by simp[jo,A5]
theorem ox(E:mu)(x:Nat×ByteArray)(ps:im):jo E (x::ps)=jo (kC E x) ps:=rfl
theorem u7:∀(ps:im)(E:mu)(x:Nat×ByteArray),yW E (ps++[x])=yW E ps++[jY (jo E ps) x]
 |[],_,_=>rfl
 |y::r,E,x=>by show jY E y::yW (kC E y) (r++[x])=_;rw[u7 r (kC E y) x];rfl
theorem wj:∀(ps:im)(E:mu)(x:Nat×ByteArray),ju E (ps++[x])=ju E ps++[Lg (jo E ps) x]
 |[],_,_=>rfl
 |y::r,E,x=>by show Lg E y::ju (kC E y) (r++[x])=_;rw[wj r (kC E y) x];rfl
theorem Em(ps:im)(E:mu)(x:Nat×ByteArray):ri E (ps++[x])=ri E ps++jY (jo E ps) x:=by unfold ri;rw[u7,jy]
theorem rU:∀(ps:im)(E:mu),(ju E ps).length=ps.length
 |[],_=>rfl
 |y::r,E=>by show(ju (kC E y) r).length+1=_;rw[rU r];rfl
theorem pO:∀(ps:im)(E:mu),(jo E ps).seq=E.seq+ps.length
 |[],_=>rfl
 |y::r,E=>by rw[ox,pO r,mY];show E.seq+1+_=_;omega
theorem pV:∀(ps:im)(E:mu),E.at_+ps.length<=(jo E ps).at_
 |[],_=>cO _
 |y::r,E=>by have:=pV r (kC E y);have h:=jM y.2.size;rw[ox,mY];have e:(kC E y).at_=E.at_+dU y.2.size:=rfl;omega
theorem lM(E:mu)(x:Nat×ByteArray):(jY E x).size=64*dU x.2.size:=by unfold jY;rw[oI];omega
theorem oF:∀(ps:im)(E:mu),(ri E ps).size+64*E.at_=64*(jo E ps).at_
 |[],E=>by show 0+_=_;rw[nS];rfl
 |y::r,E=>by have:=oF r (kC E y);show(jY E y++ri (kC E y) r).size+_=_;rw[lY,lM,ox];have e:(kC E y).at_=E.at_+dU y.2.size:=rfl;omega
theorem lV:∀(ps:im)(E:mu)(k:Nat)(s:ByteArray),(cF (ju E ps) k s).isSome=tm ps k s
 |[],_,_,_=>rfl
 |y::r,E,k,s=>by have ih:=lV r (kC E y) k s;show(cF (Lg E y::ju (kC E y) r) k s).isSome=tm (y::r) k s;have e1:tm (y::r) k s=((decide (y.1=k)&&decide (cV y.2=s))||tm r k s):=rfl;have e2:cF (Lg E y::ju (kC E y) r) k s=(cF [Lg E y] k s).or (cF (ju (kC E y) r) k s):=fU [Lg E y] _ k s;rw[e1,e2,oJ,<-ih];by_cases h1:y.1=k<;>by_cases h2:cV y.2=s<;>simp[h1,h2,Lg]
def xr(has:List Ob)(ps:im):Prop:=∀x∈ps,cF has x.1 (cV x.2)=none
theorem qK{ps:im}(h:xr has ps):xr has (gP has ps k t):=by
 unfold gP;split
 .exact h
 rename_i hn;intro x hx;rcases List.mem_append.1 hx with hx|hx
 .exact h x hx
 simp at hx;subst hx;simp at hn;exact hn.1
theorem uT{ps:im}{d:ByteArray}(h:xr has ps):∀j,xr has (iQ has ps d j)
 |0=>h
 |j+1=>qK (uT h j)
theorem wL(T:cS)(has:List Ob):∀(f:Nat)(p:List ByteArray)(ps:im),xr has ps->xr has (dF T has f p ps).1
 |0,_,_,h=>h
 |f+1,p,ps,h=>by
  cases hf:eO T p
  .rw[fC T has f p ps hf];refine qK ?_
   have hk:∀l:List ByteArray,xr has (cM T has f p ps l).1:=λl=>by
    induction l using jh with
    |h0=>exact h
    |hs l n ih=>rw[fe];exact wL T has f (p++[n]) _ ih
   exact hk _
  rw[fD T has f p ps hf];exact qK (uT h _)
theorem Ff{ps:im}(h:xr has ps)(E:mu)(k:Nat)(s:ByteArray)(a:(cF has k s).isSome=true):cF (ju E ps) k s=none:=by
 cases ho:cF (ju E ps) k s with
 |none=>rfl
 |some o=>
  have h1:tm ps k s=true:=by rw[<-lV ps E k s,ho];rfl
  unfold tm at h1;rw[PB]at h1;obtain⟨x,hx,h2⟩:=h1;simp at h2;have:=h x hx;rw[h2.1,h2.2]at this;rw[this]at a;cases a
theorem pS(has:List Ob)(ps:im)(k:Nat)(t:ByteArray):(cF has k (cV t)).isSome=true\/tm (gP has ps k t) k (cV t)=true:=by
 unfold gP;split
 .rename_i h;simpa using h
 .right;unfold tm;simp
def eH(s:ByteArray):List ByteArray:=(List.range (s.size/64)).map λi=>s.extract (64*i) (64*i+64)
theorem gC(s:ByteArray):(eH s).length=s.size/64:=by simp[eH]
theorem zP(s:ByteArray)(i:Nat)(h:i<(eH s).length):(eH s)[i]=s.extract (64*i) (64*i+64):=by simp[eH]
theorem u9(s x:ByteArray)(h:x∈eH s):x.size=64:=by
 unfold eH at h;obtain⟨i,hi,rfl⟩:=List.mem_map.1 h;rw[QE]at hi;rw[mM];omega
structure Rg (n:Nat) (o:Ob):Prop where
 k1:1<=o.kind
 k3:o.kind<=3
 s32:o.sum.size=32
 at1:1<=o.at_
 at2:o.at_+dU o.text.size<=n
 size:o.text.size<=1000
structure GY (has:List Ob) (i:jR):Prop where
 root:(cF has 3 i.root).isSome=true
 r32:i.root.size=32
 lab:i.label.size<=20
structure AW (n:Nat) (M:fm):Prop where
 at1:1<=M.at_
 at2:M.at_<=n
 sq1:1<=M.seq
 sq2:M.seq<=M.at_
 len:M.has.length+M.infos.length<M.seq
 ch:M.chain<dQ
 obs:∀o∈M.has,Rg n o
 inf:∀i∈M.infos,GY M.has i
theorem MW.aw(a:fX.length=8)(h:MW img M):AW img.length M:=
 ⟨h.at1,h.at2,h.sq1,h.sq2,h.len,h.ch,λo ho=>by
  have w:=h.obs o ho;have:=w.at2;have:=h.at2
  exact⟨w.k1,w.k3,by rw[w.sum];exact iB _ a,w.at1,oM,w.size⟩,λi hi=>⟨(h.inf i hi).root,(h.inf i hi).r32,(h.inf i hi).lab⟩⟩
def fs(M:fm):mu:=⟨M.at_,M.seq,M.chain⟩
def dP(T:cS)(M:fm):im:=(dF T M.has 9 [] []).1
def gN(T:cS)(M:fm):ByteArray:=cV (dF T M.has 9 [] []).2
def fF(T:cS)(M:fm)(label:ByteArray):ByteArray:=fb (M.infos.length+1)++gN T M++label
def de(T:cS)(M:fm):mu:=jo (fs M) (dP T M)
def snapF(T:cS)(M:fm)(label:ByteArray):mu:=kC (de T M) (4,fF T M label)
def gz(T:cS)(M:fm)(label:ByteArray):fm:=⟨(snapF T M label).at_,(snapF T M label).seq,(snapF T M label).chain,M.has++ju (fs M) (dP T M),M.infos++[⟨label,gN T M⟩]⟩
theorem Ho(a:fX.length=8):∀(ps:im)(E:mu),(∀x∈ps,nR x)->1<=E.at_->(jo E ps).at_<=n->∀o∈ju E ps,Rg n o
 |[],_,_,_,_,o,ho=>by cases ho
 |y::r,E,hw,h1,hn,o,ho=>by
  have hy:=hw y sI;have e:(kC E y).at_=E.at_+dU y.2.size:=rfl;rw[ox]at hn;rcases List.mem_cons.1 ho with rfl|ho
  .have:=pV r (kC E y);exact⟨hy.k1,hy.k3,iB _ a,h1,by show E.at_+dU y.2.size<=n;omega,hy.size⟩
  exact Ho a r (kC E y) (λx hx=>hw x (by simp[hx])) oM hn o ho
theorem GY.up{i:jR}(h:GY has i):GY (has++more) i:=⟨by rw[ld h.root];exact h.root,h.r32,h.lab⟩
theorem AW.snap(b:fX.length=8)(h:AW n M)(d:eN T)(c:mV T)(e:label.size<=20)(f:(snapF T M label).at_<=n):AW n (gz T M label):=by
 have hw:=(mB b d c M.has 9 [] [] sI).1;have e1:=pO (dP T M) (fs M);have e2:=pV (dP T M) (fs M);have e3:(snapF T M label).at_=(de T M).at_+dU (fF T M label).size:=rfl;have e4:(snapF T M label).seq=(de T M).seq+1:=rfl;have e5:(de T M)=jo (fs M) (dP T M):=rfl;have e6:(fs M).at_=M.at_:=rfl;have e7:(fs M).seq=M.seq:=rfl;have hp:=jM (fF T M label).size;have b1:=h.at1;have b2:=h.sq1;have b3:=h.sq2;have b4:=h.len;rw[<-e5]at e1 e2;refine⟨by show 1<=(snapF T M label).at_;omega,f,by show 1<=(snapF T M label).seq;omega,by show(snapF T M label).seq<=(snapF T M label).at_;omega,?_,yw _ _ _ _,λo ho=>?_,λi hi=>?_⟩
 .show(M.has++ju (fs M) (dP T M)).length+(M.infos++[_]).length<(snapF T M label).seq;rw[ir,ir,rU,qf];omega
 .rcases List.mem_append.1 ho with ho|ho
  .exact h.obs o ho
  exact Ho b (dP T M) (fs M) hw h.at1 (by rw[<-e5];omega) o ho
 show GY (M.has++ju (fs M) (dP T M)) i;rcases List.mem_append.1 hi with hi|hi
 .exact(h.inf i hi).up
 simp at hi;subst hi;refine⟨?_,iB _ b,e⟩;show(cF (M.has++ju (fs M) (dP T M)) 3 (gN T M)).isSome=true;have a:eO T []=false:=by unfold eO;rw[oL d]
 have hx:=fC T M.has 8 [] [] a;have h9:(9:Nat)=8+1:=rfl;have h1:dP T M=gP M.has (cM T M.has 8 [] [] (dh T [])).1 3 (cM T M.has 8 [] [] (dh T [])).2:=by unfold dP;rw[h9,hx]
 have h2:gN T M=cV (cM T M.has 8 [] [] (dh T [])).2:=by unfold gN;rw[h9,hx]
 clear hx;rw[fU,h2];rcases pS M.has (cM T M.has 8 [] [] (dh T [])).1 3 (cM T M.has 8 [] [] (dh T [])).2 with h3|h3
 .obtain⟨o,ho⟩:=Option.isSome_iff_exists.1 h3;rw[ho];rfl
 rw[<-h1,<-lV _ (fs M)]at h3;obtain⟨o,ho⟩:=Option.isSome_iff_exists.1 h3;rw[ho];cases cF M.has 3 (cV (cM T M.has 8 [] [] (dh T [])).2)<;>rfl
theorem Bg(c:fX.length=8)(a:eN T)(b:mV T)(M:fm):(dP T M).length<=4400/\(∀x∈dP T M,nR x)/\xr M.has (dP T M):=by
 refine⟨?_,(mB c a b M.has 9 [] [] sI).1,wL T M.has 9 [] [] (λx hx=>by cases hx)⟩;have h1:=wu a M.has 9 [] [];have h2:(lA T []).length<=T.length:=KI _ _;have h3:=a.len;have e:dP T M=(dF T M.has 9 [] []).1:=rfl;rw[<-e]at h1;simp only[List.length_nil]at h1;omega
end
section
open Go.RowKit Go.Maps
def up(S:Nat->Prop)(n:Nat):Nat->Prop:=λg=>S g\/n<=g
theorem cq.then{a b c:World}(h:cq S a b)(d:cq (up S a.heap.size) b c):cq S a c:=
 ⟨d.os.trans h.os,d.tape.trans h.tape,d.output.trans h.output,lZ h.size d.size,λk hk hn=>(d.block k (by have:=h.size;omega) (by rintro(h1|h1);exact hn h1;omega)).trans (h.block k hk hn)⟩
theorem cq.of_below{a b:World}(h:Below a.heap.size a b):cq S a b:=⟨h.os,h.tape,h.output,h.size,λk hk _=>h.block k hk⟩
theorem oj(w:World):Calls prog 155 #[] w λe w'=>e=.returned (eM (w.heap.size+1))/\w'=(w.alloc (.map #[] 0)).alloc (.cells #[.string ⟨#[]⟩,.map (some w.heap.size)] 274):=by
 have a:∀w,(Instr.makeMap 272 none).run prog w=.ok (.map (some w.heap.size)) (w.alloc (.map #[] 0)):=λw=>PI _ w
 go_enter func155,ntmps155
 go_wp2
 go_ret;exact⟨rfl,rfl⟩
structure GM (w w2:World) (bm:Nat) (D:DataW Value) (n:ByteArray) (b:Nat):Prop where
 own:w2.ownsMap prog 9 cY bm 257 (D.put (.string (bl n)) (.held (eM b)))
 same:cq (·=bm) w w2
theorem Og(w:World)(c:Nat)(D:DataW Value)(n:ByteArray)(b:Nat)(h:w.ownsMap prog 9 cY c 256 D)(f:n.size<=1000000):
  ∃w2,(Instr.mapUpdate 272 (.map (some c)) (.string n) (yP b)).run prog w=.ok () w2/\GM w w2 c D n b:=by
 obtain⟨w2,h1,h2,h3⟩:=h.update mm La (by unfold maxLen;omega) (key:=.string n) (val:=yP b) (kl:=.string (bl n)) (d:=.held (eM b)) (ps:=[]) (NQ xV (by unfold maxLen;omega)) rfl;exact⟨w2,h1,h2,⟨h3.os,h3.tape,h3.output,h3.size,λk hk a=>h3.block k hk (λe=>a (kM e))⟩⟩
def xw(w:World)(a:Nat->Addr)(ba bm:Nat)(T:cS)(q:List ByteArray)(D:DataW Value)(n:ByteArray)(b:Nat)(e:Ending)(w':World):Prop:=(fZ T q=true/\e=.returned (fg a 10)/\w=w')\/(fZ T q=false/\e=.returned .nilIface/\∃w2,GM w w2 bm D n b/\w'=w2.setCell (yA ba 2) (.int .i64 ((T.length:Int)+1)))
theorem zL(u:Nat)(S:Nat->Prop)(F:Nat)(T:cS)(v x:List ByteArray->Nat)(a:Nat->Addr)(q:List ByteArray)(n:ByteArray)(b:Nat)(D:DataW Value)(w:World)(h:dC w S F T v x)(A:eN T)(C:dK T q)(E:eO T q=false)(y:w.ownsMap prog 9 cY (x q) 256 D)(z:jr T v q D)(G:n.size<=1000000)(hc:w.cell? (yA u 2)=some (.int .i64 T.length))(B:w.frozen? (yA u 2)=false)(H:¬S u)(I:w.cell? ⟨9,0,none⟩=some (rv (a 9))):
  Calls prog 154 #[.pointer (yS u 1),eM (v q),.string n,eM b] w λe w'=>xw w a u (x q) T q D n b e w':=by
 have c:=h.node q C;rw[iK E]at c;have c1:w.cell? ⟨v q,1,none⟩=some (.map (some (x q))):=cG c;have i:∀ty,(Builtin.len_ #[272] ty #[.map (some (x q))]).run prog w=.ok (.int .i64 (Maps.size D)) w:=λty=>y.len La ty
 have g:=h.sm q C E;obtain⟨bm,l⟩:=eX (x q);rw[<-l]at c1 i y g⊢;rw[(z.keys A).2]at i;have r:(dZ T q).length<=256:=lZ (nz _ _) A.len;have f:fZ T q=(decide (16<=(dZ T q).length)||decide (256<=T.length)):=rfl;obtain⟨K,j⟩:=eX ((dZ T q).length);rw[<-j]at i r f;obtain⟨N,hN⟩:=eX (T.length);have p:N<=256:=hN▸A.len;have s:=hD hN;rw[<-hN]at hc f;have m:=hD f;obtain⟨bq,d⟩:=eX (v q);have hp:eM (v q)=(yP bq):=by rw[d];rfl
 have k:eM b=(yP b):=rfl;rw[<-d]at c1;rw[hp,k];by_cases h1:16<=K
 .have HP:Hid (fZ T q=true):=by show _=_;rw[m.out,jX h1];rfl
  clear f h z y c j hN l d hp k g;go_enter func154,ntmps154
  go_wp2
  go_ret;exact .inl ⟨HP,rfl,rfl⟩
 by_cases h2:256<=N
 .have HP:Hid (fZ T q=true):=by show _=_;rw[m.out,jX h2,Bool.or_true]
  clear f h z y c j hN l d hp k g;go_enter func154,ntmps154
  go_wp2
  go_ret;exact .inl ⟨HP,rfl,rfl⟩
 have HP:Hid (fZ T q=false):=by show _=_;rw[m.out,lW h1,lW h2];rfl
 obtain⟨w2,t,hj⟩:=Og w bm D n b y G;have HJ:=hD hj;have o:u≠bm:=by rintro rfl;exact H g
 have c2:w2.cell? (yA u 2)=some (.int .i64 N):=hj.same.cell (by exact o) hc;have f2:w2.frozen? (yA u 2)=false:=by rw[World.frozen?_of_block (w:=w) (hj.same.block u (pr hc) o)];exact B
 clear f h z y c j hN l d hp k g hj;go_enter func154,ntmps154
 go_wp2
 go_ret;exact .inr ⟨HP,rfl,w2,HJ,by rw[<-s.out]⟩
def tg(S:Nat->Prop)(w wr:World):Nat->Prop:=λg=>up S w.heap.size g/\g<wr.heap.size
theorem cq.tg{a b c:World}(h:cq S a b)(e:cq (tg S a b) b c):cq S a c:=h.then (e.weak λ_ h=>h.1)
theorem cD.tg(h:cD wr (up S w.heap.size) bd m d):cD wr (tg S w wr) bd m d:=h.tight
theorem wG(bd m:Nat)(S:Nat->Prop)(d:cX)(n D:Nat)(w:World)(h:cD w S bd m d)(G:Up d)(I:n<=4096)(H:d.safe.length=n)(E:d.wait.length<=900000)(F:D<=n)(hz:∀i,D<=i->i<n->(cL d.wait d.safe)[i]?=some z64):
  Calls prog 80 #[yP bd,.int .i64 D] w λe w'=>e=.returned .nilIface/\cD w' (tg S w w') bd m d.flush/\cq S w w':=by
 obtain⟨z,j⟩:=eX (z64);have HZ:Hid (∀w,Calls prog 139 #[.string ⟨#[0]⟩,.int .i64 64] w λe w'=>e=.returned (.string z)/\Below w.heap.size w w'):=λw=>j▸nO 64 oM w
 have p:Hid (∀w',Below w.heap.size w w'->cD w' (tg S w w') bd m d/\cq S w w'):=λw' k=>⟨((h.on (T:=λ_=>False) (.of_below k) (λ_ _ h=>h)).mono (λ_ h=>.inl h):cD w' (up S w.heap.size) bd m d).tg,.of_below k⟩
 have s:Hid (∀wr,cD wr (tg S w wr) bd m d->Calls prog 62 #[yP bd] wr λe w'=>e=.returned (.int .i64 n)/\wr=w'):=λwr hr=>by have:=gA bd m _ d wr hr;rw[H]at this;exact this
 have u:Hid (∀wr (i:Nat),D<=i->i<n->cD wr (tg S w wr) bd m d->Calls prog 104 #[yP bd,.int .i64 i] wr λe w'=>e=.returned (.tuple #[.string z,.nilIface])/\cD w' (tg S w wr) bd m d/\cq (tg S w wr) wr w'):=λwr i h2 h3 hr=>by have:=ol bd m (tg S w wr) d i wr hr oM oM;have e:=xZ d.safe i oM d.wait;rw[hz i h2 h3,<-j]at e;rw[show d.at i (by omega)=z from(kM e).symm]at this;exact this
 have HF:Hid (∀wr,cD wr (tg S w wr) bd m d->Calls prog 141 #[yP bd] wr λe w'=>e=.returned .nilIface/\cD w' (tg S w wr) bd m d.flush/\cq (tg S w wr) wr w'):=λwr hr=>xa bd m _ d wr hr G oM oM (λg hg=>hg.2)
 have y:(n:Int)<=4096:=oM;have B:(D:Int)<=n:=oM;have A:=yH;have C:(z.toList==z.toList)=true:=by rw[fI,EP]
 clear h H E hz j G;go_enter func80,ntmps80
 go_wp2_with (go_at_call 139;refine(HZ _).mono ?_;rintro e w1 ⟨rfl,r⟩;have HI:=Hid.mk' (p _ r);clear r p HZ)
 go_loopw [6] (λf wr=>∃i:Nat,D<=i/\i<=n/\f=.int .i64 i/\Hid (cD wr (tg S w wr) bd m d/\cq S w wr)) (λf _=>n-(intOf f).toNat)
 .exact⟨D,oM,F,rfl,HI⟩
 clear HI;obtain⟨i,o,hi,rfl,HV⟩:=hrel;have c:=Hid.mk' (s wr HV.1);by_cases t:i<n
 .have l:=Hid.mk' (u wr i o t HV.1);have x:(i:Int)<n:=oM
  go_wp2_with (first|(go_at_call 62;refine c.mono ?_;rintro e w2 ⟨rfl,rfl⟩;clear c)|(go_at_call 104;refine l.mono ?_;rintro e w2 ⟨rfl,a,b⟩;have H2:Hid (cD w2 (tg S w w2) bd m d/\cq S w w2):=⟨(a.mono (λ_ h=>h.1):cD w2 (up S w.heap.size) bd m d).tg,HV.2.tg b⟩;clear a b l))
  all_goals
   go_roundw
   .exact⟨i+1,oM,oM,by go_num,H2⟩
   exact mS
 have v:¬(i:Int)<n:=oM;have q:=Hid.mk' (HF wr HV.1)
 go_wp2_with (first|(go_at_call 62;refine c.mono ?_;rintro e w2 ⟨rfl,rfl⟩;clear c)|(go_at_call 141;refine q.mono ?_;rintro e w2 ⟨rfl,a,b⟩;have H2:Hid (cD w2 (tg S w w2) bd m d.flush/\cq S w w2):=⟨(a.mono (λ_ h=>h.1):cD w2 (up S w.heap.size) bd m _).tg,HV.2.tg b⟩;clear a b q))
 go_ret;exact⟨rfl,H2⟩
end
section
theorem Cc(T:cS)(x:pp)(p:List ByteArray):(dZ (T++[x]) p).length<=(dZ T p).length+(if x.names.dropLast=p then 1 else 0):=by
 unfold dZ;rw[iF,iF,OB,ir];by_cases h:x.names.dropLast=p
 .rw[dq h,DL,dq (by simpa using h)];simp
 rw[dj h,DL,dj (by simpa using h)];simp
theorem mV.append(h:mV T)(a:fZ T x.names.dropLast=false):mV (T++[x]):=by
 intro p;have h1:=Cc T x p;have h2:=h p;by_cases e:x.names.dropLast=p
 .subst e;unfold fZ at a;rw[Q3]at a;have:=of_decide_eq_false a.1;rw[dq rfl]at h1;omega
 rw[dj e]at h1;omega
theorem mV.put(h:mV T)(l:List ByteArray)(d:ByteArray):mV (ia T l d):=by
 unfold ia;split
 .exact h
 rename_i he;have he:=Decidable.not_not.1 he
 cases hx:cA T l with
 |some x=>
  intro p;show(dZ (jl T l d) p).length<=16;rw[EA];exact h p
 |none=>
  refine h.append ?_;show fZ T l.dropLast=false;unfold iG at he;rw[hx]at he;cases hf:fZ T l.dropLast
  .rfl
  .simp only[hf]at he;split at he
   .cases he
   split at he
   .rename_i h1;exact absurd he h1
   cases he
theorem mV.mkdir(h:mV T)(l:List ByteArray):mV (ff T l):=by
 unfold ff;split
 .exact h
 rename_i he;have he:=Decidable.not_not.1 he;refine h.append ?_;show fZ T l.dropLast=false;unfold eY at he;cases hf:fZ T l.dropLast
 .rfl
 .simp only[hf]at he;split at he
  .rename_i h1;exact absurd he h1
  split at he
  .cases he
  cases he
theorem mV.remove(h:mV T)(l:List ByteArray):mV (d9 T l):=by
 unfold d9;split
 .exact h
 intro p;refine lZ ?_ (h p);unfold dZ dS;rw[iF,iF,P7]
 have e:(T.filter λx=>decide (x.names.dropLast=p)&&decide (x.names≠l))=(T.filter λx=>decide (x.names.dropLast=p)).filter λx=>decide (x.names≠l):=by
  rw[P7];congr 1;funext y
  exact Bool.and_comm _ _
 rw[e];exact KI _ _
theorem mV.nil:mV []:=λ_=>fP _
def gO:List ByteArray->Nat->cX->cX×Nat
 |[],_,d=>(d,0)
 |s::r,i,d=>if d.op.down then(d.op,2)else gO r (i+1) (d.write i s)
theorem mt(s:ByteArray)(r:List ByteArray)(i:Nat)(d:cX):gO (s::r) i d=if d.op.down then(d.op,2)else gO r (i+1) (d.write i s):=rfl
theorem CL:∀(l:List ByteArray)(i:Nat)(d:cX),(gO l i d).2=0\/(gO l i d).2=2
 |[],_,_=>.inl rfl
 |s::l,i,d=>by
  unfold gO;split
  .exact .inr rfl
  exact CL l _ _
theorem xb:∀(l:List ByteArray)(i:Nat)(d:cX),(gO l i d).1.safe.length=d.safe.length/\(gO l i d).1.wait.length<=d.wait.length+l.length
 |[],_,d=>⟨rfl,cO _⟩
 |s::l,i,d=>by
  unfold gO;split
  .exact⟨by rw[m6],by show d.op.wait.length<=_;rw[qo];omega⟩
  obtain⟨h1,h2⟩:=xb l (i+1) (d.write i s);have h3:=rM d i s;rw[mY];exact⟨by rw[h1,si],oM⟩
def kP(l:List ByteArray)(i:Nat)(d:cX):cX×Nat:=if(gO l i d).2=0 then((gO l i d).1.flush,(gO l i d).1.fcode)else gO l i d
theorem Kr(l:List ByteArray)(i:Nat)(d:cX):(kP l i d).1.safe.length=d.safe.length/\(kP l i d).1.wait.length<=d.wait.length+l.length:=by
 obtain⟨h1,h2⟩:=xb l i d;unfold kP;split
 .have h3:=Ar (gO l i d).1;exact⟨by rw[BW];exact h1,by show(gO l i d).1.flush.wait.length<=_;omega⟩
 exact⟨h1,h2⟩
def gc(T:cS)(M:fm)(label:ByteArray)(d:cX):cX×Nat:=
 if dP T M=[]then kP (eH (jY (de T M) (4,fF T M label))) (de T M).at_ d
 else if(kP (eH (ri (fs M) (dP T M))) M.at_ d).2=0 then kP (eH (jY (de T M) (4,fF T M label))) (de T M).at_ (kP (eH (ri (fs M) (dP T M))) M.at_ d).1
 else kP (eH (ri (fs M) (dP T M))) M.at_ d
end
section
open Go.RowKit Go.Maps
theorem Up.puts:∀(l:List ByteArray)(i:Nat){d:cX},Up d->(gO l i d).2=0/\Up (gO l i d).1
 |[],_,_,h=>⟨rfl,h⟩
 |s::l,i,d,h=>by rw[mt,h.dn,dj (by decide)];exact Up.puts l (i+1) (by rw[h.write];exact⟨h.f,h.d⟩)
theorem Up.ws(h:Up d)(l:List ByteArray)(i:Nat):(kP l i d).2=0/\Up (kP l i d).1:=by
 obtain⟨h1,h2⟩:=Up.puts l i h;unfold kP;rw[dq h1];exact⟨by show cX.fcode _=0;unfold cX.fcode;rw[h2.dn];rfl,by show Up (cX.flush _);rw[h2.flush];exact⟨h2.f,h2.d⟩⟩
def Ro(w:World)(S:Nat->Prop)(bd n m at_:Nat)(d:cX)(l:List ByteArray)(i:Nat)(wr:World):Prop:=
 ∃di mi,cD wr (tg S w wr) bd mi di/\cq S w wr/\gO (l.drop i) (at_+i) di=gO l at_ d/\di.safe.length=n/\di.wait.length<=d.wait.length+i/\mi<=m+i/\Up di
def Rf(w:World)(S:Nat->Prop)(bd m at_:Nat)(d:cX)(l:List ByteArray)(e:Ending)(w':World):Prop:=
 e=.returned .nilIface/\(∃m',m'<=m+l.length/\cD w' (tg S w w') bd m' (kP l at_ d).1)/\cq S w w'
theorem lg(bd m:Nat)(S:Nat->Prop)(d:cX)(n ac:Nat)(s:ByteArray)(w:World)(h:cD w S bd m d)(hu:Up d)(hb:n<=4096)(h1:d.safe.length=n)(hs:s.size%64=0)(ae:ac+s.size/64<=n)(af:d.wait.length<=900000)(hm:m<=900000):
  Calls prog 81 #[yP bd,.int .i64 ac,.string s] w λe w'=>Rf w S bd m ac d (eH s) e w':=by
 obtain⟨l,hl⟩:=eX (eH s);obtain⟨k,hk⟩:=eX (s.size/64);have G:l.length=k:=by rw[hl,gC,hk]
 have F:∀i (h:i<l.length),l[i]=s.extract (64*i) (64*i+64)/\l[i].size=64:=by intro i h;subst hl;exact⟨zP s i h,u9 s _ (mX _)⟩
 have H:Hid (Ro w S bd n m ac d l 0 w):=⟨d,m,(h.mono (λ_ h=>.inl h):cD w (up S w.heap.size) bd m d).tg,cq.refl _ _,rfl,h1,cO _,cO _,hu⟩;have HW:Hid (d.wait.length<=900000/\m<=900000/\l.length=k/\(∀i (h:i<l.length),l[i]=s.extract (64*i) (64*i+64)/\l[i].size=64)/\n<=4096/\ac+k<=n):=⟨af,hm,G,F,hb,oM⟩;have ab:s.size=64*k:=oM;have U:(s.size:Int)=64*(k:Int):=oM;have X:(k:Int)<=4096:=oM;have V:(ac:Int)+k<=4096:=oM;have Z:Int.tdiv (s.size:Int) 64=(k:Int):=by rw[OT (by omega)];omega
 have T:(s.size:Int)/64=(k:Int):=oM;have a5:IntKind.i64.wrap (k:Int)=(k:Int):=by rw[pH];omega
 have a2:=yH;rw[<-hl];clear h hu h1 hs ae af hm F G hl hk;go_enter func81,ntmps81
 go_wp2
 go_loopw [12] (λB wr=>∃i:Nat,i<=k/\B=.int .i64 i/\Hid (Ro w S bd n m ac d l i wr)) (λB _=>k-(intOf B).toNat)
 .exact⟨0,fP _,rfl,H⟩
 clear H;obtain⟨i,hi,rfl,HV⟩:=hrel;obtain⟨di,mi,v,b,c,r,x,u,a⟩:=HV.out;have P:Hid (cq S w wr/\gO (l.drop i) (ac+i) di=gO l ac d/\di.safe.length=n/\di.wait.length<=d.wait.length+i/\mi<=m+i/\Up di):=⟨b,c,r,x,u,a⟩;by_cases a4:i<k
 .obtain⟨A,E,D,p,C,y⟩:=HW.out;have t:i<l.length:=oM;obtain⟨z,hz⟩:=eX (l[i]);have aa:s.extract (i*64) ((i+1)*64)=z:=by rw[hz,(p i t).1,show 64*i=i*64 by omega,show(i+1)*64=i*64+64 by omega]
  have J:Hid (Calls prog 140 #[yP bd,.int .i64 ((ac:Int)+(i:Int)),.string z] wr λe w'=>e=.returned .nilIface/\(∃m',m'<=mi+1/\cD w' (tg S w w') bd m' (di.write (ac+i) z))/\cq S w w'):=by
   have:=Eb bd mi (tg S w wr) di (ac+i) z wr v a oM (by rw[hz];exact(p i t).2) oM oM oM (λg hg=>hg.2);rw[show((ac+i:Nat):Int)=(ac:Int)+(i:Int) by omega]at this;refine iM this ?_;rintro e w3 ⟨rfl,⟨m',I,j⟩,o⟩;refine⟨rfl,⟨m',I,(j.mono ?_:cD w3 (up S w.heap.size) bd m' _).tg⟩,b.tg o⟩;rintro g (h|h)
   .exact h.1
   exact .inr (lZ b.size h)
  have Q:Hid (gO (l.drop i) (ac+i) di=gO (l.drop (i+1)) (ac+i+1) (di.write (ac+i) z)):=by show _=_;rw[OC t,mt,hz,a.dn];rfl
  have a9:IntKind.i64.wrap ((ac:Int)+(i:Int))=(ac:Int)+(i:Int):=by rw[pH];omega
  have a6:IntKind.i64.wrap ((i:Int)*64)=(i:Int)*64:=by rw[pH];omega
  have Y:IntKind.i64.wrap ((i:Int)+1)=(i:Int)+1:=by rw[pH];omega
  have a3:IntKind.i64.wrap (((i:Int)+1)*64)=((i:Int)+1)*64:=by rw[pH];omega
  have a8:(0:Int)<=(i:Int)*64:=oM;have a1:(i:Int)*64<=((i:Int)+1)*64:=oM;have a7:((i:Int)+1)*64<=s.size:=oM;have W:((i:Int)*64).toNat=i*64:=oM;have a0:(((i:Int)+1)*64).toNat=(i+1)*64:=oM;have K:(i:Int)<k:=oM;clear HV v b c r x u a A E D p C y hz t
  go_wp2_with (go_at_call 140;refine J.out.mono ?_;rintro e w3 ⟨rfl,j,o⟩;have H3:Hid ((∃m',m'<=mi+1/\cD w3 (tg S w w3) bd m' (di.write (ac+i) z))/\cq S w w3):=⟨j,o⟩;clear j o J)
  go_roundw
  case rel=>
   refine⟨i+1,oM,by go_num,?_⟩;obtain⟨b,c,r,x,u,a⟩:=P.out;obtain⟨⟨m',I,j⟩,o⟩:=H3.out;have l3:=rM di (ac+i) z;refine⟨di.write (ac+i) z,m',j,o,?_,by rw[si];exact r,by omega,by omega,by rw[a.write];exact⟨a.f,a.d⟩⟩;rw[<-c,Q.out];rfl
  exact mS
 obtain rfl:i=k:=oM;have K:¬(i:Int)<i:=oM;obtain⟨A,E,D,p,C,y⟩:=HW.out
 have HF:Hid (Calls prog 141 #[yP bd] wr λe w'=>e=.returned .nilIface/\Rf w S bd m ac d l (.returned .nilIface) w'):=by
  refine iM (xa bd mi _ di wr v a oM oM (λg hg=>hg.2)) ?_;rintro e w2 ⟨rfl,M,O⟩;have hp:gO l ac d=(di,0):=by rw[<-c,A9 (by omega)];rfl
  have N:kP l ac d=(di.flush,di.fcode):=by unfold kP;rw[hp,dq rfl]
  refine⟨rfl,rfl,⟨mi,oM,?_⟩,b.tg O⟩;rw[N];exact(M.mono λq hq=>hq.1:cD w2 (up S w.heap.size) bd mi _).tg
 clear HV v b c r x u a A E D p C y
 go_wp2_with (go_at_call 141;refine HF.out.mono ?_;rintro e w2 ⟨rfl,hF⟩;have L:=Hid.mk' hF;clear hF)
 go_ret;exact L.out
end
end Go.Proofs.YtapijhhmjjplmaaGreatDoor

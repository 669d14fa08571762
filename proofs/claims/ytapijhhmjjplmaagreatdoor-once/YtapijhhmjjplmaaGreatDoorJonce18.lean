import Derived.Test.YtapijhhmjjplmaaGreatDoorJonce17
namespace Go.Proofs.YtapijhhmjjplmaaGreatDoor
set_option linter.all false
set_option maxRecDepth 100000
set_option maxHeartbeats 4000000
open Go.Proofs.Tryz
variable {ops:Array Oper}{t s:ByteArray}{Q:Exit→Act→World→Prop}{img l p:List ByteArray}{nb mb:List ByteArray→Nat}{has:List Ob}{rest:List Oper}{rb kind top top' c g k:Nat}{a:Nat→Addr}{S:Nat→Prop}{o:Oper}{T:cS}{w w':World}
section
open Go.RowKit Go.Maps
theorem qJ:∀w,(zeroValue 111).run prog w=.ok (.pointer none) w:=λ_=>by kernel_rfl
theorem dH{a:Act}(l:o.guard=none)(f x:Operand)(g:o.op=Op.lookup 272 f x true)(b n:Nat)(D:DataW Value)(T:cS)(nb:List ByteArray->Nat)(p:List ByteArray)(i:jr T nb p D)(m:a.eval f=.map (some b))(d:w.ownsMap prog 9 cY b n D)(k:ByteArray)(q:a.eval x=.string k)(s:k.size<=1000000)(v:Value)(j:Bool)(hv:(if(cA T (p++[k])).isSome then eM (nb (p++[k]))else .pointer none)=v)(h:(cA T (p++[k])).isSome=j)(r:wpList prog ops Q rest (a.put o.dst (.tuple #[v,.bool j])) w):wpList prog ops Q (o::rest) a w:=by
 refine wpList_lookup_own_ok w l f x 272 g 9 111 mm La cY (qJ w) (.held (.pointer none)) [] rfl b n D m d _ (.string (bl k)) q (NQ xV (by unfold maxLen;omega)) (λv' ps c=>?_);have h1:=i.at k (.held (.pointer none));have h2:(DataW.held v':DataW Value)=D.atKey (.string (bl k)) (.held (.pointer none)):=by unfold cY at c;exact(Hi (kM c)).1
 have e:v'=v:=by
  rw[h1]at h2;rw[<-hv];cases hs:(cA T (p++[k])).isSome
  .rw[hs]at h2;exact FA h2
  rw[hs]at h2;exact FA h2
 rw[e,i.has k,h];exact r
theorem Cr(b:Nat)(s:ByteArray)(c:Option Nat)(w:World)(h:w.heap[b]?=some (.cells #[.string s,.map c] 274 (0,0))):
  Calls prog 226 #[yP b] w λe w'=>e=.returned (.bool c.isSome)/\w=w':=by
 have c1:w.cell? (yA b 1)=some (.map c):=cG h;clear h
 cases c with
 |none=>
  have a:∀w,(binOp BinOp.neq 272 (.map none) (.map none)).run prog w=.ok (.bool false) w:=λw=>by rfl
  go_enter func226,ntmps226
  go_wp2
  go_ret;exact⟨rfl,rfl⟩
 |some g=>
  have a:∀w,(binOp BinOp.neq 272 (.map (some g)) (.map none)).run prog w=.ok (.bool true) w:=λw=>by rfl
  go_enter func226,ntmps226
  go_wp2
  go_ret;exact⟨rfl,rfl⟩
theorem dC.isDir(h:dC w S rb T nb mb)(p:List ByteArray)(a:dK T p):
  Calls prog 226 #[eM (nb p)] w λe w'=>e=.returned (.bool (!eO T p))/\w=w':=by
 have h1:=Cr (nb p) (i8 T p) (if eO T p then none else some (mb p)) w (h.node p a);cases hf:eO T p
 .rw[hf]at h1;exact h1
 rw[hf]at h1;exact h1
def gJ(T:cS)(nb:List ByteArray->Nat)(l:List ByteArray):Value:=if eB T [] l=0 then eM (nb l)else .pointer none
theorem qI(W:Nat)(S:Nat->Prop)(rb:Nat)(T:cS)(nb mb:List ByteArray->Nat)(a:Nat->Addr)(X:Value)(l:List ByteArray)(w:World)(h:dC w S rb T nb mb)(P:eN T)(hv:fp l)(h8:l.length<=8)(Z:je w X l)(Y:w.cell? (yA W 1)=some (eM rb))(U:w.cell? ⟨5,0,none⟩=some (rv (a 5)))(V:w.cell? ⟨6,0,none⟩=some (rv (a 6))):
  Calls prog 225 #[.pointer (yS W 1),X] w λe w'=>e=.returned (.tuple #[gJ T nb l,fg a (eB T [] l)])/\Below w.heap.size w w':=by
 have M:=mZ;have HH:=hD h;have HT:=hD P;have HV:=hD hv;obtain⟨e5,B⟩:∃e,e=rv (a 5):=⟨_,rfl⟩;obtain⟨e6,z⟩:∃e,e=rv (a 6):=⟨_,rfl⟩;rw[<-B]at U;rw[<-z]at V;have H:=hD B;have L:=hD z;have N:=Y;clear B z Y;rcases Z with⟨rfl,ao,c,rfl⟩|⟨g,c,rfl,hg,hc⟩
 .have HF:Hid (gJ T nb []=yP rb):=by show _=_;unfold gJ;rw[dq (by rfl),h.root];rfl
  clear h P hv;go_enter func225,ntmps225
  go_wp2
  go_loop [6,17] (λav iv=>iv=.int .i64 0/\av=yP rb) (λ_ _=>0)
  .exact⟨rfl,rfl⟩
  obtain⟨rfl,rfl⟩:=hrel
  go_wp2
  refine gh (lB rfl _ _ _) rfl ?_;rw[HF.out];exact⟨rfl,dw _ _⟩
 have HC:=hD hc;obtain⟨n,A⟩:=eX (l.length);have HN:=hD A;rw[<-A];have O:n<=8:=oM;have s:=h.root;have G:=hD s;clear h P hv hc A s;go_enter func225,ntmps225
 go_wp2
 go_loop [6,17] (λav iv=>∃(k b:Nat),k<=n/\iv=.int .i64 k/\av=(yP b)/\Hid (b=nb (l.take k)/\dK T (l.take k)/\eB T [] l=eB T (l.take k) (l.drop k))) (λ_ i=>n-(intOf i).toNat)
 .exact⟨0,rb,oM,rfl,rfl,G.out.symm,.inl rfl,rfl⟩
 obtain⟨k,b,hk,rfl,rfl,HK⟩:=hrel;by_cases K:k<n
 .have v:k<l.length:=by rw[<-HN.out];exact K
  have d:=BR (T:=T) v;have ck:=HC.out k v;obtain⟨x,hx⟩:=eX (l[k]);rw[<-hx]at ck;have I:=(io (HV.out l[k] (mX _))).2;rw[<-hx]at I;have o:l.take k++[x]=l.take (k+1):=by rw[sN v,hx]
  obtain⟨hb,m,f⟩:=HK.out;have HD:Hid (Calls prog 226 #[yP b] w λe w'=>e=.returned (.bool (!eO T (l.take k)))/\w=w'):=by have:=HH.out.isDir (l.take k) m;rw[<-hb]at this;exact this
  have j:=HH.out.node (l.take k) m;rw[<-hb]at j;cases hf:eO T (l.take k)
  .obtain⟨D,ho,hK⟩:=HH.out.map (l.take k) m hf;rw[hf]at HD;rw[hf,dj (by simp),<-o]at d;rw[iK hf]at j;have c1:w.cell? (yA b 1)=some (.map (some (mb (l.take k)))):=cG j;obtain⟨bm,F⟩:=eX (mb (l.take k));rw[<-F]at c1 ho;have HO:=hD ho;have u:=hD hK;obtain⟨q,hq⟩:=eX (l.take k);rw[<-hq]at u d o f;clear j ho hK F hb hf HK hx
   cases hlk:cA T (q++[x])with
   |none=>
    rw[hlk]at d;have HZ:=hD (f.trans d);have p:(cA T (q++[x])).isSome=false:=by rw[hlk];rfl
    have E:(if(cA T (q++[x])).isSome then eM (nb (q++[x]))else Value.pointer none)=.pointer none:=by rw[p];rfl
    have r:Hid ((cA T (q++[x])).isSome=false/\(if(cA T (q++[x])).isSome then eM (nb (q++[x]))else Value.pointer none)=.pointer none):=⟨p,E⟩;clear d f hlk p E hq o m
    go_wp2_with (first|(go_at_call 226;refine HD.out.mono ?_;rintro e w1 ⟨rfl,rfl⟩)|(at_lookup;refine dH rfl _ _ rfl bm 256 D T nb q u.out rfl HO.out x rfl oM _ _ r.out.2 r.out.1 ?_))
    go_quiet (fail)
    go_wp2
    refine gh (lB rfl _ _ _) rfl ?_;unfold gJ;rw[HZ.out,H.out];exact⟨rfl,cR (dw _ _) _⟩
   |some y=>
    rw[hlk,dj (by simp)]at d;have C:Hid (nb (q++[x])=nb (l.take (k+1))/\dK T (l.take (k+1))/\eB T [] l=eB T (l.take (k+1)) (l.drop (k+1))):=by rw[o]at hlk d;exact⟨by rw[o],.inr (by rw[hlk];rfl),f.trans d⟩
    have p:(cA T (q++[x])).isSome=true:=by rw[hlk];rfl
    obtain⟨b2,t⟩:=eX (nb (q++[x]));have r:Hid ((cA T (q++[x])).isSome=true/\(if(cA T (q++[x])).isSome then eM (nb (q++[x]))else Value.pointer none)=yP b2):=⟨p,by rw[p,t];rfl⟩;rw[<-t]at C;clear d f hlk p hq o t m
    go_wp2_with (first|(go_at_call 226;refine HD.out.mono ?_;rintro e w1 ⟨rfl,rfl⟩)|(at_lookup;refine dH rfl _ _ rfl bm 256 D T nb q u.out rfl HO.out x rfl oM _ _ r.out.2 r.out.1 ?_))
    go_round
    .exact⟨k+1,b2,oM,by go_num,rfl,C⟩
    exact mS
  rw[hf]at HD;rw[hf,dq rfl]at d;have HZ:=hD (f.trans d);clear d f hf j HK hb m hx o
  go_wp2_with (go_at_call 226;refine HD.out.mono ?_;rintro e w1 ⟨rfl,rfl⟩)
  go_quiet (fail)
  go_wp2
  refine gh (lB rfl _ _ _) rfl ?_;unfold gJ;rw[HZ.out,L.out];exact⟨rfl,cR (dw _ _) _⟩
 have J:k=n:=oM;subst J;obtain⟨hb,m,f⟩:=HK.out;have et:l.take k=l:=pK (by rw[<-HN.out];exact cO _);have hz:eB T [] l=0:=by rw[f,List.drop_of_length_le (by rw[<-HN.out];exact cO _)];rfl
 have HZ:Hid (gJ T nb l=(yP b)/\eB T [] l=0):=⟨by unfold gJ;rw[dq hz,hb,et];rfl,hz⟩;clear hb m f hz HK et
 go_wp2
 refine gh (lB rfl _ _ _) rfl ?_;rw[HZ.out.1,HZ.out.2];exact⟨rfl,dw _ _⟩
end
section
structure fm where
 at_:Nat
 seq:Nat
 chain:Nat
 has:List Ob
 infos:List jR
abbrev pP(M:fm)(t:ByteArray):Prop:=36<=t.size/\t.size<=56/\jW (t.extract 0 4)=M.infos.length+1/\(cF M.has 3 (t.extract 4 36)).isSome=true/\(Fv M.has (t.extract 4 36)).1<=8/\(Fv M.has (t.extract 4 36)).2<=256
def kI(t:ByteArray):jR:=⟨t.extract 36 t.size,t.extract 4 36⟩
def DT(M:fm)(kind:Nat)(t:ByteArray):Ob:=⟨kind,cV t,M.at_,t⟩
def qq(M:fm)(kind:Nat)(t:ByteArray):Option fm:=
 if kind=4 then(if pP M t then some {M with infos:=M.infos++[kI t]}else none)
 else if qu M.has kind t then some {M with has:=iJ M.has (DT M kind t)}else none
def zx(M:fm)(n c:Nat):fm:={M with at_:=M.at_+dU n,seq:=M.seq+1,chain:=c}
def gQ(img:List ByteArray)(M:fm):Option fm:=match jS img M.at_ M.seq M.chain with
 |none=>none
 |some (kind,t,c)=>(qq M kind t).map λM'=>zx M' t.size c
def scanF(img:List ByteArray):Nat->fm->fm
 |0,M=>M
 |f+1,M=>match gQ img M with
  |none=>M
  |some M'=>scanF img f M'
theorem pz{M:fm}(h:img.length<=M.at_):gQ img M=none:=by
 unfold gQ jS;rw[dif_neg (by omega)]
theorem G3{M a:fm}(h:qq M kind t=some a):a.at_=M.at_/\a.seq=M.seq/\a.chain=M.chain:=by
 unfold qq at h;split at h
 .split at h
  .cases h;exact⟨rfl,rfl,rfl⟩
  cases h
 split at h
 .cases h;exact⟨rfl,rfl,rfl⟩
 cases h
theorem jM(n:Nat):1<=dU n:=by unfold dU;omega
theorem uo{M a:fm}(h:gQ img M=some a):∃kind t c M1,jS img M.at_ M.seq M.chain=some (kind,t,c)/\qq M kind t=some M1/\a=zx M1 t.size c:=by
 unfold gQ at h
 cases hr:jS img M.at_ M.seq M.chain with
 |none=>rw[hr]at h;cases h
 |some q=>
  obtain⟨kind,t,c⟩:=q;rw[hr]at h
  cases ht:qq M kind t with
  |none=>simp only[ht]at h;cases h
  |some M1=>
   simp only[ht]at h;cases h;exact⟨kind,t,c,M1,rfl,ht,rfl⟩
theorem AD{M a:fm}(h:gQ img M=some a):M.at_<a.at_:=by
 obtain⟨kind,t,c,M1,-,h2,rfl⟩:=uo h;have:=(G3 h2).1;have h3:=jM t.size;show M.at_<M1.at_+dU t.size;omega
theorem uM :∀(f g:Nat)(M:fm),img.length<=M.at_+f->img.length<=M.at_+g->scanF img f M=scanF img g M
 |0,0,_,_,_=>rfl
 |0,g+1,M,h,_=>by show M=(match gQ img M with|none=>M|some M'=>scanF img g M');rw[pz (by omega)]
 |f+1,0,M,_,h=>by show(match gQ img M with|none=>M|some M'=>scanF img f M')=M;rw[pz (by omega)]
 |f+1,g+1,M,h1,h2=>by
  show(match gQ img M with|none=>M|some M'=>scanF img f M')=(match gQ img M with|none=>M|some M'=>scanF img g M')
  cases hs:gQ img M with
  |none=>rfl
  |some M'=>
   have:=AD hs;exact uM f g M' oM oM
def g6(img:List ByteArray)(M:fm):fm:=scanF img img.length M
theorem vU{M:fm}(h:gQ img M=none):g6 img M=M:=by
 unfold g6
 cases hn:img.length with
 |zero=>rfl
 |succ n=>
  show(match gQ img M with|none=>M|some M'=>scanF img n M')=M;rw[h]
theorem Hh{M M':fm}(h:gQ img M=some M'):g6 img M=g6 img M':=by
 have b:M.at_<img.length:=by
  by_cases hh:M.at_<img.length
  .exact hh
  rw[pz (by omega)]at h;cases h
 have a:=AD h;unfold g6;obtain⟨n,hn⟩:∃n,img.length=n+1:=⟨img.length-1,oM⟩;have e:scanF img img.length M=scanF img n M':=by rw[hn];show(match gQ img M with|none=>M|some M'=>scanF img n M')=_;rw[h]
 rw[e];exact uM _ _ _ oM oM
structure NU (img:List ByteArray) (top:Nat) (o:Ob):Prop where
 k1:1<=o.kind
 k3:o.kind<=3
 sum:o.sum=cV o.text
 at1:1<=o.at_
 at2:o.at_+dU o.text.size<=top
 size:o.text.size<=1000
 text:(kN img o.at_ (dU o.text.size)).extract 11 (11+o.text.size)=o.text
structure Gy (has:List Ob) (i:jR):Prop where
 root:(cF has 3 i.root).isSome=true
 r32:i.root.size=32
 lab:i.label.size<=20
 dp:(Fv has i.root).1<=8
 nm:(Fv has i.root).2<=256
structure MW (img:List ByteArray) (M:fm):Prop where
 at1:1<=M.at_
 at2:M.at_<=img.length
 sq1:1<=M.seq
 sq2:M.seq<=M.at_
 len:M.has.length+M.infos.length<M.seq
 ch:M.chain<dQ
 clo:RS M.has
 obs:∀o∈M.has,NU img M.at_ o
 inf:∀i∈M.infos,Gy M.has i
theorem NU.up{o:Ob}(h:NU img top o)(a:top<=top'):NU img top' o:=⟨h.k1,h.k3,h.sum,h.at1,lZ h.at2 a,h.size,h.text⟩
theorem zX{o:Ob}(b:(cF has 3 s).isSome=true)(d:cF has o.kind o.sum=none):Fv (has++[o]) s=Fv has s:=by
 rw[Ah];unfold xK;by_cases a:o.kind=3
 .rw[dq a];have:s≠o.sum:=λe=>by rw[e,<-a,d]at b;cases b
  exact dj this
 rw[dj a]
theorem Gy.up{i:jR}{o:Ob}(h:Gy has i)(a:cF has o.kind o.sum=none):Gy (has++[o]) i:=
 ⟨by rw[ld h.root];exact h.root,h.r32,h.lab,by rw[zX h.root a];exact h.dp,by rw[zX h.root a];exact h.nm⟩
theorem FW(has:List Ob)(o:Ob):(iJ has o).length<=has.length+1:=by
 unfold iJ;split
 .omega
 .simp
theorem MW.take{M M1:fm}(h:MW img M)(f:∀s∈img,s.size=64)(g:jS img M.at_ M.seq M.chain=some (kind,t,c))(e:qq M kind t=some M1):MW img (zx M1 t.size c):=by
 obtain⟨r1,r2,r3,r4,r5,r6⟩:=wV f g;have hp:=jM t.size;have hc:c<dQ:=r6▸yw _ _ _ _;have b1:=h.at1;have b2:=h.at2;have b3:=h.sq1;have b4:=h.sq2;have b5:=h.len;unfold qq at e;split at e
 .split at e
  .rename_i hk b;cases e;obtain⟨c1,c2,c3,c4,c5,c6⟩:=b;refine⟨by show 1<=M.at_+_;omega,r4,by show 1<=M.seq+1;omega,by show M.seq+1<=M.at_+_;omega,?_,hc,h.clo,λo ho=>(h.obs o ho).up (by show M.at_<=M.at_+_;omega),λi hi=>?_⟩
   .show M.has.length+(M.infos++[kI t]).length<M.seq+1;rw[ir,qf];omega
   rcases List.mem_append.1 hi with hi|hi
   .exact h.inf i hi
   simp at hi;subst hi;refine⟨c4,?_,?_,c5,c6⟩
   .show(t.extract 4 36).size=32;rw[mM];omega
   show(t.extract 36 t.size).size<=20;rw[mM];omega
  cases e
 split at e
 .rename_i hk d;cases e;have a:NU img (M.at_+dU t.size) (DT M kind t):=⟨r1,by show kind<=3;omega,rfl,h.at1,cO _,r3,r5⟩;refine⟨by show 1<=M.at_+_;omega,r4,by show 1<=M.seq+1;omega,by show M.seq+1<=M.at_+_;omega,?_,hc,?_,λo ho=>?_,λi hi=>?_⟩
  .show(iJ M.has (DT M kind t)).length+M.infos.length<M.seq+1;have:=FW M.has (DT M kind t);omega
  .show RS (iJ M.has (DT M kind t));unfold iJ;split
   .exact h.clo
   rename_i hn;exact h.clo.snoc (by simpa using hn) d r1 (by show kind<=3;omega)
  .have ho:=ho;show NU img (M.at_+dU t.size) o;unfold iJ at ho;split at ho
   .exact(h.obs o ho).up oM
   rcases List.mem_append.1 ho with ho|ho
   .exact(h.obs o ho).up oM
   simp at ho;subst ho;exact a
  show Gy (iJ M.has (DT M kind t)) i;unfold iJ;split
  .exact h.inf i hi
  rename_i hn;exact(h.inf i hi).up (by simpa using hn)
 cases e
theorem MW.step{M M':fm}(h:MW img M)(a:∀s∈img,s.size=64)(b:gQ img M=some M'):MW img M':=by
 obtain⟨kind,t,c,M1,h1,h2,rfl⟩:=uo b;exact h.take a h1 h2
theorem MW.scanF(a:∀s∈img,s.size=64):∀(f:Nat)(M:fm),MW img M->MW img (scanF img f M)
 |0,_,h=>h
 |f+1,M,h=>by
  show MW img (match gQ img M with|none=>M|some M'=>Go.Proofs.YtapijhhmjjplmaaGreatDoor.scanF img f M')
  cases hs:gQ img M with
  |none=>exact h
  |some M'=>exact MW.scanF a f M' (h.step a hs)
theorem MW.scan(a:∀s∈img,s.size=64){M:fm}(h:MW img M):MW img (g6 img M):=MW.scanF a _ _ h
def nP(has:List Ob)(infos:List jR):cS:=match infos.getLast? with
 |some i=>KT has 9 i.root []
 |none=>[]
end
section
open Go.RowKit Go.Maps
structure eS (w:World) (a:Nat->Addr) (m:Int):Prop where
 sent:jm w a
 max:w.cell? ⟨15,0,none⟩=some (.int .i64 m)
theorem eS.on{m:Int}(h:eS w a m)(b:Below w.heap.size w w'):eS w' a m:=⟨h.sent.on b,by rw[b.cell (pr h.max)];exact h.max⟩
def py(w:World)(a:Nat->Addr)(T:cS)(nb:List ByteArray->Nat)(s:ByteArray)(e:Ending)(w':World):Prop:=∃dv nm,e=.returned (.tuple #[dv,.string nm,fg a (da (dD T) s)])/\Below w.heap.size w w'/\((da (dD T) s≠0/\dv=.pointer none/\nm=⟨#[]⟩)\/∃l,cZ s=some l/\l≠[]/\dD T l=0/\dv=eM (nb l.dropLast)/\nm=eF l)
theorem py.bad(d:Below w.heap.size w w')(hc:da (dD T) s=c)(b:c≠0):py w a T nb s (.returned (.tuple #[.pointer none,.string ⟨#[]⟩,rv (a (c-1))])) w':=
 ⟨_,_,by rw[hc];unfold fg;rw[dj b],d,.inl ⟨hc▸b,rfl,rfl⟩⟩
theorem lR(h:dD T l=0):dK T l.dropLast/\eO T l.dropLast=false/\eB T [] l.dropLast=0:=by
 unfold dD at h;split at h
 .rename_i h1;exact absurd h h1
 rename_i h1;have h2:=Decidable.not_not.1 h1;split at h
 .cases h
 rename_i h3;refine⟨?_,by simpa using h3,h2⟩;by_cases h0:l.dropLast=[]
 .exact .inl h0
 have:=nH h2 h0;exact .inr this
theorem gt.init(h:gt w (.slice (yS g 0) l.length c) l)(b:l≠[])(n:Nat)(d:n+1=l.length):je w (.slice (yS g 0) n c) l.dropLast:=h.at.init b n d
theorem px(ba:Nat)(S:Nat->Prop)(rb:Nat)(T:cS)(nb mb:List ByteArray->Nat)(a:Nat->Addr)(m:Int)(s:ByteArray)(w:World)(h:dC w S rb T nb mb)(hT:eN T)(hr:w.cell? ⟨ba,1,none⟩=some (eM rb))(hV:eS w a m)(hs:s.size<=262144):
  Calls prog 153 #[.pointer (some ⟨ba,1,none⟩),.string s] w λe w'=>py w a T nb s e w':=by
 have V:=mZ;have HH:=hD h;have HT:=hD hT;have Z:=hD hV;have HR:=hD hr;have HN:=hD (pq s w a m hV.sent.v4 hV.max hs);have H:Hid (∀w',Below w.heap.size w w'->eS w' a m/\dC w' S rb T nb mb/\w'.cell? ⟨ba,1,none⟩=some (eM rb)):=λw' hb=>⟨hV.on hb,h.on (U:=λ_=>False) (cN hb) (λ_ _ h=>h),by rw[hb.cell (pr hr)];exact hr⟩
 clear h hT hV hr;go_enter func153,ntmps153
 go_wp2_with fail
 refine HN.mono ?_;rintro e w1 ⟨v,c,rfl,r,⟨l,hl,rfl,x⟩|⟨hl,rfl⟩⟩
 .have i:=hD r;obtain⟨y,E,G⟩:=H w1 r;have C:fg a 0=.nilIface:=rfl;rw[C];by_cases h0:l=[]
  .subst h0
   obtain⟨ao,c,rfl⟩:∃ao c,v=.slice ao 0 c:=by
    rcases x with⟨-,h⟩|⟨g,c,h,-⟩
    .exact h
    exact⟨_,_,h⟩
   have hE:=y.sent.v4;obtain⟨ev,d⟩:=eX (rv (a 4));rw[<-d]at hE;have p:=hD d;have HP:Hid (da (dD T) s=5):=iW hl;clear r hl x y E G C d
   go_wp2
   go_quiet (fail)
   go_wp2
   refine gh (Lu rfl _ _ _) rfl ?_;rw[p.out];exact py.bad (cR i _) HP dE
  obtain⟨n,hn⟩:∃n,n+1=l.length:=⟨l.length-1,by have:=List.length_pos_iff.2 h0;omega⟩
  obtain⟨g,cc,rfl,N,P,M⟩:∃g c,v=.slice (some ⟨g,0,none⟩) l.length c/\l.length<=c/\g<w1.heap.size/\∀j (hj:j<l.length),w1.cell? ⟨g,j,none⟩=some (.string l[j]):=by
   rcases x with⟨h,-⟩|h
   .exact absurd h h0
   exact h
  have hv:=dR hl;have hF:=qI ba S rb T nb mb a (.slice (some ⟨g,0,none⟩) n cc) l.dropLast w1 E HT hv.1.dropLast (by rw[Ot];omega) (x.init h0 n hn) G y.sent.v5 y.sent.v6;have L:da (dD T) s=dD T l:=ee hl h0;have K:w1.cell? ⟨g,n,none⟩=some (.string (eF l)):=by rw[M n (by omega)];unfold eF;rw[QK h0,List.getLast_eq_getElem];simp[<-hn]
  have W:n<=8:=oM;have X:n+1<=cc:=oM;rw[<-hn];have HL:Hid (cZ s=some l/\l≠[]):=⟨hl,h0⟩;obtain⟨q,hq⟩:=eX (l.dropLast);have HQ:=hD hq;rw[<-hq]at hF;have b:Hid (da (dD T) s=if eB T [] q≠0 then eB T [] q else if eO T q then 7 else 0):=by show _=_;rw[L,hq];rfl
  have t:=hD hF;obtain⟨nm,B⟩:=eX (eF l);rw[<-B]at K;have Q:=hD B;clear hF L hl h0 x hv N M hq hn B y E G r C;rcases fT T q []with hz|hz|hz
  .have A:gJ T nb q=.pointer (some ⟨nb q,0,none⟩):=by unfold gJ;rw[dq hz];rfl
   rw[hz,dj (by simp)]at b;rw[hz,A,show fg a 0=.nilIface from rfl]at t
   have I:dK T q:=by
    by_cases h0:q=[]
    .exact .inl h0
    have:=nH hz h0;exact .inr this
   have z:Hid (∀w2,Below w.heap.size w w2->Calls prog 226 #[.pointer (some ⟨nb q,0,none⟩)] w2 λe w'=>e=.returned (.bool (!eO T q))/\w2=w'):=λw2 f=>(H.out w2 f).2.1.isDir q I
   obtain⟨bq,F⟩:=eX (nb q);rw[<-F]at t z;have O:=hD F;clear A hz F I;cases hf:eO T q
   .rw[hf]at z b;have J:Hid (dD T l=0):=by have:=b;rw[ee HL.out.1 HL.out.2]at this;exact this
    clear hf
    go_wp2_with (go_at_call 225;refine t.mono ?_;rintro e w2 ⟨rfl,f⟩;have o:Hid (Below w.heap.size w w2):=i.trans (f.mono i.size);have u:=z w2 o;have D:Hid (Calls prog 226 #[.pointer (some ⟨bq,0,none⟩)] w2 λe w'=>e=.returned (.bool true)/\w2=w'):=u;have Y:w2.cell? ⟨g,n,none⟩=some (.string nm):=(by rw[f.cell P];exact K);clear f u)
    go_wp2_with (go_at_call 226;refine D.mono ?_;rintro e w3 ⟨rfl,rfl⟩)
    go_quiet (fail)
    go_wp2
    refine gh (Lu rfl _ _ _) rfl ?_;refine⟨eM bq,nm,?_,cR o _,.inr ⟨l,HL.1,HL.2,J,?_,Q⟩⟩
    .rw[b.out];rfl
    rw[<-HQ.out,<-O.out]
   rw[hf]at z b;have HP:=hD b;clear hf b
   go_wp2_with (go_at_call 225;refine t.mono ?_;rintro e w2 ⟨rfl,f⟩;have o:Hid (Below w.heap.size w w2):=i.trans (f.mono i.size);have u:=z w2 o;have D:Hid (Calls prog 226 #[.pointer (some ⟨bq,0,none⟩)] w2 λe w'=>e=.returned (.bool false)/\w2=w'):=u;clear f u)
   have hE:=(H.out w2 o.out).1.sent.v6;obtain⟨ev,d⟩:=eX (rv (a 6));rw[<-d]at hE;have p:=hD d;clear d
   go_wp2_with (go_at_call 226;refine D.mono ?_;rintro e w3 ⟨rfl,rfl⟩)
   go_quiet (fail)
   go_wp2
   refine gh (Lu rfl _ _ _) rfl ?_;rw[p.out];exact py.bad (cR o _) HP dE
  all_goals
   have A:gJ T nb q=.pointer none:=by unfold gJ;rw[dj (by rw[hz];decide)]
   rw[hz,dq (by decide)]at b;obtain⟨ad,k⟩:=eX (a (eB T [] q-1));have d:fg a (eB T [] q)=rv ad:=by rw[k,hz];rfl
   rw[A,d]at t;rw[hz]at k;have p:=hD k;clear A hz d k
   go_wp2_with (go_at_call 225;refine t.mono ?_;rintro e w2 ⟨rfl,f⟩;have o:Hid (Below w.heap.size w w2):=i.trans (f.mono i.size);clear f)
   refine gh (Lu rfl _ _ _) rfl ?_;rw[p.out];exact py.bad o b dE
 have i:=hD r;have HP:Hid (da (dD T) s=5):=ij hl;obtain⟨ad,k⟩:=eX (a 4);have d:fg a 5=rv ad:=by rw[k];rfl
 rw[d];have p:=hD k;clear r hl d k
 go_wp2
 refine gh (Lu rfl _ _ _) rfl ?_;rw[p.out];exact py.bad i HP dE
end
section
abbrev im:=List (Nat×ByteArray)
def tm(ps:im)(k:Nat)(s:ByteArray):Bool:=ps.any λx=>decide (x.1=k)&&decide (cV x.2=s)
def gP(has:List Ob)(ps:im)(k:Nat)(t:ByteArray):im:=if((cF has k (cV t)).isSome||tm ps k (cV t))=true then ps else ps++[(k,t)]
theorem qR(has:List Ob)(ps:im)(k:Nat)(t:ByteArray):(gP has ps k t).length<=ps.length+1:=by
 unfold gP;split
 .omega
 .simp
def eZ(d:ByteArray)(j:Nat):ByteArray:=d.extract (96*j) (96*j+96)
def iQ(has:List Ob)(ps:im)(d:ByteArray):Nat->im
 |0=>ps
 |j+1=>gP has (iQ has ps d j) 1 (eZ d j)
def gG(d:ByteArray)(j:Nat):ByteArray:=fb d.size++iI ((List.range j).map λi=>cV (eZ d i))
def iC(d:ByteArray):ByteArray:=gG d (du d.size)
def qp(has:List Ob)(ps:im)(d:ByteArray):im:=gP has (iQ has ps d (du d.size)) 2 (iC d)
theorem xE(d:ByteArray):gG d 0=fb d.size:=qG _
theorem xR(d:ByteArray)(j:Nat):gG d (j+1)=gG d j++cV (eZ d j):=by
 unfold gG;rw[JO,qA,Cw,jy,iA]
theorem vi(has:List Ob)(ps:im)(d:ByteArray):∀j,(iQ has ps d j).length<=ps.length+j
 |0=>cO _
 |j+1=>by have h1:=vi has ps d j;have h2:=qR has (iQ has ps d j) 1 (eZ d j);show(gP has (iQ has ps d j) 1 (eZ d j)).length<=_;omega
theorem rj(d:ByteArray)(j:Nat)(h:j<du d.size):(eZ d j).size=oO d.size j/\1<=(eZ d j).size/\(eZ d j).size<=96:=by
 unfold eZ oO;unfold du at h;rw[mM];omega
def gW(file:Bool)(n s:ByteArray):ByteArray:=⟨#[if file then 1 else 2,UInt8.ofNat (n.size%256)]⟩++n++s
theorem pD(file:Bool)(n s:ByteArray):(gW file n s).size=2+n.size+s.size:=by
 unfold gW;rw[lY,lY];rfl
def eK(T:cS)(p:List ByteArray):ByteArray:=match cA T p with
 |some x=>x.data
 |none=>⟨#[]⟩
def dF(T:cS)(has:List Ob):Nat->List ByteArray->im->im×ByteArray
 |0,_,ps=>(ps,⟨#[]⟩)
 |f+1,p,ps=>if eO T p then(qp has ps (eK T p),iC (eK T p))else
  (gP has ((dh T p).foldl (λv n=>((dF T has f (p++[n]) v.1).1,v.2++gW (eO T (p++[n])) n (cV (dF T has f (p++[n]) v.1).2))) (ps,⟨#[]⟩)).1 3 ((dh T p).foldl (λv n=>((dF T has f (p++[n]) v.1).1,v.2++gW (eO T (p++[n])) n (cV (dF T has f (p++[n]) v.1).2))) (ps,⟨#[]⟩)).2,
   ((dh T p).foldl (λv n=>((dF T has f (p++[n]) v.1).1,v.2++gW (eO T (p++[n])) n (cV (dF T has f (p++[n]) v.1).2))) (ps,⟨#[]⟩)).2)
def E1(T:cS)(has:List Ob)(f:Nat)(p:List ByteArray)(v:im×ByteArray)(n:ByteArray):im×ByteArray:=((dF T has f (p++[n]) v.1).1,v.2++gW (eO T (p++[n])) n (cV (dF T has f (p++[n]) v.1).2))
def cM(T:cS)(has:List Ob)(f:Nat)(p:List ByteArray)(ps:im)(l:List ByteArray):im×ByteArray:=l.foldl (E1 T has f p) (ps,⟨#[]⟩)
theorem fD(T:cS)(has:List Ob)(f:Nat)(p:List ByteArray)(ps:im)(h:eO T p=true):dF T has (f+1) p ps=(qp has ps (eK T p),iC (eK T p)):=by
 rw[dF,dq h]
theorem fC(T:cS)(has:List Ob)(f:Nat)(p:List ByteArray)(ps:im)(h:eO T p=false):dF T has (f+1) p ps=(gP has (cM T has f p ps (dh T p)).1 3 (cM T has f p ps (dh T p)).2,(cM T has f p ps (dh T p)).2):=by
 rw[dF,dj (by rw[h];simp)];rfl
theorem fe(T:cS)(has:List Ob)(f:Nat)(p:List ByteArray)(ps:im)(l:List ByteArray)(n:ByteArray):cM T has f p ps (l++[n])=E1 T has f p (cM T has f p ps l) n:=by simp[cM,A5]
theorem tW(T:cS)(has:List Ob)(f:Nat)(p:List ByteArray)(ps:im)(l:List ByteArray)(i:Nat)(h:i<l.length):cM T has f p ps (l.take (i+1))=E1 T has f p (cM T has f p ps (l.take i)) l[i]:=by rw[sN h,fe]
def lA(T:cS)(p:List ByteArray):cS:=T.filter λx=>decide (p<+:x.names/\p≠x.names)
def JZ(T:cS)(p:List ByteArray):cS:=T.filter λx=>decide (p<+:x.names)
theorem ur{α β:Type}(P:β->α->Bool)(Q:α->Bool)(l:List β)(h:∀x,(l.filter λn=>P n x).length<=if Q x then 1 else 0):∀T:List α,(l.map λn=>(T.filter (P n)).length).sum<=(T.filter Q).length
 |[]=>by
  have:(l.map λn=>(([]:List α).filter (P n)).length)=l.map λ_=>0:=sI
  rw[this]
  have e:(l.map λ_=>0).sum=0:=by
   clear h this
   induction l with
   |nil=>rfl
   |cons x r ih=>rw[vj,Qb,ih]
  rw[e];exact fP _
 |x::T=>by
  have ih:=ur P Q l h T;have hx:=h x
  have e:(l.map λn=>((x::T).filter (P n)).length).sum=(l.filter λn=>P n x).length+(l.map λn=>(T.filter (P n)).length).sum:=by
   clear ih hx h
   induction l with
   |nil=>rfl
   |cons n r ih=>
    rw[vj,Qb,vj,Qb,ih,DL,DL];split
    .rw[mY,mY];omega
    .omega
  rw[e,DL];split
  .rename_i hq;rw[dq hq]at hx;rw[mY];omega
  rename_i hq;rw[dj hq]at hx;omega
theorem me(T:cS)(p:List ByteArray)(l:List ByteArray)(h:l.Nodup):(l.map λn=>(JZ T (p++[n])).length).sum<=(lA T p).length:=by
 refine ur (λn (x:pp)=>decide (p++[n]<+:x.names)) (λx=>decide (p<+:x.names/\p≠x.names)) l (λx=>?_) T;have f:∀n n',p++[n]<+:x.names->p++[n']<+:x.names->n=n':=by rintro n n' ⟨r,hr⟩ ⟨r',g⟩;rw[<-g,ve,ve]at hr;have:=RL hr;simpa using(List.cons.inj this).1
 by_cases hq:p<+:x.names/\p≠x.names
 .rw[dq (by simpa using hq)];have d:(l.filter λn=>decide (p++[n]<+:x.names)).Nodup:=h.filter _;generalize hm:(l.filter λn=>decide (p++[n]<+:x.names))=m at d;have c:∀n∈m,p++[n]<+:x.names:=λn hn=>by rw[<-hm,L5]at hn;exact FE hn.2
  match m,d,c with
  |[],_,_=>exact fP _
  |[a],_,_=>exact cO _
  |a::b::r,d,c=>
   exfalso;rw[N3]at d;exact d.1 (by rw[f a b (c a (by simp)) (c b (by simp))];simp)
 rw[dj (by simpa using hq)];have:(l.filter λn=>decide (p++[n]<+:x.names))=[]:=by rw[RI];intro n _ hn;have hn:=FE hn;apply hq;refine⟨(List.prefix_append p [n]).trans hn,λe=>?_⟩;rw[<-e]at hn;have:=hn.length_le;rw[ir,qf]at this;omega
 rw[this];exact fP _
theorem kT(h:eN T)(p:List ByteArray):(dh T p).Nodup:=(fh T p).nodup_iff.2 (lm h p)
theorem js(h:eN T)(p:List ByteArray)(n:ByteArray):n∈dh T p↔(cA T (p++[n])).isSome:=by
 rw[(fh T p).mem_iff];exact iS h p n
theorem tD(h:eN T)(c:(cA T p).isSome):1+(lA T p).length<=(JZ T p).length:=by
 obtain⟨x,hx⟩:=Option.isSome_iff_exists.1 c;obtain⟨hm,hn⟩:=dI hx;obtain⟨a,b,rfl⟩:=Qw hm;unfold lA JZ;rw[OB,OB,DL,DL];have h1:decide (p<+:x.names)=true:=jX (hn▸List.prefix_refl _);have h2:decide (p<+:x.names/\p≠x.names)=false:=lW (λhc=>hc.2 hn.symm);rw[dq h1,dj (by rw[h2];simp),ir,ir,mY]
 have le:∀l:cS,(l.filter λx=>decide (p<+:x.names/\p≠x.names)).length<=(l.filter λx=>decide (p<+:x.names)).length:=λl=>by
  apply List.Sublist.length_le
  have e:(l.filter λx=>decide (p<+:x.names/\p≠x.names))=(l.filter λx=>decide (p<+:x.names)).filter λx=>decide (p≠x.names):=by
   rw[P7];congr 1;funext y
   by_cases h1:p<+:y.names<;>by_cases h2:p≠y.names<;>simp[h1,h2]
  rw[e];exact List.filter_sublist
 have:=le a;have:=le b;omega
theorem wu(h:eN T)(has:List Ob):∀(f:Nat)(p:List ByteArray)(ps:im),(dF T has f p ps).1.length<=ps.length+17*(1+(lA T p).length)
 |0,p,ps=>by show ps.length<=_;omega
 |f+1,p,ps=>by
  cases hf:eO T p
  .rw[fC T has f p ps hf]
   have hk:∀l:List ByteArray,(∀n∈l,(cA T (p++[n])).isSome)->(cM T has f p ps l).1.length<=ps.length+17*(l.map λn=>(JZ T (p++[n])).length).sum:=λl=>by
    induction l using jh with
    |h0=>intro _;show ps.length<=_;omega
    |hs l n ih=>
     intro hl;have h1:=ih (λm hm=>hl m (List.mem_append.2 (.inl hm)));have h2:=wu h has f (p++[n]) (cM T has f p ps l).1;have h3:=tD h (hl n sI);rw[fe,qA,NT,Cw,PR];show(dF T has f (p++[n]) (cM T has f p ps l).1).1.length<=_;omega
   have h1:=hk (dh T p) (λn hn=>(js h p n).1 hn);have h2:=me T p (dh T p) (kT h p);have h3:=qR has (cM T has f p ps (dh T p)).1 3 (cM T has f p ps (dh T p)).2;show(gP has _ 3 _).length<=_;omega
  rw[fD T has f p ps hf];have h1:=qR has (iQ has ps (eK T p) (du (eK T p).size)) 2 (iC (eK T p));have h2:=vi has ps (eK T p) (du (eK T p).size)
  have h3:(eK T p).size<=1536:=by
   unfold eK
   cases hx:cA T p with
   |none=>exact fP _
   |some x=>exact h.big x (dI hx).1
  have h4:du (eK T p).size<=16:=by unfold du;omega
  show(qp has ps (eK T p)).length<=_;unfold qp;omega
structure nR (x:Nat×ByteArray):Prop where
 k1:1<=x.1
 k3:x.1<=3
 size:x.2.size<=1000
theorem xq{ps:im}(h:∀x∈ps,nR x)(a:nR (k,t)):∀x∈gP has ps k t,nR x:=by
 unfold gP;split
 .exact h
 intro x hx;rcases List.mem_append.1 hx with hx|hx
 .exact h x hx
 simp at hx;subst hx;exact a
theorem wm(a:fX.length=8)(g:Nat->ByteArray):∀j,(iI ((List.range j).map λi=>cV (g i))).size=32*j
 |0=>rfl
 |j+1=>by rw[JO,qA,Cw,jy,lY,wm a g j,iB _ a];omega
theorem mz(a:fX.length=8)(d:ByteArray)(j:Nat):(gG d j).size=4+32*j:=by
 unfold gG;rw[lY,gL,wm a]
theorem zm{ps:im}{d:ByteArray}(h:∀x∈ps,nR x):∀j,∀x∈iQ has ps d j,nR x
 |0=>h
 |j+1=>xq (zm h j) ⟨oM,oM,by show(eZ d j).size<=1000;unfold eZ;rw[mM];omega⟩
theorem Jw(a:fX.length=8){ps:im}{d:ByteArray}(h:∀x∈ps,nR x)(b:d.size<=1536):∀x∈qp has ps d,nR x:=by
 refine xq (zm h _) ⟨oM,oM,?_⟩;show(gG d (du d.size)).size<=1000;rw[mz a];unfold du;omega
theorem mB(g:fX.length=8)(h:eN T)(e:mV T)(has:List Ob):∀(f:Nat)(p:List ByteArray)(ps:im),(∀x∈ps,nR x)->(∀x∈(dF T has f p ps).1,nR x)/\(dF T has f p ps).2.size<=800
 |0,p,ps,hw=>⟨hw,fP _⟩
 |f+1,p,ps,hw=>by
  cases hf:eO T p
  .rw[fC T has f p ps hf]
   have hk:∀l:List ByteArray,(∀n∈l,(cA T (p++[n])).isSome)->(∀x∈(cM T has f p ps l).1,nR x)/\(cM T has f p ps l).2.size<=50*l.length:=λl=>by
    induction l using jh with
    |h0=>intro _;exact⟨hw,fP _⟩
    |hs l n ih=>
     intro hl;obtain⟨a,b⟩:=ih (λm hm=>hl m (List.mem_append.2 (.inl hm)));obtain⟨c,-⟩:=mB g h e has f (p++[n]) (cM T has f p ps l).1 a;rw[fe];refine⟨c,?_⟩;show((cM T has f p ps l).2++gW _ n (cV _)).size<=_;rw[lY,pD,iB _ g,ir,qf];have hn:n.size<=16:=by obtain⟨y,hy⟩:=Option.isSome_iff_exists.1 (hl n sI);obtain⟨h1,h2⟩:=dI hy;have h3:=(h.val y h1).2.2;rw[h2]at h3;exact(io (h3 n sI)).2
     omega
   obtain⟨a,b⟩:=hk (dh T p) (λn hn=>(js h p n).1 hn);have hl:(dh T p).length<=16:=by rw[(fh T p).length_eq];exact e p
   have d:(cM T has f p ps (dh T p)).2.size<=800:=oM;exact⟨xq a ⟨oM,oM,by show(cM T has f p ps (dh T p)).2.size<=1000;omega⟩,d⟩
  rw[fD T has f p ps hf]
  have h3:(eK T p).size<=1536:=by
   unfold eK
   cases hx:cA T p with
   |none=>exact fP _
   |some x=>exact h.big x (dI hx).1
  refine⟨Jw g hw h3,?_⟩;show(gG _ _).size<=800;rw[mz g];unfold du;omega
end
end Go.Proofs.YtapijhhmjjplmaaGreatDoor

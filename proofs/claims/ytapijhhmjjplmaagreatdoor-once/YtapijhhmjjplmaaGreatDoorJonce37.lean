import Derived.Test.YtapijhhmjjplmaaGreatDoorJonce36
namespace Go.Proofs.YtapijhhmjjplmaaGreatDoor
set_option linter.all false
set_option maxRecDepth 100000
set_option maxHeartbeats 4000000
open Go.Proofs.Tryz
variable {ops:Array Oper}{uA:Array Value}{Q:Exit→Act→World→Prop}{uD:List Deferred}{has fresh:List Ob}{rest:List Oper}{b N a0 a1 a2 a3 i j N2 f0 f1 f2 f3 c:Nat}{S:Nat→Prop}{o:Oper}{row:Option Nat}{w w' V wr w1:World}
section
open Go.RowKit Go.Maps
theorem lX(w:World){a:Act}(K:o.guard=none)(G:Operand)(H:o.op=Op.next G false)(b r n:Nat)(D:DataW Value)(g:ByteArray->Option Value)(J:gj D g)(I:∀s v,g s=some v->∃x y:Int,v=.agg #[.int .i64 x,.int .i64 y])(u:Lit->Bool)(B:Nat)(C:∀kl,u kl=true->Maps.has D kl=true)(hit:a.eval G=yP r)(h:w.ranges prog 131 cY b r n D u B)(E:B=0->(∀kl,u kl=false)->wpList prog ops Q rest (a.put o.dst (.tuple #[.bool false])) w)(F:∀(s:ByteArray)(A:Array Value)(x y:Int)(w':World)(cnt':Nat),s.size=32->A=(db s).toArray->g s=some (.agg #[.int .i64 x,.int .i64 y])->u (.string (bl s))=true->w'.ranges prog 131 cY b r n D (λz=>u z&&!z.sameKey (.string (bl s))) cnt'->cnt'<B->
   w.grownBy w' (some r)->w'.heap.size=w.heap.size->(Instr.entry (yP r)).run prog w'=.ok (.tuple #[.agg A,.agg #[.int .i64 x,.int .i64 y]]) w'->wpList prog ops Q rest (a.put o.dst (.tuple #[.bool true,.agg A,.agg #[.int .i64 x,.int .i64 y]])) w'):
  wpList prog ops Q (o::rest) a w:=by
 refine wpList_next_ranges w K G H 131 kq cY id id (λj _ _=>⟨j,rfl⟩) (λv _ _=>⟨v,rfl⟩) b r n D u B hit h E ?_;intro j c kl y w' cnt' f i hv k l t q m p;obtain⟨s,v,rfl,d,e⟩:=J.keys (C kl i);have e1:=kq.inj f (iR s d);have e2:c=v:=by have h1:=k (.held O0);rw[J.at d,e]at h1;have h2:=hv;unfold cY at h2;have h3:=kM h2;rw[<-h3]at h1;exact(FA h1).symm
 obtain⟨x,z,rfl⟩:=I s v e;subst e1;subst e2;exact F s _ x z w' cnt' d rfl e i l t q m p
theorem my(h:w.grownBy w' (some b)):cq (·=b) w w':=⟨h.os,h.tape,h.output,h.size,λk hk hn=>h.block k hk (λe=>hn (kM e))⟩
theorem Bx(a:Below w.heap.size w V)(h:V.grownBy w' row):w.grownBy w' row:=⟨h.os.trans a.os,h.tape.trans a.tape,h.output.trans a.output,lZ a.size h.size,λk hk hn=>(h.block k (ny hk a.size) hn).trans (a.block k hk)⟩
structure Qe (w:World) (bd bs Nd Ns:Nat) (f g:ByteArray->Option Value) (D:DataW Value) (wr:World) (left:Lit->Bool) (cnt:Nat) (Do:DataW Value) (fo:ByteArray->Option Value):Prop where
 rg:wr.ranges prog 131 cY bs w.heap.size Ns D left cnt
 le:cnt<=Maps.size D
 lf:∀kl,left kl=true->Maps.has D kl=true
 ow:wr.ownsMap prog 131 cY bd (Nd+(Maps.size D-cnt)) Do
 sm:gj Do fo
 eq:∀s,s.size=32->fo s=if(g s).isSome=true/\left (.string (bl s))=false then g s else f s
 gr:cq (·=bd) w wr
theorem EV(bd bs Nd Ns:Nat)(f g:ByteArray->Option Value)(w:World)(hd:KM w bd Nd f)(hs:KM w bs Ns g)(an:bd≠bs)(hN:Nd+Ns<=1000000)(ao:∀s v,g s=some v->∃x y:Int,v=.agg #[.int .i64 x,.int .i64 y]):
  Calls prog 239 #[.map (some bd),.map (some bs)] w λe w'=>e=.returned (.tuple #[])/\KM w' bd (Nd+Ns) (λs=>(g s).or (f s))/\cq (·=bd) w w':=by
 obtain⟨Dd,u,U⟩:=hd;obtain⟨D,m,B⟩:=hs;have N:=u.lt;have M:=m.lt;have V:=m.size_le;have p:Hid ((prog.info? 131).map (·.size)=some 32):=by show _=_;kernel_rfl
 have ad:Hid ((prog.info? 361).map (·.size)=some 2):=by show _=_;kernel_rfl
 have HP:Hid (gj D g/\(∀s v,g s=some v->∃x y:Int,v=.agg #[.int .i64 x,.int .i64 y])/\bd≠bs/\Nd+Ns<=1000000/\Maps.size D<=Ns/\bd<w.heap.size/\bs<w.heap.size):=⟨B,ao,an,hN,V,N,M⟩;have L:=Hid.mk' m
 have T:Hid (∀w0,w0.ranges prog 131 cY bs w.heap.size Ns D (Maps.has D) (Maps.size D)->w.grownBy w0 none->Qe w bd bs Nd Ns f g D w0 (Maps.has D) (Maps.size D) Dd f):=by
  intro w0 h1 h2;refine⟨h1,cO _,λ_ h=>h,(u.kept h2 sI).mono oM,U,λs a=>?_,my (h2.but _)⟩;rw[B.has a]
  cases hg:g s with
  |none=>rw[dj (by simp)]
  |some v=>rw[dj (by simp)]
 clear u U m B N M V an hN ao;go_enter func239,ntmps239
 go_wp2_with (at_range;refine wpList_range_own _ rfl _ 115 rfl 131 361 kq NO cY bs Ns _ rfl L ?_;intro w0 o H a1;have H0:=Hid.mk' (T w0 o H);clear o H a1)
 go_frame;go_loopw [8] (λ_ wr=>Hid (∃b c Do fo,Qe w bd bs Nd Ns f g D wr b c Do fo)) (λ_ wr=>wr.rangeLeft bs w.heap.size)
 .exact⟨_,_,_,_,H0⟩
 obtain⟨b,c,Do,fo,hI⟩:=hrel.out;clear hrel H0 T L;have HI:=Hid.mk' hI;clear hI
 go_wp2_with (at_next;refine lX _ rfl _ rfl bs w.heap.size Ns D g HP.1 HP.2.1 b c HI.lf rfl HI.rg ?_ ?_)
 .intro a4 E
  have HE:Hid (KM wr bd (Nd+Ns) (λs=>(g s).or (f s))/\cq (·=bd) w wr):=by
   have hI:=HI;refine⟨⟨Do,hI.ow.mono (by have:=HP.2.2.2.2.1;omega),hI.sm.congr (λs a=>?_)⟩,hI.gr⟩;rw[hI.eq s a,E]
   cases g s with
   |none=>rw[dj (by simp)];rfl
   |some v=>rw[dq (by simp)];rfl
  clear a4 E
  go_wp2
  go_end0
  exact⟨rfl,HE⟩
 intro s A x y w1 P a hA z a2 r J t ab af;have HA:Hid (A=(db s).toArray/\s.size=32/\g s=some (.agg #[.int .i64 x,.int .i64 y])):=⟨hA,a,z⟩;have i:Hid (A.size=32/\A.all (·.oneCell')=true):=⟨by rw[hA,jO,cE,a],Array.all_eq_true_iff_forall_mem.2 (λv hv=>by rw[hA]at hv;exact eA _ v (by simpa using hv))⟩;have I:Hid (keyOf prog 131 (.agg A)=some (.string (bl s))):=by show _=_;rw[hA];exact iR s a
 have HB:Hid (bd≠w.heap.size/\bs≠w.heap.size):=⟨by have:=HP.2.2.2.2.2.1;omega,by have:=HP.2.2.2.2.2.2;omega⟩;have Q:=hD (HI.ow.kept t (λe=>HB.1 (kM e)))
 have X:Hid (∀V4 w2,Below w1.heap.size w1 V4->w2.ownsMap prog 131 cY bd (Nd+(Maps.size D-c)+1) (Do.put (.string (bl s)) (.held (.agg #[.int .i64 x,.int .i64 y])))->V4.grownBy w2 (some bd)->(∃b c Do fo,Qe w bd bs Nd Ns f g D w2 b c Do fo)/\w2.rangeLeft bs w.heap.size<wr.rangeLeft bs w.heap.size):=by
  intro V4 w2 a7 G l;have hI:=HI;have F:=Bx a7 l;have n:=r.kept F (λe=>HP.2.2.1 (kM e).symm) (λe=>HB.1 (kM e).symm);refine⟨⟨_,P,_,_,⟨n,by have:=hI.le;omega,λkl h=>hI.lf kl (by simp only[Dj]at h;exact h.1),G.mono (by have:=hI.le;omega),hI.sm.put a _ (G.tidy kq),λs' a6=>?_,?_⟩⟩,by rw[n.left_eq,hI.rg.left_eq];exact J⟩
  .show(if s'=s then _ else fo s')=_;by_cases e:s'=s
   .subst e;rw[dq rfl,z,dq ⟨rfl,by simp[gx]⟩]
   rw[dj e,hI.eq s' a6,gx,lW (λh=>e (ej h)),RC,Bool.and_true]
  have h1:cq (λq=>q=bd\/q=w.heap.size) wr w1:=(my t).weak λq e=>.inr e
  have h2:cq (λq=>q=bd\/q=w.heap.size) w1 w2:=(my F).weak λq e=>.inl e
  refine hI.gr.then ((h1.trans h2).weak ?_)
  rintro q (e|e)
  .exact .inl e
  exact .inr oM
 have a9:Hid (∀V2 V3:World,V2=(w1.alloc (.cells fN 131)).alloc (.cells #[.int .i64 0,.int .i64 0] 361)->V3=V2.setRow w1.heap.size A->V3.cell? (yA (w1.heap.size+1) 0)=some (.int .i64 0)/\V3.cell? (yA (w1.heap.size+1) 1)=some (.int .i64 0)/\V3.frozen? (yA (w1.heap.size+1) 0)=false/\V3.frozen? (yA (w1.heap.size+1) 1)=false/\Hid (((V3.setCell (yA (w1.heap.size+1) 0) (.int .i64 x)).setCell (yA (w1.heap.size+1) 1) (.int .i64 y)).heap[w1.heap.size]?=some (.cells A 131 (0,0)))/\Hid (Below w1.heap.size w1 ((V3.setCell (yA (w1.heap.size+1) 0) (.int .i64 x)).setCell (yA (w1.heap.size+1) 1) (.int .i64 y)))):=by
  intro V2 V3 e2 e3;have a3:Below w1.heap.size w1 V2:=by rw[e2];exact((dw _ _).alloc (cO _) _).alloc sI _
  have a0:V2.heap[w1.heap.size]?=some (.cells fN 131 (0,0)):=by rw[e2];exact(iy w1 _ _).1
  have a5:V2.heap[w1.heap.size+1]?=some (.cells #[.int .i64 0,.int .i64 0] 361 (0,0)):=by rw[e2];exact(iy w1 _ _).2
  have j:V3.heap[w1.heap.size+1]?=some (.cells #[.int .i64 0,.int .i64 0] 361 (0,0)):=by rw[e3,l7 _ _ _ _ (by omega)];exact a5
  have aa:V3.heap[w1.heap.size]?=some (.cells A 131 (0,0)):=e3▸ja _ _ _ _ _ _ a0;have O:Below w1.heap.size w1 V3:=e3▸cC a3 (cO _) _;refine⟨cG j,cG j,fH _ _ _ _ _ j,fH _ _ _ _ _ j,?_,?_⟩
  .show _=_;rw[lq _ _ _ _ (by show w1.heap.size≠w1.heap.size+1;omega),lq _ _ _ _ (by show w1.heap.size≠w1.heap.size+1;omega)];exact aa
  have hs:cq (λq=>q=w1.heap.size+1) V3 ((V3.setCell (yA (w1.heap.size+1) 0) (.int .i64 x)).setCell (yA (w1.heap.size+1) 1) (.int .i64 y)):=((cq.refl (λq=>q=w1.heap.size+1) V3).setCell (yA (w1.heap.size+1) 0) rfl _).setCell (yA (w1.heap.size+1) 1) rfl _;exact O.trans ⟨hs.os,hs.tape,hs.output,hs.size,λk hk=>hs.block k (by have:=O.size;omega) oM⟩
 clear r J t ab a2 z a hA
 go_wp2_with (first|(refine cu rfl 131 _ _ rfl w1.heap.size A rfl rfl 131 fN (iy w1 _ _).1 (by rw[i.out.1];exact p) (by rw[i.out.1];rfl) i.2 ?_;intro V3 S;obtain⟨ag,ac,ae,ah,a8,C⟩:=a9 _ V3 rfl S.out;clear S)|(refine vk rfl 131 _ rfl w1.heap.size rfl 131 A (0,0) _ a8 kb rfl (by rw[i.out.1];exact p) ?_)|(at_mapUpdate;refine wpList_mapUpdate_own _ rfl _ _ _ 115 rfl 131 361 kq NO cY bd (Nd+(Maps.size D-c)) Do rfl (dg Q (C.block _ (dN Q))) (by have:=HP.2.2.2;unfold maxLen;omega) (.agg A) (.agg #[.int .i64 x,.int .i64 y]) (.string (bl s)) rfl rfl I (.held (.agg #[.int .i64 x,.int .i64 y])) [] rfl ?_;intro w2 d l;obtain⟨K,W⟩:=X _ w2 C d l;have Z:=Hid.mk' K;have Y:=Hid.mk' W;clear d l K W;go_frame))
 go_roundw
 .exact Z
 exact Y
def lH(has:List Ob)(k:Nat):ByteArray->Option Value:=λs=>if k=0 then none else(cF has k s).map qC
theorem dG.at'(h:dG w S N a0 a1 a2 a3 has)(k:Nat)(a:k<=3):KM w (dA k a0 a1 a2 a3) N (lH has k):=by
 have:k=0\/k=1\/k=2\/k=3:=oM;rcases this with rfl|rfl|rfl|rfl
 .exact h.k0
 .exact h.k1
 .exact h.k2
 exact h.k3
theorem DV(d:a0≠a1/\a0≠a2/\a0≠a3/\a1≠a2/\a1≠a3/\a2≠a3)(a:i<=3)(e:j<=3)(h:dA i a0 a1 a2 a3=dA j a0 a1 a2 a3):i=j:=by
 obtain⟨d1,d2,d3,d4,d5,d6⟩:=d;have h1:i=0\/i=1\/i=2\/i=3:=oM;have h2:j=0\/j=1\/j=2\/j=3:=oM;rcases h1 with rfl|rfl|rfl|rfl<;>rcases h2 with rfl|rfl|rfl|rfl<;>first|rfl|(exfalso;simp only[dA,if_true,if_false,Nat.succ_ne_zero,OfNat.ofNat_ne_zero,OfNat.ofNat_ne_one,one_ne_zero]at h;omega)|(exfalso;unfold dA at h;simp at h;omega)
theorem pM(k a0 a1 a2 a3:Nat)(a:k<=3):mf a0 a1 a2 a3 (dA k a0 a1 a2 a3):=by
 have:k=0\/k=1\/k=2\/k=3:=oM;rcases this with rfl|rfl|rfl|rfl
 .exact .inl rfl
 .exact .inr (.inl rfl)
 .exact .inr (.inr (.inl rfl))
 exact .inr (.inr (.inr rfl))
structure IU (w:World) (N N2 a0 a1 a2 a3 f0 f1 f2 f3 b c:Nat) (has fresh:List Ob) (j:Nat) (wr:World):Prop where
 ka:∀i,i<=3->KM wr (dA i a0 a1 a2 a3) (if i<j then N+N2 else N) (λs=>if i<j then(lH fresh i s).or (lH has i s)else lH has i s)
 kf:∀i,i<=3->KM wr (dA i f0 f1 f2 f3) N2 (lH fresh i)
 rb:wr.heap[b]?=some (.cells #[.map (some a0),.map (some a1),.map (some a2),.map (some a3)] 117 (0,0))
 rc:wr.heap[c]?=some (.cells #[.map (some f0),.map (some f1),.map (some f2),.map (some f3)] 117 (0,0))
 same:cq (mf a0 a1 a2 a3) w wr
theorem uO(has:List Ob)(k:Nat)(s:ByteArray)(v:Value)(h:lH has k s=some v):∃x y:Int,v=.agg #[.int .i64 x,.int .i64 y]:=by
 unfold lH at h;split at h
 .cases h
 rcases lJ (cF has k s)with e|⟨x,y,e⟩
 .rw[e]at h;cases h
 rw[e]at h;exact⟨x,y,(kM h).symm⟩
theorem IU.next(h:IU w N N2 a0 a1 a2 a3 f0 f1 f2 f3 b c has fresh j wr)(d:a0≠a1/\a0≠a2/\a0≠a3/\a1≠a2/\a1≠a3/\a2≠a3)(a:j<=3)(g:∀i k,i<=3->k<=3->dA i a0 a1 a2 a3≠dA k f0 f1 f2 f3)(l:KM w1 (dA j a0 a1 a2 a3) (N+N2) (λs=>(lH fresh j s).or (lH has j s)))(f:cq (·=dA j a0 a1 a2 a3) wr w1):IU w N N2 a0 a1 a2 a3 f0 f1 f2 f3 b c has fresh (j+1) w1:=by
 refine⟨λi hi=>?_,λi hi=>(h.kf i hi).on (f.block _ (h.kf i hi).lt (λe=>g j i a hi e.symm)),?_,?_,h.same.trans (f.weak λq e=>e▸pM j a0 a1 a2 a3 a)⟩
 .by_cases e:i=j
  .subst e;rw[dq (by omega)];exact l.congr (λs _=>(dq oM).symm)
  have h1:=(h.ka i hi).on (f.block _ (h.ka i hi).lt (λe2=>e (DV d hi a e2)));by_cases h2:i<j
  .rw[dq h2]at h1;rw[dq (by omega)];exact h1.congr (λs _=>by rw[dq h2,dq (by omega)])
  rw[dj h2]at h1;rw[dj (by omega)];exact h1.congr (λs _=>by rw[dj h2,dj (by omega)])
 .rw[f.block _ (cm h.rb) (λe=>(h.ka j a).ne_row h.rb e.symm)];exact h.rb
 rw[f.block _ (cm h.rc) (λe=>(h.ka j a).ne_row h.rc e.symm)];exact h.rc
theorem IU.done(h:IU w N N2 a0 a1 a2 a3 f0 f1 f2 f3 b c has fresh 4 wr)(f:S a0/\S a1/\S a2/\S a3)(d:a0≠a1/\a0≠a2/\a0≠a3/\a1≠a2/\a1≠a3/\a2≠a3)(e:∀k s,(cF has k s).isSome=true->cF fresh k s=none):dG wr S (N+N2) a0 a1 a2 a3 (has++fresh):=by
 have a:∀k,1<=k->∀s,(lH fresh k s).or (lH has k s)=(cF (has++fresh) k s).map qC:=by
  intro k hk s;unfold lH;rw[dj (by omega),dj (by omega),fU]
  cases hh:cF has k s with
  |none=>cases cF fresh k s<;>rfl
  |some o=>rw[e k s (by rw[hh];rfl)];rfl
 have kk:∀i,i<=3->KM wr (dA i a0 a1 a2 a3) (N+N2) (λs=>(lH fresh i s).or (lH has i s)):=λi hi=>by have:=h.ka i hi;rw[dq (by omega)]at this;exact this.congr (λs _=>dq oM)
 exact⟨(kk 0 oM).congr (λs _=>rfl),(kk 1 oM).congr (λs _=>a 1 oM s),(kk 2 oM).congr (λs _=>a 2 oM s),(kk 3 oM).congr (λs _=>a 3 oM s),f,d⟩
theorem Ad(S y:Nat->Prop)(N N2 a0 a1 a2 a3 f0 f1 f2 f3:Nat)(has fresh:List Ob)(w:World)(t:dG w S N a0 a1 a2 a3 has)(x:dG w y N2 f0 f1 f2 f3 fresh)(u:∀i k,i<=3->k<=3->dA i a0 a1 a2 a3≠dA k f0 f1 f2 f3)(hN:N+N2<=1000000)(v:∀k s,(cF has k s).isSome=true->cF fresh k s=none):
  Calls prog 166 #[ng a0 a1 a2 a3,ng f0 f1 f2 f3] w λe w'=>e=.returned (.tuple #[])/\dG w' S (N+N2) a0 a1 a2 a3 (has++fresh)/\cq (mf a0 a1 a2 a3) w w':=by
 obtain⟨W,hW⟩:=eX ((w.alloc (.cells #[.map (some a0),.map (some a1),.map (some a2),.map (some a3)] 117)).alloc (.cells #[.map (some f0),.map (some f1),.map (some f2),.map (some f3)] 117));have l:Below w.heap.size w W:=by rw[hW];exact((dw _ _).alloc (cO _) _).alloc sI _
 obtain⟨b,hb⟩:=eX (w.heap.size);obtain⟨c,hc⟩:=eX (w.heap.size+1);have H0:Hid (IU w N N2 a0 a1 a2 a3 f0 f1 f2 f3 b c has fresh 0 W):=by refine⟨λi hi=>?_,λi hi=>(x.at' i hi).on (l.block _ (x.at' i hi).lt),by rw[hW,hb];exact(iy w _ _).1,by rw[hW,hc];exact(iy w _ _).2,cq.of_below l⟩;rw[dj (by omega)];exact((t.at' i hi).on (l.block _ (t.at' i hi).lt)).congr (λs _=>(dj oM).symm)
 have HD:Hid ((a0≠a1/\a0≠a2/\a0≠a3/\a1≠a2/\a1≠a3/\a2≠a3)/\(∀i k,i<=3->k<=3->dA i a0 a1 a2 a3≠dA k f0 f1 f2 f3)/\N+N2<=1000000/\(S a0/\S a1/\S a2/\S a3)/\(∀k s,(cF has k s).isSome=true->cF fresh k s=none)):=⟨t.d,u,hN,t.s,v⟩;clear t x u hN v l;unfold ng;go_enter func166,ntmps166;go_upto_region 1 with fail
 rw[<-hW,<-hc,<-hb];clear hW hb hc
 go_wp2
 go_loopw [5] (λi_ wr=>∃j:Nat,j<=4/\i_=.int .i64 j/\Hid (IU w N N2 a0 a1 a2 a3 f0 f1 f2 f3 b c has fresh j wr)) (λi_ _=>4-(intOf i_).toNat)
 .exact⟨0,fP _,rfl,H0⟩
 obtain⟨j,hj,rfl,HJ⟩:=hrel;clear H0;by_cases r:j<4
 .have o:(j:Int)<4:=oM;have p:(0:Int)<=j:=oM;have HI:=HJ;obtain⟨pa,n⟩:=eX (dA j a0 a1 a2 a3);obtain⟨pf,m⟩:=eX (dA j f0 f1 f2 f3);have a:∀(V:World)(q x0 x1 x2 x3:Nat),V.heap[q]?=some (.cells #[.map (some x0),.map (some x1),.map (some x2),.map (some x3)] 117 (0,0))->V.cell? (yA q j)=some (.map (some (dA j x0 x1 x2 x3))):=by intro V q x0 x1 x2 x3 hr;rw[cG hr];have:j=0\/j=1\/j=2\/j=3:=oM;rcases this with rfl|rfl|rfl|rfl<;>rfl
  have f:Calls prog 239 #[.map (some pa),.map (some pf)] wr.drew λe w'=>e=.returned (.tuple #[])/\(w'.cell? (yA b j)=some (.map (some pa))/\w'.cell? (yA c j)=some (.map (some pf)))/\IU w N N2 a0 a1 a2 a3 f0 f1 f2 f3 b c has fresh (j+1) w':=by have k1:=HI.ka j oM;rw[dj (by omega)]at k1;have k1:=k1.congr (g:=lH has j) (λs _=>dj oM);rw[n,m];refine iM (EV (dA j a0 a1 a2 a3) (dA j f0 f1 f2 f3) N N2 (lH has j) (lH fresh j) wr.drew (k1.on rfl) ((HI.kf j oM).on rfl) (HD.2.1 j j oM oM) HD.2.2.1 (uO fresh j)) ?_;rintro e w' ⟨rfl,h1,h2⟩;have hN:=HI.next HD.1 oM HD.2.1 h1 (cq.trans (S:=(·=dA j a0 a1 a2 a3)) ((cq.refl _ wr).drew) h2);exact⟨rfl,⟨a _ _ _ _ _ _ hN.rb,a _ _ _ _ _ _ hN.rc⟩,hN⟩
  go_upto_region 4 with fail
  refine kQ (Nj _ (λV=>V.cell? (yA b j)=some (.map (some pa))/\V.cell? (yA c j)=some (.map (some pf))) (IU w N N2 a0 a1 a2 a3 f0 f1 f2 f3 b c has fresh (j+1)) b c pa pf j wr o p ⟨n▸a wr.drew _ _ _ _ _ HI.rb,m▸a wr.drew _ _ _ _ _ HI.rc⟩ (λV h=>h) f (λV hX uB hU=>?_));have HX:=Hid.mk' hX;refine nU hU ?_;clear f a HI hX HJ n m
  go_wp2
  go_roundw
  .exact⟨j+1,oM,by go_num,HX⟩
  exact mS
 have o:¬(j:Int)<4:=oM;have HE:Hid (dG wr S (N+N2) a0 a1 a2 a3 (has++fresh)/\cq (mf a0 a1 a2 a3) w wr):=by obtain rfl:j=4:=oM;exact⟨HJ.done HD.2.2.2.1 HD.1 HD.2.2.2.2,HJ.same⟩
 go_wp2
 go_end0
 exact⟨rfl,HE⟩
end
section
open Go.RowKit
theorem Lv(Q:Exit->Act->World->Prop)(S X:World->Prop)(f l m n o p q r s i j d:Nat)(w:World)(c:S w.drew)(k:∀V O,S V->S (V.alloc O))(hc:∀V,S V->V.cell? (yA f 4)=some (.map (some l))/\V.cell? (yA f 5)=some (.map (some m))/\V.cell? (yA f 6)=some (.map (some n))/\V.cell? (yA f 7)=some (.map (some o))/\V.cell? (yA f 8)=some (.int .i64 i)/\V.cell? (yA f 9)=some (.int .u32 j)/\V.cell? (yA f 10)=some (.int .u32 d))(g:Calls prog 146 #[] w.drew λe w'=>e=.returned (.agg #[.map (some p),.map (some q),.map (some r),.map (some s)])/\S w'/\X w')(h:∀w1,X w1->∀uB,uP uA uB [6,21,22,23,24,25,26,27,28,29,30,31,32,33,34] [(6,yP w1.heap.size)]->Q .normal ⟨uB,uD⟩ (w1.alloc (.cells #[.map (some l),.map (some m),.map (some n),.map (some o),.pointer (yS f 12),.map (some p),.map (some q),.map (some r),.map (some s),.pointer none,.slice none 0 0,.int .i64 i,.int .u32 j,.int .u32 d] 284)))(hz:uA.size=109:=by rfl)(s0:gD uA 0=(yP f):=by rfl):(Code.region 5 (rg f93 5) true).wp prog Q ⟨uA,uD⟩ w:=by
 refine rH S 15 c (λR hQ hn=>?_);refine tK hQ 0 c ?_;refine tK hQ 1 c ?_;refine tK hQ 2 c ?_;refine tK hQ 3 c ?_;refine tK hQ 4 c ?_;refine tK hQ 5 c ?_;refine tK hQ 6 c ?_;refine tK hQ 8 c ?_;refine tK hQ 9 c ?_;refine tK hQ 10 c ?_;refine tK hQ 11 c ?_;refine rO 7 (λK hK=>?_);go_simp;go_at_call 146;refine g.mono ?_;rintro e w1 ⟨rfl,a,b⟩;refine hK.out _ _ a (λ_=>?_)
 try simp only[Act.put]
 refine tK hQ 12 a ?_;refine rO 13 (λK hK=>?_);go_simp;have hX:=b;refine hK.out _ _ (k _ _ a) (λ_=>?_)
 try simp only[Act.put]
 refine tK hQ 14 (k _ _ a) ?_;exact rD (hn (h w1 hX _ uQ))
theorem Mn(Q:Exit->Act->World->Prop)(S p r l:World->Prop)(x g z k y E ch s f h:Nat)(F A:ByteArray)(C:Array Value)(w:World)(G:x<w.heap.size)(d:p w.drew)(t:∀V O,p V->p (V.alloc O))(u:∀V O,r V->r (V.alloc O))(m:∀V O,l V->l (V.alloc O))(v:∀V V':World,l V->cq (λq=>w.heap.size<=q) V V'->l V')(c:∀V,p V->S V)(n:∀V,r V->S V)(a:∀V,l V->S V)(hc:∀V,S V->V.cell? (yA g 11)=some (.int .i64 y)/\V.cell? (yA g 12)=some (.int .u32 E)/\V.cell? (yA g 13)=some (.int .u32 ch)/\V.cell? (yA g 4)=some (.pointer (yS x 12))/\V.rangeAt z 0 C.toList)(D:(prog.info? 133).map (·.size)=some C.toList.length)(i:∀V,p V->Calls prog 164 #[.agg C,.int .i64 k] V λe w'=>e=.returned (.string F)/\r w'/\Below V.heap.size V w')(j:∀V,r V->Calls prog 163 #[.agg #[.int .i64 y,.int .u32 E,.int .u32 ch],.int .u8 4,.string F,.pointer (yS x 12)] V λe w'=>e=.returned (.tuple #[.string A,.agg #[.int .i64 s,.int .u32 f,.int .u32 h]])/\l w'/\cq (·=x) V w')(o:∀V b,w.heap.size<=b->l V->V.heap[b]?=some (.cells #[.int .i64 s,.int .u32 f,.int .u32 h] 119 (0,0))->∀uB,uP uA uB [9,10,51,52,53,54,55,56,57,58,59,60,61,62,63,64,65] [(10,yP b),(9,.string A)]->Q .normal ⟨uB,uD⟩ V)(hz:uA.size=109:=by rfl)(s6:gD uA 6=(yP g):=by rfl)(s7:gD uA 7=(yP z):=by rfl)(s8:gD uA 8=.int .i64 k:=by rfl):(Code.region 8 (rg f93 8) true).wp prog Q ⟨uA,uD⟩ w:=by
 have hdz:w.drew.heap.size=w.heap.size:=rfl;refine rH S 18 (c _ d) (λR hQ hn=>?_)
 have key:∀{V:World}{b:Nat}{L:Array Bool}{B:Array Value},w.heap.size<=b->l V->V.heap[b]?=some (.cells #[.int .i64 0,.int .u32 0,.int .u32 0] 119 (0,0))->B.size=109->gD B 10=(yP b)->gD B 65=.agg #[.int .i64 s,.int .u32 f,.int .u32 h]->uC uA B [9,10,51,52,53,54,55,56,57,58,59,60,61,62,63,64,65]->gD B 9=.string A->L=#[true,true,true,true,true,true,true,true,true,true,true,true,true,true,true,true,true,false]->wpAnyH prog .any (rg f93 8) R S 1 L ⟨B,uD⟩ V:=by
  intro V b L B hb hY2 hr hBz hB10 hB65 hBu hB9 hL;subst hL;have e0:V.cell? (yA b 0)=some (.int .i64 0):=cG hr;have e1:V.cell? (yA b 1)=some (.int .u32 0):=cG hr;have e2:V.cell? (yA b 2)=some (.int .u32 0):=cG hr;have z0:=fH V b 0 _ _ hr;have z1:=fH V b 1 _ _ hr;have z2:=fH V b 2 _ _ hr;obtain⟨W,hW⟩:=eX (((V.setCell (yA b 0) (.int .i64 s)).setCell (yA b 1) (.int .u32 f)).setCell (yA b 2) (.int .u32 h));have hsW:cq (λq=>w.heap.size<=q) V W:=by rw[hW];exact(((cq.refl (λq=>w.heap.size<=q) V).setCell (yA b 0) hb _).setCell (yA b 1) hb _).setCell (yA b 2) hb _
  have hrW:W.heap[b]?=some (.cells #[.int .i64 s,.int .u32 f,.int .u32 h] 119 (0,0)):=by rw[hW,gE _ b 2 _ _ _ (gE _ b 1 _ _ _ (gE _ b 0 _ _ _ hr))];rfl
  refine rO 17 (λK hK=>?_);go_simp;rw[<-hW];refine hK.out _ _ (a _ (v _ _ hY2 hsW)) (λ_=>?_)
  try simp only[Act.put]
  exact rD (hn (o W b hb (v _ _ hY2 hsW) hrW _ ⟨hBu,by go_simp⟩))
 refine tK hQ 0 (c _ d) ?_;refine tK hQ 1 (c _ d) ?_;refine tK hQ 2 (c _ d) ?_;refine tK hQ 3 (c _ d) ?_;refine tM hQ 4 z 0 C (λV hV=>(hc V hV).2.2.2.2) Mp D (c _ d) ?_;refine tK hQ 5 (c _ d) ?_;refine tK hQ 7 (c _ d) ?_;refine tK hQ 8 (c _ d) ?_;refine tK hQ 9 (c _ d) ?_;refine tK hQ 10 (c _ d) ?_;refine rF 6 15 (λK hK=>?_) (λK hK=>?_)
 .go_simp;go_at_call 164;refine(i _ d).mono ?_;rintro e w1 ⟨rfl,hYw1,hbw1⟩;refine hK.out _ _ (n _ hYw1) (λ_=>?_)
  try simp only[Act.put]
  refine rF 11 15 (λK hK=>?_) (λK hK=>?_)
  .go_simp;go_at_call 163;refine(j _ hYw1).mono ?_;rintro e w2 ⟨rfl,hZw2,hsw2⟩;refine hK.out _ _ (a _ hZw2) (λ_=>?_)
   try simp only[Act.put]
   refine tK hQ 12 (a _ hZw2) ?_;refine tK hQ 13 (a _ hZw2) ?_;refine tK hQ 14 (a _ hZw2) ?_;refine rO 15 (λK hK=>?_);go_simp;refine hK.out _ _ (a _ (m _ _ hZw2)) (λ_=>?_)
   try simp only[Act.put]
   refine tK hQ 16 (a _ (m _ _ hZw2)) ?_;exact key (b:=w2.heap.size) (by have:=hbw1.size;have:=hsw2.size;simp at this⊢;omega) (m _ _ hZw2) (dM w2 _) (by go_simp) (by go_simp) (by go_simp) (by repeat' (first|refine uS ?_|exact uR)) (by go_simp) kR
  .go_simp;refine hK.out _ _ (n _ (u _ _ hYw1)) (λ_=>?_)
   try simp only[Act.put]
   refine rO 11 (λK hK=>?_);go_simp;go_at_call 163;refine(j _ (u _ _ hYw1)).mono ?_;rintro e w2 ⟨rfl,hZw2,hsw2⟩;refine hK.out _ _ (a _ hZw2) (λ_=>?_)
   try simp only[Act.put]
   refine tK hQ 12 (a _ hZw2) ?_;refine tK hQ 13 (a _ hZw2) ?_;refine tK hQ 14 (a _ hZw2) ?_;refine tK hQ 16 (a _ hZw2) ?_;exact key (b:=w1.heap.size) (by have:=hbw1.size;simpa using this) hZw2 (by rw[hsw2.block _ (by simp) (by have:=hbw1.size;simp at this;omega)];exact dM w1 _) (by go_simp) (by go_simp) (by go_simp) (by repeat' (first|refine uS ?_|exact uR)) (by go_simp) kR
 .go_simp;refine hK.out _ _ (c _ (t _ _ d)) (λ_=>?_)
  try simp only[Act.put]
  refine rO 6 (λK hK=>?_);go_simp;go_at_call 164;refine(i _ (t _ _ d)).mono ?_;rintro e w1 ⟨rfl,hYw1,hbw1⟩;refine hK.out _ _ (n _ hYw1) (λ_=>?_)
  try simp only[Act.put]
  refine rO 11 (λK hK=>?_);go_simp;go_at_call 163;refine(j _ hYw1).mono ?_;rintro e w2 ⟨rfl,hZw2,hsw2⟩;refine hK.out _ _ (a _ hZw2) (λ_=>?_)
  try simp only[Act.put]
  refine tK hQ 12 (a _ hZw2) ?_;refine tK hQ 13 (a _ hZw2) ?_;refine tK hQ 14 (a _ hZw2) ?_;refine tK hQ 16 (a _ hZw2) ?_;exact key (b:=w.heap.size) (cO _) hZw2 (by rw[hsw2.block _ (by have:=hbw1.size;simp at this;omega) (by omega),hbw1.block _ (by simp)];exact dM w.drew _) (by go_simp) (by go_simp) (by go_simp) (by repeat' (first|refine uS ?_|exact uR)) (by go_simp) kR
theorem MO(Q:Exit->Act->World->Prop)(S X:World->Prop)(g h d n y:Nat)(w:World)(a:S w.drew)(f:X w.drew)(hc:∀V,S V->V.cell? (yA d 0)=some (.int .i64 y)/\V.cell? (yA g 0)=some (yP h))(b:Calls prog 62 #[yP h] w.drew λe w'=>e=.returned (.int .i64 n)/\w.drew=w')(c:∀V,X V->∀uB,uP uA uB [66,67,68,69,70,71,72,73] [(73,.bool (decide ((n:Int)<y)))]->Q .normal ⟨uB,uD⟩ V)(hz:uA.size=109:=by rfl)(s0:gD uA 0=(yP g):=by rfl)(s10:gD uA 10=(yP d):=by rfl):(Code.region 9 (rg f93 9) true).wp prog Q ⟨uA,uD⟩ w:=by
 refine rH S 8 a (λR hQ hn=>?_);refine tK hQ 0 a ?_;refine tK hQ 1 a ?_;refine tK hQ 2 a ?_;refine tK hQ 3 a ?_;refine tK hQ 4 a ?_;refine tK hQ 5 a ?_;refine rO 6 (λK hK=>?_);go_simp;go_at_call 62;refine b.mono ?_;rintro e w1 ⟨rfl,rfl⟩;have hX:=f;refine hK.out _ _ a (λ_=>?_)
 try simp only[Act.put]
 refine tK hQ 7 a ?_;exact rD (hn (c _ hX _ uQ))
theorem J0(Q:Exit->Act->World->Prop)(S X:World->Prop)(f g h i j k l m n o:Nat)(w:World)(b:S w.drew)(hc:∀V,S V->V.cell? (yA f 4)=some (.map (some h))/\V.cell? (yA f 5)=some (.map (some i))/\V.cell? (yA f 6)=some (.map (some j))/\V.cell? (yA f 7)=some (.map (some k))/\V.cell? (yA g 5)=some (.map (some l))/\V.cell? (yA g 6)=some (.map (some m))/\V.cell? (yA g 7)=some (.map (some n))/\V.cell? (yA g 8)=some (.map (some o)))(c:Calls prog 166 #[.agg #[.map (some h),.map (some i),.map (some j),.map (some k)],.agg #[.map (some l),.map (some m),.map (some n),.map (some o)]] w.drew λe w'=>e=.returned (.tuple #[])/\S w'/\X w')(d:∀V,X V->∀uB,uP uA uB [85,86,87,88,89,90,91,92,93] []->Q .normal ⟨uB,uD⟩ V)(hz:uA.size=109:=by rfl)(s0:gD uA 0=(yP f):=by rfl)(s6:gD uA 6=(yP g):=by rfl):(Code.region 15 (rg f93 15) true).wp prog Q ⟨uA,uD⟩ w:=by
 refine rH S 9 b (λR hQ hn=>?_);refine tK hQ 0 b ?_;refine tK hQ 1 b ?_;refine tK hQ 2 b ?_;refine tK hQ 3 b ?_;refine tK hQ 4 b ?_;refine tK hQ 5 b ?_;refine tK hQ 6 b ?_;refine tK hQ 7 b ?_;refine rO 8 (λK hK=>?_);go_simp;go_at_call 166;refine c.mono ?_;rintro e w1 ⟨rfl,a,hX⟩;refine hK.out _ _ a (λ_=>?_)
 try simp only[Act.put]
 exact rD (hn (d _ hX _ uQ))
theorem J9(Q:Exit->Act->World->Prop)(g c n:Nat)(sv:Value)(xs:List Value)(C row:Array Value)(rt:TypeId)(w:World)(hb:w.heap[g]?=some (.cells row rt (0,0)))(Z:w.cell? (yA g 3)=some sv)(Y:w.heap[c]?=some (.cells C 133 (0,0)))(hC:C.size=33)(h1:∀u∈C.toList,u.oneCell'=true)(a1:c≠g)(a0:w.ownsRow 0 133 33 sv n xs)(hn:n<=1000000)(o1:sv.ownBlock≠some g)(o2:sv.ownBlock≠some c)(a2:∃a l c,sv=.slice a l c)(X:∀g' c' w',w'.ownsRow 0 133 33 (.slice (yS g' 0) (n+1) c') (n+1) (xs++C.toList)->(w.drew.alloc (.cells C 133)).grownBy w' sv.ownBlock->(some g'=sv.ownBlock\/g'=w.heap.size+1)->∀uB,uP uA uB [94,95,96,97,98,99,100,101,102,103] []->Q .normal ⟨uB,uD⟩ (w'.setCell (yA g 3) (.slice (yS g' 0) (n+1) c')))(hz:uA.size=109:=by rfl)(s0:gD uA 0=(yP g):=by rfl)(s7:gD uA 7=(yP c):=by rfl):(Code.region 16 (rg f93 16) true).wp prog Q ⟨uA,uD⟩ w:=by
 obtain⟨i,z,hi,hz,J,S,F⟩:=Dw;have G:=cm hb;have O:=cm Y;have L:=Mp;have H:(prog.info? 133).map (·.size)=some C.toList.length:=by rw[gf,hC];kernel_rfl
 have k:∀V:World,V.heap[c]?=some (.cells C 133 (0,0))->V.rangeAt c 0 C.toList:=by intro V hV j v hv;rw[nS,cG hV,<-kX];exact hv
 have b:=k w.drew Y;have B:(w.drew.alloc (.cells C 133)).heap[c]?=some (.cells C 133 (0,0)):=by rw[rd _ _ _ (by exact O)];exact Y
 have m:=k _ B;obtain⟨v',w',hr,h2,h3,h4,h5⟩:=Jl (P:=prog) (w.drew.alloc (.cells C 133)) 0 114 114 133 i z 33 48 NX hi hz J S F dE sv n xs (rI a0 _) (yA w.heap.size 0) 1 1 C.toList (by rw[gf];omega)
  (λj u hj=>by
   have e:((yA w.heap.size 0):Addr).add j=(yA w.heap.size j):=by simp[Addr.add];omega
   have I:(w.drew.alloc (.cells C 133)).heap[w.heap.size]?=some (.cells C 133 (0,0)):=dM w.drew _;rw[e,cG I]
   simpa using hj) h1 (by unfold maxLen;omega) oM sI
 obtain⟨g',c',rfl⟩:∃g' c',v'=.slice (yS g' 0) (n+1) c':=by
  obtain⟨-,h|⟨g',A,T,M,-⟩⟩:=h2
  .omega
  .exact⟨g',A,M⟩
 have t:w'.heap[g]?=w.heap[g]?:=by rw[h3.block g (by simp;omega) (λe=>o1 e.symm),rd _ _ _ (by exact G)];rfl
 have U:w'.cell? (yA g 3)=some sv:=by
  have e:w'.cell? (yA g 3)=w.cell? (yA g 3):=by unfold World.cell?;rw[t]
  rw[e];exact Z
 have W:=fH w' g 3 _ _ (t.trans hb);have N:w'.heap[c]?=some (.cells C 133 (0,0)):=by rw[h3.block c (by simp;omega) (λe=>o2 e.symm)];exact B
 have d:=k _ N;have r:(w'.setCell (yA g 3) (.slice (yS g' 0) (n+1) c')).rangeAt c 0 C.toList:=by intro j v hv;rw[P5 _ _ _ _ (λe=>a1 e.symm)];exact d j v hv
 have p:Instr.fill (λj=>some (j*i.size,i.size)) ((Array.range (1*i.size)).map (z.cells[·%z.cells.size]!)) [(0,Value.agg C)]=some C:=by have h:=Ox (s:=i.size) oM [Value.agg C] ((Array.range (1*i.size)).map (z.cells[·%z.cells.size]!)) (by intro v hv;rw[List.mem_singleton.1 hv];show C.size=_;omega) sI;simpa [Value.cells]using h
 have f:∀a:Act,a.eval (.tmp 99)=.agg C->Instr.fill (λj=>some (j*i.size,i.size)) ((Array.range (1*i.size)).map (z.cells[·%z.cells.size]!)) ((#[((0:Nat),Operand.tmp 99)]:Array (Nat×Operand)).map λ(i,x)=>(i,a.eval x)).toList=some C:=λa ha=>by simp only[IW,vj,J6,ha];exact p
 have y:w.drew.cell? (yA g 3)=some sv:=by rw[nZ];exact Z
 have E:(w.drew.alloc (.cells C 133)).cell? (yA g 3)=some sv:=by rw[vY _ _ _ (by rw[y];rfl)];exact y
 obtain⟨wa,o⟩:∃wa,(w.drew.alloc (.cells C 133))=wa:=⟨_,rfl⟩;rw[o]at E m hr
 have q:some g'=sv.ownBlock\/g'=w.heap.size+1:=by
  rcases h5 with e|e
  .exact .inl e
  exact .inr (by simpa [Value.ownBlock]using e)
 refine rH (λV=>V.rangeAt c 0 C.toList) 11 b (λR hQ D=>?_);refine tK hQ 0 b ?_;refine tK hQ 1 b ?_;refine tK hQ 2 b ?_;refine tK hQ 3 b ?_;refine tM hQ 5 c 0 C (λV hV=>hV) L H b ?_;obtain⟨sa,sl,sc,rfl⟩:=a2;refine rG 4 6 (λK hK=>?_) (λK hK=>?_)
 .go_simp;refine hK.out _ _ b (λ_=>?_)
  try simp only[Act.put]
  refine rW 6 (λK hK=>?_);refine JS 114 133 1 _ rfl C i z NX hi hz oM oM (f _ (by rw[A7];go_simp)) ?_;rw[o];refine hK.out _ _ m (λ_=>?_)
  try simp only[Act.put]
  refine rB 7 hr d ?_;refine tK hQ 8 d ?_;refine tK hQ 9 d ?_;refine rO 10 (λK hK=>?_);go_simp;refine hK.out _ _ r (λ_=>?_)
  try simp only[Act.put]
  exact rD (D (X g' c' w' h2 h3 q _ uQ))
 .refine JS 114 133 1 _ rfl C i z NX hi hz oM oM (f _ (by rw[A7];go_simp)) ?_;rw[o];refine hK.out _ _ m (λ_=>?_)
  try simp only[Act.put]
  refine rO 4 (λK hK=>?_);go_simp;refine hK.out _ _ m (λ_=>?_)
  try simp only[Act.put]
  refine rB 7 hr d ?_;refine tK hQ 8 d ?_;refine tK hQ 9 d ?_;refine rO 10 (λK hK=>?_);go_simp;refine hK.out _ _ r (λ_=>?_)
  try simp only[Act.put]
  exact rD (D (X g' c' w' h2 h3 q _ uQ))
end
end Go.Proofs.YtapijhhmjjplmaaGreatDoor

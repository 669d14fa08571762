import Derived.Test.YtapijhhmjjplmaaGreatDoorJonce39
namespace Go.Proofs.YtapijhhmjjplmaaGreatDoor
set_option linter.all false
set_option maxRecDepth 100000
set_option maxHeartbeats 4000000
open Go.Proofs.Tryz
variable {br:Bool}{label:ByteArray}{d:cX}{M:fm}{ba bd m rb a0 a1 a2 a3 n B:Nat}{S Sd:Nat→Prop}{T:cS}{v:Value}{w w1 w2:World}
section
open Go.RowKit Go.Maps
theorem oT.below(h:oT w S Sd ba bd m rb a0 a1 a2 a3 br M T d w1)(b:Below w1.heap.size w1 w2):oT w S Sd ba bd m rb a0 a1 a2 a3 br M T d w2:=by
 obtain⟨h1,S',a,sv,m',h2,h3,h4,h5,h6,h7⟩:=h;have hz:=b.size;exact⟨h1.trans (cq.of_below b),S',a,sv,m',λq hq=>⟨(h2 q hq).1,by have:=(h2 q hq).2;omega⟩,λq hq=>⟨(h3 q hq).1,by have:=(h3 q hq).2;omega⟩,h4,h5,h6.on (T:=λ_=>False) (cq.of_below b) (λ_ _ h=>h),h7.on (U:=λ_=>False) (cq.of_below b) (λ_ _ h=>h)⟩
def G5(w:World)(S Sd:Nat->Prop)(ba bd m n rb a0 a1 a2 a3:Nat)(M:fm)(T:cS)(label:ByteArray)(d:cX)(e:Ending)(w':World):Prop:=
 (20<label.size/\e=.returned (.tuple #[.int .i64 0,.int .i64 11])/\Below w.heap.size w w')\/
 (label.size<=20/\n<(snapF T M label).at_/\e=.returned (.tuple #[.int .i64 0,.int .i64 12])/\oT w S Sd ba bd m rb a0 a1 a2 a3 false M T d w')\/
 (label.size<=20/\(snapF T M label).at_<=n/\e=.returned (.tuple #[.int .i64 ((M.infos.length:Int)+1),.int .i64 0])/\oT w S Sd ba bd m rb a0 a1 a2 a3 false (gz T M label) T (gc T M label d).1 w')
theorem G5.below{e:Ending}(h:G5 w S Sd ba bd m n rb a0 a1 a2 a3 M T label d e w1)(hz:w.heap.size<=w1.heap.size)(a:Below w1.heap.size w1 w2):G5 w S Sd ba bd m n rb a0 a1 a2 a3 M T label d e w2:=by
 rcases h with⟨h1,h2,h3⟩|⟨h1,h2,h3,h4⟩|⟨h1,h2,h3,h4⟩
 .exact .inl ⟨h1,h2,h3.trans (a.mono hz)⟩
 .exact .inr (.inl ⟨h1,h2,h3,h4.below a⟩)
 exact .inr (.inr ⟨h1,h2,h3,h4.below a⟩)
theorem BQ(w0:World)(a:Nat->Addr)(q:jm w0 a)(w:World)(S Sd:Nat->Prop)(ba bd N m n rb a0 a1 a2 a3:Nat)(r:Value)(M:fm)(T:cS)(d:cX)(label:ByteArray)(h:sP w S Sd ba bd N m n rb a0 a1 a2 a3 r M T d (a 10) (a 11))(o:label.size<=300000)(p:Below w0.heap.size w0 w)(s:∀g,(S g\/Sd g)->w0.heap.size<=g):
  Calls prog 50 #[yP ba,.string label] w λe w'=>G5 w S Sd ba bd m n rb a0 a1 a2 a3 M T label d e w':=by
 have i:Hid (∀c w',c<=12->cq (λg=>S g\/Sd g) w w'->Calls prog 43 #[fg a c] w' λe j=>e=.returned (.tuple #[.int .i64 c,.int .i64 (-1)])/\Below w'.heap.size w' j):=λc w' hc hs=>gT c hc a w' (hs.sent q p s)
 have HM:Hid (Calls prog 93 #[yP ba,.string label] w λe w'=>∃(k:Int)(c:Nat),e=.returned (.tuple #[.int .i64 k,fg a c])/\c<=12/\cq (λg=>S g\/Sd g) w w'/\G5 w S Sd ba bd m n rb a0 a1 a2 a3 M T label d (.returned (.tuple #[.int .i64 k,.int .i64 c])) w'):=by
  refine(vt w S Sd ba bd N m n rb a0 a1 a2 a3 r M T d (a 10) (a 11) label h o).mono ?_;rintro e w' (⟨h2,rfl,h4⟩|⟨h2,h3,rfl,h4⟩|⟨h2,h3,rfl,h5⟩)
  .exact⟨0,11,rfl,oM,cq.of_below h4,.inl ⟨h2,rfl,h4⟩⟩
  .exact⟨0,12,rfl,oM,h4.1,.inr (.inl ⟨h2,h3,rfl,h4⟩)⟩
  exact⟨_,0,rfl,oM,h5.1,.inr (.inr ⟨h2,h3,rfl,h5⟩)⟩
 clear h o p s q;go_enter func50,ntmps50
 go_wp2_with fail
 refine HM.mono ?_;rintro e w1 ⟨k,c,rfl,hc,hs,hP⟩;have HN:=Hid.mk' (i c w1 hc hs);have HP:=Hid.mk' hP;have HZ:=hD hs.size;obtain⟨ev,b⟩:=eX (fg a c);rw[<-b]at HN;rw[<-b];clear b hs hP HM i
 go_wp2_with fail
 refine HN.mono ?_;rintro e w2 ⟨rfl,f⟩;have l:=Hid.mk' f;clear f HN
 go_wp2
 refine gh (lB rfl _ _ _) rfl ?_;exact HP.below HZ l
def K2(w:World)(S:Nat->Prop)(bd m n:Nat)(d:cX)(M:fm)(e:Ending)(w':World):Prop:=
 cq S w w'/\∃ba B N rb a0 a1 a2 a3 sv m',e=.returned (.tuple #[yP ba,.int .i64 0])/\w.heap.size<=B/\B<=w'.heap.size/\N<=M.seq/\m'<=m+n/\cD w' (up S B) bd m' d/\gn w' (λg=>w.heap.size<=g/\g<B) ba bd N rb a0 a1 a2 a3 M.at_ (M.seq-1) M.chain sv false M.has M.infos (nP M.has M.infos)
theorem qb(w0:World)(a:Nat->Addr)(u:jm w0 a)(bd m n:Nat)(S:Nat->Prop)(d:cX)(w:World)(h:cD w S bd m d)(k:Below w0.heap.size w0 w)(v:∀g,S g->w0.heap.size<=g)(x:4<=n)(y:n<=4096)(z:d.safe.length=n)(A:d.at 0 oM=iD n)(l:∀s∈df d,s.size=64)(C:iY w S)(D:Up d)(o:d.wait=[])(E:m<=800000)(p:∀g,S g->g<w.heap.size)(G:fm->Prop)(r:G (M0 n))(t:GI (df d) G)(q:GC d (g6 (df d) (M0 n)).has (g6 (df d) (M0 n)).infos)(F:∀i,(g6 (df d) (M0 n)).at_<=i->i<n->(df d)[i]?=some z64):
  Calls prog 26 #[yP bd] w λe w'=>K2 w S bd m n d (g6 (df d) (M0 n)) e w':=by
 obtain⟨M,hM⟩:=eX (g6 (df d) (M0 n));have c:Hid (∀w',cq S w w'->Calls prog 43 #[.nilIface] w' λe f=>e=.returned (.tuple #[.int .i64 0,.int .i64 (-1)])/\Below w'.heap.size w' f):=λw' hs=>gT 0 dE a w' (hs.sent u k v)
 have HM:Hid (Calls prog 45 #[yP bd] w λe w'=>LT w S bd m n d M e w'):=by have hc:=yQ bd m n S d w h x y z A l C D o E p G r t q F;rw[<-hM]at hc;exact hc
 rw[<-hM];clear h k v u x y z A l C D o E p hM q F;go_enter func26,ntmps26
 go_wp2_with fail
 refine HM.mono ?_;rintro e w1 ⟨hs,ba,B,N,rb,a0,a1,a2,a3,sv,m',rfl,r1,r2,r3,r4,r5,r6⟩;have HN:=Hid.mk' (c w1 hs);have HP:Hid (∀w2,Below w1.heap.size w1 w2->K2 w S bd m n d M (.returned (.tuple #[yP ba,.int .i64 0])) w2):=λw2 b=>⟨hs.trans (cq.of_below b),ba,B,N,rb,a0,a1,a2,a3,sv,m',rfl,r1,lZ r2 b.size,r3,r4,r5.on (T:=λ_=>False) (cq.of_below b) (λ_ _ h=>h),r6.on (U:=λ_=>False) (cq.of_below b) (λ_ _ h=>h)⟩
 clear hs r1 r2 r3 r4 r5 r6 HM c
 go_wp2_with fail
 refine HN.mono ?_;rintro e w2 ⟨rfl,b⟩;have j:=Hid.mk' b;clear b HN
 go_wp2
 refine gh (lB rfl _ _ _) rfl ?_;exact HP w2 j
abbrev xG:=ByteArray×Bool×ByteArray
def Ct(x:xG):List Value:=[.string x.1,.bool x.2.1,.string x.2.2]
def gM(L:List xG):List Value:=L.flatMap Ct
theorem uk{α:Type}(f:α->List Value)(k:Nat)(a:∀x,(f x).length=k):∀(l:List α)(i:Nat)(h:i<l.length)(j:Nat),j<k->(l.flatMap f)[i*k+j]?=(f l[i])[j]?
 |p::r,0,_,j,hj=>by rw[Lc,NW,nS,FD (by rw[a];exact hj)];rfl
 |p::r,i+1,h,j,hj=>by
  rw[Lc,F8 (by rw[a,Nat.succ_mul];omega)];have e2:(i+1)*k+j-(f p).length=i*k+j:=by rw[a,Nat.succ_mul];omega
  rw[e2];exact uk f k a r i (by simpa using h) j hj
theorem oB{α:Type}(f:α->List Value)(k:Nat)(a:∀x,(f x).length=k):∀l:List α,(l.flatMap f).length=l.length*k
 |[]=>by simp
 |p::r=>by rw[Lc,ir,a,oB f k a r,mY,Nat.succ_mul];omega
theorem pi(L:List xG)(x:xG):gM (L++[x])=gM L++Ct x:=by unfold gM;rw[LQ];simp
abbrev ew(w:World)(B:Nat)(v:Value)(L:List xG):Prop:=w.ownsRow B 109 3 v L.length (gM L)
theorem ew.open{L:List xG}(h:ew w B v L)(a:0<L.length):
  ∃g cap,v=.slice (yS g 0) L.length cap/\B<=g/\g<w.heap.size/\∀k (hk:k<L.length),w.cell? (yA g (k*3))=some (.string L[k].1)/\w.cell? (yA g (k*3+1))=some (.bool L[k].2.1)/\w.cell? (yA g (k*3+2))=some (.string L[k].2.2):=by
 obtain⟨g,cap,hv,-,hc,-⟩:=eP.open (S:=λ_=>True) ⟨fq h (fP _),λ_ _=>trivial⟩ a;have hb:=cr h g (by rw[hv];rfl);refine⟨g,cap,hv,hb.1,hb.2,λk hk=>?_⟩
 have hj:∀j,j<3->∀u,(Ct L[k])[j]?=some u->w.cell? (yA g (k*3+j))=some u:=λj hj u hu=>by
  have hl:k*3+j<(gM L).length:=by unfold gM;rw[oB Ct 3 (λ_=>rfl)];omega
  have h1:=hc _ hl;have h2:(gM L)[k*3+j]?=(Ct L[k])[j]?:=uk Ct 3 (λ_=>rfl) L k hk j hj;rw[pI hl,hu]at h2;rw[h1,kM h2]
 exact⟨hj 0 oM _ rfl,hj 1 oM _ rfl,hj 2 oM _ rfl⟩
theorem oG:(prog.info? 109).map (λi=>(i.zero,i.size,i.bytes))=some (some (.agg #[.string ⟨#[]⟩,.bool false,.string ⟨#[]⟩]),3,40):=kR
def mD(L:List xG)(s:ByteArray)(r:Int):Prop:=(r= -1/\∀x∈L,x.1≠s)\/∃(i:Nat)(h:i<L.length),r=(i:Int)/\L[i].1=s
theorem o8(B:Nat)(v:Value)(L:List xG)(s:ByteArray)(w:World)(h:ew w B v L)(t:L.length<=100000):
  Calls prog 54 #[v,.string s] w λe w'=>∃r,e=.returned (.int .i64 r)/\mD L s r/\w=w':=by
 obtain⟨ao,cc,rfl⟩:=cQ h;obtain⟨n,hn⟩:=eX (L.length);have HH:=hD h;have HN:=hD hn;rw[<-hn]at t⊢;have q:(n:Int)<=100000:=oM;clear h hn;go_enter func54,ntmps54
 go_wp2
 go_loop [5] (λi=>∃j:Nat,j<=n/\i=.int .i64 j/\Hid (∀x∈L.take j,x.1≠s)) (λi=>n-(intOf i).toNat)
 .exact⟨0,fP _,rfl,λx hx=>(by simp at hx)⟩
 obtain⟨j,hj,rfl,HJ⟩:=hrel;by_cases p:j<n
 .have l:(j:Int)<n:=oM;have c:j<L.length:=by have:=HN.out;omega
  obtain⟨g,o,d,-,-,hc⟩:=ew.open HH oM;have k:ao=some (yA g 0):=by injection d
  subst k;obtain⟨x1,-,-⟩:=hc j c;obtain⟨os,b⟩:=eX (L[j].1);rw[<-b]at x1;have f:=fI os s;by_cases a:os=s
  .rw[jX a]at f;have HE:Hid (mD L s (j:Int)):=.inr ⟨j,c,rfl,by rw[<-b];exact a⟩;clear a b d hc
   go_wp2
   go_ret;exact⟨_,rfl,HE,rfl⟩
  rw[lW a]at f
  have m:Hid (∀x∈L.take (j+1),x.1≠s):=by
   intro x hx;rw[sN c]at hx;rcases List.mem_append.1 hx with hx|hx
   .exact HJ x hx
   simp at hx;rw[hx,<-b];exact a
  clear a b d hc
  go_wp2
  go_round
  .exact⟨j+1,oM,by go_num,m⟩
  exact mS
 have l:¬(j:Int)<n:=oM;have HE:Hid (mD L s (-1)):=.inl ⟨rfl,λx hx=>HJ x (by rw[pK (by have:=HN.out;omega)];exact hx)⟩
 go_wp2
 go_ret;exact⟨_,rfl,HE,rfl⟩
def Dp(L:List xG)(s:ByteArray):List xG:=L.filter λx=>decide (x.1≠s)
theorem G6(L:List xG)(s:ByteArray)(j:Nat)(h:j<L.length):Dp (L.take (j+1)) s=if L[j].1=s then Dp (L.take j) s else Dp (L.take j) s++[L[j]]:=by
 unfold Dp;rw[sN h,OB];by_cases e:L[j].1=s
 .rw[dq e];simp[e]
 rw[dj e];simp[e]
theorem xh(B:Nat)(v:Value)(L:List xG)(i:Nat)(s:ByteArray)(w:World)(h:ew w B v L)(b:L.length<=100000)(a:∀j (hj:j<L.length),L[j].1=s↔j=i):
  Calls prog 55 #[v,.int .i64 i] w λe w'=>∃v',e=.returned v'/\ew w' w.heap.size v' (Dp L s)/\Below w.heap.size w w':=by
 obtain⟨ao,cc,rfl⟩:=cQ h;obtain⟨n,hn⟩:=eX (L.length);have HH:=hD h;have HN:=hD hn;have HI:=hD a;rw[<-hn]at b⊢;have hni:(n:Int)<=100000:=oM;obtain⟨i0,hi0,hz0,hz1,hz2⟩:=Ba oG;have HIE:Hid (prog.info? 109=some i0/\i0.zero=some (.agg #[.string ⟨#[]⟩,.bool false,.string ⟨#[]⟩])/\i0.size=3/\i0.bytes=40):=⟨hi0,hz0,hz1,hz2⟩;clear h hn a hi0 hz0 hz1 hz2;go_enter func55,ntmps55
 go_wp2
 go_loopw [5,6] (λo_ i_ wr=>∃j:Nat,j<=n/\i_=.int .i64 j/\Hid (ew wr w.heap.size o_ (Dp (L.take j) s)/\Below w.heap.size w wr)) (λ_ i_ _=>n-(intOf i_).toNat)
 .exact⟨0,fP _,rfl,⟨rfl,.inl ⟨rfl,rfl⟩⟩,dw _ _⟩
 obtain⟨j,hj,rfl,HJ⟩:=hrel;obtain⟨oo,oc,hov⟩:=cQ HJ.1;subst hov;have hql:(Dp (L.take j) s).length<=100000:=by unfold Dp;refine lZ (KI _ _) ?_;rw[vx];omega
 by_cases hlt:j<n
 .have hji:(j:Int)<n:=oM;have hjn:j<L.length:=by have:=HN.out;omega
  have hst:=G6 L s j hjn;by_cases hij:j=i
  .rw[dq ((HI.out j hjn).2 hij)]at hst;have hb:((j:Int) !=(i:Int))=false:=by rw[QA];omega
   have HST:=Hid.mk' hst;clear hst hij
   go_wp2
   go_roundw
   .exact⟨j+1,oM,by go_num,(by rw[HST.out];exact HJ.1),HJ.2⟩
   exact mS
  rw[dj (λe=>hij ((HI.out j hjn).1 e))]at hst;have hb:((j:Int) !=(i:Int))=true:=by rw[bne_iff_ne];omega
  obtain⟨g,cap,hv',-,hgl,hc⟩:=ew.open HH oM;have hao:ao=some (yA g 0):=by injection hv'
  subst hao;obtain⟨x0,x1,x2⟩:=hc j hjn;obtain⟨⟨xp,xd,xt⟩,hx⟩:∃x,x=L[j]:=⟨_,rfl⟩;rw[<-hx]at x0 x1 x2 hst;have y0:wr.cell? (yA g (j*3))=some (.string xp):=by rw[HJ.out.2.cell hgl];exact x0
  have y1:wr.cell? (yA g (j*3+1))=some (.bool xd):=by rw[HJ.out.2.cell hgl];exact x1
  have y2:wr.cell? (yA g (j*3+2))=some (.string xt):=by rw[HJ.out.2.cell hgl];exact x2
  obtain⟨q,hq⟩:=eX (Dp (L.take j) s);rw[<-hq]at hst HJ hql
  try rw[<-hq]
  obtain⟨qn,hqn⟩:=eX (q.length);rw[<-hqn]at hql
  try rw[<-hqn]
  have HST:=Hid.mk' hst;have HQ:=Hid.mk' hqn;have HO1:Hid (wr.ownsRow w.heap.size 109 3 (.slice oo qn oc) qn (gM q)):=hqn▸HJ.1;have HBW:=Hid.mk' HJ.2;have HF:Hid (∀g9 cap9 W9,W9.ownsRow w.heap.size 109 3 (.slice (yS g9 0) (qn+1) cap9) (qn+1) (gM q++[.string xp,.bool xd,.string xt])->(wr.alloc (.cells #[.string xp,.bool xd,.string xt] 109)).grownBy W9 (Value.ownBlock (.slice oo qn oc))->ew W9 w.heap.size (.slice (yS g9 0) (qn+1) cap9) (Dp (L.take (j+1)) s)/\Below w.heap.size w W9):=by intro g9 cap9 W9 h1 h2;refine⟨?_,(HBW.alloc HBW.size _).grown h2 (by have:=HBW.size;simp;omega) (λq hq=>(cr HO1 q hq).1)⟩;rw[HST.out];show W9.ownsRow w.heap.size _ 3 _ (q++[(xp,xd,xt)]).length (gM (q++[(xp,xd,xt)]));rw[pi,ir,<-HQ.out];exact h1
  have hqi:(qn:Int)<=100000:=oM;clear hst hij hv' hc hx x0 x1 x2 hq hqn HJ
  go_wp2_with (at_builtin;refine F0 _ rfl (.tmp 16) (.tmp 21) 32 rfl w.heap.size 109 i0 (.agg #[.string ⟨#[]⟩,.bool false,.string ⟨#[]⟩]) 3 40 NV HIE.1 HIE.2.1 HIE.2.2.1 HIE.2.2.2 rfl dE (.slice oo qn oc) qn (gM q) rfl (rI (w:=wr) HO1 _) (yA wr.heap.size 0) 1 1 [.string xp,.bool xd,.string xt] rfl rfl (λj u hj=>ip wr _ _ _ _ j u hj) (by intro u hu;simp at hu;rcases hu with rfl|rfl|rfl<;>rfl) dE (by unfold maxLen;omega) oM (by have:=HBW.size;simp;omega) (wr.heap.size+1) sI ?_;intro g9 cap9 W9 hown9 hgrow9 hat9 hlt9;have HN9:=Hid.mk' (HF g9 cap9 W9 hown9 hgrow9);clear hown9 hgrow9 hat9 hlt9)
  go_roundw
  .exact⟨j+1,oM,by go_num,HN9⟩
  exact mS
 have hji:¬(j:Int)<n:=oM;have HE:Hid (ew wr w.heap.size (.slice oo (Dp (L.take j) s).length oc) (Dp L s)/\Below w.heap.size w wr):=by have:=HJ;rw[pK (by have:=HN.out;omega)]at this⊢;exact this
 clear HJ
 go_wp2
 go_ret;exact⟨_,rfl,HE⟩
def tQ(K L:List xG):Prop:=K.length=L.length/\∀x∈K,x∈L
def OH(w:World)(K L:List xG)(e:Ending)(w':World):Prop:=∃r,e=.returned (.bool r)/\(r=true->tQ K L)/\Below w.heap.size w w'
theorem JW(B C:Nat)(v u:Value)(K L:List xG)(w:World)(h:ew w B v K)(W:ew w C u L)(Y:K.length<=100000)(X:L.length<=100000):
  Calls prog 37 #[v,u] w λe w'=>OH w K L e w':=by
 obtain⟨ao,cc,rfl⟩:=cQ h;obtain⟨bo,dc,rfl⟩:=cQ W;obtain⟨n,hn⟩:=eX (K.length);obtain⟨m,hm⟩:=eX (L.length);have HK:Hid (∀V,Below w.heap.size w V->ew V B (.slice ao n cc) K):=λV hb=>hn▸cI h (λg hg=>hb.block _ (cr h g hg).2)
 have HL:Hid (∀V,Below w.heap.size w V->ew V C (.slice bo m dc) L):=λV hb=>hm▸cI W (λg hg=>hb.block _ (cr W g hg).2)
 have HN:Hid (n=K.length/\m=L.length):=⟨hn,hm⟩;rw[<-hn]at Y⊢;rw[<-hm]at X⊢;have T:(n:Int)<=100000:=oM;have P:(m:Int)<=100000:=oM;have G:Hid (∀V s,Below w.heap.size w V->Calls prog 54 #[.slice bo m dc,.string s] V λe w'=>∃r,e=.returned (.int .i64 r)/\mD L s r/\V=w'):=λV s hb=>o8 C _ L s V (HL V hb) oM
 clear h W hn hm;by_cases l:n=m
 .have I:((n:Int) !=(m:Int))=false:=by rw[QA];omega
  have F:=Hid.mk' l;clear l;go_enter func37,ntmps37
  go_wp2
  go_loopw [5] (λi_ wr=>∃j:Nat,j<=n/\i_=.int .i64 j/\Hid (Below w.heap.size w wr/\∀x∈K.take j,x∈L)) (λi_ _=>n-(intOf i_).toNat)
  .exact⟨0,fP _,rfl,dw _ _,λx hx=>(by simp at hx)⟩
  obtain⟨j,hj,rfl,HJ⟩:=hrel;by_cases S:j<n
  .have A:(j:Int)<n:=oM;have p:j<K.length:=by have:=HN.1;omega
   obtain⟨g,O,q,-,-,hc⟩:=ew.open (HK wr HJ.1) oM;have D:ao=some (yA g 0):=by injection q
   subst D;obtain⟨x0,x1,x2⟩:=hc j p;obtain⟨⟨xp,xd,xt⟩,hx⟩:∃x,x=K[j]:=⟨_,rfl⟩;rw[<-hx]at x0 x1 x2;have o:=Hid.mk' (G wr xp HJ.1);have HX:=Hid.mk' hx;clear q hc hx
   go_wp2_with fail
   refine o.mono ?_;rintro e w3 ⟨r,rfl,hr,rfl⟩;clear o;rcases hr with⟨rfl,-⟩|⟨i,z,rfl,b⟩
   .have hd:decide ((-1:Int)<0)=true:=dE;have HB:=Hid.mk' HJ.1;clear HJ x0 x1 x2;go_upto_region 7 with fail
    go_quiet (fail)
    go_wp2
    go_ret;exact⟨false,rfl,λh=>(by cases h),cR HB _⟩
   have hd:decide ((i:Int)<0)=false:=lW oM;have U:i<m:=by rw[HN.out.2];exact z
   have Q:(i:Int)<m:=oM;obtain⟨g2,N,c,-,-,d⟩:=ew.open (HL wr HJ.1) oM;have J:bo=some (yA g2 0):=by injection c
   subst J;obtain⟨y0,y1,y2⟩:=d i z;obtain⟨⟨yp,yd,yt⟩,hy⟩:∃y,y=L[i]:=⟨_,rfl⟩;rw[<-hy]at y0 y1 y2 b;have H:=b;subst H;have E:=fI yp yp;rw[jX rfl]at E;have f:=fI yt xt;have HY:Hid ((yp,yd,yt)∈L):=hy▸mX _;have HB:=Hid.mk' HJ.1;by_cases a:yd=xd
   .subst a;by_cases k:yt=xt
    .subst k;rw[jX rfl]at f
     have M:Hid (∀x∈K.take (j+1),x∈L):=by
      intro x hx;rw[sN p]at hx;rcases List.mem_append.1 hx with hx|hx
      .exact HJ.2 x hx
      simp at hx;rw[hx,<-HX.out];exact HY
     clear HJ c d hy b;go_upto_region 7 with fail
     go_quiet (fail)
     go_wp2
     go_roundw
     .exact⟨j+1,oM,by go_num,cR HB _,M⟩
     exact mS
    rw[lW k]at f;clear HJ c d hy b k;go_upto_region 7 with fail
    go_quiet (fail)
    go_wp2
    go_ret;exact⟨false,rfl,λh=>(by cases h),cR HB _⟩
   have t:(yd==xd)=false:=by cases yd<;>cases xd<;>simp_all
   clear HJ c d hy b;cases yd<;>cases xd
   .exact absurd rfl a
   .clear a t;go_upto_region 7 with fail
    go_quiet (fail)
    go_wp2
    go_ret;exact⟨false,rfl,λh=>(by cases h),cR HB _⟩
   .clear a t;go_upto_region 7 with fail
    go_quiet (fail)
    go_wp2
    go_ret;exact⟨false,rfl,λh=>(by cases h),cR HB _⟩
   exact absurd rfl a
  have A:¬(j:Int)<n:=oM;have HE:Hid (tQ K L/\Below w.heap.size w wr):=⟨⟨by rw[<-HN.out.1,<-HN.out.2,F.out],λx hx=>HJ.2 x (by rw[pK (by have:=HN.out.1;omega)];exact hx)⟩,HJ.1⟩
  go_wp2
  go_ret;exact⟨true,rfl,λ_=>HE.1,HE.2⟩
 have I:((n:Int) !=(m:Int))=true:=by rw[bne_iff_ne];omega
 clear l;go_enter func37,ntmps37
 go_wp2
 go_ret;exact⟨false,rfl,λh=>(by cases h),dw _ _⟩
theorem BD(w:World)(a b c d:Nat):(convert 134 9 (.slice (yS w.heap.size 0) 4 4)).run prog (w.alloc (.cells #[.int .u8 (a%256:Nat),.int .u8 (b%256:Nat),.int .u8 (c%256:Nat),.int .u8 (d%256:Nat)] 5))=.ok (.string ⟨#[UInt8.ofNat (a%256),UInt8.ofNat (b%256),UInt8.ofNat (c%256),UInt8.ofNat (d%256)]⟩) (w.alloc (.cells #[.int .u8 (a%256:Nat),.int .u8 (b%256:Nat),.int .u8 (c%256:Nat),.int .u8 (d%256:Nat)] 5)):=by
 refine KH (P:=prog) _ 134 9 5 (yA w.heap.size 0) 4 [UInt8.ofNat (a%256),UInt8.ofNat (b%256),UInt8.ofNat (c%256),UInt8.ofNat (d%256)] yE I0 xV ?_;have hb:∀m:Nat,(UInt8.ofNat (m%256)).toNat=m%256:=λm=>by rw[MJ];omega
 have e:=dM w (.cells #[.int .u8 (a%256:Nat),.int .u8 (b%256:Nat),.int .u8 (c%256:Nat),.int .u8 (d%256:Nat)] 5);intro j hj
 match j,hj with
 |0,_=>rw[show((yA w.heap.size 0):Addr).add 0=(yA w.heap.size 0) from by simp[Addr.add],cG e];simp[hb]
 |1,_=>rw[show((yA w.heap.size 0):Addr).add 1=(yA w.heap.size 1) from by simp[Addr.add],cG e];simp[hb]
 |2,_=>rw[show((yA w.heap.size 0):Addr).add 2=(yA w.heap.size 2) from by simp[Addr.add],cG e];simp[hb]
 |3,_=>rw[show((yA w.heap.size 0):Addr).add 3=(yA w.heap.size 3) from by simp[Addr.add],cG e];simp[hb]
theorem M6(n:Nat)(w:World)(m:n<=1000000):Calls prog 95 #[.int .i64 n] w λe w'=>e=.returned (.string (fb n))/\Below w.heap.size w w':=by
 have g:=BD w (n/16777216) (n/65536) (n/256) n;have h:(⟨#[UInt8.ofNat (n/16777216%256),UInt8.ofNat (n/65536%256),UInt8.ofNat (n/256%256),UInt8.ofNat (n%256)]⟩:ByteArray)=fb n:=rfl;rw[h]at g;clear h;obtain⟨f,hf⟩:=eX (fb n);rw[<-hf]at g⊢;obtain⟨a,ha⟩:=eX (n/16777216%256);obtain⟨b,hb⟩:=eX (n/65536%256);obtain⟨c,hc⟩:=eX (n/256%256);obtain⟨d,hd⟩:=eX (n%256);have e1:IntKind.u8.wrap (Int.tdiv (n:Int) 16777216)=(a:Int):=by rw[Iz,OT (by omega)];omega
 have e2:IntKind.u8.wrap (Int.tdiv (n:Int) 65536)=(b:Int):=by rw[Iz,OT (by omega)];omega
 have e3:IntKind.u8.wrap (Int.tdiv (n:Int) 256)=(c:Int):=by rw[Iz,OT (by omega)];omega
 have i:IntKind.u8.wrap ((n:Int)/16777216)=(a:Int):=by rw[Iz];omega
 have l:IntKind.u8.wrap ((n:Int)/65536)=(b:Int):=by rw[Iz];omega
 have k:IntKind.u8.wrap ((n:Int)/256)=(c:Int):=by rw[Iz];omega
 have e4:IntKind.u8.wrap (n:Int)=(d:Int):=by rw[Iz];omega
 have j:(n:Int)<=1000000:=oM;rw[<-ha,<-hb,<-hc,<-hd]at g;clear hf ha hb hc hd m;go_enter func95,ntmps95
 go_wp2
 go_ret;exact⟨rfl,(dw _ w).alloc (cO _) _⟩
end
end Go.Proofs.YtapijhhmjjplmaaGreatDoor

import Derived.Test.YtapijhhmjjplmaaGreatDoorJonce19
namespace Go.Proofs.YtapijhhmjjplmaaGreatDoor
set_option linter.all false
set_option maxRecDepth 100000
set_option maxHeartbeats 4000000
open Go.Proofs.Tryz
variable {R ys:Array Value}{f:ByteArray→Option Value}{l:List ByteArray}{nb mb nb' mb':List ByteArray→Nat}{has:List Ob}{ba rb code b N a0 a1 a2 a3:Nat}{a:Nat→Addr}{S U:Nat→Prop}{P:Program}{T T':cS}{ty ty' e:TypeId}{w w' w1 w2 w3 w0 V:World}
section
open Go.RowKit Go.Maps
structure mP (w:World) (S:Nat->Prop) (ba:Nat) (bd:Array Value) (R:Array Value) (rb:Nat) (nb mb:List ByteArray->Nat) (T:cS):Prop where
 blk:w.heap[ba]?=some (.cells R 129 (0,0))
 sb:S ba
 r0:R.setIfInBounds 2 .nilIface=bd.setIfInBounds 2 .nilIface
 r1:R[1]?=some (eM rb)
 r2:R[2]?=some (.int .i64 T.length)
 tree:dC w (λg=>S g/\g≠ba) rb T nb mb
def gd(w:World)(S:Nat->Prop)(ba:Nat)(bd:Array Value)(T:cS):Prop:=∃R rb nb mb,mP w S ba bd R rb nb mb T
theorem mP.on{b:Array Value}(h:mP w S ba b R rb nb mb T)(c:cq U w w')(d:∀g,S g->¬U g):mP w' S ba b R rb nb mb T:=
 ⟨by rw[c.block ba (cm h.blk) (d ba h.sb)];exact h.blk,h.sb,h.r0,h.r1,h.r2,h.tree.on c (λg hg=>d g hg.1)⟩
theorem gd.on{b:Array Value}(h:gd w S ba b T)(c:cq U w w')(d:∀g,S g->¬U g):gd w' S ba b T:=by
 obtain⟨R,rb,nb,mb,h⟩:=h;exact⟨R,rb,nb,mb,h.on c d⟩
theorem gd.mono{b:Array Value}(h:gd w S ba b T)(c:∀g,S g->U g):gd w U ba b T:=by
 obtain⟨R,rb,nb,mb,h⟩:=h;exact⟨R,rb,nb,mb,h.blk,c _ h.sb,h.r0,h.r1,h.r2,h.tree.mono (λg hg=>⟨c g hg.1,hg.2⟩)⟩
theorem mP.c1{b:Array Value}(h:mP w S ba b R rb nb mb T):w.cell? (yA ba 1)=some (eM rb):=by rw[cG h.blk];exact h.r1
theorem mP.c2{b:Array Value}(h:mP w S ba b R rb nb mb T):w.cell? (yA ba 2)=some (.int .i64 T.length):=by rw[cG h.blk];exact h.r2
def fk(w:World)(a:Nat->Addr)(S:Nat->Prop)(ba:Nat)(bd:Array Value)(T:cS)(code:Nat)(e:Ending)(w':World):Prop:=e=.returned (fg a code)/\gd w' (λg=>S g\/w.heap.size<=g) ba bd T/\cq S w w'
theorem fk.refused{b:Array Value}(h:gd w S ba b T)(c:Below w.heap.size w w'):fk w a S ba b T code (.returned (fg a code)) w':=
 ⟨rfl,(h.on (U:=λ_=>False) (cN c) (λ_ _ h=>h)).mono (λ_ h=>.inl h),cN c⟩
theorem mP.count{c:Array Value}(b:w.heap[ba]?=some (.cells R 129 (0,0)))(e:U ba)(f:R.setIfInBounds 2 .nilIface=c.setIfInBounds 2 .nilIface)(i:R[1]?=some (eM rb))(d:R[2]?=some (.int .i64 T.length))(j:dC w (λg=>U g/\g≠ba) rb T' nb' mb')(n:Int)(k:n=(T'.length:Int)):mP (w.setCell (yA ba 2) (.int .i64 n)) U ba c (R.setIfInBounds 2 (.int .i64 n)) rb nb' mb' T':=by
 have hs:cq (·=ba) w (w.setCell (yA ba 2) (.int .i64 n)):=cq.setCell (S:=(·=ba)) (cq.refl _ w) (yA ba 2) rfl _
 have h2:2<R.size:=by
  rcases Fc 2 R.size with h|h
  .exact h
  rw[Pj h]at d;cases d
 refine⟨gE w ba 2 _ _ _ b,e,?_,?_,?_,j.on hs (λg hg=>hg.2)⟩
 .rw[Rh];exact f
 .rw[wU];exact i
 rw[wU,dq rfl,dq h2,k]
theorem gd.more{C:Array Value}(h:mP w S ba C R rb nb mb T)(E:eN T)(F:l≠[])(G:cA T l=none)(v:dD T l=0)(x:pp)(y:x.names=l)(b s:Nat)(D:DataW Value)(z:eN (T++[x]))(A:∀g,S g->g<w.heap.size)(r:Below w.heap.size w w1)(q:cq (λ_=>False) w1 w2)(H:w1.heap.size<=b/\b<w2.heap.size)(B:x.dir=true->w1.heap.size<=s/\s<w2.heap.size/\s≠b/\w2.ownsMap prog 9 cY s 0 (.map []))(t:w2.heap[b]?=some (.cells #[.string x.data,.map (if x.dir then some s else none)] 274 (0,0)))(I:w1.ownsMap prog 9 cY (mb l.dropLast) 256 D)(u:GM w2 w3 (mb l.dropLast) D (eF l) b):
  gd (w3.setCell (yA ba 2) (.int .i64 ((T.length:Int)+1))) (λg=>S g\/w.heap.size<=g) ba C (T++[x])/\cq S w (w3.setCell (yA ba 2) (.int .i64 ((T.length:Int)+1))):=by
 obtain⟨hq,d,-⟩:=lR v;have h1:=h.on (U:=λ_=>False) (cN r) (λ_ _ h=>h);have hz:=r.size;have p:=A ba h.sb;have i:=h.tree.sm _ hq d
 have a:=h1.tree.more (U:=λg=>(S g\/w.heap.size<=g)/\g≠ba) E F G hq d x y b s z q H B t u.same (λg hg=>⟨.inl hg.1,hg.2⟩) (λg hg=>⟨.inr oM,oM⟩) (λD' n=>by
  have e:D'=D:=by obtain⟨es,c,e1,-,-,e2⟩:=n;obtain⟨o,c',f,-,-,k⟩:=I;rw[q.block _ (cm f) (λh=>h),f]at e1;cases e1;rw[e2,k]
  rw[e]
  exact u.own)
 have m:ba≠mb l.dropLast:=λe=>i.2 e.symm
 have j:w3.heap[ba]?=some (.cells R 129 (0,0)):=by rw[u.same.block ba (by have:=q.size;omega) m,q.block ba (by omega) (λh=>h)];exact h1.blk
 refine⟨⟨_,_,_,_,mP.count j (.inl h.sb) h.r0 h.r1 h.r2 a _ sI⟩,?_⟩;refine cq.setCell ?_ (yA ba 2) h.sb _;have s1:cq S w w1:=cN r;have s2:cq S w1 w2:=q.weak (λ_ h=>h.elim);exact(s1.trans s2).trans (u.same.weak (by rintro g rfl;exact i.1))
theorem kH(b:l≠[]):l.dropLast++[eF l]=l:=ie b
theorem Bc(ba:Nat)(bd:Array Value)(S:Nat->Prop)(T:cS)(a:Nat->Addr)(m:Int)(s:ByteArray)(w:World)(h:gd w S ba bd T)(hT:eN T)(aa:∀g,S g->g<w.heap.size)(hV:eS w a m)(hs:s.size<=262144):
  Calls prog 88 #[.pointer (yS ba 1),.string s] w λe w'=>fk w a S ba bd (dz T (ff T) s) (da (eY T) s) e w':=by
 have HA:=hD h;obtain⟨R,rb,nb,mb,h⟩:=h;have HH:=hD h;have HT:=hD hT;have a6:=hD aa;have HP:=hD (px ba _ rb T nb mb a m s w h.tree hT h.c1 hV hs);have a8:Hid (∀w',Below w.heap.size w w'->eS w' a m/\mP w' S ba bd R rb nb mb T):=λw' hb=>⟨hV.on hb,h.on (U:=λ_=>False) (cN hb) (λ_ _ h=>h)⟩
 obtain⟨a7,r⟩:∃c,c=da (eY T) s:=⟨_,rfl⟩;obtain⟨T2,L⟩:∃t,t=dz T (ff T) s:=⟨_,rfl⟩;rw[<-r,<-L];have HX:Hid (a7=da (eY T) s/\T2=dz T (ff T) s):=⟨r,L⟩;clear h hT r L hV aa;go_enter func88,ntmps88
 go_wp2_with fail
 refine HP.mono ?_;rintro e w1 ⟨dv,nm,rfl,A,⟨G,rfl,rfl⟩|⟨l,hl,h0,z,rfl,rfl⟩⟩
 .have p:=hD A;obtain⟨e1,e2⟩:=Bu G;have HZ:=jk HX.1 HX.2 e1 e2;obtain⟨c,hc⟩:=eX (da (dD T) s);rw[<-hc]at G HZ⊢;have i:fg a c=rv (a (c-1)):=by unfold fg;rw[dj G]
  rw[i];obtain⟨ad,y⟩:=eX (a (c-1));rw[<-y]at i⊢;have O:=hD i;clear A G e1 e2 hc i y
  go_wp2
  go_ret;rw[HZ.out.1,HZ.out.2];show fk _ _ _ _ _ _ _ (.returned (rv ad)) _;rw[<-O.out];exact fk.refused HA p
 have p:=hD A;have a1:da (dD T) s=0:=by rw[ee hl h0];exact z
 rw[a1,show fg a 0=.nilIface from rfl];obtain⟨M,Q⟩:=Gk hl h0 z;obtain⟨N,I⟩:=a8 w1 A;obtain⟨hq,F,-⟩:=lR z;obtain⟨D,hD,hK⟩:=I.tree.map _ hq F;have C:=I.tree.node _ hq;rw[iK F]at C;have c1:w1.cell? ⟨nb l.dropLast,1,none⟩=some (.map (some (mb l.dropLast))):=cG C;have X:(eF l).size<=16:=(io ((dR hl).1 _ (oA h0))).2;have a9:=N.sent.v7;have HD:Hid (w1.ownsMap prog 9 cY (mb l.dropLast) 256 D):=hD;have HK:Hid (jr T nb l.dropLast D):=hK;have d:Hid (∀w2,cq (λ_=>False) w1 w2->∀b,Calls prog 154 #[.pointer (yS ba 1),eM (nb l.dropLast),.string (eF l),eM b] w2 λe w'=>xw w2 a ba (mb l.dropLast) T l.dropLast D (eF l) b e w'):=λw2 f b=>by have J:=I.on f (λ_ _ h=>h);have a3:Below w1.heap.size w1 w2:=⟨f.os,f.tape,f.output,f.size,λk hk=>f.block k hk (λh=>h)⟩;exact zL ba _ rb T nb mb a l.dropLast (eF l) b D w2 J.tree HT hq F (dg hD (f.block _ (dN hD) (λh=>h))) hK oM J.c2 (fH _ _ _ _ _ J.blk) (λh=>h.2 rfl) (N.on a3).sent.v9
 have j:cA T (l.dropLast++[eF l])=cA T l:=by rw[kH h0]
 have a4:Hid (l≠[]/\dD T l=0/\cZ s=some l):=⟨h0,z,hl⟩;obtain⟨q,H⟩:=eX (l.dropLast);obtain⟨nm,E⟩:=eX (eF l);have HQ:Hid (q=l.dropLast/\nm=eF l):=⟨H,E⟩;rw[<-H]at c1 HD HK d j;rw[<-E]at X d j;rw[<-H,<-E];obtain⟨bq,K⟩:=eX (nb q);have V:eM (nb q)=(yP bq):=by rw[K];rfl
 rw[<-K]at c1;rw[V]at d⊢;obtain⟨bm,P⟩:=eX (mb q);have Z:Hid (bm=mb q):=P;rw[<-P]at c1 HD d;clear A hl h0 z a1 I hD hK C H E K V P hq F N
 cases hx:cA T l with
 |some x=>
  obtain⟨e1,e2⟩:=M (by rw[hx];rfl);have HZ:=jk HX.1 HX.2 e1 e2;have u:Hid ((cA T (q++[nm])).isSome=true/\∃v,(if(cA T (q++[nm])).isSome then eM (nb (q++[nm]))else Value.pointer none)=.pointer v):=⟨by rw[j,hx];rfl,by rw[j,hx];exact⟨_,rfl⟩⟩;obtain⟨pv,Y⟩:=u.2;have a5:=hD Y;clear M Q e1 e2 hx j d Y
  go_wp2_with (at_lookup;refine dH rfl _ _ rfl bm 256 D T nb q HK rfl HD nm rfl oM _ _ a5 u.1 ?_)
  go_ret;rw[HZ.out.1,HZ.out.2];exact fk.refused (code:=8) HA p
 |none=>
  obtain⟨e1,e2⟩:=Q hx;have HZ:=jk HX.1 HX.2 e1 e2;have u:Hid ((cA T (q++[nm])).isSome=false/\(if(cA T (q++[nm])).isSome then eM (nb (q++[nm]))else Value.pointer none)=.pointer none):=⟨by rw[j,hx];rfl,by rw[j,hx];rfl⟩;have HN:=hD hx;have W:=hD (oj w1);obtain⟨W2,o⟩:=eX ((w1.alloc (.map #[] 0)).alloc (.cells #[.string ⟨#[]⟩,.map (some w1.heap.size)] 274));rw[<-o]at W;have f:cq (λ_=>False) w1 W2:=by rw[o];exact(cq.alloc0 w1 _).alloc _
  have a0:=hD (d W2 f (w1.heap.size+1))
  have n:Hid (cq (λ_=>False) w1 W2/\W2.heap.size=w1.heap.size+2/\W2.heap[w1.heap.size+1]?=some (.cells #[.string ⟨#[]⟩,.map (some w1.heap.size)] 274 (0,0))/\W2.ownsMap prog 9 cY w1.heap.size 0 (.map [])):=by
   refine⟨f,by rw[o];simp,?_,?_⟩
   .rw[o];have:=dM (w1.alloc (.map #[] 0)) (.cells #[.string ⟨#[]⟩,.map (some w1.heap.size)] 274);simpa using this
   rw[o];exact(PS w1 prog 9 cY).alloc _
  clear M Q e1 e2 hx j d f o
  go_wp2_with (first|(at_lookup;refine dH rfl _ _ rfl bm 256 D T nb q HK rfl HD nm rfl oM _ _ u.2 u.1 ?_)|(go_at_call 155;refine W.mono ?_;rintro e w2 ⟨rfl,rfl⟩))
  refine a0.mono ?_;rintro e w3 (⟨hf,rfl,rfl⟩|⟨hf,rfl,w3',hj,rfl⟩)
  .rw[<-HQ.out.1,hf]at HZ;obtain⟨ad,y⟩:=eX (a 9);have i:fg a 10=rv ad:=by rw[y];rfl
   rw[i];have O:=hD i;clear hf i y
   go_wp2
   go_ret;rw[HZ.out.1,HZ.out.2];show fk _ _ _ _ _ _ 10 (.returned (rv ad)) _;rw[<-O.out];refine fk.refused HA (p.trans ?_);exact Below.mono (B:=w1.heap.size) ⟨n.1.os,n.1.tape,n.1.output,n.1.size,λk hk=>n.1.block k hk (λh=>h)⟩ p.size
  rw[<-HQ.out.1,hf]at HZ
  have HF:Hid (fk w a S ba bd (T++[⟨l,true,⟨#[]⟩⟩]) 0 (.returned .nilIface) (w3'.setCell (yA ba 2) (.int .i64 ((T.length:Int)+1)))):=by
   obtain⟨s1,s2,s3,s4⟩:=n;obtain⟨l0,l1,l2⟩:=a4;have a2:fZ T l.dropLast=false:=by rw[<-HQ.out.1];exact hf
   have hm:=gd.more HH HT l0 HN l1 ⟨l,true,⟨#[]⟩⟩ rfl (w1.heap.size+1) w1.heap.size D (HT.append (dR l2).1 (dR l2).2 l0 l1 HN a2 true ⟨#[]⟩ (λ_=>rfl) dE) a6 p s1 ⟨oM,oM⟩ (λ_=>⟨oM,oM,oM,s4⟩) s3 (by rw[<-HQ.out.1,<-Z.out];exact HD) (by rw[<-HQ.out.1,<-HQ.out.2,<-Z.out];exact hj);exact⟨rfl,hm.1,hm.2⟩
  clear hf hj
  go_wp2
  go_ret;rw[HZ.out.1,HZ.out.2];exact HF
theorem yZ(s:ByteArray)(h:s.size=64):s.extract 0 64=s:=by
 apply Pf;rw[O1];have:s.data.size=64:=h;rw[<-this];simp
def lh(n:Nat)(b:Bool):List ByteArray:=(if b then iD n else z64)::List.replicate (n-1) z64
def d0(n:Nat)(b:Bool):cX:=⟨lh n b,[],0,false⟩
theorem oy(n:Nat)(b:Bool)(c:0<n):(lh n b).length=n:=by unfold lh;simp;omega
theorem sk(n:Nat)(b:0<n):lh n false=List.replicate n z64:=by
 obtain⟨k,rfl⟩:∃k,n=k+1:=⟨n-1,oM⟩;rfl
theorem l6(n:Nat)(b:Bool)(i:Nat)(c:0<i)(d:i<n):(lh n b)[i]?=some z64:=by
 obtain⟨k,rfl⟩:∃k,i=k+1:=⟨i-1,oM⟩;unfold lh;rw[A6,List.getElem?_replicate,dq (by omega)]
theorem MG(n:Nat)(b:Bool)(c:0<n):(d0 n b).at 0 (by rw[show(d0 n b).safe=lh n b from rfl,oy n b c];exact c)=if b then iD n else z64:=rfl
theorem yL(n:Nat)(b:Bool):Up (d0 n b):=⟨rfl,rfl⟩
theorem Kj(n:Nat):(kP (eH (iD n)) 0 (d0 n false)).1=d0 n true:=by
 have e:eH (iD n)=[iD n]:=by unfold eH;rw[mc];show[(iD n).extract 0 64]=_;rw[yZ _ (mc n)]
 rw[e];unfold kP;rw[mt,(yL n false).dn,(yL n false).write];rfl
theorem cq.sent(c:jm w0 a)(b:Below w0.heap.size w0 w)(d:∀g,S g->w0.heap.size<=g)(h:cq S w w'):jm w' a:=c.on (b.trans (h.below d b.size))
theorem AH(F m:Nat)(S:Nat->Prop)(n:Nat)(w:World)(h:cD w S F m (d0 n false))(H:4<=n)(G:n<=4096)(I:m<=800000):
  Calls prog 44 #[yP F] w λe w'=>e=.returned .nilIface/\(∃m',m'<=m+1/\cD w' (tg S w w') F m' (d0 n true))/\cq S w w':=by
 have hl:=oy n false oM;have a:Hid (∀w2 T,cD w2 T F m (d0 n false)->Calls prog 62 #[yP F] w2 λe w'=>e=.returned (.int .i64 n)/\w2=w'):=by intro w2 T hd;have:=gA F m T _ w2 hd;rw[show(d0 n false).safe.length=n from hl]at this;exact this
 have j:=a w S h;have E:(n:Int)<=4096:=oM;have C:¬(n:Int)<4:=oM
 have q:Hid (Calls prog 80 #[yP F,.int .i64 0] w λe w'=>e=.returned .nilIface/\cD w' (tg S w w') F m (d0 n false)/\cq S w w'):=wG F m S (d0 n false) n 0 w h (yL _ _) G hl (fP _) (fP _) (λi _ hi=>by
  show(lh n false)[i]?=_
  rw[sk n (by omega),List.getElem?_replicate,dq hi])
 have D:=yH;have l:Hid (∀w,Calls prog 82 #[.int .i64 n] w λe w'=>e=.returned (.string (iD n))/\Below w.heap.size w w'):=λw=>rE n G w
 have d:Hid (∀w2,cD w2 (tg S w w2) F m (d0 n false)->cq S w w2->Calls prog 81 #[yP F,.int .i64 0,.string (iD n)] w2 λe w'=>e=.returned .nilIface/\(∃m',m'<=m+1/\cD w' (tg S w w') F m' (d0 n true))/\cq S w w'):=by
  intro w2 y o;have hz:=mc n;refine(lg F m _ (d0 n false) n 0 (iD n) w2 y (yL _ _) G hl oM oM (fP _) oM).mono ?_;rintro e w3 ⟨rfl,⟨m',s,k⟩,z⟩;rw[Kj]at k;rw[gC,hz]at s;refine⟨rfl,⟨m',s,(k.mono ?_:cD w3 (up S w.heap.size) F m' _).tg⟩,o.tg z⟩;rintro g ⟨h|h,-⟩
  .exact h.1
  exact .inr (lZ o.size h)
 obtain⟨hd,p⟩:=eX (iD n);rw[<-p]at d l;clear h hl p H;go_enter func44,ntmps44
 go_wp2_with fail
 refine j.mono ?_;rintro e w1 ⟨rfl,rfl⟩
 go_wp2_with fail
 refine q.mono ?_;rintro e w1 ⟨rfl,b,u⟩;have x:=a w1 _ b;have v:Hid (∀w2,Below w1.heap.size w1 w2->Calls prog 81 #[yP F,.int .i64 0,.string hd] w2 λe w'=>e=.returned .nilIface/\(∃m',m'<=m+1/\cD w' (tg S w w') F m' (d0 n true))/\cq S w w'):=λw2 c=>d w2 ((b.on (T:=λ_=>False) (.of_below c) (λ_ _ h=>h)).mono (λg h=>⟨h.1,ny h.2 c.size⟩)) (u.trans (.of_below c))
 clear b u a j d q
 go_wp2_with (first|(go_at_call 62;refine x.mono ?_;rintro e w2 ⟨rfl,rfl⟩)|(go_at_call 82;refine(l _).mono ?_;rintro e w3 ⟨rfl,r⟩;have B:=v w3 r;clear r)|(go_at_call 81;refine B.mono ?_;rintro e w4 ⟨rfl,t,f⟩;have A:Hid ((∃m',m'<=m+1/\cD w4 (tg S w w4) F m' (d0 n true))/\cq S w w4):=⟨t,f⟩;clear t f))
 go_ret;exact⟨rfl,A⟩
theorem yh(w0:World)(a:Nat->Addr)(p:jm w0 a)(l m:Nat)(S:Nat->Prop)(n:Nat)(w:World)(h:cD w S l m (d0 n false))(o:Below w0.heap.size w0 w)(q:∀g,S g->w0.heap.size<=g)(r:4<=n)(s:n<=4096)(t:m<=800000):
  Calls prog 25 #[yP l] w λe w'=>e=.returned (.int .i64 0)/\(∃m',m'<=m+1/\cD w' (tg S w w') l m' (d0 n true))/\cq S w w':=by
 have HF:=Hid.mk' (AH l m S n w h r s t);have d:Hid (∀w',cq S w w'->Calls prog 43 #[.nilIface] w' λe j=>e=.returned (.tuple #[.int .i64 0,.int .i64 (-1)])/\Below w'.heap.size w' j):=λw' hs=>gT 0 dE a w' (hs.sent p o q)
 clear h;go_enter func25,ntmps25
 go_wp2_with fail
 refine HF.mono ?_;rintro e w1 ⟨rfl,⟨m',k,f⟩,c⟩;have i:=d w1 c;have H1:Hid (∀w2,Below w1.heap.size w1 w2->(∃m',m'<=m+1/\cD w2 (tg S w w2) l m' (d0 n true))/\cq S w w2):=λw2 b=>⟨⟨m',k,(f.on (T:=λ_=>False) (.of_below b) (λ_ _ h=>h)).mono (λg h=>⟨h.1,ny h.2 b.size⟩)⟩,c.trans (.of_below b)⟩
 clear f c HF d
 go_wp2_with fail
 refine i.mono ?_;rintro e w2 ⟨rfl,b⟩;have H2:=Hid.mk' (H1 w2 b);clear b
 go_wp2
 go_ret;exact⟨rfl,H2⟩
theorem xn{b:Func}{t u v x:Tmp}(h:b.results=#[.tmp t,.tmp u,.tmp v,.tmp x])(a:Array Value)(P:Program)(w:World):
  (results b a).run P w=.ok (.tuple #[a.getD t undef,a.getD u undef,a.getD v undef,a.getD x undef]) w:=by
 simp[results,h]
theorem FO(w:World)(A B C:Obj):(((w.alloc A).alloc B).alloc C).heap[w.heap.size]?=some A/\(((w.alloc A).alloc B).alloc C).heap[w.heap.size+1]?=some B/\(((w.alloc A).alloc B).alloc C).heap[w.heap.size+2]?=some C/\(((w.alloc A).alloc B).alloc C).heap.size=w.heap.size+3/\Below w.heap.size w (((w.alloc A).alloc B).alloc C):=by
 have s1:(w.alloc A).heap.size=w.heap.size+1:=sI;have s2:((w.alloc A).alloc B).heap.size=w.heap.size+2:=sI;refine⟨?_,?_,?_,sI,(((dw _ _).alloc (cO _) _).alloc oM _).alloc oM _⟩
 .rw[cK _ _ (by omega),cK _ _ (by omega)];exact dM w A
 .rw[cK _ _ (by omega),<-s1];exact dM _ B
 rw[<-s2];exact dM _ C
theorem yy(w:World):Calls prog 151 #[] w λe w'=>e=.returned (.agg #[yP (w.heap.size+2),.int .i64 0])/\Below w.heap.size w w'/\w'.heap.size=w.heap.size+3/\w'.heap[w.heap.size+1]?=some (.map #[] 0)/\w'.heap[w.heap.size+2]?=some (.cells #[.string ⟨#[]⟩,.map (some (w.heap.size+1))] 274 (0,0)):=by
 have H1:∀w,Calls prog 155 #[] w λe w'=>e=.returned (yP (w.heap.size+1))/\w'=(w.alloc (.map #[] 0)).alloc (.cells #[.string ⟨#[]⟩,.map (some w.heap.size)] 274):=oj
 go_enter func151,ntmps151
 go_wp2_with (go_at_call 155;refine(H1 _).mono ?_;rintro e w1 ⟨rfl,a⟩)
 refine gh (Bj (p:=0) (ty:=113) rfl _ _ w.heap.size 113 #[.pointer (some ⟨w.heap.size+1+1,0,none⟩),.int .i64 0] (0,0) _ rfl ?hg underlying113 rfl (by kernel_rfl)) rfl ?_
 case hg=>exact(FO _ _ _ _).1
 obtain⟨-,h1,h2,h3,h4⟩:=FO w (.cells #[.pointer (some ⟨w.heap.size+1+1,0,none⟩),.int .i64 0] 113) (.map #[] 0) (.cells #[.string ⟨#[]⟩,.map (some (w.heap.size+1))] 274);exact⟨rfl,h4,h3,h1,h2⟩
theorem vp(n:Nat)(f:n<=4096)(w:World):Calls prog 147 #[.int .i64 n] w λe w'=>e=.returned (.agg #[.int .i64 1,.int .u32 0,.int .u32 (iE n:Int)])/\Below w.heap.size w w':=by
 have H1:Hid (∀w,Calls prog 145 #[.int .i64 n] w λe w'=>e=.returned (.int .u32 (iE n:Int))/\Below w.heap.size w w'):=λw=>qz n f w
 obtain⟨c,hc⟩:=eX (iE n);rw[<-hc]at H1⊢;clear hc;go_enter func147,ntmps147
 go_wp2_with fail
 refine(H1 _).mono ?_;rintro e w1 ⟨rfl,b⟩;have d:=b.size;have a:w1.heap[w.heap.size]?=some (.cells #[.int .i64 0,.int .u32 0,.int .u32 0] 119 (0,0)):=by rw[b.block _ (by simp)];exact dM w _
 have c0:w1.cell? (yA w.heap.size 0)=some (.int .i64 0):=cG a;have c1:w1.cell? (yA w.heap.size 1)=some (.int .u32 0):=cG a;have c2:w1.cell? (yA w.heap.size 2)=some (.int .u32 0):=cG a;have f0:=fH w1 w.heap.size 0 _ _ a;have f1:=fH w1 w.heap.size 1 _ _ a;have f2:=fH w1 w.heap.size 2 _ _ a;have HB:Hid (Below w.heap.size w w1):=((dw _ _).alloc (cO _) _).trans (b.mono sI);have HR:=hD a;clear b a
 go_wp2
 refine gh (Bj (p:=2) (ty:=119) rfl _ _ w.heap.size 119 #[.int .i64 1,.int .u32 0,.int .u32 c] (0,0) _ rfl ?hg Oy rfl kR) rfl ?_
 case hg=>
  rw[gE _ w.heap.size 2 _ _ _ (gE _ w.heap.size 1 _ _ _ (gE _ w.heap.size 0 _ _ _ HR.out))];rfl
 exact⟨rfl,((HB.setCell (cO _) _).setCell (cO _) _).setCell (cO _) _⟩
theorem mQ{c:Func}{p q u:Tmp}(h:c.results=#[.cell p ty,.cell q ty',.tmp u])(b:Array Value)(P:Program)(w:World):
  (results c b).run P w=
   ((asAddr (b.getD p undef)).run P w).andThen λa w₁=>((loadVar ty a).run P w₁).andThen λv w₂=>((asAddr (b.getD q undef)).run P w₂).andThen λa' w₃=>((loadVar ty' a').run P w₃).andThen λv' w₄=>.ok (.tuple #[v,v',b.getD u undef]) w₄:=by
 simp only[results,h];simp[K7,Result.andThen]
def IM(h i:Nat):Array Value:=#[if 0<i then .map (some (h+2))else .map none,if 1<i then .map (some (h+3))else .map none,if 2<i then .map (some (h+4))else .map none,if 3<i then .map (some (h+5))else .map none]
theorem Gq(h i:Nat)(a:i<4):(IM h i).setIfInBounds i (.map (some (h+2+i)))=IM h (i+1)/\(IM h i)[i]?=some (.map none):=by
 have h4:i=0\/i=1\/i=2\/i=3:=oM;rcases h4 with rfl|rfl|rfl|rfl
 .exact⟨rfl,rfl⟩
 .exact⟨rfl,rfl⟩
 .exact⟨rfl,rfl⟩
 exact⟨rfl,rfl⟩
theorem Qo(w:World)(g:Nat)(x y z u a b c d:Value)(t:TypeId)(h:w.heap[g]?=some (.cells #[x,y,z,u] t (0,0))):
  ((((w.setCell (yA g 0) a).setCell (yA g 1) b).setCell (yA g 2) c).setCell (yA g 3) d).heap[g]?=some (.cells #[a,b,c,d] t (0,0))/\cq (·=g) w ((((w.setCell (yA g 0) a).setCell (yA g 1) b).setCell (yA g 2) c).setCell (yA g 3) d):=by
 refine⟨?_,((((cq.refl (·=g) w).setCell (yA g 0) rfl a).setCell (yA g 1) rfl b).setCell (yA g 2) rfl c).setCell (yA g 3) rfl d⟩;rw[gE _ g 3 _ _ _ (gE _ g 2 _ _ _ (gE _ g 1 _ _ _ (gE _ g 0 _ _ _ h)))];rfl
def Ma(w:World)(i:Nat)(wr:World):Prop:=wr.heap.size=w.heap.size+2+i/\wr.heap[w.heap.size]?=some (.cells #[.map none,.map none,.map none,.map none] 117 (0,0))/\wr.heap[w.heap.size+1]?=some (.cells (IM w.heap.size i) 117 (0,0))/\Below w.heap.size w wr
theorem Qi(w:World)(g:Nat)(x y a b:Value)(t:TypeId)(h:w.heap[g]?=some (.cells #[x,y] t (0,0))):
  ((w.setCell (yA g 0) a).setCell (yA g 1) b).heap[g]?=some (.cells #[a,b] t (0,0))/\cq (·=g) w ((w.setCell (yA g 0) a).setCell (yA g 1) b):=by
 refine⟨?_,((cq.refl (·=g) w).setCell (yA g 0) rfl a).setCell (yA g 1) rfl b⟩;rw[gE _ g 1 _ _ _ (gE _ g 0 _ _ _ h)];rfl
theorem xT(r m n:Nat)(S:Nat->Prop)(d:cX)(w:World)(h:cD w S r m d)(u:0<n)(t:n<=4096)(s:d.safe.length=n):
  Calls prog 83 #[yP r] w λe w'=>e=.returned (.bool (decide (d.at 0 oM=iD n)))/\cD w' S r m d/\cq S w w':=by
 have i:Hid (Calls prog 104 #[yP r,.int .i64 0] w λe w'=>e=.returned (.tuple #[.string (d.at 0 oM),.nilIface])/\cD w' S r m d/\cq S w w'):=ol r m S d 0 w h oM oM;have j:Hid (∀w2,cD w2 S r m d->Calls prog 62 #[yP r] w2 λe w'=>e=.returned (.int .i64 n)/\w2=w'):=by intro w2 hd;have:=gA r m S d w2 hd;rw[s]at this;exact this
 have g:Hid (∀w,Calls prog 82 #[.int .i64 n] w λe w'=>e=.returned (.string (iD n))/\Below w.heap.size w w'):=λw=>rE n t w
 obtain⟨x,hx⟩:=eX (d.at 0 oM);obtain⟨hd,f⟩:=eX (iD n);rw[<-hx,<-f];rw[<-hx]at i;rw[<-f]at g;have o:=fI x hd;obtain⟨q,hq⟩:=eX (decide (x=hd));rw[<-hq]at o⊢;clear hx f h hq s;go_enter func83,ntmps83
 go_wp2_with (first|(go_at_call 104;refine i.mono ?_;rintro e w1 ⟨rfl,b,c⟩;have k:=j w1 b;have p:Hid (cD w1 S r m d/\cq S w w1):=⟨b,c⟩;clear b c i j)|(go_at_call 62;refine k.mono ?_;rintro e w2 ⟨rfl,rfl⟩;clear k)|(go_at_call 82;refine(g _).mono ?_;rintro e w3 ⟨rfl,a⟩;have l:Hid (Below w1.heap.size w1 w3):=a;clear a g))
 go_ret;obtain⟨b,c⟩:=p;have a:=l;exact⟨rfl,b.on (T:=λ_=>False) (.of_below a) (λ_ _ h=>h),c.trans (.of_below a)⟩
theorem wH(h:w.heap[b]?=some (.map #[] 0)):w.ownsMap prog 9 cY b 0 (.map []):=by
 have hb:=cm h;obtain⟨W0,a⟩:=eX ({w with heap:=w.heap.extract 0 b}:World);have hs:W0.heap.size=b:=by rw[a];show(w.heap.extract 0 b).size=b;rw[Array.size_extract];omega
 have h1:=PS W0 prog 9 cY;have h2:=dM W0 (.map #[] 0);rw[hs]at h1 h2;exact dg h1 (by rw[h,h2])
theorem dC.new(a:w.heap[rb]?=some (.map #[] 0))(c:w.heap[rb+1]?=some (.cells #[.string ⟨#[]⟩,.map (some rb)] 274 (0,0)))(s1:S rb)(s2:S (rb+1)):dC w S (rb+1) [] (λ_=>rb+1) (λ_=>rb):=by
 have hn:∀p,dK [] p->p=[]:=by
  rintro p (h|h)
  .exact h
  exact absurd h (by unfold cA;simp)
 refine⟨rfl,λ_ _=>s2,λp hp=>?_,λ_ _ _=>s1,λp hp _=>⟨.map [],(wH a).mono (fP _),⟨⟨[],rfl,sI⟩,[],rfl,λl d=>?_⟩⟩,λp q hp hq _=>by rw[hn p hp,hn q hq],λp q hp _ hq _ _=>by rw[hn p hp,hn q hq],λ_ _ _ _ _=>by omega⟩
 .have:=hn p hp;subst this;exact c
 .constructor
  .intro h;cases h
  rintro⟨k,-,h,-⟩;exact absurd h (by unfold cA;simp)
def MU(bd:Nat):Array Value:=#[yP bd,.pointer none,.int .i64 0,.slice none 0 0,.map none,.map none,.map none,.map none,.int .i64 0,.int .u32 0,.int .u32 0,.bool false,.int .u32 0,.int .i32 0,.int .u32 0,.int .u32 0,.int .u32 0,.int .u32 0,.int .u32 0,.int .u32 0,.int .u32 0,.int .u32 0,.int .u32 0,.int .u32 0,.int .u32 0,.int .u32 0,.int .u32 0,.int .u32 0,.int .u32 0,.int .u32 0,.int .u32 0]
theorem FM:laidOutB prog=true:=kR
theorem kq:Keyed prog 131:=Keyed.of_law (deep_law_laid FM (m:=2) oM (FE kR) kR (by rw[kb]))
theorem El:∃m,prog.types.size=m+1:=⟨prog.types.size-1,kR⟩
theorem iR(s:ByteArray)(a:s.size=32):keyOf prog 131 (dL s)=some (.string (bl s)):=by
 obtain⟨m,hm⟩:=El;exact BU kb I0 kR kR kR hm s a
def KM(w:World)(b N:Nat)(f:ByteArray->Option Value):Prop:=∃D,w.ownsMap prog 131 cY b N D/\gj D f
theorem KM.on(h:KM w b N f)(e:w'.heap[b]?=w.heap[b]?):KM w' b N f:=by
 obtain⟨D,h1,h2⟩:=h;obtain⟨es,a,hb,r⟩:=h1;exact⟨D,⟨es,a,e.trans hb,r⟩,h2⟩
theorem KM.lt(h:KM w b N f):b<w.heap.size:=by
 obtain⟨D,h1,h2⟩:=h;exact h1.lt
def qC(o:Ob):Value:=.agg #[.int .i64 o.at_,.int .i64 o.text.size]
def O0:Value:=.agg #[.int .i64 0,.int .i64 0]
theorem JC(w:World):(zeroValue 361).run prog w=.ok O0 w:=by rfl
structure dG (w:World) (S:Nat->Prop) (N a0 a1 a2 a3:Nat) (has:List Ob):Prop where
 k0:KM w a0 N (λ_=>none)
 k1:KM w a1 N (λs=>(cF has 1 s).map qC)
 k2:KM w a2 N (λs=>(cF has 2 s).map qC)
 k3:KM w a3 N (λs=>(cF has 3 s).map qC)
 s:S a0/\S a1/\S a2/\S a3
 d:a0≠a1/\a0≠a2/\a0≠a3/\a1≠a2/\a1≠a3/\a2≠a3
def ng(a0 a1 a2 a3:Nat):Value:=.agg #[.map (some a0),.map (some a1),.map (some a2),.map (some a3)]
theorem dG.on(h:dG w S N a0 a1 a2 a3 has)(a:cq U w w')(c:∀g,S g->¬U g):dG w' S N a0 a1 a2 a3 has:=
 ⟨h.k0.on (a.block _ h.k0.lt (c _ h.s.1)),h.k1.on (a.block _ h.k1.lt (c _ h.s.2.1)),h.k2.on (a.block _ h.k2.lt (c _ h.s.2.2.1)),h.k3.on (a.block _ h.k3.lt (c _ h.s.2.2.2)),h.s,h.d⟩
theorem dG.mono(h:dG w S N a0 a1 a2 a3 has)(a:∀g,S g->U g):dG w U N a0 a1 a2 a3 has:=
 ⟨h.k0,h.k1,h.k2,h.k3,⟨a _ h.s.1,a _ h.s.2.1,a _ h.s.2.2.1,a _ h.s.2.2.2⟩,h.d⟩
theorem KM.look(h:KM w b N f)(s:ByteArray)(c:s.size=32)(hz:f s=none\/∃x y:Int,f s=some (.agg #[.int .i64 x,.int .i64 y])):
  ∃x y:Int,((f s=none/\Value.agg #[.int .i64 x,.int .i64 y]=O0)\/f s=some (.agg #[.int .i64 x,.int .i64 y]))/\(Instr.lookup 115 (.map (some b)) (dL s) true).run prog w=.ok (.tuple #[.agg #[.int .i64 x,.int .i64 y],.bool (f s).isSome]) w:=by
 obtain⟨D,h1,h2⟩:=h;obtain⟨v,ps,a,hv⟩:=h1.look_ok kq NO (JC w) (zd:=.held O0) (zp:=[]) rfl (iR s c);rw[h2.at c]at hv;rw[h2.has c]at a;rcases hz with e|⟨x,y,e⟩
 .rw[e]at hv a;have:v=O0:=by unfold cY tH at hv;exact FA (Hi (kM hv)).1
  subst this;refine⟨0,0,.inl ⟨e,rfl⟩,?_⟩;rw[e];exact a
 rw[e]at hv a;have:v=.agg #[.int .i64 x,.int .i64 y]:=by unfold cY tH at hv;exact FA (Hi (kM hv)).1
 subst this;exact⟨x,y,.inr e,e▸a⟩
theorem lJ(o:Option Ob):o.map qC=none\/∃x y:Int,o.map qC=some (.agg #[.int .i64 x,.int .i64 y]):=by
 cases o with
 |none=>exact .inl rfl
 |some o=>exact .inr ⟨_,_,rfl⟩
def dA(k a0 a1 a2 a3:Nat):Nat:=if k=0 then a0 else if k=1 then a1 else if k=2 then a2 else a3
theorem dG.pick(h:dG w S N a0 a1 a2 a3 has)(k:Nat)(a:1<=k)(c:k<=3):KM w (dA k a0 a1 a2 a3) N (λs=>(cF has k s).map qC):=by
 have:k=1\/k=2\/k=3:=oM;rcases this with rfl|rfl|rfl
 .exact h.k1
 .exact h.k2
 exact h.k3
theorem qm(S:Nat->Prop)(N a0 a1 a2 a3 k:Nat)(has:List Ob)(s:ByteArray)(w:World)(h:dG w S N a0 a1 a2 a3 has)(H:1<=k)(G:k<=3)(I:s.size=32):
  Calls prog 220 #[ng a0 a1 a2 a3,.int .u8 k,dL s] w λe w'=>e=.returned (.bool (cF has k s).isSome)/\Below w.heap.size w w':=by
 obtain⟨g,hg⟩:=eX (dA k a0 a1 a2 a3);have hk:=h.pick k H G;rw[<-hg]at hk;obtain⟨W1,d⟩:=eX ((w.alloc (.cells #[.map (some a0),.map (some a1),.map (some a2),.map (some a3)] 117)).alloc (.cells (db s).toArray 131));have m:Below w.heap.size w W1:=by rw[d];exact((dw _ _).alloc (cO _) _).alloc sI _
 have l:=hk.on (m.block _ hk.lt);obtain⟨x,y,o,f⟩:=l.look s I (lJ _);rw[Option.isSome_map]at f;obtain⟨r,hr⟩:=eX ((cF has k s).isSome);rw[<-hr]at f⊢
 have a:W1.cell? (yA w.heap.size k)=some (.map (some g)):=by
  have e0:(W1.heap[w.heap.size]?)=some (.cells #[.map (some a0),.map (some a1),.map (some a2),.map (some a3)] 117 (0,0)):=by rw[d,cK _ _ (by simp)];exact dM w _
  rw[cG e0,hg];have:k=1\/k=2\/k=3:=oM;rcases this with rfl|rfl|rfl<;>rfl
 obtain⟨cs,i⟩:=eX ((db s).toArray);have q:cs.size=32:=by rw[i,jO,cE,I]
 have n:dL s=.agg cs:=by rw[i];rfl
 have F:(k:Int)<=3:=oM;have C:∀v∈cs.toList,v.oneCell'=true:=by intro v hv;rw[i]at hv;unfold db at hv;obtain⟨b,-,rfl⟩:=List.mem_map.1 hv;rfl
 have t:Hid (∀V,Below W1.heap.size W1 V->V.cell? (yA w.heap.size k)=some (.map (some g))/\V.rangeAt (w.heap.size+1) 0 cs.toList/\(Instr.lookup 115 (.map (some g)) (.agg cs) true).run prog V=.ok (.tuple #[.agg #[.int .i64 x,.int .i64 y],.bool r]) V/\Hid (Below W1.heap.size W1 V)):=by
  intro V hV;refine⟨by rw[hV.cell (pr a)];exact a,λj v hv=>?_,?_,hV⟩
  .rw[nS,hV.cell (by rw[d];simp),d];rw[cG (by have:=dM (w.alloc (.cells #[.map (some a0),.map (some a1),.map (some a2),.map (some a3)] 117)) (.cells (db s).toArray 131);simpa using this),<-i,<-kX];exact hv
  have u:=l.on (hV.block _ l.lt);obtain⟨x',y',h',c⟩:=u.look s I (lJ _);rw[Option.isSome_map,<-hr,n]at c
  have e:Value.agg #[.int .i64 x',.int .i64 y']=.agg #[.int .i64 x,.int .i64 y]:=by
   rcases o with⟨H,h2⟩|H
   .rcases h' with⟨-,h4⟩|G
    .rw[h2,h4]
    rw[H]at G;cases G
   rcases h' with⟨G,-⟩|G
   .rw[H]at G;cases G
   rw[H]at G;exact(kM G).symm
  rw[e]at c;exact c
 clear h hk l hg hr o;rw[n]at f⊢;rw[<-i]at d;clear i n;unfold ng;have A:=kb;have B:(prog.info? 131).map (·.size)=some cs.toList.length:=by rw[gf,q];kernel_rfl
 have D:cs.toList.length=32:=by rw[gf,q]
 have E:(k:Int)<4:=oM;have z:(0:Int)<=k:=oM;have p:=hD m;clear m;go_enter func220,ntmps220
 go_wp2
 rw[<-d];clear d f a
 go_region_held3 (λV=>V.cell? (yA w.heap.size k)=some (.map (some g))/\V.rangeAt (w.heap.size+1) 0 cs.toList/\(Instr.lookup 115 (.map (some g)) (.agg cs) true).run prog V=.ok (.tuple #[.agg #[.int .i64 x,.int .i64 y],.bool r]) V/\Hid (Below W1.heap.size W1 V)) ((exact t _ bE)) (fail)
 all_goals
  go_wp2
  go_ret;exact⟨rfl,p.trans (Below.mono bE p.size)⟩
theorem el(s:ByteArray):(cV s).size=32:=iB s rfl
theorem tV(s:ByteArray)(w:World)(h:fL w)(a:s.size<=300000):Calls prog 107 #[.string s] w λe w'=>e=.returned (dL (cV s))/\Below w.heap.size w w':=by
 obtain⟨tg,fr,h1⟩:=h.start;refine iM (Dq s lw fX tg fr w a rfl wW wk h1 h.round) ?_;rintro e w' ⟨rfl,hb⟩;refine⟨?_,hb⟩;obtain⟨o,ho⟩:=eX (jp (gY lw fX (fE (fW s)) ((fE (fW s)).length/64)) 32);have hl:o.map UInt8.ofNat=Es lw fX (fW s):=ho▸zh _ (ji _ _ _ rfl _);have hb:∀d∈o,d<256:=ho▸Da _ _;rw[<-ho];unfold dL db;rw[show bl (cV s)=o.map UInt8.ofNat from hl.symm,NF];unfold kL;congr 3;refine NG λd hd=>?_
 show Value.int .u8 d=Value.int .u8 ((UInt8.ofNat d).toNat:Int);rw[MJ,LY (hb d hd)]
theorem Ae{k:TypeId}(a:P.underlying k=some (.array 32 e))(s:ByteArray)(h:keyOf P k (dL s)=some (.string (bl s))):∃l,P.keyLits (P.types.size+1) k (dL s).cells.toList=some l/\keyBytes l=bl s/\(dL s).formed P k=true:=by
 unfold keyOf at h;rw[a]at h;simp only at h;split at h
 .rename_i hc;rw[Dj]at hc;rw[Option.map_eq_some_iff]at h;obtain⟨l,h1,h2⟩:=h;injection h2 with h2;exact⟨l,h1,h2,hc.2⟩
 cases h
theorem Qz{k:TypeId}{xs:Array Value}{r:Bool}(a:(Op.equalIn 10000 k (.agg xs) (.agg ys)).run P V=.ok r V):(binOp .eql k (.agg xs) (.agg ys)).run P V=.ok (.bool r) V:=by
 rw[run_eql_struct,a];rfl
theorem F5{k:TypeId}(b:P.underlying k=some (.array 32 e))(a:P.keyTypeAt 2 k=true)(s t:ByteArray)(c:keyOf P k (dL s)=some (.string (bl s)))(d:keyOf P k (dL t)=some (.string (bl t)))(V:World):(binOp .eql k (dL s) (dL t)).run P V=.ok (.bool (decide (s=t))) V:=by
 obtain⟨l,a1,a2,a3⟩:=Ae b s c;obtain⟨k',b1,b2,b3⟩:=Ae b t d;obtain⟨r,hr,hi⟩:=run_equalIn_deep (P:=P) 9998 2 k a V _ _ (dL s) (dL t) l k' a3 b3 a1 b1
 have he:r=decide (s=t):=by
  by_cases e:s=t
  .subst e;rw[a1]at b1;injection b1 with b1;rw[jX rfl];exact hi.2 b1
  rw[lW e]
  cases r with
  |false=>rfl
  |true=>exact absurd (ej (by rw[<-a2,<-b2,hi.1 rfl])) e
 rw[he]at hr;exact Qz hr
theorem Jz(s t:ByteArray)(a:s.size=32)(b:t.size=32)(V:World):(binOp .eql 131 (dL s) (dL t)).run prog V=.ok (.bool (decide (s=t))) V:=
 F5 kb kR s t (iR s a) (iR t b) V
end
end Go.Proofs.YtapijhhmjjplmaaGreatDoor

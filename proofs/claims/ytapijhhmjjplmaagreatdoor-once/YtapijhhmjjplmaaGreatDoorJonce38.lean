import Derived.Test.YtapijhhmjjplmaaGreatDoorJonce37
namespace Go.Proofs.YtapijhhmjjplmaaGreatDoor
set_option linter.all false
set_option maxRecDepth 100000
set_option maxHeartbeats 4000000
open Go.Proofs.Tryz
variable {cs C:Array Value}{br br':Bool}{s label:ByteArray}{f:ByteArray→Option Value}{D:DataW Value}{d:cX}{nb mb:List ByteArray→Nat}{infos:List jR}{has:List Ob}{xs pre:List Value}{left:Lit→Bool}{bd m n at_ b N a0 a1 a2 a3 ba rb seq chain f0 k at' seq' chain' g f1 f2 f3 M2 B c7 cnt:Nat}{Sd U S:Nat→Prop}{T:cS}{e:TypeId}{sv v p0 bv:Value}{w V w1 V1 w2 w3 V4 w':World}
section
open Go.RowKit
structure te (w:World) (Sd U:Nat->Prop) (bd m:Nat) (d:cX) (T:Nat->Prop) (V:World):Prop where
 dk:cD V T bd m d
 tS:∀q,T q->up Sd w.heap.size q/\q<V.heap.size
 same:cq U w V
theorem te.ws{T:Nat->Prop}(h:te w Sd U bd m d T V)(k:∀q,Sd q->U q)(l:Up d)(o:n<=4096)(p:d.safe.length=n)(r:s.size%64=0)(i:at_+s.size/64<=n)(j:d.wait.length<=900000)(t:m<=900000):
  Calls prog 81 #[yP bd,.int .i64 at_,.string s] V λe w'=>e=.returned .nilIface/\cq U w w'/\∃T' m',m'<=m+s.size/64/\te w Sd U bd m' (kP (eH s) at_ d).1 T' w':=by
 refine iM (lg bd m T d n at_ s V h.dk l o p r i j t) ?_;rintro e w' ⟨rfl,⟨m',c,g⟩,f⟩;have a:=h.same.then (f.weak λq hq=>(h.tS q hq).1.elim (λe=>.inl (k _ e)) .inr)
 refine⟨rfl,a,_,m',by rw[gC]at c;exact c,⟨g,?_,a⟩⟩;rintro q ⟨hq|hq,b⟩
 .exact⟨(h.tS q hq).1,b⟩
 exact⟨.inr (by have:=h.same.size;omega),b⟩
theorem te.drew{T:Nat->Prop}(h:te w Sd U bd m d T V):te w Sd U bd m d T V.drew:=
 ⟨h.dk.on (T:=λ_=>False) (cq.refl _ V).drew (λ_ _ h=>h),λq hq=>⟨(h.tS q hq).1,(h.tS q hq).2⟩,h.same.drew⟩
def Lh(wh s:ByteArray)(at0 y:Nat)(d:cX):cX×Nat:=if wh.size=0 then kP (eH s) y d else if(kP (eH wh) at0 d).2=0 then kP (eH s) y (kP (eH wh) at0 d).1 else kP (eH wh) at0 d
theorem zf(Sd:Nat->Prop)(ba bd m n M g a0 a1 a2 a3 f0 f1 f2 f3 y sq ch:Nat)(Q:List Value)(p0 bv:Value)(d:cX)(N s:ByteArray)(w:World)(h:cD w Sd bd m d)(S:∀q,Sd q->q<w.heap.size)(hT:dt Q w ba)(Y:Q[0]?=some (yP bd))(Z:Q[8]?=some (.int .i64 M))(X:mO w 284 g 9 (qh a0 a1 a2 a3 ba f0 f1 f2 f3 p0 bv y sq ch) bv N.data.toList)(W:¬Sd ba/\bv.ownBlock≠some ba)(a4:¬Sd g)(a5:∀q,bv.ownBlock=some q->¬Sd q)(hu:Up d)(hb:n<=4096)(h1:d.safe.length=n)(hs:s.size%64=0)(a6:N.size%64=0)(P:y+s.size/64<=n)(O:M+N.size/64<=n)(a7:d.wait.length<=800000)(hm:m<=800000):
  Calls prog 165 #[yP ba,yP g,.string s] w λe w'=>e=.returned .nilIface/\∃T' m',m'<=m+8192/\te w Sd (λq=>Sd q\/some q=bv.ownBlock) bd m' (Lh N s M y d).1 T' w':=by
 obtain⟨U,hU⟩:=eX (λq=>Sd q\/some q=bv.ownBlock:Nat->Prop);rw[<-hU];have u:∀q,Sd q->U q:=by rw[hU];exact λq h=>.inl h
 have k:¬U ba:=by rw[hU];rintro(e|e);exact W.1 e;exact W.2 e.symm
 have v:¬U g:=by rw[hU];rintro(e|e);exact a4 e;exact X.ne e.symm
 have h0:te w Sd U bd m d Sd w:=⟨h,λq hq=>⟨.inl hq,S q hq⟩,cq.refl _ _⟩;have t:∀V,cq U w V->V.cell? (yA ba 0)=some (yP bd)/\V.cell? (yA ba 8)=some (.int .i64 M):=λV hV=>⟨by rw[(hT.on hV k).cell (by omega)];exact Y,by rw[(hT.on hV k).cell (by omega)];exact Z⟩
 have C:∀V,cq U w V->V.cell? (yA ba 0)=some (yP bd)/\V.cell? (yA g 11)=some (.int .i64 y):=λV hV=>⟨(t V hV).1,by
  have hr:V.heap[g]?=some (.cells (qh a0 a1 a2 a3 ba f0 f1 f2 f3 p0 bv y sq ch) 284 (0,0)):=by rw[hV.block _ (cm X.row) v];exact X.row
  exact cG hr⟩
 have i:Hid (∀V T m1 d1,te w Sd U bd m1 d1 T V->Up d1->d1.safe.length=n->d1.wait.length<=900000->m1<=900000->Calls prog 81 #[yP bd,.int .i64 y,.string s] V.drew λe w'=>e=.returned .nilIface/\cq U w w'/\∃T' m',m'<=m1+s.size/64/\te w Sd U bd m' (kP (eH s) y d1).1 T' w'):=λV T m1 d1 hV e1 e2 e3 e4=>hV.drew.ws u e1 hb e2 hs P e3 e4
 have HC:Hid ((∀V,cq U w V->V.cell? (yA ba 0)=some (yP bd)/\V.cell? (yA ba 8)=some (.int .i64 M))/\∀V,cq U w V->V.cell? (yA ba 0)=some (yP bd)/\V.cell? (yA g 11)=some (.int .i64 y)):=⟨t,C⟩;have b:=hD (Kq w _ g 9 _ bv _ X);have HB:Hid (n<=4096/\Up d/\d.safe.length=n/\d.wait.length<=800000/\m<=800000/\N.size/64<=4096/\s.size/64<=4096):=⟨hb,hu,h1,a7,hm,oM,oM⟩;have L:(N.size:Int)<=300000:=oM;have H0:=hD h0;have r:Hid (N.size≠0->Calls prog 213 #[.pointer (yS g 9)] w.drew λe w'=>e=.returned (.string N)/\cq U w w'/\te w Sd U bd m d Sd w'):=by intro H;have J:=X.onA (U:=λ_=>False) (cq.refl _ w).drew (λh=>h) (λ_ _ h=>h);refine iM (zt w.drew _ g 9 _ bv _ J (λe=>H (by rw[<-show N.data.toList.length=N.size from rfl,e];rfl)) (by show N.size<=_;omega)) ?_;rintro e w' ⟨rfl,A⟩;have o:cq U w w':=(cq.refl U w).drew.trans (A.weak λq hq=>hU▸.inr hq);exact⟨sI,o,⟨h0.drew.dk.on A (λq hq e=>a5 q e.symm hq),λq hq=>⟨.inl hq,by have:=S q hq;have:=o.size;omega⟩,o⟩⟩
 have l:Hid (∀w1,te w Sd U bd m d Sd w1->Calls prog 81 #[yP bd,.int .i64 M,.string N] w1 λe w'=>e=.returned .nilIface/\cq U w w'/\∃T' m',m'<=m+N.size/64/\te w Sd U bd m' (kP (eH N) M d).1 T' w'):=λw1 G=>G.ws u hu hb h1 a6 O oM oM
 have D:=Hid.mk' (hu.ws (eH N) M);clear h hT Y Z X W a4 a5 hu hb h1 hs a6 P O a7 hm hU u k v h0 t C S;obtain⟨dd,p⟩:=eX ((Lh N s M y d).1);rw[<-p];have B:=hD p;clear p;go_enter func165,ntmps165;by_cases hz:N.size=0
 .have K:(N.size:Int)=0:=oM;have c:Lh N s M y d=kP (eH s) y d:=by unfold Lh;rw[dq hz]
  go_upto_region 5 with(go_at_call 212;refine b.mono ?_;rintro e w1 ⟨rfl,rfl⟩)
  have a:Calls prog 81 #[yP bd,.int .i64 y,.string s] w1.drew λe w'=>e=.returned .nilIface/\cq U w1 w'/\∃T' m',m'<=m+8192/\te w1 Sd U bd m' (kP (eH s) y d).1 T' w':=by obtain⟨b1,b2,b3,b4,b5,b6,b7⟩:=HB;refine iM (i w1 Sd m d H0 b2 b3 oM oM) ?_;rintro e w' ⟨rfl,x1,T',m',x2,x3⟩;exact⟨rfl,x1,T',m',oM,x3⟩
  refine kQ (Gu _ (λV=>cq U w1 V) (λV=>∃T' m',m'<=m+8192/\te w1 Sd U bd m' (kP (eH s) y d).1 T' V) ba g bd y s .nilIface w1 (cq.refl _ _).drew HC.2 a (λV hX uB hU=>?_));have HX:=Hid.mk' hX;have j:=Hid.mk' c;refine nU hU ?_;clear hX a c i HC b HB H0 r l
  go_wp2_with fail
  go_ret;exact⟨rfl,by rw[B.out,j.out];exact HX⟩
 have K:(0:Int)<N.size:=oM;go_upto_region 2 with(go_at_call 212;refine b.mono ?_;rintro e w1 ⟨rfl,rfl⟩)
 have c:Lh N s M y d=kP (eH s) y (kP (eH N) M d).1:=by unfold Lh;rw[dj hz,dq D.out.1]
 obtain⟨d1,f⟩:=eX ((kP (eH N) M d).1);rw[<-f]at c;have E:Hid (Up d1/\d1.safe.length=n/\d1.wait.length<=900000):=by obtain⟨b1,b2,b3,b4,b5,b6,b7⟩:=HB;have hl:=Kr (eH N) M d;rw[gC]at hl;rw[f];exact⟨D.2,oM,oM⟩
 have F:∀w2,te w1 Sd U bd m d Sd w2->Calls prog 81 #[yP bd,.int .i64 M,.string N] w2 λe w'=>e=.returned .nilIface/\cq U w1 w'/\∃T' m',m'<=m+N.size/64/\te w1 Sd U bd m' d1 T' w':=by intro w2 h2;have h:=l w2 h2;rw[<-f]at h;exact h
 refine kQ (MS _ (λV=>cq U w1 V) (λV=>te w1 Sd U bd m d Sd V) (λV=>∃T' m',m'<=m+N.size/64/\te w1 Sd U bd m' d1 T' V) ba g bd M s N .nilIface w1 (cq.refl _ _).drew HC.1 (r hz) F (λV5 hX uB hU=>?_));obtain⟨T5,m5,I,h5⟩:=hX;have a:Calls prog 81 #[yP bd,.int .i64 y,.string s] V5.drew λe w'=>e=.returned .nilIface/\cq U w1 w'/\∃T' m',m'<=m+8192/\te w1 Sd U bd m' (kP (eH s) y d1).1 T' w':=by obtain⟨b1,b2,b3,b4,b5,b6,b7⟩:=HB;obtain⟨e1,e2,e3⟩:=E;refine iM (i V5 T5 m5 d1 h5 e1 e2 e3 oM) ?_;rintro e w' ⟨rfl,x1,T',m',x2,x3⟩;exact⟨rfl,x1,T',m',oM,x3⟩
 have z:=Hid.mk' a;have x:=hD h5.same.drew;have j:=Hid.mk' c;refine nU hU ?_;clear c a h5 I F f E i b HB H0 r l;go_upto_region 5 with fail
 refine kQ (Gu _ (λV=>cq U w1 V) (λV=>∃T' m',m'<=m+8192/\te w1 Sd U bd m' (kP (eH s) y d1).1 T' V) ba g bd y s .nilIface V5 x HC.2 z (λV hX uB hU=>?_));have HX:=Hid.mk' hX;refine nU hU ?_;clear hX HC z x
 go_wp2_with fail
 go_ret;exact⟨rfl,by rw[B.out,j.out];exact HX⟩
end
section
open Go.RowKit Go.Maps
theorem zw{α:Type}:∀(l m:List α),l.Pairwise (λa b=>a≠b)->(∀x∈l,x∈m)->l.length<=m.length
 |[],m,_,_=>fP _
 |x::l,m,hp,hm=>by
  rw[P6]at hp;obtain⟨a,b,rfl⟩:=Qw (hm x sI)
  have:=zw l (a++b) hp.2 (λy hy=>by
   have h1:=hm y (by simp[hy]);rcases List.mem_append.1 h1 with h1|h1
   .exact List.mem_append.2 (.inl h1)
   rcases List.mem_cons.1 h1 with h1|h1
   .exact absurd h1.symm (hp.1 y hy)
   exact List.mem_append.2 (.inr h1))
  rw[ir]at this;rw[mY,ir,mY];omega
theorem KM.tight(h:KM w b N f)(l:List ByteArray)(g:∀s v,f s=some v->s∈l):KM w b l.length f:=by
 obtain⟨D,ho,hs⟩:=h;refine⟨D,?_,hs⟩
 have c:Maps.size D<=l.length:=by
  obtain⟨es,e1,hp⟩:=hs.tidy;obtain⟨e,e2,hm⟩:=hs.mem;rw[e1]at e2;injection e2 with e2;subst e2;rw[e1];show es.length<=_
  have h1:=zw (es.map (·.1)) (l.map λs=>Lit.string (bl s)) (by rw[PY];exact hp) (λx hx=>by
   obtain⟨⟨k,d⟩,hy,rfl⟩:=List.mem_map.1 hx;obtain⟨s,v,e3,-,e4,-⟩:=(hm k d).1 hy
   exact List.mem_map.2 ⟨s,g s v e4,e3.symm⟩)
  rw[iF,iF]at h1;exact h1
 obtain⟨es,a,h1,h2,h3,h4⟩:=ho;refine⟨es,a,h1,h2,?_,h4⟩;rw[h4]at c;simpa [Maps.size,Go.length_sorted]using c
theorem dG.tight(h:dG w S N a0 a1 a2 a3 has):dG w S has.length a0 a1 a2 a3 has:=by
 have a:∀k b,KM w b N (λs=>(cF has k s).map qC)->KM w b has.length (λs=>(cF has k s).map qC):=λk b hk=>by
  have:=hk.tight (has.map (·.sum)) (λs v e=>by
   cases ho:cF has k s with
   |none=>rw[ho]at e;cases e
   |some o=>
    obtain⟨h1,-,h3⟩:=tE ho
    exact List.mem_map.2 ⟨o,h1,h3⟩)
  rw[iF]at this;exact this
 refine⟨?_,a 1 _ h.k1,a 2 _ h.k2,a 3 _ h.k3,h.s,h.d⟩;have:=h.k0.tight [] (λs v e=>by cases e);exact this.mono (fP _)
theorem gn.tight(h:gn w S ba bd N rb a0 a1 a2 a3 at_ seq chain sv br has infos T):gn w S ba bd has.length rb a0 a1 a2 a3 at_ seq chain sv br has infos T:=⟨h.tab,h.kn.tight,h.inf,h.infS,h.tree,h.sb⟩
theorem j0.new(h:gn w S ba bd N rb a0 a1 a2 a3 at_ seq chain sv br has infos T)(k:Below w.heap.size w w1)(l:f0=w.heap.size+2)(m:∀t,t<4->w1.heap[w.heap.size+2+t]?=some (.map #[] 0))(j:V=w1.alloc (.cells (qh a0 a1 a2 a3 ba f0 (f0+1) (f0+2) (f0+3) (.pointer none) (.slice none 0 0) at_ seq chain) 284)):
  j0 V (λq=>w.heap.size<=q/\q<V.heap.size) w1.heap.size ba N a0 a1 a2 a3 0 f0 (f0+1) (f0+2) (f0+3) (jL bd (yP rb) T.length sv (some a0) (some a1) (some a2) (some a3) at_ seq chain br) has ⟨[],at_,seq,chain,⟨#[]⟩⟩ (.pointer none) (.slice none 0 0)/\Below w.heap.size w V:=by
 have a:Below w.heap.size w V:=j▸k.alloc k.size _;have hz:V.heap.size=w1.heap.size+1:=by rw[j];simp
 have f:∀t,t<4->V.heap[w.heap.size+2+t]?=some (.map #[] 0):=λt ht=>by rw[j,cK _ _ (cm (m t ht))];exact m t ht
 have km:∀t,t<4->KM V (f0+t) 0 (λ_=>none):=λt ht=>KM.nil (l▸f t ht)
 have l3:=cm (m 3 oM);have i:=k.size;have g:=(h.tab).lt;have c:=(h.tab.on (cq.of_below (S:=λ_=>False) a) (λh=>h));obtain⟨tt,-,b⟩:=h.tab.row;refine⟨⟨⟨j▸dM w1 _,.inr ⟨rfl,rfl,rfl⟩,.inl rfl,rfl,⟨rfl,.inl ⟨rfl,rfl⟩⟩,(by simp[Value.ownBlock]),λ_=>rfl⟩,⟨h.kn.k0.on (a.block _ h.kn.k0.lt),h.kn.k1.on (a.block _ h.kn.k1.lt),h.kn.k2.on (a.block _ h.kn.k2.lt),h.kn.k3.on (a.block _ h.kn.k3.lt),⟨trivial,trivial,trivial,trivial⟩,h.kn.d⟩,⟨km 0 oM,(km 1 oM).congr (λs _=>rfl),(km 2 oM).congr (λs _=>rfl),(km 3 oM).congr (λs _=>rfl),⟨⟨oM,oM⟩,⟨oM,oM⟩,⟨oM,oM⟩,⟨oM,oM⟩⟩,⟨oM,oM,oM,oM,oM,oM⟩⟩,c,⟨oM,oM⟩,λq e=>(by cases e),λe=>(by have:=e.1;omega),⟨?_,?_,?_,?_⟩,⟨?_,?_,?_,?_⟩⟩,a⟩
 .intro e;have:=e.1;have:=h.kn.k0.lt;omega
 .intro e;have:=e.1;have:=h.kn.k1.lt;omega
 .intro e;have:=e.1;have:=h.kn.k2.lt;omega
 .intro e;have:=e.1;have:=h.kn.k3.lt;omega
 .exact λe=>h.kn.k0.ne_row b e.symm
 .exact λe=>h.kn.k1.ne_row b e.symm
 .exact λe=>h.kn.k2.ne_row b e.symm
 exact λe=>h.kn.k3.ne_row b e.symm
theorem dC.off(h:dC w S rb T nb mb)(c:w.heap[ba]?=some (.cells cs 129 (0,0))):dC w (λq=>S q/\q≠ba) rb T nb mb:=by
 refine⟨h.root,λp hp=>⟨h.sn p hp,λe=>?_⟩,h.node,λp hp hf=>⟨h.sm p hp hf,λe=>?_⟩,h.map,h.i1,h.i2,h.i3⟩
 .have h1:=h.node p hp;rw[e,c]at h1;injection h1 with h1;injection h1 with _ h1 _;exact absurd h1 dE
 obtain⟨D,⟨es,a,hb,-⟩,-⟩:=h.map p hp hf;rw[e,c]at hb;injection hb with hb;cases hb
end
section
open Go.RowKit Go.Maps
def oT(w:World)(S Sd:Nat->Prop)(ba bd m rb a0 a1 a2 a3:Nat)(br:Bool)(M:fm)(T:cS)(d:cX)(w':World):Prop:=
 cq (λq=>S q\/Sd q) w w'/\∃S' Sd' sv m',(∀q,S' q->up S w.heap.size q/\q<w'.heap.size)/\(∀q,Sd' q->up Sd w.heap.size q/\q<w'.heap.size)/\(∀q,S' q->¬Sd' q)/\m'<=m+8192/\cD w' Sd' bd m' d/\gn w' S' ba bd M.has.length rb a0 a1 a2 a3 M.at_ (M.seq-1) M.chain sv br M.has M.infos T
def CK(w:World)(S Sd:Nat->Prop)(ba bd m n rb a0 a1 a2 a3:Nat)(M:fm)(T:cS)(label:ByteArray)(d:cX)(pb pf:Addr)(e:Ending)(w':World):Prop:=
 (20<label.size/\e=.returned (.tuple #[.int .i64 0,rv pb])/\Below w.heap.size w w')\/
 (label.size<=20/\n<(snapF T M label).at_/\e=.returned (.tuple #[.int .i64 0,rv pf])/\oT w S Sd ba bd m rb a0 a1 a2 a3 false M T d w')\/
 (label.size<=20/\(snapF T M label).at_<=n/\e=.returned (.tuple #[.int .i64 ((M.infos.length:Int)+1),.nilIface])/\oT w S Sd ba bd m rb a0 a1 a2 a3 false (gz T M label) T (gc T M label d).1 w')
theorem Hw(T:cS)(M:fm)(label:ByteArray)(d:cX):Lh (ri (fs M) (dP T M)) (jY (de T M) (4,fF T M label)) M.at_ (de T M).at_ d=gc T M label d:=by
 unfold Lh gc;have hz:=oF (dP T M) (fs M);have ht:=pV (dP T M) (fs M);by_cases h:dP T M=[]
 .rw[dq h,dq];rw[h];rfl
 have:0<(dP T M).length:=List.length_pos_iff.2 h;rw[dj h,dj (by omega)]
theorem mg{w:World}{B g:Nat}{t:TypeId}(d:w.ownsRow B e k v n xs)(f:w.heap[g]?=some (.cells cs t (0,0)))(h:e≠t):v.ownBlock≠some g:=by
 intro e0;rcases d.2 with⟨h0,-⟩|⟨g0,c,b,h0,-,a,-⟩
 .rw[h0]at e0;cases e0
 rw[h0]at e0;have e1:g0=g:=by injection e0
 rw[e1,f]at a;injection a with a;injection a with _ a _;exact h a.symm
theorem gn.turn{w V:World}{U:Nat->Prop}{ba N a0 a1 a2 a3:Nat}{has:List Ob}(h:gn w S ba bd N rb a0 a1 a2 a3 at_ seq chain sv br has infos T)(b:cq U w V)(c:∀q,S q->q≠ba->¬U q)(d:dt (jL bd (yP rb) T.length sv (some a0) (some a1) (some a2) (some a3) at' seq' chain' br') V ba):gn V S ba bd N rb a0 a1 a2 a3 at' seq' chain' sv br' has infos T:=by
 obtain⟨tt,-,hr⟩:=h.tab.row;obtain⟨nb,mb,a⟩:=h.tree;have ka:=c;refine⟨d,h.kn.onA b (ka _ h.kn.s.1 (h.kn.k0.ne_row hr)) (ka _ h.kn.s.2.1 (h.kn.k1.ne_row hr)) (ka _ h.kn.s.2.2.1 (h.kn.k2.ne_row hr)) (ka _ h.kn.s.2.2.2 (h.kn.k3.ne_row hr)),cU h.inf b (λq e=>ka _ (h.infS q e) (λe2=>mg h.inf hr dE (by rw[e,e2]))),h.infS,⟨nb,mb,((a.off hr).on b (λq hq=>ka q hq.1.1 hq.2)).mono (λq hq=>hq.1)⟩,h.sb⟩
structure pJ (w:World) (U:Nat->Prop) (B g ba N a0 a1 a2 a3 M2 f0 f1 f2 f3 c7:Nat) (pre:List Value) (has:List Ob) (D:lI) (p0 bv:Value) (C:Array Value) (V:World):Prop where
 dr:j0 V U g ba N a0 a1 a2 a3 M2 f0 f1 f2 f3 pre has D p0 bv
 uS:∀q,U q->w.heap.size<=q/\q<B
 bV:B<=V.heap.size
 nc:¬U c7
 cB:w.heap.size<=c7/\c7<B
 wB:w.heap.size<=B
 r7:V.heap[c7]?=some (.cells C 133 (0,0))
 same:cq (·=ba) w V
section
variable {w V V':World} {U:Nat->Prop} {B g ba N a0 a1 a2 a3 M2 f0 f1 f2 f3 c7:Nat} {pre:List Value} {has:List Ob} {D:lI} {p0 bv:Value} {C:Array Value}
theorem pJ.on(h:pJ w U B g ba N a0 a1 a2 a3 M2 f0 f1 f2 f3 c7 pre has D p0 bv C V)(b:ba<w.heap.size/\a0<w.heap.size/\a1<w.heap.size/\a2<w.heap.size/\a3<w.heap.size)(a:cq (λq=>B<=q) V V'):pJ w U B g ba N a0 a1 a2 a3 M2 f0 f1 f2 f3 c7 pre has D p0 bv C V':=by
 obtain⟨l1,l2,l3,l4,l5⟩:=b;have hw:=h.wB;refine⟨h.dr.on a (λq hq e=>by have:=(h.uS q hq).2;omega) oM ⟨oM,oM,oM,oM⟩,h.uS,lZ h.bV a.size,h.nc,h.cB,h.wB,?_,h.same.then (a.weak λq e=>.inr oM)⟩;rw[a.block _ (cm h.r7) (by have:=h.cB.2;omega)];exact h.r7
theorem pJ.below(h:pJ w U B g ba N a0 a1 a2 a3 M2 f0 f1 f2 f3 c7 pre has D p0 bv C V)(a:ba<w.heap.size/\a0<w.heap.size/\a1<w.heap.size/\a2<w.heap.size/\a3<w.heap.size)(b:Below V.heap.size V V'):pJ w U B g ba N a0 a1 a2 a3 M2 f0 f1 f2 f3 c7 pre has D p0 bv C V':=h.on a (cq.of_below b)
theorem pJ.tabd(h:pJ w U B g ba N a0 a1 a2 a3 M2 f0 f1 f2 f3 c7 pre has D p0 bv C V)(c:ba<w.heap.size)(a:cq (·=ba) V V')(b:dt pre V' ba):pJ w U B g ba N a0 a1 a2 a3 M2 f0 f1 f2 f3 c7 pre has D p0 bv C V':=by
 refine⟨h.dr.tabd a b,h.uS,lZ h.bV a.size,h.nc,h.cB,h.wB,?_,h.same.trans a⟩;rw[a.block _ (cm h.r7) (by have:=h.cB.1;omega)];exact h.r7
theorem pJ.cells(h:pJ w U B g ba N a0 a1 a2 a3 M2 f0 f1 f2 f3 c7 pre has D p0 bv C V):V.cell? (yA g 11)=some (.int .i64 D.at_)/\V.cell? (yA g 12)=some (.int .u32 D.seq)/\V.cell? (yA g 13)=some (.int .u32 D.chain)/\V.cell? (yA g 4)=some (.pointer (yS ba 12))/\V.rangeAt c7 0 C.toList:=by
 have hr:=h.dr.bld.row;refine⟨cG hr,cG hr,cG hr,cG hr,λj v hv=>?_⟩;rw[nS,cG h.r7,<-kX];exact hv
end
end
section
open Go.RowKit Go.Maps
structure sP (w:World) (S Sd:Nat->Prop) (ba bd N m n rb a0 a1 a2 a3:Nat) (sv:Value) (M:fm) (T:cS) (d:cX) (pb pf:Addr):Prop where
 arc:gn w S ba bd N rb a0 a1 a2 a3 M.at_ (M.seq-1) M.chain sv false M.has M.infos T
 dk:cD w Sd bd m d
 sl:∀q,S q->q<w.heap.size
 dl:∀q,Sd q->q<w.heap.size
 sd:∀q,S q->¬Sd q
 aw:AW n M
 tr:eN T/\mV T
 nn:d.safe.length=n/\n<=4096/\Up d/\d.wait.length<=800000/\m<=800000/\N<=100000
 tb:∀V,cq (λq=>S q\/Sd q) w V->fL V
 e2:w.cell? ⟨11,0,none⟩=some (rv pf)/\¬S 11/\¬Sd 11
 e3:w.cell? ⟨10,0,none⟩=some (rv pb)/\¬S 10/\¬Sd 10
section
variable {w:World} {S Sd:Nat->Prop} {ba bd N m n rb a0 a1 a2 a3:Nat} {sv:Value} {M:fm} {T:cS} {d:cX} {pb pf:Addr}
theorem sP.lts(h:sP w S Sd ba bd N m n rb a0 a1 a2 a3 sv M T d pb pf):ba<w.heap.size/\a0<w.heap.size/\a1<w.heap.size/\a2<w.heap.size/\a3<w.heap.size:=⟨h.arc.tab.lt,h.arc.kn.k0.lt,h.arc.kn.k1.lt,h.arc.kn.k2.lt,h.arc.kn.k3.lt⟩
theorem sP.count(h:sP w S Sd ba bd N m n rb a0 a1 a2 a3 sv M T d pb pf):1+(lA T []).length<=257:=by
 have h2:(lA T []).length<=T.length:=KI _ _;have h3:=h.tr.1.len;omega
theorem sP.dir(h:sP w S Sd ba bd N m n rb a0 a1 a2 a3 sv M T d pb pf)(l:Below w.heap.size w w1)(k:f0=w.heap.size+2)(o:∀t,t<4->w1.heap[w.heap.size+2+t]?=some (.map #[] 0))(p:V1=w1.alloc (.cells (qh a0 a1 a2 a3 ba f0 (f0+1) (f0+2) (f0+3) (.pointer none) (.slice none 0 0) M.at_ (M.seq-1) M.chain) 284)):
  Below w.heap.size w V1/\Calls prog 162 #[yP w1.heap.size,yP rb] V1 λe w'=>e=.returned (dL (gN T M))/\rr V1 (λq=>w.heap.size<=q/\q<V1.heap.size) w1.heap.size ba N a0 a1 a2 a3 (0+17*(1+(lA T []).length)) f0 (f0+1) (f0+2) (f0+3) (jL bd (yP rb) T.length sv (some a0) (some a1) (some a2) (some a3) M.at_ (M.seq-1) M.chain false) M.has (jH (fs M) (dP T M)) w':=by
 obtain⟨g,a⟩:=j0.new h.arc l k o p;refine⟨a,?_⟩;obtain⟨tt,-,hr⟩:=h.arc.tab.row;obtain⟨nb,mb,c⟩:=h.arc.tree;have hc:=h.count;have hn:=h.nn;have j:=h.aw.at2;have i:=h.aw.sq2;have b:eO T []=false:=by unfold eO;rw[oL h.tr.1]
 have h9:=xi (λq=>(S q/\¬mf a0 a1 a2 a3 q)/\q≠ba) w1.heap.size ba N a0 a1 a2 a3 f0 (f0+1) (f0+2) (f0+3) rb (jL bd (yP rb) T.length sv (some a0) (some a1) (some a2) (some a3) M.at_ (M.seq-1) M.chain false) M.has (fs M) T nb mb h.tr.1 h.tr.2 h.aw.sq1 8 [] [] 0 4096 (λq=>w.heap.size<=q/\q<V1.heap.size) (.pointer none) (.slice none 0 0) V1 (by show 8<=0+8;omega) (.inl rfl) b g ((c.off hr).on (cq.of_below (S:=λ_=>False) a) (λ_ _ h=>h)) (λq hq=>⟨λe=>by have:=h.sl q hq.1.1;have:=e.1;omega,hq.2,ny (h.sl q hq.1.1) a.size⟩)
  (λV f=>h.tb V ((cq.of_below (S:=λq=>S q\/Sd q) a).then (f.weak λq hq=>hq.elim (λe=>.inr e.1) (λe=>.inl (.inl (e▸h.arc.sb))))))
  ⟨by show M.at_<=_;omega,by show M.seq-1<=_;omega,by have:=h.aw.ch;unfold dQ at this;exact this,fP _⟩ (λx hx=>by cases hx) oM oM
 rw[show eM (nb [])=(yP rb) by rw[c.root];rfl]at h9;exact h9
theorem Mb{D:lI}(h:Below w.heap.size w V1)(i:rr V1 (λq=>w.heap.size<=q/\q<V1.heap.size) g ba N a0 a1 a2 a3 M2 f0 f1 f2 f3 pre M.has D w2)(c:Below w2.heap.size w2 w3)(f:V4=(w3.alloc (.cells uh 133)).setRow w3.heap.size C):
  ∃U p0 bv,pJ w U (w3.heap.size+1) g ba N a0 a1 a2 a3 M2 f0 f1 f2 f3 w3.heap.size pre M.has D p0 bv C V4:=by
 obtain⟨hs,p0,bv,hd⟩:=i;have z1:=h.size;have z2:=hs.size;have z3:=c.size;have a:Below w3.heap.size w3 V4:=f▸cC ((dw _ _).alloc (cO _) _) (cO _) _;have b:w3.heap.size+1<=V4.heap.size:=by rw[f];simp
 refine⟨_,p0,bv,⟨(hd.cut.below c).below a,?_,b,?_,⟨oM,oM⟩,oM,?_,?_⟩⟩
 .rintro q ⟨e|e,e2⟩
  .exact⟨e.1,oM⟩
  exact⟨oM,oM⟩
 .rintro⟨-,e2⟩;omega
 .rw[f];exact ja _ _ _ _ _ _ (dM w3 _)
 refine(((cq.of_below (S:=(·=ba)) h).then (hs.weak ?_)).trans (cq.of_below c)).trans (cq.of_below a);rintro q (e|e)
 .exact .inr e.1
 exact .inl e
theorem sP.full(h:sP w S Sd ba bd N m n rb a0 a1 a2 a3 sv M T d pb pf){D:lI}(b:pJ w U B g ba N a0 a1 a2 a3 M2 f0 f1 f2 f3 c7 (jL bd (yP rb) T.length sv (some a0) (some a1) (some a2) (some a3) M.at_ (M.seq-1) M.chain false) M.has D p0 bv C V):oT w S Sd ba bd m rb a0 a1 a2 a3 false M T d V:=by
 have hz:=b.same.size;refine⟨b.same.weak (λq e=>.inl (e▸h.arc.sb)),S,Sd,sv,m,λq hq=>⟨.inl hq,ny (h.sl q hq) hz⟩,λq hq=>⟨.inl hq,ny (h.dl q hq) hz⟩,h.sd,oM,h.dk.on b.same (λq hq e=>h.sd ba h.arc.sb (e▸hq)),?_⟩;exact(h.arc.turn b.same (λq _ a e=>a e) b.dr.tab).tight
theorem sP.write(h:sP w S Sd ba bd N m n rb a0 a1 a2 a3 sv M T d pb pf)(f:pJ w U B g ba N a0 a1 a2 a3 M2 f0 f1 f2 f3 c7 (jL bd (yP rb) T.length sv (some a0) (some a1) (some a2) (some a3) M.at_ (M.seq-1) M.chain false) M.has (jH (fs M) (dP T M)) p0 bv C V)(i:(snapF T M label).at_<=n):
  Calls prog 165 #[yP ba,yP g,.string (jY (de T M) (4,fF T M label))] V λe w'=>e=.returned .nilIface/\∃T' m',m'<=m+8192/\te V Sd (λq=>Sd q\/some q=bv.ownBlock) bd m' (gc T M label d).1 T' w':=by
 obtain⟨n1,n2,n3,n4,n5,-⟩:=h.nn;have hz:=f.same.size;have hl:=h.lts;have b:=h.sd ba h.arc.sb;have a:=lM (de T M) (4,fF T M label);have c:=oF (dP T M) (fs M);have hf:(snapF T M label).at_=(de T M).at_+dU (fF T M label).size:=rfl;have e5:(de T M)=jo (fs M) (dP T M):=rfl;rw[<-e5]at c;have e6:(fs M).at_=M.at_:=rfl;have hw:=zf Sd ba bd m n M.at_ g a0 a1 a2 a3 f0 f1 f2 f3 (de T M).at_ ((de T M).seq-1) (de T M).chain (jL bd (yP rb) T.length sv (some a0) (some a1) (some a2) (some a3) M.at_ (M.seq-1) M.chain false) p0 bv d (ri (fs M) (dP T M)) (jY (de T M) (4,fF T M label)) V (h.dk.on f.same (λq hq e=>b (e▸hq))) (λq hq=>ny (h.dl q hq) hz) f.dr.tab rfl rfl f.dr.bld ⟨b,λe=>f.dr.nb (f.dr.sw _ e)⟩ (λe=>by have:=(f.uS _ f.dr.sg).1;have:=h.dl _ e;omega) (λq e e2=>by have:=(f.uS _ (f.dr.sw _ e)).1;have:=h.dl _ e2;omega) n3 n2 n1 (by rw[a];omega) oM (by rw[a];show _+64*dU (fF T M label).size/64<=_;omega) oM n4 n5;rw[Hw]at hw;exact hw
end
end
section
open Go.RowKit Go.Maps
theorem Ax{r:Nat}(h:w.ranges prog 131 cY b r n D left cnt)(f:w'.heap[b]?=w.heap[b]?)(g:w'.heap[r]?=w.heap[r]?):w'.ranges prog 131 cY b r n D left cnt:=by
 obtain⟨es,a,c,d,c0,hb,F,hs,hD,hr,e⟩:=h;exact⟨es,a,c,d,c0,f.trans hb,F,hs,hD,g.trans hr,e⟩
structure QB (w:World) (S:Nat->Prop) (bd m N r pa:Nat) (d:cX) (D:DataW Value) (left:Lit->Bool) (cnt:Nat) (wi:World):Prop where
 rg:wi.ranges prog 131 cY pa r N D left cnt
 lf:∀kl,left kl=true->Maps.has D kl=true
 dk:cD wi S bd m d
 same:cq S w wi
end
section
open Go.RowKit
def KS(infos:List jR)(i:Nat):jR:=(infos[i]?).getD ⟨⟨#[]⟩,⟨#[]⟩⟩
def sR(infos:List jR)(j:Nat):List Value:=(List.range j).flatMap λi:Nat=>[.int .i64 ((i:Int)+1),.string (KS infos i).label,.string (KS infos i).root]
theorem vL(infos:List jR)(j:Nat):sR infos (j+1)=sR infos j++[.int .i64 ((j:Int)+1),.string (KS infos j).label,.string (KS infos j).root]:=by
 unfold sR;rw[JO,LQ];simp
theorem Fs{l:List jR}(h:∀x∈l,x.root.size=32)(j:Nat)(a:j<l.length):((fG l).drop (j*33)).take 33=jA l[j]:=ou jA 33 l (λx hx=>jN x (h x hx)) j a
theorem JA:∃i z,prog.info? 62=some i/\i.zero=some z/\i.size=3/\i.bytes=40/\z.cells.size=3:=by
 have h:((prog.info? 62).bind λi=>i.zero.map λz=>(i.size,i.bytes,z.cells.size))=some (3,40,3):=kR
 cases hi:prog.info? 62 with
 |none=>rw[hi]at h;cases h
 |some i=>
  rw[hi]at h
  cases hz:i.zero with
  |none=>simp[hz]at h
  |some z=>
   simp[hz]at h;exact⟨i,z,rfl,hz,h.1,h.2.1,h.2.2⟩
theorem ni(ba B:Nat)(a2:List Value)(sv:Value)(infos:List jR)(w:World)(hT:dt a2 w ba)(a3:a2[3]?=some sv)(a0:w.ownsRow B 133 33 sv infos.length (fG infos))(a1:∀x∈infos,x.root.size=32)(hk:infos.length<=100000):
  Calls prog 35 #[yP ba] w λe w'=>∃v,e=.returned v/\Below w.heap.size w w'/\w'.ownsRow w.heap.size 62 3 v infos.length (sR infos infos.length):=by
 obtain⟨k,s⟩:=eX (infos.length);rw[<-s]at a0 hk⊢;obtain⟨ao,cc,rfl⟩:=cQ a0;have o:Hid ((prog.info? 133).map (·.size)=some 33):=by show _=_;kernel_rfl
 have Z:(k:Int)<=100000:=oM;have c3:w.cell? (yA ba 3)=some (.slice ao k cc):=by rw[hT.cell (by omega)];exact a3
 have HO:Hid (w.ownsRow B 133 33 (.slice ao k cc) k (fG infos)/\k=infos.length/\∀x∈infos,x.root.size=32):=⟨a0,s,a1⟩;clear hT a3 a0 a1 s;go_enter func35,ntmps35
 go_wp2_with fail
 clear c3;go_loopw [3,11] (λl_ j_ wr=>∃(j:Nat)(la:Option Addr)(lc:Nat),j<=k/\j_=.int .i64 j/\l_=.slice la j lc/\Hid (Below w.heap.size w wr/\wr.ownsRow w.heap.size 62 3 (.slice la j lc) j (sR infos j))) (λ_ j_ _=>k-(intOf j_).toNat)
 .exact⟨0,none,0,fP _,rfl,rfl,dw _ _,rfl,.inl ⟨rfl,rfl⟩⟩
 obtain⟨j,la,lc,hj,rfl,rfl,HT⟩:=hrel;by_cases T:j<k
 .have W:(j:Int)<k:=oM;have J:=HT.1;have hO:=cI HO.1 (λq hq=>J.block _ (cr HO.1 q hq).2);obtain⟨q,U,hv,X,A,l⟩:=kr hO T;have N:ao=some (yA q 0):=by injection hv
  subst N;have t:j<infos.length:=by have:=HO.2.1;omega
  rw[Fs HO.out.2.2 j t]at l;obtain⟨x,hx⟩:=eX (infos[j]);have F:KS infos j=x:=by unfold KS;rw[pI t,hx];rfl
  rw[<-hx]at l;have a:x.root.size=32:=HO.2.2 x (hx▸mX _);obtain⟨C,hC⟩:=eX ((jA x).toArray);have c:C.toList=jA x:=by rw[hC]
  have y:C.size=33:=by rw[<-gf,c];exact jN x a
  have I:C.all (·.oneCell')=true:=Array.all_eq_true_iff_forall_mem.2 (λv hv=>by
   have hv:v∈jA x:=by rw[<-c];simpa using hv
   unfold jA at hv;rcases List.mem_append.1 hv with hv|hv
   .exact eA _ v hv
   rw[List.mem_singleton.1 hv];rfl)
  have n:Hid (C.toList.length=33/\C.size=33/\C.all (·.oneCell')=true):=⟨by rw[gf,y],y,I⟩;have Q:Hid (wr.rangeAt q (j*33) C.toList):=c▸l
  have HX:Hid (KS infos j=x/\x.root.size=32/\(∀(i:Nat) u,(db x.root)[i]?=some u->C[i]?=some u)/\C[32]?=some (.string x.label)):=by
   refine⟨F,a,λi u hu=>?_,?_⟩
   .rw[<-kX,c];unfold jA;rw[FD (by obtain⟨h,-⟩:=List.getElem?_eq_some_iff.1 hu;exact h)];exact hu
   rw[<-kX,c];unfold jA;rw[F8 (by rw[cE,a];omega),cE,a];rfl
  have Y:(0:Int)<=j:=oM;clear J hO l hC c y I hx F a t hv;go_upto_region 5 with(first|(refine su rfl 133 _ rfl q (j*33) rfl C.toList _ Q Mp rfl (by rw[n.out.1];exact o) ?_;rw[BO])|(refine cu rfl 133 _ _ rfl wr.heap.size C rfl rfl 133 _ (dM wr _) (by rw[n.out.2.1];exact o) (by rw[n.out.2.1];rfl) n.2.2 ?_;intro V5 p))
  have g:Below wr.heap.size wr V5:=by rw[p.out];exact cC ((dw _ _).alloc (cO _) _) (cO _) _
  have f:V5.heap[wr.heap.size]?=some (.cells C 133 (0,0)):=by rw[p.out];exact ja _ _ _ _ _ _ (dM wr _)
  have r:=cm f;obtain⟨i0,z0,hi,hz,D,M,z⟩:=JA;obtain⟨VA,m⟩:=eX ((V5.alloc (.cells #[.int .i64 ((j:Int)+1),.string x.label,.string x.root] 62)).drew);have d:Below V5.heap.size V5 VA:=by rw[m];exact((dw _ _).alloc (cO _) _).drew
  have L:VA.heap[V5.heap.size]?=some (.cells #[.int .i64 ((j:Int)+1),.string x.label,.string x.root] 62 (0,0)):=m▸dM V5 _;have b:Below w.heap.size w VA:=(HT.1.trans (g.mono HT.1.size)).trans (d.mono (by have:=HT.1.size;have:=g.size;omega));have H:VA.ownsRow w.heap.size 62 3 (.slice la j lc) j (sR infos j):=cI HT.2 (λq hq=>by have A:=(cr HT.2 q hq).2;rw[d.block _ (by have:=g.size;omega),g.block _ A]);obtain⟨v',w',E,g2,g3,g4,g5⟩:=Jl (P:=prog) VA w.heap.size 59 59 62 i0 z0 3 40 underlying59 hi hz D M z dE (.slice la j lc) j (sR infos j) H (yA V5.heap.size 0) 1 1 [.int .i64 ((j:Int)+1),.string x.label,.string x.root] rfl (λi u hu=>NB L i u hu) (by intro u hu;simp at hu;rcases hu with rfl|rfl|rfl<;>rfl) (by unfold maxLen;omega) oM b.size;have K:=b.trans ((cq.of_grown (S:=λq=>some q=(Value.slice la j lc).ownBlock) g3 (λq e=>e.symm)).below (λq hq=>(cr HT.2 q hq.symm).1) b.size);have G:w'.heap[wr.heap.size]?=some (.cells C 133 (0,0)):=by rw[g3.block _ (by have:=d.size;omega) (λe=>by have:=(cr HT.out.2 _ e.symm).2;omega),d.block _ r];exact f
  refine kQ (Ml _ (λV=>V.heap[wr.heap.size]?=some (.cells C 133 (0,0))) (λV=>V=w') j wr.heap.size lc la x.label x.root v' w' V5 (by simp[IntKind.wrap,IntKind.bits,IntKind.signed];omega) f (λO=>by rw[show((V5.alloc O).drew).heap=(V5.alloc O).heap from rfl,rd _ _ _ r];exact f) (λV hV=>⟨uq V _ x.root HX.2.1 C _ HX.2.2.1 hV,by rw[cG hV];exact HX.2.2.2⟩) (λV hV=>by rw[hV,<-m];exact E) G rfl (λV hX uB hU=>?_));obtain⟨va,vc,rfl⟩:=cQ g2;have H6:Hid (Below w.heap.size w V/\V.ownsRow w.heap.size 62 3 (.slice va (j+1) vc) (j+1) (sR infos (j+1))):=by refine⟨hX▸K,?_⟩;rw[hX,vL,HX.out.1];exact g2
  refine nU hU ?_;clear hX G K g2 g3 g4 g5 E H b L d m hi hz D M z g f r p
  go_wp2_with fail
  go_roundw
  .exact⟨j+1,va,vc,oM,by go_num,rfl,H6⟩
  exact mS
 obtain rfl:j=k:=oM
 go_wp2_with fail
 go_ret;exact⟨_,rfl,HT.1,HT.2⟩
end
end Go.Proofs.YtapijhhmjjplmaaGreatDoor

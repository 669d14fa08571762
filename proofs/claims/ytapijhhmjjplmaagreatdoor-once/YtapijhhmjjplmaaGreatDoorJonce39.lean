import Derived.Test.YtapijhhmjjplmaaGreatDoorJonce38
namespace Go.Proofs.YtapijhhmjjplmaaGreatDoor
set_option linter.all false
set_option maxRecDepth 100000
set_option maxHeartbeats 4000000
open Go.Proofs.Tryz
variable {C:Array Value}{label:ByteArray}{d':cX}{places:List (Nat×Nat)}{pre:List Value}{B g M2 f0 f1 f2 f3 c7 m' c' n:Nat}{U:Nat→Prop}{P:Program}{p0 bv:Value}{V w1 w2 w3 W:World}
section
open Go.RowKit Go.Maps
section
variable {w:World} {S Sd:Nat->Prop} {ba bd N m n rb a0 a1 a2 a3:Nat} {sv:Value} {M:fm} {T:cS} {d:cX} {pb pf:Addr}
theorem sP.wrote(h:sP w S Sd ba bd N m n rb a0 a1 a2 a3 sv M T d pb pf){T':Nat->Prop}{D:lI}(l:pJ w U B g ba N a0 a1 a2 a3 M2 f0 f1 f2 f3 c7 pre M.has D p0 bv C V)(o:te V Sd (λq=>Sd q\/some q=bv.ownBlock) bd m' d' T' w1):
  dG w1 S N a0 a1 a2 a3 M.has/\dG w1 U M2 f0 f1 f2 f3 D.fresh/\dt pre w1 ba/\w1.heap[c7]?=some (.cells C 133 (0,0))/\w1.heap[g]?=some (.cells (qh a0 a1 a2 a3 ba f0 f1 f2 f3 p0 bv D.at_ D.seq D.chain) 284 (0,0))/\cq (λq=>q=ba\/Sd q\/w.heap.size<=q) w w1:=by
 have hz:=l.same.size;have hl:=h.lts;have j:=h.sd ba h.arc.sb;have i:∀q,some q=bv.ownBlock->w.heap.size<=q:=λq e=>(l.uS _ (l.dr.sw q e.symm)).1
 have c:cq (λq=>q=ba\/Sd q\/w.heap.size<=q) w w1:=cq.trans (l.same.weak λq e=>.inl e) (o.same.weak λq e=>e.elim (λe=>.inr (.inl e)) (λe=>.inr (.inr (i q e))));obtain⟨tt,-,hr⟩:=h.arc.tab.row
 have ka:∀a,S a->a≠ba->¬(a=ba\/Sd a\/w.heap.size<=a):=by
  rintro a hs k (e|e|e)
  .exact k e
  .exact h.sd a hs e
  have:=h.sl a hs;omega
 have kU:∀a,U a->¬Sd a:=λa ha e=>by have:=(l.uS a ha).1;have:=h.dl a e;omega
 have kf:∀{b X:Nat}{f:ByteArray->Option Value},KM V b X f->U b->KM w1 b X f:=λhk hu=>hk.on (o.same.block _ hk.lt (by rintro(e|e);exact kU _ hu e;exact hk.ne_own l.dr.bld.own e.symm))
 refine⟨h.arc.kn.onA c (ka _ h.arc.kn.s.1 (h.arc.kn.k0.ne_row hr)) (ka _ h.arc.kn.s.2.1 (h.arc.kn.k1.ne_row hr)) (ka _ h.arc.kn.s.2.2.1 (h.arc.kn.k2.ne_row hr)) (ka _ h.arc.kn.s.2.2.2 (h.arc.kn.k3.ne_row hr)),⟨kf l.dr.fr.k0 l.dr.fr.s.1,kf l.dr.fr.k1 l.dr.fr.s.2.1,kf l.dr.fr.k2 l.dr.fr.s.2.2.1,kf l.dr.fr.k3 l.dr.fr.s.2.2.2,l.dr.fr.s,l.dr.fr.d⟩,l.dr.tab.on o.same (λe=>e.elim j (λe=>by have:=i _ e;omega)),?_,?_,c⟩
 .rw[o.same.block _ (cm l.r7) ?_]
  .exact l.r7
  rintro(e|e)
  .have:=l.cB.1;have:=h.dl _ e;omega
  exact l.nc (l.dr.sw _ e.symm)
 rw[o.same.block _ (cm l.dr.bld.row) ?_]
 .exact l.dr.bld.row
 rintro(e|e)
 .exact kU _ l.dr.sg e
 exact l.dr.bld.ne e.symm
theorem sP.added(h:sP w S Sd ba bd N m n rb a0 a1 a2 a3 sv M T d pb pf){T':Nat->Prop}(f:M2<=10000)(c:pJ w U B g ba N a0 a1 a2 a3 M2 f0 f1 f2 f3 c7 pre M.has (jH (fs M) (dP T M)) p0 bv C V)(j:te V Sd (λq=>Sd q\/some q=bv.ownBlock) bd m' d' T' w1):
  Calls prog 166 #[ng a0 a1 a2 a3,ng f0 f1 f2 f3] w1.drew λe w'=>e=.returned (.tuple #[])/\dG w' S (N+M2) a0 a1 a2 a3 (M.has++ju (fs M) (dP T M))/\cq (mf a0 a1 a2 a3) w1 w':=by
 obtain⟨k1,k2,-,-,-,-⟩:=h.wrote c j;have hn:=h.nn;have hl:=h.lts;have a:cq (λ_=>False) w1 w1.drew:=(cq.refl _ w1).drew;have b:=(Bg rfl h.tr.1 h.tr.2 M).2.2;refine iM (Ad S U N M2 a0 a1 a2 a3 f0 f1 f2 f3 M.has (ju (fs M) (dP T M)) w1.drew (k1.onA a (λh=>h) (λh=>h) (λh=>h) (λh=>h)) (k2.onA a (λh=>h) (λh=>h) (λh=>h) (λh=>h)) ?_ oM (λk s hs=>Ff b (fs M) k s hs)) ?_
 .intro i k hi hk e;have h1:dA i a0 a1 a2 a3<w.heap.size:=by rcases pM i a0 a1 a2 a3 hi with e|e|e|e<;>rw[e]<;>omega
  have h2:w.heap.size<=dA k f0 f1 f2 f3:=by have hs:=c.dr.fr.s;have u0:=(c.uS _ hs.1).1;have u1:=(c.uS _ hs.2.1).1;have u2:=(c.uS _ hs.2.2.1).1;have u3:=(c.uS _ hs.2.2.2).1;rcases pM k f0 f1 f2 f3 hk with e|e|e|e<;>rw[e]<;>omega
  omega
 rintro e w' ⟨rfl,x1,x2⟩;exact⟨rfl,x1,(cq.refl _ w1).drew.trans x2⟩
theorem sP.done(h:sP w S Sd ba bd N m n rb a0 a1 a2 a3 sv M T d pb pf){T':Nat->Prop}{A:Nat}(K:pJ w U B g ba N a0 a1 a2 a3 M2 f0 f1 f2 f3 c7 (jL bd (yP rb) T.length sv (some a0) (some a1) (some a2) (some a3) M.at_ (M.seq-1) M.chain false) M.has (jH (fs M) (dP T M)) p0 bv C V)(O:m'<=m+8192)(H:te V Sd (λq=>Sd q\/some q=bv.ownBlock) bd m' d' T' w1)(E:dG w2 S (N+M2) a0 a1 a2 a3 (M.has++ju (fs M) (dP T M)))(F:cq (mf a0 a1 a2 a3) w1 w2)(P:C.toList=jA ⟨label,gN T M⟩)(G:w3.ownsRow 0 133 33 (.slice (yS A 0) (M.infos.length+1) c') (M.infos.length+1) (fG M.infos++C.toList))(J:(w2.drew.alloc (.cells C 133)).grownBy w3 sv.ownBlock)(I:some A=sv.ownBlock\/A=w2.heap.size+1)(L:W=(((w3.setCell (yA ba 3) (.slice (yS A 0) (M.infos.length+1) c')).setCell (yA ba 8) (.int .i64 ((snapF T M label).at_:Int))).setCell (yA ba 9) (.int .u32 (((snapF T M label).seq-1:Nat):Int))).setCell (yA ba 10) (.int .u32 ((snapF T M label).chain:Int))):
  oT w S Sd ba bd m rb a0 a1 a2 a3 false (gz T M label) T d' W:=by
 obtain⟨k1,k2,kt,k7,kg,c⟩:=h.wrote K H;have hl:=h.lts;have t:=h.sd ba h.arc.sb;obtain⟨tt,-,hr⟩:=h.arc.tab.row;obtain⟨nb,mb,a⟩:=h.arc.tree;have z1:=c.size;have z2:=F.size;have zV:=K.same.size;have zA:=H.same.size
 have a4:∀q,mf a0 a1 a2 a3 q->S q/\q≠ba/\q<w.heap.size:=by
  rintro q (e|e|e|e)<;>subst e
  .exact⟨h.arc.kn.s.1,h.arc.kn.k0.ne_row hr,hl.2.1⟩
  .exact⟨h.arc.kn.s.2.1,h.arc.kn.k1.ne_row hr,hl.2.2.1⟩
  .exact⟨h.arc.kn.s.2.2.1,h.arc.kn.k2.ne_row hr,hl.2.2.2.1⟩
  exact⟨h.arc.kn.s.2.2.2,h.arc.kn.k3.ne_row hr,hl.2.2.2.2⟩
 have i:∀q,sv.ownBlock=some q->S q/\q≠ba/\q<w.heap.size:=λq e=>⟨h.arc.infS q e,λe2=>mg h.arc.inf hr dE (by rw[e,e2]),h.sl q (h.arc.infS q e)⟩
 have s3:cq (λq=>sv.ownBlock=some q) w2 w3:=by have e1:cq (λq=>sv.ownBlock=some q) w2 (w2.drew.alloc (.cells C 133)):=(cq.refl _ w2).drew.alloc _;exact e1.trans (cq.of_grown J (λq e=>e))
 have sW:cq (·=ba) w3 W:=by rw[L];exact((((cq.refl (·=ba) w3).setCell (yA ba 3) rfl _).setCell (yA ba 8) rfl _).setCell (yA ba 9) rfl _).setCell (yA ba 10) rfl _
 have z3:=s3.size;have zW:=sW.size;have g3:=cr G A rfl
 have r:up S w.heap.size A/\A≠ba:=by
  rcases I with e|e
  .exact⟨.inl (i A e.symm).1,(i A e.symm).2.1⟩
  exact⟨.inr oM,oM⟩
 have nT:∀q,T' q->q<w.heap.size->Sd q:=λq hq y=>(H.tS q hq).1.elim (λe=>e) (λe=>by omega)
 have sK:cq (λq=>S q\/Sd q) w W:=by have e1:cq (λq=>S q\/Sd q) w w1:=⟨c.os,c.tape,c.output,c.size,λk hk hn=>c.block k hk (by rintro(e|e|e);exact hn (.inl (e▸h.arc.sb));exact hn (.inr e);omega)⟩;exact((e1.trans (F.weak λq e=>.inl (a4 q e).1)).trans (s3.weak λq e=>.inl (i q e).1)).trans (sW.weak λq e=>.inl (e▸h.arc.sb))
 have tr:∀q,S q->¬mf a0 a1 a2 a3 q->q≠ba->sv.ownBlock≠some q->W.heap[q]?=w.heap[q]?:=λq h1 h2 h3 h4=>by
  have:=h.sl q h1;rw[sW.block _ (by omega) h3,s3.block _ (by omega) h4,F.block _ (by omega) h2,c.block _ this];rintro(e|e|e)
  .exact h3 e
  .exact h.sd q h1 e
  .omega
 have dT:∀q,T' q->¬(q=ba\/mf a0 a1 a2 a3 q\/sv.ownBlock=some q):=by
  rintro q hq (e|e|e)
  .exact t (e▸nT q hq oM)
  .exact h.sd q (a4 q e).1 (nT q hq (a4 q e).2.2)
  exact h.sd q (i q e).1 (nT q hq (i q e).2.2)
 have sD:cq (λq=>q=ba\/mf a0 a1 a2 a3 q\/sv.ownBlock=some q) w1 W:=((F.weak λq e=>.inr (.inl e)).trans (s3.weak λq e=>.inr (.inr e))).trans (sW.weak λq e=>.inl e);refine⟨sK,λq=>S q\/q=A,T',.slice (yS A 0) (M.infos.length+1) c',m',?_,λq hq=>⟨(H.tS q hq).1.elim .inl (λe=>.inr oM),by have:=(H.tS q hq).2;omega⟩,?_,O,H.dk.on sD dT,?_⟩
 .rintro q (e|e)
  .exact⟨.inl e,by have:=h.sl q e;omega⟩
  subst e;exact⟨r.1,by have:=g3.2;omega⟩
 .rintro q (e|e) hq
  .exact h.sd q e (nT q hq (h.sl q e))
  subst e;rcases I with e|e
  .exact h.sd q (i q e.symm).1 (nT q hq (i q e.symm).2.2)
  have:=(H.tS q hq).2;omega
 have kw:∀{b X:Nat}{f:ByteArray->Option Value},KM w2 b X f->b≠ba->sv.ownBlock≠some b->KM W b X f:=λhk h1 h2=>(hk.on (s3.block _ hk.lt h2)).on (sW.block _ (by have:=hk.lt;omega) h1)
 have o2:w2.ownsRow 0 133 33 sv M.infos.length (fG M.infos):=by
  refine cU (cU h.arc.inf c ?_) F ?_
  .rintro q e (e2|e2|e2)
   .exact(i q e).2.1 e2
   .exact h.sd q (i q e).1 e2
   have:=(i q e).2.2;omega
  rintro q e (e2|e2|e2|e2)<;>subst e2
  .exact h.arc.kn.k0.ne_own h.arc.inf e
  .exact h.arc.kn.k1.ne_own h.arc.inf e
  .exact h.arc.kn.k2.ne_own h.arc.inf e
  exact h.arc.kn.k3.ne_own h.arc.inf e
 have v:dt (jL bd (yP rb) T.length sv (some a0) (some a1) (some a2) (some a3) M.at_ (M.seq-1) M.chain false) w3 ba:=(kt.on F (λe=>(a4 _ e).2.1 rfl)).on s3 (λe=>(i _ e).2.1 rfl);have o:gn W (λq=>S q\/q=A) ba bd (N+M2) rb a0 a1 a2 a3 (gz T M label).at_ ((gz T M label).seq-1) (gz T M label).chain (.slice (yS A 0) (M.infos.length+1) c') false (gz T M label).has (gz T M label).infos T:=?_
 .exact o.tight
 refine⟨?_,?_,?_,?_,⟨nb,mb,?_⟩,.inl h.arc.sb⟩
 .have h5:=(((v.setP (j:=3) oM (.slice (yS A 0) (M.infos.length+1) c')).setP (j:=8) oM (.int .i64 ((snapF T M label).at_:Int))).setP (j:=9) oM (.int .u32 (((snapF T M label).seq-1:Nat):Int))).setP (j:=10) oM (.int .u32 ((snapF T M label).chain:Int));rw[<-L]at h5;exact h5
 .exact⟨kw E.k0 (h.arc.kn.k0.ne_row hr) (E.k0.ne_own o2),kw E.k1 (h.arc.kn.k1.ne_row hr) (E.k1.ne_own o2),kw E.k2 (h.arc.kn.k2.ne_row hr) (E.k2.ne_own o2),kw E.k3 (h.arc.kn.k3.ne_row hr) (E.k3.ne_own o2),⟨.inl E.s.1,.inl E.s.2.1,.inl E.s.2.2.1,.inl E.s.2.2.2⟩,E.d⟩
 .show W.ownsRow 0 _ 33 _ (M.infos++[(⟨label,gN T M⟩:jR)]).length (fG (M.infos++[(⟨label,gN T M⟩:jR)]));rw[rz,<-P,ir,qf];exact cU G sW (λq e e2=>by have e:A=q:=(by injection e);exact r.2 (e.trans e2))
 .intro q e;have e:A=q:=by injection e
  exact .inr e.symm
 refine⟨a.root,λp hp=>⟨.inl (a.sn p hp).1,(a.sn p hp).2⟩,λp hp=>?_,λp hp hf=>⟨.inl (a.sm p hp hf).1,(a.sm p hp hf).2⟩,λp hp hf=>?_,a.i1,a.i2,a.i3⟩
 .have ho:=(a.off hr).sn p hp;rw[tr _ ho.1.1 ho.1.2 ho.2 (mg h.arc.inf (a.node p hp) (by decide))];exact a.node p hp
 obtain⟨D,o1,o3⟩:=a.map p hp hf;have ho:=(a.off hr).sm p hp hf;refine⟨D,dg o1 (tr _ ho.1.1 ho.1.2 ho.2 ?_),o3⟩;intro e;obtain⟨es,u,hb,-⟩:=o1;rcases h.arc.inf.2 with⟨h0,-⟩|⟨g0,z,x,h0,-,l,-⟩
 .rw[h0]at e;cases e
 rw[h0]at e;have e1:g0=mb p:=by injection e
 rw[e1,hb]at l;injection l with l;cases l
theorem sP.bnd(h:sP w S Sd ba bd N m n rb a0 a1 a2 a3 sv M T d pb pf):DB (jH (fs M) (dP T M)) 15000:=by
 have hc:=h.count;have b:=h.aw.at2;have a:=h.aw.sq2;have hn:=h.nn.2.1;have h0:DB (jH (fs M) []) 4096:=⟨by show M.at_<=_;omega,by show M.seq-1<=_;omega,by have:=h.aw.ch;unfold dQ at this;exact this,fP _⟩;exact(DB.node h.tr.1 h.tr.2 rfl h.aw.sq1 M.has 9 [] [] 4096 (λx hx=>by cases hx) h0).mono oM
theorem uc{T:cS}{M:fm}(a:label.size<=20):(fF T M label).size<=56:=by
 unfold fF;rw[lY,lY,gL];have:(gN T M).size=32:=el _;omega
theorem sP.text(h:sP w S Sd ba bd N m n rb a0 a1 a2 a3 sv M T d pb pf)(a:label.size<=20)(V:World):Calls prog 164 #[.agg (db (gN T M)++[Value.string label]).toArray,.int .i64 (M.infos.length+1:Nat)] V λe w'=>e=.returned (.string (fF T M label))/\Below V.heap.size V w':=
 BX (M.infos.length+1) (gN T M) label V (el _) oM (by have:=h.aw.len;have:=h.aw.sq2;have:=h.aw.at2;have:=h.nn.2.1;omega)
theorem sP.lay(h:sP w S Sd ba bd N m n rb a0 a1 a2 a3 sv M T d pb pf)(b:label.size<=20)(c:dt pre V ba):Calls prog 163 #[oP (de T M).at_ ((de T M).seq-1) (de T M).chain,.int .u8 4,.string (fF T M label),.pointer (yS ba 12)] V λe w'=>e=.returned (.tuple #[.string (jY (de T M) (4,fF T M label)),oP (snapF T M label).at_ ((snapF T M label).seq-1) (snapF T M label).chain])/\dt pre w' ba/\cq (·=ba) V w':=by
 obtain⟨b1,b2,b3,-⟩:=h.bnd;have hq:1<=(de T M).seq:=by have:=pO (dP T M) (fs M);have:=h.aw.sq1;show 1<=(jo (fs M) (dP T M)).seq;have e:(fs M).seq=M.seq:=rfl;omega
 have a:(de T M).seq-1+1=(de T M).seq:=oM;have hx:=uV pre ba (de T M).at_ ((de T M).seq-1) (de T M).chain 4 (fF T M label) V c (by have:(de T M).at_<=15000:=b1;omega) (by have:(de T M).seq-1<=15000:=b2;omega) b3 oM (by have:=uc (T:=T) (M:=M) b;omega);rw[a]at hx;have e1:(snapF T M label).seq-1=(de T M).seq:=by show(de T M).seq+1-1=_;omega
 rw[e1];exact hx
end
end
section
open Go.RowKit Go.Maps
theorem B0{t:TypeId}{b:Array Field}(d:P.underlying t=some (.struct b))(hz:((P.info? t).bind λi=>i.zero.map λz=>z.cells.size)=some n)(e:b.toList.mapM (λf=>(P.info? f.type).map λi=>(f.offset,i.size))=some places)(a:List (Nat×Value))(c:FK (places.toArray[·]?) 0 a)(g:(jQ a).length=n):P.built t a=some (jQ a).toArray:=by
 unfold Program.built
 cases hi:P.info? t with
 |none=>rw[hi]at hz;cases hz
 |some it=>
  rw[hi]at hz
  cases hzz:it.zero with
  |none=>simp[hzz]at hz
  |some z=>
   simp[hzz]at hz;rw[d];simp only[hzz,e];rw[tA a 0 z.cells c (by omega)];rw[nS,A9 (by rw[gf];omega)];simp
theorem Cy(A:Array Value)(a:A.size=32)(l:ByteArray):prog.built 133 [(0,.agg A),(1,.string l)]=some (A.toList++[Value.string l]).toArray:=by
 have h:=B0 (P:=prog) (n:=33) (places:=[(0,32),(32,1)]) Mp kR kR [(0,.agg A),(1,.string l)] ⟨by show _=some (0,A.size);rw[a];rfl,by show _=some (0+A.size,1);rw[a];rfl,trivial⟩ (by show(A.toList++([Value.string l]++[])).length=33;simp[a]);exact h
theorem vt(w:World)(S Sd:Nat->Prop)(ba bd N m n rb a0 a1 a2 a3:Nat)(sv:Value)(M:fm)(T:cS)(d:cX)(pb pf:Addr)(label:ByteArray)(h:sP w S Sd ba bd N m n rb a0 a1 a2 a3 sv M T d pb pf)(bP:label.size<=300000):
  Calls prog 93 #[.pointer (some ⟨ba,0,none⟩),.string label] w λe w'=>CK w S Sd ba bd m n rb a0 a1 a2 a3 M T label d pb pf e w':=by
 have bz:(label.size:Int)<=300000:=oM;have bq:w.cell? ⟨ba,11,none⟩=some (.bool false):=h.arc.tab.cell oM;by_cases aa:20<label.size
 .have bo:(20:Int)<label.size:=oM;have ce:=h.e3.1;have HB:=hD aa;clear h aa;go_enter func93,ntmps93
  go_wp2
  go_quiet (fail)
  go_wp2
  refine gh (lB rfl _ _ _) rfl ?_;exact .inl ⟨HB.out,rfl,cR (dw _ _) _⟩
 have bo:¬(20:Int)<label.size:=oM;have az:label.size<=20:=oM;have b2:=h.lts;have HE:=hD h;have p:=Hid.mk' b2;have J:=Hid.mk' az;obtain⟨f0,aE⟩:=eX (w.heap.size+2);obtain⟨ai,X⟩:∃q,q=M.at_:=⟨_,rfl⟩;obtain⟨ag,Q⟩:∃q,q=M.seq-1:=⟨_,rfl⟩;obtain⟨af,a6⟩:∃q,q=M.chain:=⟨_,rfl⟩;obtain⟨c,r⟩:=eX (jL bd (.pointer (some ⟨rb,0,none⟩)) T.length sv (some a0) (some a1) (some a2) (some a3) M.at_ (M.seq-1) M.chain false);have x:=Hid.mk' r;have a9:dt c w ba:=r▸h.arc.tab;have K:∀V,Below w.heap.size w V->V.cell? ⟨ba,4,none⟩=some (.map (some a0))/\V.cell? ⟨ba,5,none⟩=some (.map (some a1))/\V.cell? ⟨ba,6,none⟩=some (.map (some a2))/\V.cell? ⟨ba,7,none⟩=some (.map (some a3))/\V.cell? ⟨ba,8,none⟩=some (.int .i64 ai)/\V.cell? ⟨ba,9,none⟩=some (.int .u32 ag)/\V.cell? ⟨ba,10,none⟩=some (.int .u32 af):=by intro V hV;have ht:=a9.on (cq.of_below (S:=λ_=>False) hV) (λh=>h);rw[r]at ht;rw[X,Q,a6];exact⟨ht.cell oM,ht.cell oM,ht.cell oM,ht.cell oM,ht.cell oM,ht.cell oM,ht.cell oM⟩
 have aU:Calls prog 146 #[] w.drew λe w'=>e=.returned (.agg #[.map (some f0),.map (some (f0+1)),.map (some (f0+2)),.map (some (f0+3))])/\Below w.heap.size w w'/\(Below w.heap.size w w'/\∀t,t<4->w'.heap[w.heap.size+2+t]?=some (.map #[] 0)):=by refine iM (lO w.drew) ?_;rintro e w' ⟨rfl,x1,x2⟩;have x1:Below w.heap.size w w':=(dw _ w).drew.trans x1;exact⟨by rw[aE];rfl,x1,x1,x2⟩
 obtain⟨A,hA⟩:=eX ((db (gN T M)).toArray);have aC:(gN T M).size=32:=el _;have br:Hid (A.size=32):=by show _=_;rw[hA,jO,cE,aC]
 obtain⟨C,hC⟩:=eX ((A.toList++[Value.string label]).toArray);have ac:C.toList=jA ⟨label,gN T M⟩:=by rw[hC,hA];rfl
 have bh:C.size=33:=by rw[<-gf,ac];unfold jA;rw[ir,cE];show(gN T M).size+1=33;omega
 have a5:C.all (·.oneCell')=true:=Array.all_eq_true_iff_forall_mem.2 (λv hv=>by
  have hv:v∈C.toList:=by simpa using hv
  rw[ac]at hv;rcases List.mem_append.1 hv with hv|hv
  .exact eA _ v hv
  rw[List.mem_singleton.1 hv];rfl)
 have HC:Hid (C.size=33/\C.all (·.oneCell')=true/\C.toList=jA ⟨label,gN T M⟩/\C=(db (gN T M)++[Value.string label]).toArray):=⟨bh,a5,ac,by rw[hC,hA]⟩;have aA:Hid ((prog.info? 133).map (·.size)=some 33):=by show _=_;kernel_rfl
 have aR:Hid (prog.built 133 [(0,.agg A),(1,.string label)]=some C):=by show _=_;rw[hC];exact Cy A br.out label
 have b1:Hid (∀V,Calls prog 158 #[.string label] V λe w'=>e=.returned (.string label)/\Below V.heap.size V w'):=λV=>kz label V oM
 obtain⟨k0,aN⟩:=eX (M.infos.length);obtain⟨k,hk⟩:=eX (k0+1);have bp:(k0:Int)+1=(k:Int):=oM;have HK:Hid (k=k0+1/\k0=M.infos.length):=⟨hk,aN⟩;have bC:(k0:Int)<=4096:=by have:=h.aw.len;have:=h.aw.sq2;have:=h.aw.at2;have:=h.nn.2.1;omega
 obtain⟨ao,cc,aO⟩:=cQ h.arc.inf;rw[<-aN]at aO;subst aO;obtain⟨tx,aX⟩:=eX (fF T M label);obtain⟨rc,bc⟩:=eX (jY (de T M) (4,fF T M label));obtain⟨y,hy⟩:=eX ((de T M).at_);obtain⟨sq,be⟩:=eX ((de T M).seq-1);obtain⟨ch,aY⟩:=eX ((de T M).chain);obtain⟨y',b0⟩:=eX ((snapF T M label).at_);obtain⟨i,ar⟩:=eX ((snapF T M label).seq-1);obtain⟨l,ax⟩:=eX ((snapF T M label).chain);have HV:Hid (tx=fF T M label/\rc=jY (de T M) (4,fF T M label)/\y=(de T M).at_/\sq=(de T M).seq-1/\ch=(de T M).chain/\y'=(snapF T M label).at_/\i=(snapF T M label).seq-1/\l=(snapF T M label).chain):=⟨aX,bc,hy,be,aY,b0,ar,ax⟩;have HD:Hid (∀(w1 V1:World),Below w.heap.size w w1->(∀t,t<4->w1.heap[w.heap.size+2+t]?=some (.map #[] 0))->V1=w1.alloc (.cells (qh a0 a1 a2 a3 ba f0 (f0+1) (f0+2) (f0+3) (.pointer none) (.slice none 0 0) ai ag af) 284)->Below w.heap.size w V1/\Calls prog 162 #[.pointer (some ⟨w1.heap.size,0,none⟩),.pointer (some ⟨rb,0,none⟩)] V1 λe w'=>e=.returned (.agg A)/\rr V1 (λq=>w.heap.size<=q/\q<V1.heap.size) w1.heap.size ba N a0 a1 a2 a3 (0+17*(1+(lA T []).length)) f0 (f0+1) (f0+2) (f0+3) c M.has (jH (fs M) (dP T M)) w'):=by intro w1 V1 x1 x2 x3;rw[X,Q,a6]at x3;obtain⟨y1,y2⟩:=h.dir x1 aE x2 x3;rw[show dL (gN T M)=.agg A by rw[hA];rfl,<-r]at y2;exact⟨y1,y2⟩
 have c1:∀V,Below w.heap.size w V->V.cell? ⟨ba,1,none⟩=some (.pointer (some ⟨rb,0,none⟩)):=λV hV=>by have ht:=a9.on (cq.of_below (S:=λ_=>False) hV) (λh=>h);rw[r]at ht;exact ht.cell oM
 have b3:=Hid.mk' c1;clear h b2 az aa a9 hA hC ac bh a5 aC r hk aN aX bc hy be aY b0 ar ax c1 aE X Q a6;go_enter func93,ntmps93;go_upto_region 5 with fail
 refine kQ (Lv _ (λV=>Below w.heap.size w V) (λw'=>Below w.heap.size w w'/\∀t,t<4->w'.heap[w.heap.size+2+t]?=some (.map #[] 0)) ba a0 a1 a2 a3 f0 (f0+1) (f0+2) (f0+3) ai ag af w (dw _ w).drew (λV O hV=>hV.alloc hV.size _) K aU (λw1 hX uB hU=>?_));obtain⟨x1,x2⟩:=hX;refine nU hU ?_;obtain⟨V1,ad⟩:=eX (w1.alloc (.cells (qh a0 a1 a2 a3 ba f0 (f0+1) (f0+2) (f0+3) (.pointer none) (.slice none 0 0) ai ag af) 284));obtain⟨P,Y⟩:=HD.out w1 V1 x1 x2 ad;obtain⟨g,hg⟩:=eX (w1.heap.size);rw[<-hg]at Y;have ap:=Hid.mk' Y;have aZ:=Hid.mk' P;have c1:=b3.out V1 P;unfold qh at ad;rw[<-ad,<-hg];clear ad hg x1 x2 Y P K aU HD b3 bq
 go_wp2_with fail
 refine ap.out.mono ?_;rintro e w2 ⟨rfl,b9⟩;have b8:=Hid.mk' b9;clear b9 ap c1
 go_wp2_with fail
 refine(b1.out _).mono ?_;rintro e w3 ⟨rfl,bj⟩;have b4:=Hid.mk' bj;clear bj b1;go_upto_region 7 with(first|(refine QP rfl 133 _ rfl _ rfl C (by simp only[IW,vj,J6];exact aR.out) ?_)|(refine N0 rfl (some 7) rfl (.pointer (some ⟨w3.heap.size,0,none⟩)) (.cells uh 133) kR ?_)|(refine cu rfl 133 _ _ rfl w3.heap.size C rfl rfl 133 uh (dM w3 _) (by rw[HC.out.1];exact aA.out) (by rw[HC.out.1];rfl) HC.out.2.1 ?_;intro V4 aS))
 obtain⟨U,p0,bv,hB⟩:=Mb aZ.out b8.out b4.out aS.out;have ae:=hD hB.bV;obtain⟨c7,aF⟩:=eX (w3.heap.size);obtain⟨B,aJ⟩:=eX (w3.heap.size+1);obtain⟨M2,bb⟩:=eX (0+17*(1+(lA T []).length));obtain⟨D,hD⟩:=eX (jH (fs M) (dP T M));rw[<-aJ,<-aF,<-bb,<-hD]at hB;rw[<-aJ]at ae;rw[<-aF];have bu:Hid (M2<=10000):=by show _<=_;have:=HE.out.count;omega
 have ab:=Hid.mk' hD;have aI:=Hid.mk' hB;have c3:V4.cell? ⟨ba,3,none⟩=some (.slice ao k0 cc):=by rw[hB.dr.tab.cell (by omega),x.out];rfl
 clear b8 b4 aZ aS hB aF aJ bb hD aR;go_upto_region 8 with fail
 clear c3;have ah:∀V,pJ w U B g ba N a0 a1 a2 a3 M2 f0 (f0+1) (f0+2) (f0+3) c7 c M.has D p0 bv C V->V.cell? ⟨g,11,none⟩=some (.int .i64 y)/\V.cell? ⟨g,12,none⟩=some (.int .u32 sq)/\V.cell? ⟨g,13,none⟩=some (.int .u32 ch)/\V.cell? ⟨g,4,none⟩=some (.pointer (some ⟨ba,12,none⟩))/\V.rangeAt c7 0 C.toList:=λV hV=>by have hc:=hV.cells;rw[ab.out]at hc;obtain⟨-,-,e3,e4,e5,-⟩:=HV.out;rw[e3,e4,e5];exact hc
 have ak:∀V O,pJ w U B g ba N a0 a1 a2 a3 M2 f0 (f0+1) (f0+2) (f0+3) c7 c M.has D p0 bv C V->pJ w U B g ba N a0 a1 a2 a3 M2 f0 (f0+1) (f0+2) (f0+3) c7 c M.has D p0 bv C (V.alloc O):=λV O hV=>hV.below p.out ((dw _ _).alloc (cO _) _)
 have aP:∀V,pJ w U B g ba N a0 a1 a2 a3 M2 f0 (f0+1) (f0+2) (f0+3) c7 c M.has D p0 bv C V->Calls prog 164 #[.agg C,.int .i64 k] V λe w'=>e=.returned (.string tx)/\pJ w U B g ba N a0 a1 a2 a3 M2 f0 (f0+1) (f0+2) (f0+3) c7 c M.has D p0 bv C w'/\Below V.heap.size V w':=λV hV=>by have hx:=HE.out.text J.out V;rw[<-HC.out.2.2.2,<-HK.out.2,<-HK.out.1,<-HV.out.1]at hx;refine iM hx ?_;rintro e w' ⟨rfl,x1⟩;exact⟨rfl,hV.below p.out x1,x1⟩
 have aV:∀V,pJ w U B g ba N a0 a1 a2 a3 M2 f0 (f0+1) (f0+2) (f0+3) c7 c M.has D p0 bv C V->Calls prog 163 #[.agg #[.int .i64 y,.int .u32 sq,.int .u32 ch],.int .u8 4,.string tx,.pointer (some ⟨ba,12,none⟩)] V λe w'=>e=.returned (.tuple #[.string rc,.agg #[.int .i64 y',.int .u32 i,.int .u32 l]])/\pJ w U B g ba N a0 a1 a2 a3 M2 f0 (f0+1) (f0+2) (f0+3) c7 c M.has D p0 bv C w'/\cq (·=ba) V w':=λV hV=>by have hx:=HE.out.lay J.out hV.dr.tab;obtain⟨e1,e2,e3,e4,e5,e6,e7,e8⟩:=HV.out;rw[<-e2,<-e1,<-e3,<-e4,<-e5,<-e6,<-e7,<-e8]at hx;refine iM hx ?_;rintro e w' ⟨rfl,x1,x2⟩;exact⟨rfl,hV.tabd p.out.1 x2 x1,x2⟩
 have bi:(prog.info? 133).map (·.size)=some C.toList.length:=by rw[gf,HC.out.1];exact aA.out
 refine kQ (Mn _ (λV=>V.cell? ⟨g,11,none⟩=some (.int .i64 y)/\V.cell? ⟨g,12,none⟩=some (.int .u32 sq)/\V.cell? ⟨g,13,none⟩=some (.int .u32 ch)/\V.cell? ⟨g,4,none⟩=some (.pointer (some ⟨ba,12,none⟩))/\V.rangeAt c7 0 C.toList) (λV=>pJ w U B g ba N a0 a1 a2 a3 M2 f0 (f0+1) (f0+2) (f0+3) c7 c M.has D p0 bv C V) (λV=>pJ w U B g ba N a0 a1 a2 a3 M2 f0 (f0+1) (f0+2) (f0+3) c7 c M.has D p0 bv C V) (λV=>pJ w U B g ba N a0 a1 a2 a3 M2 f0 (f0+1) (f0+2) (f0+3) c7 c M.has D p0 bv C V) ba g c7 k y sq ch y' i l tx rc C V4 (by have:=p.out.1;have:=aI.out.same.size;omega) (aI.out.below p.out (dw _ _).drew) ak ak ak (λV V' hV hs=>hV.on p.out (hs.weak λq e=>lZ ae.out e)) ah ah ah (λV h=>h) bi aP aV (λV8 a al bf F uB hU=>?_));refine nU hU ?_;have H8:Hid (pJ w U B g ba N a0 a1 a2 a3 M2 f0 (f0+1) (f0+2) (f0+3) c7 c M.has D p0 bv C V8/\V8.heap[a]?=some (.cells #[.int .i64 y',.int .u32 i,.int .u32 l] 119 (0,0))/\B<=a):=⟨bf,F,lZ ae.out al⟩;clear ah ak aP aV bi al bf F aI ae;have aW:Hid (∀V,pJ w U B g ba N a0 a1 a2 a3 M2 f0 (f0+1) (f0+2) (f0+3) c7 c M.has D p0 bv C V->V.cell? ⟨ba,0,none⟩=some (.pointer (some ⟨bd,0,none⟩))):=λV hV=>by rw[hV.dr.tab.cell (by omega),x.out];rfl
 have h9:=H8.out.1.below p.out (dw _ _).drew;have aH:=H8.out.2.1;have aT:Calls prog 62 #[.pointer (some ⟨bd,0,none⟩)] V8.drew λe w'=>e=.returned (.int .i64 n)/\V8.drew=w':=by have hx:=gA bd m Sd d V8.drew (HE.out.dk.on h9.same (λq hq e=>HE.out.sd ba HE.out.arc.sb (e▸hq)));rw[HE.out.nn.1]at hx;exact hx
 go_upto_region 9 with fail
 refine kQ (MO _ (λV=>V=V8.drew) (λV=>V=V8.drew) ba bd a n y' V8 rfl rfl (λV hV=>by rw[hV];exact⟨cG aH,aW.out _ h9⟩) aT (λV9 aQ uB hU=>?_));refine nU hU ?_;have H9:Hid (pJ w U B g ba N a0 a1 a2 a3 M2 f0 (f0+1) (f0+2) (f0+3) c7 c M.has D p0 bv C V9/\V9.heap[a]?=some (.cells #[.int .i64 y',.int .u32 i,.int .u32 l] 119 (0,0))/\B<=a):=by rw[aQ];exact⟨h9,aH,H8.out.2.2⟩
 clear H8 h9 aH aT aQ aW;by_cases Z:n<y'
 .have bs:(n:Int)<y':=oM;have ce:V9.cell? ⟨11,0,none⟩=some (rv pf):=by have e2:=HE.out.e2;rw[<-e2.1];unfold World.cell?;rw[H9.out.1.same.block _ (pr e2.1) (λe=>by have e:11=ba:=e;exact e2.2.1 (e▸HE.out.arc.sb))]
  have HF:Hid (n<(snapF T M label).at_):=by show _<_;have:=HV.out.2.2.2.2.2.1;omega
  have aK:=H9.out.1;rw[x.out]at aK;have bx:=Hid.mk' aK;clear Z aK
  go_wp2
  go_quiet (fail)
  go_wp2
  refine gh (lB rfl _ _ _) rfl ?_;exact .inr (.inl ⟨J.out,HF.out,rfl,HE.out.full (bx.out.below p.out (cR (dw _ _) _))⟩)
 have bs:¬(n:Int)<y':=oM;have HF:Hid ((snapF T M label).at_<=n):=by show _<=_;have:=HV.out.2.2.2.2.2.1;omega
 have aL:=HE.out.write (label:=label) (by have:=H9.out.1;rw[x.out,ab.out]at this;exact this) HF.out;rw[<-HV.out.2.1]at aL;have bD:=yH;have b6:=Hid.mk' aL;clear aL Z
 go_wp2_with fail
 refine b6.out.mono ?_;rintro e z ⟨rfl,T',m',bn,hA⟩;have f:=H9.out.1;have aD:=f;rw[x.out,ab.out]at f;rw[ab.out]at aD;obtain⟨k1,k2,kt,k7,kg,an⟩:=HE.out.wrote f hA
 have a4:∀q,mf a0 a1 a2 a3 q->S q/\q≠ba/\q<w.heap.size/\q≠g/\q≠c7/\q≠a:=by
  have hr:=H9.out.2.1;obtain⟨tt,-,L⟩:=HE.out.arc.tab.row;have kk:=HE.out.arc.kn;have hl:=p.out;have l1:=(f.uS _ f.dr.sg).1;have l2:=f.cB.1;have l3:w.heap.size<=a:=lZ f.wB H9.out.2.2;rintro q (e|e|e|e)<;>subst e
  .exact⟨kk.s.1,kk.k0.ne_row L,hl.2.1,oM,oM,oM⟩
  .exact⟨kk.s.2.1,kk.k1.ne_row L,hl.2.2.1,oM,oM,oM⟩
  .exact⟨kk.s.2.2.1,kk.k2.ne_row L,hl.2.2.2.1,oM,oM,oM⟩
  exact⟨kk.s.2.2.2,kk.k3.ne_row L,hl.2.2.2.2,oM,oM,oM⟩
 have a8:∀V,dt (jL bd (.pointer (some ⟨rb,0,none⟩)) T.length (.slice ao k0 cc) (some a0) (some a1) (some a2) (some a3) M.at_ (M.seq-1) M.chain false) V ba->V.heap[g]?=some (.cells (qh a0 a1 a2 a3 ba f0 (f0+1) (f0+2) (f0+3) p0 bv (jH (fs M) (dP T M)).at_ (jH (fs M) (dP T M)).seq (jH (fs M) (dP T M)).chain) 284 (0,0))->V.cell? ⟨ba,4,none⟩=some (.map (some a0))/\V.cell? ⟨ba,5,none⟩=some (.map (some a1))/\V.cell? ⟨ba,6,none⟩=some (.map (some a2))/\V.cell? ⟨ba,7,none⟩=some (.map (some a3))/\V.cell? ⟨g,5,none⟩=some (.map (some f0))/\V.cell? ⟨g,6,none⟩=some (.map (some (f0+1)))/\V.cell? ⟨g,7,none⟩=some (.map (some (f0+2)))/\V.cell? ⟨g,8,none⟩=some (.map (some (f0+3))):=λV h1 h2=>⟨h1.cell oM,h1.cell oM,h1.cell oM,h1.cell oM,cG h2,cG h2,cG h2,cG h2⟩
 have aB:Calls prog 166 #[.agg #[.map (some a0),.map (some a1),.map (some a2),.map (some a3)],.agg #[.map (some f0),.map (some (f0+1)),.map (some (f0+2)),.map (some (f0+3))]] z.drew λe w'=>e=.returned (.tuple #[])/\(w'.cell? ⟨ba,4,none⟩=some (.map (some a0))/\w'.cell? ⟨ba,5,none⟩=some (.map (some a1))/\w'.cell? ⟨ba,6,none⟩=some (.map (some a2))/\w'.cell? ⟨ba,7,none⟩=some (.map (some a3))/\w'.cell? ⟨g,5,none⟩=some (.map (some f0))/\w'.cell? ⟨g,6,none⟩=some (.map (some (f0+1)))/\w'.cell? ⟨g,7,none⟩=some (.map (some (f0+2)))/\w'.cell? ⟨g,8,none⟩=some (.map (some (f0+3))))/\(dG w' S (N+M2) a0 a1 a2 a3 (M.has++ju (fs M) (dP T M))/\cq (mf a0 a1 a2 a3) z w'):=by refine iM (HE.out.added bu.out f hA) ?_;rintro e w' ⟨rfl,x1,x2⟩;exact⟨rfl,a8 w' (kt.on x2 (λe=>(a4 _ e).2.1 rfl)) (by rw[x2.block _ (cm kg) (λe=>(a4 _ e).2.2.2.1 rfl)];exact kg),x1,x2⟩
 have bg:Hid (∀b,dG b S (N+M2) a0 a1 a2 a3 (M.has++ju (fs M) (dP T M))->cq (mf a0 a1 a2 a3) z b->dt (jL bd (.pointer (some ⟨rb,0,none⟩)) T.length (.slice ao k0 cc) (some a0) (some a1) (some a2) (some a3) M.at_ (M.seq-1) M.chain false) b ba/\b.heap[c7]?=some (.cells C 133 (0,0))/\b.heap[a]?=some (.cells #[.int .i64 y',.int .u32 i,.int .u32 l] 119 (0,0))/\b.ownsRow 0 133 33 (.slice ao k0 cc) k0 (fG M.infos)/\(Value.slice ao k0 cc).ownBlock≠some ba/\(Value.slice ao k0 cc).ownBlock≠some c7/\(Value.slice ao k0 cc).ownBlock≠some a/\c7≠ba/\a≠ba/\a<b.heap.size/\
   ∀g' c' H W,H.ownsRow 0 133 33 (.slice (some ⟨g',0,none⟩) (k0+1) c') (k0+1) (fG M.infos++C.toList)->(b.drew.alloc (.cells C 133)).grownBy H (Value.slice ao k0 cc).ownBlock->(some g'=(Value.slice ao k0 cc).ownBlock\/g'=b.heap.size+1)->W=(((H.setCell ⟨ba,3,none⟩ (.slice (some ⟨g',0,none⟩) (k0+1) c')).setCell ⟨ba,8,none⟩ (.int .i64 y')).setCell ⟨ba,9,none⟩ (.int .u32 i)).setCell ⟨ba,10,none⟩ (.int .u32 l)->CK w S Sd ba bd m n rb a0 a1 a2 a3 M T label d pb pf (.returned (.tuple #[.int .i64 k,.nilIface])) W):=by
  intro b x1 x2;have aM:=HK.out.2;have hl:=p.out;obtain⟨tt,-,L⟩:=HE.out.arc.tab.row;have o:=HE.out.arc.inf;rw[<-aM]at o;have l2:=f.cB.1;have l3:w.heap.size<=a:=lZ f.wB H9.out.2.2;have a7:∀q,(Value.slice ao k0 cc).ownBlock=some q->q<w.heap.size:=λq e=>HE.out.sl q (HE.out.arc.infS q e)
  have ay:(Value.slice ao k0 cc).ownBlock≠some ba:=mg o L dE
  have F:z.heap[a]?=some (.cells #[.int .i64 y',.int .u32 i,.int .u32 l] 119 (0,0)):=by
   rw[hA.same.block _ (cm H9.out.2.1) ?_]
   .exact H9.out.2.1
   rintro(e|e)
   .have:=HE.out.dl _ e;omega
   have:=(f.uS _ (f.dr.sw _ e.symm)).2;have:=H9.out.2.2;omega
  have au:b.heap[a]?=some (.cells #[.int .i64 y',.int .u32 i,.int .u32 l] 119 (0,0)):=by rw[x2.block _ (cm F) (λe=>(a4 _ e).2.2.2.2.2 rfl)];exact F
  refine⟨kt.on x2 (λe=>(a4 _ e).2.1 rfl),by rw[x2.block _ (cm k7) (λe=>(a4 _ e).2.2.2.2.1 rfl)];exact k7,au,?_,ay,λe=>by have:=a7 _ e;omega,λe=>by have:=a7 _ e;omega,oM,oM,cm au,?_⟩
  .refine cU (cU o an ?_) x2 ?_
   .rintro q e (e2|e2|e2)
    .exact ay (by rw[e,e2])
    .exact HE.out.sd q (HE.out.arc.infS q e) e2
    have:=a7 q e;omega
   rintro q e (e2|e2|e2|e2)<;>subst e2
   .exact HE.out.arc.kn.k0.ne_own o e
   .exact HE.out.arc.kn.k1.ne_own o e
   .exact HE.out.arc.kn.k2.ne_own o e
   exact HE.out.arc.kn.k3.ne_own o e
  intro g' c' H W y1 y2 y3 y4;rw[aM]at y1 y4;obtain⟨-,-,-,-,-,e6,e7,e8⟩:=HV.out;rw[e6,e7,e8]at y4;have hd:=HE.out.done (label:=label) f bn hA x1 x2 HC.out.2.2.1 y1 y2 y3 y4;refine .inr (.inr ⟨J.out,HF.out,?_,hd⟩);rw[<-aM,bp]
 have bm:=a8 z.drew (kt.on (S:=λ_=>False) (cq.refl _ z).drew (λh=>h)) kg;clear k1 k2 kt k7 kg an hA bn f aD a8 a4 b6;go_upto_region 15 with fail
 refine kQ (J0 _ (λV=>V.cell? ⟨ba,4,none⟩=some (.map (some a0))/\V.cell? ⟨ba,5,none⟩=some (.map (some a1))/\V.cell? ⟨ba,6,none⟩=some (.map (some a2))/\V.cell? ⟨ba,7,none⟩=some (.map (some a3))/\V.cell? ⟨g,5,none⟩=some (.map (some f0))/\V.cell? ⟨g,6,none⟩=some (.map (some (f0+1)))/\V.cell? ⟨g,7,none⟩=some (.map (some (f0+2)))/\V.cell? ⟨g,8,none⟩=some (.map (some (f0+3)))) (λw'=>dG w' S (N+M2) a0 a1 a2 a3 (M.has++ju (fs M) (dP T M))/\cq (mf a0 a1 a2 a3) z w') ba g a0 a1 a2 a3 f0 (f0+1) (f0+2) (f0+3) z bm (λV h=>h) aB (λb hX uB hU=>?_));refine nU hU ?_;obtain⟨t1,t2,t3,t4,t5,t6,t7,t8,t9,b7,aq⟩:=bg.out b hX.1 hX.2;have av:=Hid.mk' aq;have bk:=Hid.mk' t3;have b5:=Hid.mk' t1;have HT:Hid ((Value.slice ao k0 cc).ownBlock≠some ba/\(Value.slice ao k0 cc).ownBlock≠some a/\a≠ba/\a<b.heap.size):=⟨t5,t7,t9,b7⟩;obtain⟨tt,tl,am⟩:=t1.row;go_upto_region 16 with fail
 refine kQ (J9 _ ba c7 k0 (.slice ao k0 cc) (fG M.infos) C _ 129 b am (t1.cell oM) t2 HC.out.1 (λu hu=>(Array.all_eq_true_iff_forall_mem.1 HC.out.2.1) u (by simpa using hu)) t8 t4 oM t5 t6 ⟨_,_,_,rfl⟩ (λg' c' H y1 y2 y3 uB hU=>?_));refine nU hU ?_;have aG:cq (λq=>(Value.slice ao k0 cc).ownBlock=some q) b H:=by have e1:cq (λq=>(Value.slice ao k0 cc).ownBlock=some q) b (b.drew.alloc (.cells C 133)):=(cq.refl _ b).drew.alloc _;exact e1.trans (cq.of_grown y2 (λq e=>e))
 obtain⟨I,G⟩:=eX (H.setCell ⟨ba,3,none⟩ (.slice (some ⟨g',0,none⟩) (k0+1) c'));have E:=(b5.out.on aG HT.out.1).setP (j:=3) oM (.slice (some ⟨g',0,none⟩) (k0+1) c');rw[<-G]at E;have aj:I.heap[a]?=some (.cells #[.int .i64 y',.int .u32 i,.int .u32 l] 119 (0,0)):=by rw[G,lq _ _ _ _ (by exact HT.out.2.2.1),aG.block _ HT.out.2.2.2 HT.out.2.1];exact bk.out
 have d0:I.cell? ⟨a,0,none⟩=some (.int .i64 y'):=cG aj;have d1:I.cell? ⟨a,1,none⟩=some (.int .u32 i):=cG aj;have d2:I.cell? ⟨a,2,none⟩=some (.int .u32 l):=cG aj;have e8:I.cell? ⟨ba,8,none⟩=some (.int .i64 M.at_):=E.cell oM;have e9:I.cell? ⟨ba,9,none⟩=some (.int .u32 (M.seq-1:Nat)):=E.cell oM;have bB:I.cell? ⟨ba,10,none⟩=some (.int .u32 M.chain):=E.cell oM;have z8:=E.frozen 8;have z9:=E.frozen 9;have bA:=E.frozen 10;have bw:Hid (∀W,W=((I.setCell ⟨ba,8,none⟩ (.int .i64 y')).setCell ⟨ba,9,none⟩ (.int .u32 i)).setCell ⟨ba,10,none⟩ (.int .u32 l)->CK w S Sd ba bd m n rb a0 a1 a2 a3 M T label d pb pf (.returned (.tuple #[.int .i64 k,.nilIface])) W):=λW hW=>av.out g' c' H W y1 y2 y3 (by rw[hW,G])
 rw[<-G];clear E aj G aG y1 y2 y3 av bk b5 HT am tl t1 t2 t3 t4 t5 t6 t7 t8 t9 b7 aq hX bg aB bm
 go_wp2_with fail
 refine gh (lB rfl _ _ _) rfl ?_;exact bw.out _ rfl
end
end Go.Proofs.YtapijhhmjjplmaaGreatDoor

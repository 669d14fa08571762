import Derived.Test.YtapijhhmjjplmaaGreatDoorJonce28
namespace Go.Proofs.YtapijhhmjjplmaaGreatDoor
set_option linter.all false
set_option maxRecDepth 100000
set_option maxHeartbeats 4000000
open Go.Proofs.Tryz
variable {C:Array Value}{t:ByteArray}{infos:List jR}{has:List Ob}{N g a0 a1 a2 a3 sh c' b:Nat}{S:Nat→Prop}{sv:Value}{w w' V:World}
section
open Go.RowKit Go.Maps
theorem jd.grow{T:Nat->Prop}(h:jd w S N g a0 a1 a2 a3 sh sv has infos)(a:∀q,S q->T q):jd w T N g a0 a1 a2 a3 sh sv has infos:=
 ⟨h.row,h.kn.mono a,h.shp,h.inf,λq hq=>⟨a _ (h.infS q hq).1,(h.infS q hq).2⟩,a _ h.sg,a _ h.ss,h.sd⟩
abbrev sE(has:List Ob)(infos:List jR)(t:ByteArray):Prop:=ob t (infos.length+1)/\(cF has 3 (kI t).root).isSome=true/\(mW has (kI t).root).1<=8/\(mW has (kI t).root).2<=256
def wb(w:World)(S:Nat->Prop)(N g a0 a1 a2 a3 sh:Nat)(sv:Value)(has:List Ob)(infos:List jR)(t:ByteArray)(e:Ending)(w':World):Prop:=
 cq S w w'/\((e=.returned (.bool false)/\¬sE has infos t/\jd w' S N g a0 a1 a2 a3 sh sv has infos)\/(e=.returned (.bool true)/\sE has infos t/\∃sv',jd w' (up S w.heap.size) N g a0 a1 a2 a3 sh sv' has (infos++[kI t])))
theorem wb.no(h:jd w S N g a0 a1 a2 a3 sh sv has infos)(a:Below w.heap.size w w')(b:¬sE has infos t):wb w S N g a0 a1 a2 a3 sh sv has infos t (.returned (.bool false)) w':=
 ⟨cq.of_below a,.inl ⟨rfl,b,h.below a (cO _)⟩⟩
theorem Hc(t:ByteArray)(h:36<=t.size):(kI t).root.size=32:=by
 show(t.extract 4 36).size=32;rw[mM];omega
theorem Bf{n:Nat}{x:jR}(h:jd V S N g a0 a1 a2 a3 sh sv has infos)(o:Below w.heap.size w V)(v:g<w.heap.size)(y:C.toList=jA x)(p:w'.ownsRow 0 133 33 (.slice (yS n 0) (infos.length+1) c') (infos.length+1) (fG infos++C.toList))(r:(V.drew.alloc (.cells C 133)).grownBy w' sv.ownBlock)(u:some n=sv.ownBlock\/n=V.heap.size+1):
  cq S w (w'.setCell (yA g 4) (.slice (yS n 0) (infos.length+1) c'))/\jd (w'.setCell (yA g 4) (.slice (yS n 0) (infos.length+1) c')) (up S w.heap.size) N g a0 a1 a2 a3 sh (.slice (yS n 0) (infos.length+1) c') has (infos++[x]):=by
 have k:=cm h.row;have i:sv.ownBlock≠some g:=λe=>(h.infS g e).2 rfl
 have a:cq (λq=>some q=sv.ownBlock) V w':=by have h5:=cq.of_grown r (λq e=>e.symm);exact((cq.refl _ V).drew.alloc _).trans h5
 have l:cq S V (w'.setCell (yA g 4) (.slice (yS n 0) (infos.length+1) c')):=(a.weak λq hq=>(h.infS q hq.symm).1).setCell _ h.sg _
 have c:n≠g:=by
  rintro rfl;rcases u with e|e
  .exact i e.symm
  .omega
 have hz:=a.size;have j:w'.heap[g]?=some (.cells #[.map (some a0),.map (some a1),.map (some a2),.map (some a3),sv,.map (some sh)] 178 (0,0)):=by rw[a.block _ k (λe=>i e.symm)];exact h.row
 have m:∀q,q≠g->q<V.heap.size->some q≠sv.ownBlock->(w'.setCell (yA g 4) (.slice (yS n 0) (infos.length+1) c')).heap[q]?=V.heap[q]?:=by intro q h1 p r;rw[lq _ _ _ _ h1];exact a.block _ p r
 have km:∀{b:Nat}{f:ByteArray->Option Value},KM V b N f->KM (w'.setCell (yA g 4) (.slice (yS n 0) (infos.length+1) c')) b N f:=λhk=>hk.on (m _ (hk.ne_row h.row) hk.lt (λe=>hk.ne_own h.inf e.symm))
 refine⟨(cq.of_below o).then (l.weak λq hq=>.inl hq),⟨?_,⟨km h.kn.k0,km h.kn.k1,km h.kn.k2,km h.kn.k3,⟨.inl h.kn.s.1,.inl h.kn.s.2.1,.inl h.kn.s.2.2.1,.inl h.kn.s.2.2.2⟩,h.kn.d⟩,km h.shp,?_,?_,.inl h.sg,.inl h.ss,h.sd⟩⟩
 .exact gE _ _ _ _ _ _ j
 .rw[ir,rz,<-y];exact cI p (λq hq=>by cases hq;exact lq _ _ _ _ c)
 intro q hq;cases hq;refine⟨?_,c⟩;rcases u with e|e
 .exact .inl (h.infS _ e.symm).1
 exact .inr (show w.heap.size<=n by have:=o.size;omega)
theorem qr(S:Nat->Prop)(N g a0 a1 a2 a3 sh:Nat)(sv:Value)(has:List Ob)(infos:List jR)(t:ByteArray)(w:World)(h:jd w S N g a0 a1 a2 a3 sh sv has infos)(ap:t.size<=100000)(ao:infos.length<=100000)(an:sE has infos t):
  Calls prog 149 #[yP g,.string t] w λe w'=>wb w S N g a0 a1 a2 a3 sh sv has infos t e w':=by
 obtain⟨sa,sc,rfl⟩:=cQ h.inf;obtain⟨n,hn⟩:=eX (infos.length);have HI:Hid (jd w S N g a0 a1 a2 a3 sh (.slice sa infos.length sc) has infos/\n=infos.length):=⟨h,hn⟩;have l:=h.row;rw[<-hn]at l ao⊢;have c4:w.cell? (yA g 4)=some (.slice sa n sc):=cG l;have e1:((n+1:Nat):Int)=(n:Int)+1:=oM;have ak:IntKind.i64.wrap ((n:Int)+1)=(n:Int)+1:=by rw[pH];omega
 have ag:Hid (∀V,Calls prog 219 #[.string t,.int .i64 ((n:Int)+1)] V λe w'=>Ds V t (n+1) e w'):=by intro V;rw[<-e1];exact sF t (n+1) V oM (by first|(rw[hn];exact an.1)|(rw[<-hn];exact an.1))
 have O:Hid ((prog.info? 133).map (·.size)=some 33):=by show _=_;kernel_rfl
 have U:Hid ((prog.info? 131).map (·.size)=some 32):=by show _=_;kernel_rfl
 have ai:=mZ;have HY:=hD an;clear h l hn e1 an;go_enter func149,ntmps149
 go_wp2_with fail
 refine(ag _).mono ?_;rintro e w1 ⟨C,b,rfl,a9,aa,a7,hC⟩;have f:=hD a9;have D:Hid (C.size=33/\C.all (·.oneCell')=true):=⟨aa,a7⟩;have af:=hD hC;clear a9 aa a7 hC;go_upto_region 2 with(refine cu rfl 133 _ _ rfl w1.heap.size C rfl rfl 133 uh (dM w1 _) (by rw[D.out.1];exact O) (by rw[D.out.1];rfl) D.2 ?_;intro V hV)
 have HV:Hid (Below w.heap.size w V/\V.heap[w1.heap.size]?=some (.cells C 133 (0,0))):=by rw[hV.out];exact⟨cC (f.alloc f.size _) (by have:=f.size;omega) _,ja _ _ _ _ _ _ (dM w1 _)⟩
 clear hV;rcases af with⟨rfl,I,H⟩|⟨rfl,ah⟩
 .obtain⟨rt,d⟩:=eX ((kI t).root);obtain⟨A,hA⟩:=eX ((db rt).toArray);have z:rt.size=32:=d▸Hc t I.1;have M:A.size=32:=by rw[hA,jO,cE,z]
  have W:C.toList=A.toList++[.string (kI t).label]:=by rw[H,hA];show jA _=db rt++_;rw[d];rfl
  have j:jd V S N g a0 a1 a2 a3 sh (.slice sa n sc) has infos:=by have h:=HI.1.below HV.1 (cO _);rw[<-HI.out.2]at h;exact h
  have a4:jd w S N g a0 a1 a2 a3 sh (.slice sa n sc) has infos:=by have h:=HI.1;rw[<-HI.out.2]at h;exact h
  have L:(prog.info? 131).map (·.size)=some A.toList.length:=by rw[gf,M];exact U
  have Q:∀V',Below V.heap.size V V'->V'.heap[w1.heap.size]?=some (.cells C 133 (0,0))/\V'.rangeAt w1.heap.size 0 A.toList:=by
   intro V' a;have q:V'.heap[w1.heap.size]?=some (.cells C 133 (0,0)):=by rw[a.block _ (cm HV.out.2)];exact HV.2
   refine⟨q,λi v hv=>?_⟩;rw[nS,cG q,<-kX,W,FD (List.getElem?_eq_some_iff.1 hv).1];exact hv
  have T:∀V',Below V.heap.size V V'->V'.heap[g]?=some (.cells #[.map (some a0),.map (some a1),.map (some a2),.map (some a3),.slice sa n sc,.map (some sh)] 178 (0,0)):=λV' a=>by rw[a.block _ (cm j.row)];exact j.row
  obtain⟨r,hr⟩:=eX ((cF has 3 rt).isSome);have G:Calls prog 220 #[.agg #[.map (some a0),.map (some a1),.map (some a2),.map (some a3)],.int .u8 3,.agg A] V.drew λe w'=>e=.returned (.bool r)/\Below V.heap.size V w'/\Below V.heap.size V w':=by have h:=qm S N a0 a1 a2 a3 3 has rt V.drew (j.kn.below (dw V.heap.size V).drew (cO _)) oM oM z;rw[show dL rt=.agg A by rw[hA];rfl,<-hr]at h;refine iM h ?_;rintro e w' ⟨rfl,h2⟩;have h3:Below V.heap.size V w':=(dw _ _).drew.trans h2;exact⟨rfl,h3,h3⟩
  have am:Hid (∀V',Below V.heap.size V V'->¬sE has infos t->wb w S N g a0 a1 a2 a3 sh (.slice sa n sc) has infos t (.returned (.bool false)) V'):=λV' a hn=>wb.no a4 (HV.1.trans (a.mono HV.1.size)) hn
  have c:Hid (sE has infos t↔(r=true/\(mW has rt).1<=8/\(mW has rt).2<=256)):=by rw[hr,d];refine⟨λh=>⟨h.2.1,h.2.2⟩,λh=>⟨by rw[<-HI.out.2];exact I,h.1,h.2⟩⟩
  have J:=hD Q;have K:=hD T;have X:=hD j;have k:Hid (r=(cF has 3 rt).isSome/\rt=(kI t).root/\rt.size=32/\dL rt=.agg A/\C.toList=jA (kI t)):=⟨hr,d,z,by rw[hA];rfl,by rw[H]⟩;have hc:∀V',Below V.heap.size V V'->V'.cell? (yA g 0)=some (.map (some a0))/\V'.cell? (yA g 1)=some (.map (some a1))/\V'.cell? (yA g 2)=some (.map (some a2))/\V'.cell? (yA g 3)=some (.map (some a3))/\V'.rangeAt w1.heap.size 0 A.toList:=by intro V' a;have q:=K V' a;exact⟨cG q,cG q,cG q,cG q,(J V' a).2⟩
  clear d hA z M W j a4 Q T hr I H;refine kQ (Kb _ (λV'=>Below V.heap.size V V') (λV'=>Below V.heap.size V V') r g w1.heap.size a0 a1 a2 a3 A V (dw _ _).drew hc L G (λV7 hX uB hU=>?_));refine nU hU ?_;clear G hc;cases hrr:r
  .subst hrr;have h:=(c.1 HY).1;cases h
  subst hrr;rw[Bool.not_true];obtain⟨x,hx⟩:=eX ((mW has rt).1);obtain⟨m,hm⟩:=eX ((mW has rt).2);have B:=X.below hX (cO _);have o:∀V',Below V7.heap.size V7 V'->(Instr.lookup 176 (.map (some sh)) (.agg A) false).run prog V'=.ok (.agg #[.int .i64 x,.int .i64 m]) V':=by intro V' a;have h:=B.shp.shape rt k.2.2.1 k.1.symm V' (a.block _ B.shp.lt);rw[k.out.2.2.2.1]at h;rw[hx,hm];exact h
  have a6:∀V',Below V7.heap.size V7 V'->V'.cell? (yA g 5)=some (.map (some sh))/\V'.rangeAt w1.heap.size 0 A.toList:=by intro V' a;have hb:=hX.trans (a.mono hX.size);exact⟨cG (K V' hb),(J V' hb).2⟩
  have al:=hD B;have p:Hid (x=(mW has rt).1/\m=(mW has rt).2):=⟨hx,hm⟩;have HX:=hD hX;clear hx hm B hX;go_upto_region 4 with fail
  refine kQ (LH _ (λV'=>Below V7.heap.size V7 V') g w1.heap.size sh x m A V7 (dw _ _).drew ((dw _ _).drew.alloc (cO _) _) ((dw _ _).drew.alloc (cO _) _) a6 L o (λV8 Z uB hU=>?_));have H8:Hid (Below V7.heap.size V7 V8/\V8.heap[V7.heap.size]?=some (.cells #[.int .i64 x,.int .i64 m] 356 (0,0))):=by rw[Z];exact⟨(dw _ _).drew.alloc (cO _) _,dM V7.drew _⟩
  refine nU hU ?_;clear o a6 Z;have d0:V8.cell? (yA V7.heap.size 0)=some (.int .i64 x):=cG H8.2;have d1:V8.cell? (yA V7.heap.size 1)=some (.int .i64 m):=cG H8.2;have y:=hD (HX.trans (H8.1.mono HX.size));by_cases h8:(8:Int)<x
  .have h:=(c.1 HY).2.1;rw[<-p.out.1]at h;omega
  by_cases aj:(256:Int)<m
  .have h:=(c.1 HY).2.2;rw[<-p.out.2]at h;omega
  have a8:Hid (sE has infos t):=c.2 ⟨rfl,by rw[<-p.out.1];omega,by rw[<-p.out.2];omega⟩;go_upto_region 7 with fail
  have s:=X.below y (cO _);have P:=HV.1.trans (y.mono HV.1.size);have Y:Hid (∀g' c' w',w'.ownsRow 0 133 33 (.slice (yS g' 0) (n+1) c') (n+1) (fG infos++C.toList)->(V8.drew.alloc (.cells C 133)).grownBy w' (Value.slice sa n sc).ownBlock->(some g'=(Value.slice sa n sc).ownBlock\/g'=V8.heap.size+1)->wb w S N g a0 a1 a2 a3 sh (.slice sa n sc) has infos t (.returned (.bool true)) (w'.setCell (yA g 4) (.slice (yS g' 0) (n+1) c'))):=by intro g' c' w' h2 h3 h4;rw[HI.out.2]at h2⊢;have:=Bf s P (cm HI.1.row) k.2.2.2.2 h2 h3 h4;exact⟨this.1,.inr ⟨rfl,a8,_,this.2⟩⟩
  have ad:w1.heap.size≠g:=by have:=cm HI.1.row;have:=f.size;omega
  have E:=s.inf;rw[<-HI.out.2]at E;have ae:∀u∈C.toList,u.oneCell'=true:=by rw[k.out.2.2.2.2];exact yY _
  have F:=s.infS;have ac:=J V8 y;have a5:=K V8 y;have ab:=D.1;have o1:(Value.slice sa n sc).ownBlock≠some g:=λe=>(F _ e).2 rfl
  have o2:(Value.slice sa n sc).ownBlock≠some w1.heap.size:=λe=>by have h:=HI.1.inf;rw[<-HI.out.2]at h;have:=(cr h _ e).2;have:=f.size;omega
  clear s P F;refine kQ (Mv _ g w1.heap.size n (.slice sa n sc) (fG infos) C _ _ V8 a5 (cG a5) ac.1 ab ae ad E oM o1 o2 ⟨_,_,_,rfl⟩ (λg' c' w' h2 h3 h4 uB hU=>?_));have HF:=Hid.mk' (Y g' c' w' h2 h3 h4);refine nU hU ?_
  go_wp2
  go_ret;exact HF
 exact absurd (HI.2▸HY.1) ah
theorem jd.cut(h:jd w S N g a0 a1 a2 a3 sh sv has infos):jd w (λq=>S q/\q<w.heap.size) N g a0 a1 a2 a3 sh sv has infos:=
 ⟨h.row,⟨h.kn.k0,h.kn.k1,h.kn.k2,h.kn.k3,⟨⟨h.kn.s.1,h.kn.k0.lt⟩,⟨h.kn.s.2.1,h.kn.k1.lt⟩,⟨h.kn.s.2.2.1,h.kn.k2.lt⟩,⟨h.kn.s.2.2.2,h.kn.k3.lt⟩⟩,h.kn.d⟩,h.shp,h.inf,λq hq=>⟨⟨(h.infS q hq).1,(cr h.inf q hq).2⟩,(h.infS q hq).2⟩,⟨h.sg,cm h.row⟩,⟨h.ss,h.shp.lt⟩,h.sd⟩
def y9(has:List Ob)(infos:List jR)(at_ k:Nat)(t:ByteArray):Option (List Ob×List jR):=
 if k=4 then(if sE has infos t then some (has,infos++[kI t])else none)else if qu has k t then some (iJ has ⟨k,cV t,at_,t⟩,infos)else none
def KG(has:List Ob)(infos:List jR)(k:Nat)(t:ByteArray):Prop:=(k=4->sE has infos t)/\(¬k=4->qu has k t=true/\(∀l,fO t=some l->∀x∈l,x.dir=false)/\cF has k (cV t)=none)
def DE(w:World)(S:Nat->Prop)(N g a0 a1 a2 a3 sh:Nat)(has:List Ob)(infos:List jR)(at_ k:Nat)(t:ByteArray)(e:Ending)(w':World):Prop:=
 cq S w w'/\∃has' infos' sv',e=.returned (.bool true)/\y9 has infos at_ k t=some (has',infos')/\jd w' (up S w.heap.size) (N+1) g a0 a1 a2 a3 sh sv' has' infos'
theorem EH(S:Nat->Prop)(N g a0 a1 a2 a3 sh:Nat)(sv:Value)(has:List Ob)(infos:List jR)(C k:Nat)(t:ByteArray)(w:World)(h:jd w S N g a0 a1 a2 a3 sh sv has infos)(I:fL w)(J:1<=k)(L:k<=4)(K:N<=1000000)(E:has.length<=1000000)(G:infos.length<=100000)(H:C<=1000000)(F:t.size<=100000)(D:KG has infos k t):
  Calls prog 86 #[yP g,vl k C t] w λe w'=>DE w S N g a0 a1 a2 a3 sh has infos C k t e w':=by
 obtain⟨y,hy⟩:=eX ((C:Int):Int);have l:vl k C t=.agg #[.int .u8 k,.int .i64 y,.string t]:=by rw[hy];rfl
 have z:=cm h.row;rw[l];have x:(k:Int)<=4:=oM;have B:(0:Int)<=k:=oM;have HW:Hid (jd w S N g a0 a1 a2 a3 sh sv has infos/\fL w/\y=(C:Int)):=⟨h,I,hy⟩;obtain⟨W1,b⟩:=eX (w.alloc (.cells #[.int .u8 k,.int .i64 y,.string t] 261));have n:Below w.heap.size w W1:=by rw[b];exact(dw _ _).alloc (cO _) _
 have m:W1.heap.size=w.heap.size+1:=by rw[b];simp
 have r1:W1.heap[w.heap.size]?=some (.cells #[.int .u8 k,.int .i64 y,.string t] 261 (0,0)):=b▸dM w _;have HB:Hid (Below w.heap.size w W1/\W1.heap.size=w.heap.size+1/\W1.heap[w.heap.size]?=some (.cells #[.int .u8 k,.int .i64 y,.string t] 261 (0,0))):=⟨n,m,r1⟩;have c0:W1.cell? (yA w.heap.size 0)=some (.int .u8 k):=cG r1;have c2:W1.cell? (yA w.heap.size 2)=some (.string t):=cG r1;clear h I hy l n m r1;by_cases a:k=4
 .have HS:Hid (Calls prog 149 #[yP g,.string t] W1 λe w'=>e=.returned (.bool true)/\DE w S N g a0 a1 a2 a3 sh has infos C k t (.returned (.bool true)) w'):=by
   refine iM (qr S N g a0 a1 a2 a3 sh sv has infos t W1 (HW.1.below HB.1 (cO _)) F G (D.1 a)) ?_;rintro e w' ⟨hs,hh⟩;have u:cq S w w':=(cq.of_below HB.1).trans hs;rcases hh with⟨rfl,hn,hi⟩|⟨rfl,hy,s,hi⟩
   .exact absurd (D.1 a) hn
   refine⟨rfl,u,has,infos++[kI t],s,rfl,?_,(hi.grow λq hq=>?_).up (K0 _)⟩
   .unfold y9;rw[dq a,dq hy]
   rcases hq with hq|hq
   .exact .inl hq
   exact .inr (by have:=HB.2.1;omega)
  have e4:((k:Int)==4)=true:=by rw[a];rfl
  clear a D;go_enter func86,ntmps86;go_upto_region 1 with fail
  rw[<-b];clear b
  go_wp2_with fail
  refine HS.mono ?_;rintro e w2 ⟨rfl,HF⟩;have HF:=Hid.mk' HF
  go_wp2
  go_ret;exact HF
 obtain⟨A,hA⟩:=eX ((db (cV t)).toArray);have f:dL (cV t)=.agg A:=by rw[hA];rfl
 have hr:=(D.2 a).1;have v:=(HW.1.below HB.1 (cO _):jd W1 S N g a0 a1 a2 a3 sh sv has infos);have j:=HW.1.cut.below HB.1 (cO _);have o:=HW.2.1.on HB.1;have d:Calls prog 107 #[.string t] W1.drew λe w'=>e=.returned (.agg A)/\cq (λq=>S q/\q<w.heap.size) W1 w'/\Below W1.heap.size W1 w':=by refine iM (tV t W1.drew (o.on (dw _ _).drew) oM) ?_;rintro e w' ⟨rfl,hb⟩;have i:Below W1.heap.size W1 w':=(dw _ _).drew.trans hb;exact⟨by rw[f],cq.of_below i,i⟩
 have c:∀w1,Below W1.heap.size W1 w1->Calls prog 150 #[yP g,.agg #[.int .u8 k,.int .i64 y,.string t],.agg A] w1 λe w'=>e=.returned (.bool true)/\cq (λq=>S q/\q<w.heap.size) W1 w'/\DE w S N g a0 a1 a2 a3 sh has infos C k t (.returned (.bool true)) w':=by intro w1 hb;have h:=sC (λq=>S q/\q<w.heap.size) N g a0 a1 a2 a3 sh sv has infos ⟨k,cV t,C,t⟩ w1 (j.below hb (cO _)) J (by show k<=3;omega) (el t) K E H F (D.2 a).1 (D.2 a).2.1 (D.2 a).2.2;rw[f,show vl k C t=.agg #[.int .u8 k,.int .i64 y,.string t] by rw[HW.out.2.2];rfl]at h;refine iM h ?_;rintro e w' ⟨rfl,hs,hi⟩;have p:cq (λq=>S q/\q<w.heap.size) W1 w':=(cq.of_below hb).trans hs;refine⟨by rw[hr],p,(cq.of_below HB.1).trans (p.weak λq hq=>hq.1),?_⟩;have r:=hi.grow (T:=up S w.heap.size) (λq hq=>.inl hq.1);rw[hr,dq rfl]at r;exact⟨_,infos,sv,rfl,by unfold y9;rw[dj a,dq hr],r⟩
 have hc:∀V,cq (λq=>S q/\q<w.heap.size) W1 V->V.cell? (yA w.heap.size 0)=some (.int .u8 k)/\V.cell? (yA w.heap.size 1)=some (.int .i64 y)/\V.cell? (yA w.heap.size 2)=some (.string t):=by
  intro V hV;have q:V.heap[w.heap.size]?=some (.cells #[.int .u8 k,.int .i64 y,.string t] 261 (0,0)):=by rw[hV.block _ (by have:=HB.out.2.1;omega) (by rintro⟨-,h⟩;omega)];exact HB.2.2
  exact⟨cG q,cG q,cG q⟩
 have e4:((k:Int)==4)=false:=by simpa using λh=>a oM
 clear v j o hA f hr D;go_enter func86,ntmps86;go_upto_region 1 with fail
 rw[<-b];clear b;go_upto_region 3 with fail
 refine kQ (L7 _ (λV=>cq (λq=>S q/\q<w.heap.size) W1 V) (λV=>Below W1.heap.size W1 V) (λV=>DE w S N g a0 a1 a2 a3 sh has infos C k t (.returned (.bool true)) V) g w.heap.size k y t A true W1 (cq.refl _ _).drew hc d c (λV hX uB hU=>?_));have HF:=Hid.mk' hX;refine nU hU ?_;clear d c hX
 go_wp2
 go_ret;exact HF
theorem lO(w:World):Calls prog 146 #[] w λe w'=>e=.returned (.agg #[.map (some (w.heap.size+2)),.map (some (w.heap.size+3)),.map (some (w.heap.size+4)),.map (some (w.heap.size+5))])/\Below w.heap.size w w'/\(∀t,t<4->w'.heap[w.heap.size+2+t]?=some (.map #[] 0)):=by
 have j:∀w,(Instr.makeMap 115 none).run prog w=.ok (.map (some w.heap.size)) (w.alloc (.map #[] 0)):=λw=>PI _ w
 have f:Hid (Ma w 0 ((w.alloc (.cells #[.map none,.map none,.map none,.map none] 117)).alloc (.cells #[.map none,.map none,.map none,.map none] 117))/\∀t,t<0->((w.alloc (.cells #[.map none,.map none,.map none,.map none] 117)).alloc (.cells #[.map none,.map none,.map none,.map none] 117)).heap[w.heap.size+2+t]?=some (.map #[] 0)):=by
  refine⟨?_,λt ht=>absurd ht (KE _)⟩;refine⟨sI,?_,?_,((dw _ _).alloc (cO _) _).alloc sI _⟩
  .rw[cK _ _ (by simp)];exact dM w _
  exact Ov w _ _
 go_enter func146,ntmps146
 go_wp2
 go_loopw [3] (λb wr=>∃i:Nat,i<=4/\b=.int .i64 i/\Hid (Ma w i wr/\(∀t,t<i->wr.heap[w.heap.size+2+t]?=some (.map #[] 0)))) (λb _=>4-(intOf b).toNat)
 .exact⟨0,oM,rfl,f⟩
 clear f;obtain⟨i,hi,rfl,HI⟩:=hrel;obtain⟨⟨hs,k0,k1,hb⟩,a⟩:=HI.out;by_cases h:i<4
 .obtain⟨g,c⟩:=Gq w.heap.size i h;have ci:wr.cell? (yA (w.heap.size+1) i)=some (.map none):=by rw[cG k1,c]
  have fi:=fH wr (w.heap.size+1) i _ _ k1;have r:w.heap.size+1<wr.heap.size:=oM;have n:(i:Int)<4:=oM
  have HN:Hid (Ma w (i+1) ((wr.setCell (yA (w.heap.size+1) i) (.map (some wr.heap.size))).alloc (.map #[] 0))/\(∀t,t<i+1->((wr.setCell (yA (w.heap.size+1) i) (.map (some wr.heap.size))).alloc (.map #[] 0)).heap[w.heap.size+2+t]?=some (.map #[] 0))):=by
   refine⟨?_,λt ht=>?_⟩
   rotate_left
   .by_cases et:t=i
    .have d:=dM (wr.setCell (yA (w.heap.size+1) i) (.map (some wr.heap.size))) (.map #[] 0);have hz:(wr.setCell (yA (w.heap.size+1) i) (.map (some wr.heap.size))).heap.size=w.heap.size+2+t:=by rw[et];simp[World.setCell];omega
     rw[hz]at d;exact d
    rw[cK _ _ (by simp[World.setCell];omega),lq _ _ _ _ (by show w.heap.size+2+t≠w.heap.size+1;omega)];exact a t oM
   refine⟨by simp[World.setCell];omega,?_,?_,(hb.setCell (by show w.heap.size<=w.heap.size+1;omega) _).alloc (by simp[World.setCell];omega) _⟩
   .rw[cK _ _ (by simp[World.setCell];omega),lq _ _ _ _ (by show w.heap.size≠w.heap.size+1;omega)];exact k0
   rw[cK _ _ (by simp[World.setCell];omega),gE _ (w.heap.size+1) i _ _ _ k1,hs,g]
  clear k0 k1 hb g c hs HI a
  go_wp2
  go_roundw
  .exact⟨i+1,oM,by go_num,HN⟩
  exact mS
 have h4:i=4:=oM;subst h4;have B:wr.cell? (yA (w.heap.size+1) 0)=some (.map (some (w.heap.size+2))):=cG k1;have m:wr.cell? (yA (w.heap.size+1) 1)=some (.map (some (w.heap.size+3))):=cG k1;have v:wr.cell? (yA (w.heap.size+1) 2)=some (.map (some (w.heap.size+4))):=cG k1;have s:wr.cell? (yA (w.heap.size+1) 3)=some (.map (some (w.heap.size+5))):=cG k1;have x:wr.cell? (yA w.heap.size 0)=some (.map none):=cG k0;have l:wr.cell? (yA w.heap.size 1)=some (.map none):=cG k0;have z:wr.cell? (yA w.heap.size 2)=some (.map none):=cG k0;have y:wr.cell? (yA w.heap.size 3)=some (.map none):=cG k0;have o:=fH wr w.heap.size 0 _ _ k0;have q:=fH wr w.heap.size 1 _ _ k0;have A:=fH wr w.heap.size 2 _ _ k0;have u:=fH wr w.heap.size 3 _ _ k0;clear k0 k1 hb hs a
 go_wp2
 obtain⟨⟨hs,k0,k1,hb⟩,a⟩:=HI.out;obtain⟨a1,a2⟩:=Qo wr w.heap.size _ _ _ _ (.map (some (w.heap.size+2))) (.map (some (w.heap.size+3))) (.map (some (w.heap.size+4))) (.map (some (w.heap.size+5))) _ k0;refine gh (Bj (p:=0) (ty:=117) rfl _ _ w.heap.size 117 _ (0,0) _ rfl a1 underlying117 rfl kR) rfl ?_;exact⟨rfl,hb.trans (a2.below (λk hk=>by subst hk;exact cO _) oM),λt ht=>by rw[a2.block _ (cm (a t ht)) (by omega)];exact a t ht⟩
theorem Cb(h:w.heap[b]?=some (.map #[] 0)):w.ownsMap prog 131 cY b 0 (.map []):=by
 have hb:=cm h;obtain⟨W0,a⟩:=eX ({w with heap:=w.heap.extract 0 b}:World);have hs:W0.heap.size=b:=by rw[a];show(w.heap.extract 0 b).size=b;rw[Array.size_extract];omega
 have h1:=PS W0 prog 131 cY;have h2:=dM W0 (.map #[] 0);rw[hs]at h1 h2;exact dg h1 (by rw[h,h2])
theorem gj.nil:gj (.map []:DataW Value) (λ_=>none):=by
 refine⟨⟨[],rfl,sI⟩,[],rfl,λl d=>?_⟩;constructor
 .intro h;cases h
 rintro⟨s,v,-,-,h,-⟩;cases h
theorem KM.nil(h:w.heap[b]?=some (.map #[] 0)):KM w b 0 (λ_=>none):=⟨_,Cb h,gj.nil⟩
theorem sJ(w:World):Calls prog 84 #[] w λe w'=>∃g a0 a1 a2 a3 sh,e=.returned (yP g)/\Below w.heap.size w w'/\jd w' (λq=>w.heap.size<=q) 0 g a0 a1 a2 a3 sh (.slice none 0 0) [] []:=by
 have b:∀w,(Instr.makeMap 176 none).run prog w=.ok (.map (some w.heap.size)) (w.alloc (.map #[] 0)):=λw=>PI _ w
 have H1:=hD (lO w);go_enter func84,ntmps84
 go_wp2_with (go_at_call 146;refine H1.mono ?_;rintro e w1 ⟨rfl,hb,a⟩;have HB:Hid (Below w.heap.size w w1/\∀t,t<4->w1.heap[w.heap.size+2+t]?=some (.map #[] 0)):=⟨hb,a⟩;clear hb a H1)
 go_ret;obtain⟨hb,a⟩:=HB;have hz:=hb.size;have h0:=a 0 oM;have h1:=a 1 oM;have h2:=a 2 oM;have h3:=a 3 oM;have l3:=cm h3;have old:∀q A B,q<w1.heap.size->((w1.alloc A).alloc B).heap[q]?=w1.heap[q]?:=λq A B hq=>by rw[cK _ _ (by simp;omega),cK _ _ hq]
 refine⟨w1.heap.size+1,w.heap.size+2,w.heap.size+3,w.heap.size+4,w.heap.size+5,w1.heap.size,rfl,(hb.alloc hz _).alloc (by simp;omega) _,⟨Ov w1 _ _,⟨?_,?_,?_,?_,⟨by show w.heap.size<=_;omega,by show w.heap.size<=_;omega,by show w.heap.size<=_;omega,by show w.heap.size<=_;omega⟩,⟨oM,oM,oM,oM,oM,oM⟩⟩,?_,LR _ _ _ _,(by intro q e;cases e),by show w.heap.size<=_;omega,by show w.heap.size<=_;omega,⟨oM,oM,oM,oM⟩⟩⟩
 .exact(KM.nil (w:=w1) h0).on (old _ _ _ (cm h0))
 .exact((KM.nil (w:=w1) h1).on (old _ _ _ (cm h1))).congr (λs _=>rfl)
 .exact((KM.nil (w:=w1) h2).on (old _ _ _ (cm h2))).congr (λs _=>rfl)
 .exact((KM.nil (w:=w1) h3).on (old _ _ _ (cm h3))).congr (λs _=>rfl)
 exact(KM.nil (by rw[cK _ _ (by simp)];exact dM w1 _)).congr (λs _=>rfl)
end
end Go.Proofs.YtapijhhmjjplmaaGreatDoor

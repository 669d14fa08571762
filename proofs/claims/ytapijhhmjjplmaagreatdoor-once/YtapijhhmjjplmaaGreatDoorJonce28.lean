import Derived.Test.YtapijhhmjjplmaaGreatDoorJonce26
import Derived.Test.YtapijhhmjjplmaaGreatDoorJonce27
namespace Go.Proofs.YtapijhhmjjplmaaGreatDoor
set_option linter.all false
set_option maxRecDepth 100000
set_option maxHeartbeats 4000000
open Go.Proofs.Tryz
variable {cs:Array Value}{f:ByteArray→Option Value}{d:cX}{infos:List jR}{has has':List Ob}{xs:List Value}{b N g a0 a1 a2 a3 sh B n k bd m B':Nat}{S U:Nat→Prop}{e:TypeId}{sv v:Value}{w w' V4 V:World}
section
open Go.RowKit Go.Maps
def fG(l:List jR):List Value:=l.flatMap jA
theorem rz(l:List jR)(x:jR):fG (l++[x])=fG l++jA x:=by unfold fG;rw[LQ];simp
structure jd (w:World) (S:Nat->Prop) (N g a0 a1 a2 a3 sh:Nat) (sv:Value) (has:List Ob) (infos:List jR):Prop where
 row:w.heap[g]?=some (.cells #[.map (some a0),.map (some a1),.map (some a2),.map (some a3),sv,.map (some sh)] 178 (0,0))
 kn:dG w S N a0 a1 a2 a3 has
 shp:KM w sh N (En has)
 inf:w.ownsRow 0 133 33 sv infos.length (fG infos)
 infS:∀q,sv.ownBlock=some q->S q/\q≠g
 sg:S g
 ss:S sh
 sd:sh≠a0/\sh≠a1/\sh≠a2/\sh≠a3
theorem KM.ne_row{t:TypeId}(h:KM w b N f)(c:w.heap[g]?=some (.cells cs t (0,0))):b≠g:=by
 rintro rfl;obtain⟨D,⟨es,a,hb,-⟩,-⟩:=h;rw[hb]at c;cases c
theorem jd.ink(h:jd w S N g a0 a1 a2 a3 sh sv has infos):Mc w g a0 a1 a2 a3 sh N #[.map (some a0),.map (some a1),.map (some a2),.map (some a3),sv,.map (some sh)] has:=
 ⟨h.row,rfl,rfl,rfl,rfl,rfl,h.kn.mono (λ_ _=>trivial),h.shp⟩
theorem xe(h:w.ownsRow B e k v n xs)(a:cq U w w')(c:∀q,v.ownBlock=some q->¬U q):w'.ownsRow B e k v n xs:=cI h (λq hq=>a.block q (cr h q hq).2 (c q hq))
theorem jd.on(h:jd w S N g a0 a1 a2 a3 sh sv has infos)(a:cq U w w')(c:∀q,S q->¬U q):jd w' S N g a0 a1 a2 a3 sh sv has infos:=
 ⟨by rw[a.block _ (cm h.row) (c _ h.sg)];exact h.row,h.kn.on a c,h.shp.on (a.block _ h.shp.lt (c _ h.ss)),xe h.inf a (λq hq=>c _ (h.infS q hq).1),h.infS,h.sg,h.ss,h.sd⟩
theorem jd.below(h:jd w S N g a0 a1 a2 a3 sh sv has infos)(a:Below B w w')(c:w.heap.size<=B):jd w' S N g a0 a1 a2 a3 sh sv has infos:=
 h.on (U:=λ_=>False) (cq.of_below (a.mono c)) (λ_ _ h=>h)
theorem jd.up{M:Nat}(h:jd w S N g a0 a1 a2 a3 sh sv has infos)(a:N<=M):jd w S M g a0 a1 a2 a3 sh sv has infos:=⟨h.row,h.kn.up a,h.shp.mono a,h.inf,h.infS,h.sg,h.ss,h.sd⟩
theorem KM.ne_own(h:KM w b N f)(d:w.ownsRow B e k v n xs):v.ownBlock≠some b:=by
 intro hb;rcases d.2 with⟨rfl,-⟩|⟨g,c,a,rfl,-,hg,-⟩
 .cases hb
 cases hb;exact h.ne_row hg rfl
theorem dG.at(h:dG w S N a0 a1 a2 a3 has)(k:Nat):∃f,KM w (dA k a0 a1 a2 a3) N f:=by
 unfold dA;split
 .exact⟨_,h.k0⟩
 .split
  .exact⟨_,h.k1⟩
  .split
   .exact⟨_,h.k2⟩
   exact⟨_,h.k3⟩
theorem jd.turned{M:Nat}(h:jd w S N g a0 a1 a2 a3 sh sv has infos)(a:cq U w w')(c:∀q,U q->q=dA k a0 a1 a2 a3\/q=sh)(d:dG w' S M a0 a1 a2 a3 has')(i:KM w' sh M (En has')):jd w' S M g a0 a1 a2 a3 sh sv has' infos:=by
 obtain⟨f,hf⟩:=h.kn.at k;refine⟨?_,d,i,xe h.inf a (λq hq hu=>?_),h.infS,h.sg,h.ss,h.sd⟩
 .rw[a.block _ (cm h.row) (λhu=>?_)]
  .exact h.row
  rcases c _ hu with e|e
  .exact hf.ne_row h.row e.symm
  exact h.shp.ne_row h.row e.symm
 rcases c _ hu with rfl|rfl
 .exact hf.ne_own h.inf hq
 exact h.shp.ne_own h.inf hq
def vl(k at_:Nat)(t:ByteArray):Value:=.agg #[.int .u8 k,.int .i64 at_,.string t]
theorem Al{o:Ob}(_hn:cF has o.kind o.sum=none)(s:ByteArray):En (has++[o]) s=if o.kind=3 then(if s=o.sum then some (AO (AE (mW has) (mN o.text)))else En has s)else En has s:=by
 unfold En;by_cases h3:o.kind=3
 .rw[dq h3,nu];unfold pe;rw[dq h3];by_cases hs:s=o.sum
  .subst hs;have:(cF (has++[o]) 3 o.sum).isSome=true:=yj (P4 _ sI) h3 rfl;rw[dq this,dq rfl];rw[dq rfl]
  rw[dj hs];have e:cF (has++[o]) 3 s=cF has 3 s:=by rw[fU,oJ,dj (λe=>hs e.2.symm)];cases cF has 3 s<;>rfl
  rw[e];rw[dj hs]
 rw[dj h3,nu,lL h3];unfold pe;rw[dj h3]
def yN(w:World)(S:Nat->Prop)(N g a0 a1 a2 a3 sh:Nat)(sv:Value)(has:List Ob)(infos:List jR)(o:Ob)(e:Ending)(w':World):Prop:=e=.returned (.bool (qu has o.kind o.text))/\cq S w w'/\jd w' S (N+1) g a0 a1 a2 a3 sh sv (if qu has o.kind o.text then iJ has o else has) infos
theorem dG.inS(h:dG w S N a0 a1 a2 a3 has)(k:Nat):S (dA k a0 a1 a2 a3):=by
 obtain⟨s0,s1,s2,s3⟩:=h.s;unfold dA;split
 .exact s0
 .split
  .exact s1
  .split
   .exact s2
   exact s3
theorem jd.sh_ne(h:jd w S N g a0 a1 a2 a3 sh sv has infos)(k:Nat):sh≠dA k a0 a1 a2 a3:=by
 obtain⟨s0,s1,s2,s3⟩:=h.sd;unfold dA;split
 .exact s0
 .split
  .exact s1
  .split
   .exact s2
   exact s3
theorem dG.onA(h:dG w S N a0 a1 a2 a3 has)(a:cq U w w')(c:¬U a0)(i:¬U a1)(j:¬U a2)(l:¬U a3):dG w' S N a0 a1 a2 a3 has:=
 ⟨h.k0.on (a.block _ h.k0.lt c),h.k1.on (a.block _ h.k1.lt i),h.k2.on (a.block _ h.k2.lt j),h.k3.on (a.block _ h.k3.lt l),h.s,h.d⟩
theorem FR{o:Ob}(d:Below w.heap.size w V4)(h:jd V4 S N g a0 a1 a2 a3 sh sv has infos)(c:cq (λq=>q=dA o.kind a0 a1 a2 a3\/q=sh) V4 V)(i:dG V S (N+1) a0 a1 a2 a3 (iJ has o))(j:KM V sh (N+1) (En (iJ has o)))(a:qu has o.kind o.text=true):
  yN w S N g a0 a1 a2 a3 sh sv has infos o (.returned (.bool true)) V:=by
 refine⟨by rw[a],(cq.of_below d).trans (c.weak λq hq=>?_),?_⟩
 .rcases hq with rfl|rfl
  .exact h.kn.inS _
  exact h.ss
 rw[a,dq rfl];exact h.turned c (λq hq=>hq) i j
theorem sC(S:Nat->Prop)(N g a0 a1 a2 a3 sh:Nat)(sv:Value)(has:List Ob)(infos:List jR)(o:Ob)(w:World)(h:jd w S N g a0 a1 a2 a3 sh sv has infos)(h1:1<=o.kind)(h3:o.kind<=3)(hs:o.sum.size=32)(hN:N<=1000000)(au:has.length<=1000000)(ay:o.at_<=1000000)(az:o.text.size<=100000)(ao:qu has o.kind o.text=true)(av:∀l,fO o.text=some l->∀x∈l,x.dir=false)(ap:cF has o.kind o.sum=none):
  Calls prog 150 #[yP g,vl o.kind o.at_ o.text,dL o.sum] w λe w'=>yN w S N g a0 a1 a2 a3 sh sv has infos o e w':=by
 have ah:=mZ;obtain⟨k,hk⟩:=eX (o.kind);obtain⟨t,ht⟩:=eX (o.text);obtain⟨y,hy⟩:=eX ((o.at_:Int):Int);obtain⟨A,hA⟩:=eX ((db o.sum).toArray);have X:A.size=32:=by rw[hA,jO,cE,hs]
 have I:dL o.sum=.agg A:=by rw[hA];rfl
 obtain⟨W2,c⟩:=eX ((w.alloc (.cells #[.int .u8 k,.int .i64 y,.string t] 261)).alloc (.cells A 131));have J:Below w.heap.size w W2:=by rw[c];exact((dw _ _).alloc (cO _) _).alloc sI _
 have am:W2.heap.size=w.heap.size+2:=by rw[c];simp
 have r4:W2.heap[w.heap.size]?=some (.cells #[.int .u8 k,.int .i64 y,.string t] 261 (0,0)):=by rw[c,cK _ _ (by simp)];exact dM w _
 have r5:W2.heap[w.heap.size+1]?=some (.cells A 131 (0,0)):=by rw[c];have:=dM (w.alloc (.cells #[.int .u8 k,.int .i64 y,.string t] 261)) (.cells A 131);simpa using this
 have HM:Hid (Calls prog 221 #[yP g,.int .u8 k,.string t] W2 λe w'=>Li W2 has k t e w'):=by rw[hk,ht];exact yi g a0 a1 a2 a3 sh N o.kind _ has o.text W2 h1 h3 az (h.ink.on J (cO _)) au ao av
 have HP:Hid (jd w S N g a0 a1 a2 a3 sh sv has infos/\k=o.kind/\t=o.text/\y=(o.at_:Int)/\Below w.heap.size w W2/\dL o.sum=.agg A/\1<=o.kind/\o.kind<=3):=⟨h,hk,ht,hy,J,I,h1,h3⟩;have HR:Hid (W2.heap[w.heap.size]?=some (.cells #[.int .u8 k,.int .i64 y,.string t] 261 (0,0))/\W2.heap[w.heap.size+1]?=some (.cells A 131 (0,0))):=⟨r4,r5⟩;have c0:W2.cell? (yA w.heap.size 0)=some (.int .u8 k):=cG r4;have c2:W2.cell? (yA w.heap.size 2)=some (.string t):=cG r4;have a6:(k:Int)<=3:=oM;have Y:(0:Int)<=k:=oM;have W:vl o.kind o.at_ o.text=.agg #[.int .u8 k,.int .i64 y,.string t]:=by rw[hk,ht,hy];rfl
 rw[I,W];have B:Hid ((prog.info? 131).map (·.size)=some 32):=by show _=_;kernel_rfl
 have HG:Hid (qu has k t=true/\cF has o.kind o.sum=none):=⟨by rw[hk,ht];exact ao,ap⟩;clear h hk ht hy hA I J r4 r5 h1 h3 W ao av ap;go_enter func150,ntmps150;go_upto_region 1 with fail
 rw[<-c];clear c
 go_wp2_with fail
 refine HM.mono ?_;rintro e w3 ⟨⟨d,m⟩,rfl,Q,hp,ab,a5⟩;obtain⟨b,hb⟩:=eX (qu has k t);rw[<-hb];have z:Hid ((k=3->qu has k t=true->(d,m)=AE (mW has) (mN t))/\Below W2.heap.size W2 w3):=⟨hp,Q⟩;have HB:=hD hb;unfold AO;clear hp ab a5 Q hb HM c0 c2;cases hbb:b
 .have h:=HB;rw[HG.out.1,hbb]at h;cases h
 subst hbb;obtain⟨p,j⟩:=eX (dA o.kind a0 a1 a2 a3);go_upto_region 4 with fail
 refine eR (λV=>Hid (V.heap[w3.heap.size]?=some (.cells #[.int .i64 d,.int .i64 m] 356 (0,0))/\Below w3.heap.size w3 V)) (?_:_) ?_
 .exact⟨dM _ _,bE⟩
 intro V4 H4;have f:=z.2.trans (H4.2.mono z.2.size);have H:=HP.2.2.2.2.1.trans (f.mono HP.2.2.2.2.1.size);have a:=HP.1.below H (cO _);have u:=HP.1.kn.pick o.kind HP.2.2.2.2.2.2.1 HP.2.2.2.2.2.2.2;rw[<-j]at u;have ak:=u.lt;have Z:=u.ne_row HP.1.row;have al:=cm HP.1.row;have ai:=HP.1.shp.lt;have P:=HP.1.shp.ne_row HP.1.row;have T:sh≠p:=j▸HP.1.sh_ne _;have an:=f.size
 have E:Hid (∀V,cq (λq=>q=p\/q=sh) V4 V->V.heap[g]?=some (.cells #[.map (some a0),.map (some a1),.map (some a2),.map (some a3),sv,.map (some sh)] 178 (0,0))/\V.heap[w.heap.size]?=some (.cells #[.int .u8 k,.int .i64 y,.string t] 261 (0,0))/\V.rangeAt (w.heap.size+1) 0 A.toList/\V.heap[w3.heap.size]?=some (.cells #[.int .i64 d,.int .i64 m] 356 (0,0))):=by
  intro V hV;have aj:=z.2.size;have a7:=cm H4.1;have qg:V.heap[g]?=some (.cells #[.map (some a0),.map (some a1),.map (some a2),.map (some a3),sv,.map (some sh)] 178 (0,0)):=by rw[hV.block _ (by omega) (λe=>e.elim (λe=>Z e.symm) (λe=>P e.symm))];exact a.row
  have q4:V.heap[w.heap.size]?=some (.cells #[.int .u8 k,.int .i64 y,.string t] 261 (0,0)):=by rw[hV.block _ (by omega) (by rintro(e|e)<;>omega),f.block _ (by omega)];exact HR.1
  have q5:V.heap[w.heap.size+1]?=some (.cells A 131 (0,0)):=by rw[hV.block _ (by omega) (by rintro(e|e)<;>omega),f.block _ (by omega)];exact HR.2
  have q3:V.heap[w3.heap.size]?=some (.cells #[.int .i64 d,.int .i64 m] 356 (0,0)):=by rw[hV.block _ a7 (by rintro(e|e)<;>omega)];exact H4.1
  refine⟨qg,q4,λi v hv=>?_,q3⟩;rw[nS,cG q5,<-kX];exact hv
 obtain⟨r,hr⟩:=eX (!(cF has o.kind o.sum).isSome);have O:Calls prog 222 #[.agg #[.map (some a0),.map (some a1),.map (some a2),.map (some a3)],.int .u8 k,.agg A,.agg #[.int .i64 y,.int .i64 t.size]] V4.drew λe w'=>e=.returned (.bool r)/\cq (·=p) V4 w'/\(cq (·=p) V4 w'/\dG w' S (N+1) a0 a1 a2 a3 (iJ has o)):=by have h:=wq S N a0 a1 a2 a3 has o V4.drew (a.kn.below (dw V4.heap.size V4).drew (cO _)) HP.2.2.2.2.2.2.1 HP.2.2.2.2.2.2.2 hs hN ay oM;rw[HP.out.2.2.2.2.2.1,show qC o=.agg #[.int .i64 y,.int .i64 t.size] by rw[HP.out.2.2.2.1,HP.out.2.2.1];rfl,<-HP.out.2.1]at h;refine iM h ?_;rintro e w' ⟨rfl,h2,h3⟩;rw[<-j]at h2;have h4:cq (·=p) V4 w':=(cq.refl _ V4).drew.trans h2;exact⟨by rw[hr],h4,h4,h3⟩
 have aa:qu has o.kind o.text=true:=by rw[<-HP.out.2.1,<-HP.out.2.2.1];exact HB.symm
 have K:(prog.info? 131).map (·.size)=some A.toList.length:=by rw[gf,X];exact B
 have hc:∀V,cq (·=p) V4 V->V.cell? (yA g 0)=some (.map (some a0))/\V.cell? (yA g 1)=some (.map (some a1))/\V.cell? (yA g 2)=some (.map (some a2))/\V.cell? (yA g 3)=some (.map (some a3))/\V.cell? (yA w.heap.size 0)=some (.int .u8 k)/\V.cell? (yA w.heap.size 1)=some (.int .i64 y)/\V.cell? (yA w.heap.size 2)=some (.string t)/\V.rangeAt (w.heap.size+1) 0 A.toList:=by intro V hV;obtain⟨qg,q4,q5,-⟩:=E V (hV.weak λ_ h=>.inl h);exact⟨cG qg,cG qg,cG qg,cG qg,cG q4,cG q4,cG q4,q5⟩
 have C:Hid (∀V,cq (λq=>q=p\/q=sh) V4 V->dG V S (N+1) a0 a1 a2 a3 (iJ has o)->KM V sh (N+1) (En (iJ has o))->yN w S N g a0 a1 a2 a3 sh sv has infos o (.returned (.bool true)) V):=by intro V h1 h2 h3;rw[j]at h1;exact FR H a h1 h2 h3 aa
 have D:Hid (∀V,cq (·=p) V4 V->KM V sh N (En has)):=λV hV=>a.shp.on (hV.block _ a.shp.lt T)
 have ac:cq (·=p) V4 V4.drew:=(cq.refl _ V4).drew;have M:=hD hr;have a4:Hid (k=3->(d,m)=AE (mW has) (mN t)):=λe=>z.1 e HB.symm
 clear f H a u j hr B;cases hrr:r
 .have h:=M;rw[HG.out.2,hrr]at h;cases h
 subst hrr;have hn:cF has o.kind o.sum=none:=by have:=M;simpa using this.symm
 have G:iJ has o=has++[o]:=by unfold iJ;rw[hn];rfl
 refine kQ (F2 _ (λV=>cq (·=p) V4 V) (λV=>cq (·=p) V4 V/\dG V S (N+1) a0 a1 a2 a3 (iJ has o)) g w.heap.size a0 a1 a2 a3 k y t A V4 ac hc K a6 Y O (λV6 hX uB hU=>?_));refine nU hU ?_;by_cases n:k=3
 .have e3:((k:Int)==3)=true:=by subst n;rfl
  rw[e3];obtain⟨W8,hm,ae,L⟩:=((D V6 hX.1).on (w':=V6.drew) rfl).store hN underlying176 o.sum hs (AO (d,m));rw[HP.out.2.2.2.2.2.1]at hm;have F:cq (λq=>q=p\/q=sh) V4 W8:=(hX.1.drew.weak λ_ h=>Or.inl h).trans (L.weak λ_ h=>Or.inr h);have ad:Hid (yN w S N g a0 a1 a2 a3 sh sv has infos o (.returned (.bool true)) W8):=by refine C W8 F (hX.2.onA (w':=W8) (U:=(·=sh)) ((cq.refl _ V6).drew.trans L) (zq HP.1.sd.1) (zq HP.1.sd.2.1) (zq HP.1.sd.2.2.1) (zq HP.1.sd.2.2.2)) (ae.congr λs _=>?_);rw[G,Al hn,dq (show o.kind=3 by rw[<-HP.out.2.1];exact n),<-HP.out.2.2.1,<-a4.out n]
  have ag:∀V,V=V6.drew\/V=W8->V.cell? (yA g 5)=some (.map (some sh))/\V.cell? (yA w3.heap.size 0)=some (.int .i64 d)/\V.cell? (yA w3.heap.size 1)=some (.int .i64 m)/\V.rangeAt (w.heap.size+1) 0 A.toList:=by
   intro V hV
   have a9:cq (λq=>q=p\/q=sh) V4 V:=by
    rcases hV with rfl|rfl
    .exact hX.1.drew.weak λ_ h=>Or.inl h
    exact F
   obtain⟨qg,-,q5,q3⟩:=E V a9;exact⟨cG qg,cG q3,cG q3,q5⟩
  go_upto_region 5 with fail
  refine kQ (I8 _ (λV=>V=V6.drew\/V=W8) W8 g w.heap.size w3.heap.size sh d m A V6 (.inl rfl) (.inr rfl) ag K hm (λV7 af uB hU=>?_));subst af;refine nU hU ?_
  go_wp2
  go_ret;exact ad
 have e3:((k:Int)==3)=false:=by simpa using λh=>n oM
 have a8:Hid (yN w S N g a0 a1 a2 a3 sh sv has infos o (.returned (.bool true)) V6):=by refine C V6 (hX.1.weak λ_ h=>.inl h) hX.2 (((D V6 hX.1).mono (K0 _)).congr λs _=>?_);rw[G,Al hn,dj (show¬o.kind=3 by rw[<-HP.out.2.1];exact n)]
 rw[e3]
 go_wp2
 go_ret;exact a8
def iY(w:World)(S:Nat->Prop):Prop:=∀V,cq S w V->fL V
theorem iY.on(h:iY w S)(a:cq S w w'):iY w' S:=λV hV=>h V (a.trans hV)
theorem iY.below(h:iY w S)(a:Below w.heap.size w w'):iY w' S:=h.on (cq.of_below a)
structure ed (w:World) (S:Nat->Prop) (bd m b N a0 a1 a2 a3:Nat) (d:cX) (has:List Ob):Prop where
 dsk:cD w S bd m d
 row:∃cs,w.heap[b]?=some (.cells cs 129 (0,0))/\cs[0]?=some (yP bd)/\cs[4]?=some (.map (some a0))/\cs[5]?=some (.map (some a1))/\cs[6]?=some (.map (some a2))/\cs[7]?=some (.map (some a3))
 kn:dG w (λ_=>True) N a0 a1 a2 a3 has
 nb:¬S b
 na:¬S a0/\¬S a1/\¬S a2/\¬S a3
theorem ed.on(h:ed w S bd m b N a0 a1 a2 a3 d has)(a:cq S w w')(c:cD w' S bd m d):ed w' S bd m b N a0 a1 a2 a3 d has:=by
 obtain⟨cs,r0,r1⟩:=h.row;exact⟨c,⟨cs,by rw[a.block _ (cm r0) h.nb];exact r0,r1⟩,⟨h.kn.k0.on (a.block _ h.kn.k0.lt h.na.1),h.kn.k1.on (a.block _ h.kn.k1.lt h.na.2.1),h.kn.k2.on (a.block _ h.kn.k2.lt h.na.2.2.1),h.kn.k3.on (a.block _ h.kn.k3.lt h.na.2.2.2),h.kn.s,h.kn.d⟩,h.nb,h.na⟩
theorem ed.below(h:ed w S bd m b N a0 a1 a2 a3 d has)(a:Below w.heap.size w w'):ed w' S bd m b N a0 a1 a2 a3 d has:=
 h.on (cq.of_below a) (h.dsk.on (T:=λ_=>False) (cq.of_below a) (λ_ _ h=>h))
def Fj(w:World)(S:Nat->Prop)(bd m b N a0 a1 a2 a3:Nat)(d:cX)(has:List Ob)(at_ z:Nat)(e:Ending)(w':World):Prop:=
 ed w' S bd m b N a0 a1 a2 a3 d has/\cq S w w'/\e=.returned (.tuple #[.string (gu d at_ z),.nilIface])
def cJ(has:List Ob)(k:Nat)(s:ByteArray):Nat×Nat:=match cF has k s with
 |some o=>(o.at_,o.text.size)
 |none=>(0,0)
theorem FN(w:World):(zeroValue 361).run prog w=.ok (.agg #[.int .i64 0,.int .i64 0]) w:=by rfl
theorem KM.find(h:KM w b N (λs=>(cF has k s).map qC))(s:ByteArray)(c:s.size=32)(V:World)(e:V.heap[b]?=w.heap[b]?):(Instr.lookup 115 (.map (some b)) (dL s) false).run prog V=.ok (.agg #[.int .i64 ((cJ has k s).1:Int),.int .i64 ((cJ has k s).2:Int)]) V:=by
 obtain⟨D,h1,h2⟩:=h.on e;obtain⟨v,ps,a,hv⟩:=h1.lookup kq NO (FN V) (zd:=.held (.agg #[.int .i64 0,.int .i64 0])) (zp:=[]) rfl (iR s c);rw[h2.at c]at hv
 have:v=.agg #[.int .i64 ((cJ has k s).1:Int),.int .i64 ((cJ has k s).2:Int)]:=by
  unfold cY tH at hv;unfold cJ
  cases hf:cF has k s with
  |none=>
   rw[hf]at hv;exact FA (Hi (kM hv)).1
  |some o=>
   rw[hf]at hv;exact FA (Hi (kM hv)).1
 rw[this]at a;exact a
theorem pE(S:Nat->Prop)(bd m b N a0 a1 a2 a3 n k:Nat)(d:cX)(has:List Ob)(s:ByteArray)(w:World)(h:ed w S bd m b N a0 a1 a2 a3 d has)(hV:iY w S)(hn:d.safe.length=n)(hb:n<=4096)(ao:∀s∈df d,s.size=64)(h1:1<=k)(h3:k<=3)(hz:(cJ has k s).2<=6000)(hs:s.size=32)(hg:jf d (cJ has k s).1 (cJ has k s).2 s):
  Calls prog 267 #[yP b,.int .u8 k,dL s] w λe w'=>Fj w S bd m b N a0 a1 a2 a3 d has (cJ has k s).1 (cJ has k s).2 e w':=by
 obtain⟨T,hT⟩:=eX (λq=>S q/\q<w.heap.size:Nat->Prop);have a7:∀q,T q->q<w.heap.size:=by rw[hT];exact λq h=>h.2
 have c:∀q,T q->S q:=by rw[hT];exact λq h=>h.1
 have hd:cD w T bd m d:=hT▸h.dsk.tight;have g:ed w T bd m b N a0 a1 a2 a3 d has:=⟨hd,h.row,h.kn,λh'=>h.nb (c _ h'),λh'=>h.na.1 (c _ h'),λh'=>h.na.2.1 (c _ h'),λh'=>h.na.2.2.1 (c _ h'),λh'=>h.na.2.2.2 (c _ h')⟩;have aa:iY w T:=λV f=>hV V (f.weak c)
 have a4:Hid (∀V,ed V T bd m b N a0 a1 a2 a3 d has->cq T w V->ed V S bd m b N a0 a1 a2 a3 d has/\cq S w V):=λV h1 h2=>⟨⟨h1.dsk.mono c,h1.row,h1.kn,h.nb,h.na⟩,h2.weak c⟩
 obtain⟨y,hy⟩:=eX ((cJ has k s).1);obtain⟨z,o⟩:=eX ((cJ has k s).2);obtain⟨A,hA⟩:=eX ((db s).toArray);have u:dL s=.agg A:=by rw[hA];rfl
 have ag:A.size=32:=by rw[hA,jO,cE,hs]
 obtain⟨a,ha⟩:=eX (dA k a0 a1 a2 a3);have p:∀V,V.heap[a]?=w.heap[a]?->(Instr.lookup 115 (.map (some a)) (.agg A) false).run prog V=.ok (.agg #[.int .i64 y,.int .i64 z]) V:=by intro V f;have hp:=h.kn.pick k h1 h3;rw[<-ha]at hp;have:=hp.find s hs V f;rw[u,<-hy,<-o]at this;exact this
 have H:a<w.heap.size/\¬T a:=by
  rw[ha];unfold dA;split
  .exact⟨h.kn.k0.lt,g.na.1⟩
  .split
   .exact⟨h.kn.k1.lt,g.na.2.1⟩
   .split
    .exact⟨h.kn.k2.lt,g.na.2.2.1⟩
    exact⟨h.kn.k3.lt,g.na.2.2.2⟩
 rw[<-hy,<-o]at hg;rw[u,<-hy,<-o];obtain⟨W1,x⟩:=eX (w.alloc (.cells A 131));have I:Below w.heap.size w W1:=by rw[x];exact(dw _ _).alloc (cO _) _
 have r1:W1.heap[w.heap.size]?=some (.cells A 131 (0,0)):=x▸dM w _
 
 obtain⟨K,hK⟩:=eX (λV=>ed V T bd m b N a0 a1 a2 a3 d has/\cq T w V/\V.heap[w.heap.size]?=some (.cells A 131 (0,0)):World->Prop);have a8:∀V V',K V->cq T V V'->cD V' T bd m d->K V':=by rw[hK];rintro V V' ⟨k1,k2,k3⟩ j G;exact⟨k1.on j G,k2.trans j,by rw[j.block _ (cm k3) (λh=>by have:=a7 _ h;omega)];exact k3⟩
 have C:∀V V',K V->Below V.heap.size V V'->K V':=λV V' hV l=>a8 V V' hV (cq.of_below l) (by rw[hK]at hV;exact hV.1.dsk.on (T:=λ_=>False) (cq.of_below l) (λ_ _ h=>h))
 have J:K W1:=by rw[hK];exact⟨g.below I,cq.of_below I,r1⟩
 have a6:∀V,K V->V.rangeAt w.heap.size 0 A.toList:=by rw[hK];rintro V ⟨-,-,k4⟩ i v hv;rw[nS,cG k4,<-kX];exact hv
 have Y:∀V,K V->V.cell? (yA b (4+k))=some (.map (some a))/\V.cell? (yA b 0)=some (yP bd):=by
  rw[hK];rintro V ⟨k1,-,-⟩;obtain⟨cs,q0,q1,q4,q5,q6,q7⟩:=k1.row;refine⟨?_,(cG q0).trans q1⟩;rw[cG q0,ha];have:k=1\/k=2\/k=3:=oM;rcases this with rfl|rfl|rfl
  .exact q5
  .exact q6
  exact q7
 have U:∀V,K V->(Instr.lookup 115 (.map (some a)) (.agg A) false).run prog V=.ok (.agg #[.int .i64 y,.int .i64 z]) V:=by rw[hK];rintro V ⟨-,k2,-⟩;exact p V (k2.block _ H.1 H.2)
 have a9:∀V,K V->Calls prog 248 #[.agg #[.int .i64 y,.int .i64 z],yP bd,.agg A] V λe w'=>I6 V T bd m d y z e w':=by rw[hK];rintro V ⟨k1,k2,-⟩;have:=ru T bd m n y z d s V k1.dsk (aa.on k2) hn hb ao (o▸hz) hs hg;rw[u]at this;exact this
 have HK:Hid (∀V,K V->ed V S bd m b N a0 a1 a2 a3 d has/\cq S w V):=by intro V f;rw[hK]at f;exact a4 V f.1 f.2.1
 have ak:=Hid.mk' C;have ah:=Hid.mk' a6;have ad:=Hid.mk' Y;have ae:=Hid.mk' a7;have Z:(prog.info? 131).map (·.size)=some A.toList.length:=by rw[gf,ag];kernel_rfl
 have ai:(0:Int)<=k:=oM;have af:(k:Int)<4:=oM;have al:=cm r1;have aj:=mZ;have F:=a8;clear h hV hn ao hd g aa a4 hy o hA u ha p H I r1 hK hT c;go_enter func267,ntmps267;go_upto_region 1 with fail
 rw[<-x];clear x;have P:=C _ _ J (dw _ _).drew;have B:∀O,K (W1.drew.alloc O):=λO=>C _ _ J ((dw _ _).drew.alloc (cO _) _)
 refine kQ (MN _ K b w.heap.size a k y z A W1 P (B _) (B _) (λV hV=>⟨(Y V hV).1,a6 V hV,U V hV⟩) Z ai af (λV2 hX uB hU=>?_));have X:K V2:=hX▸B _;have M:V2.heap[W1.heap.size]?=some (.cells #[.int .i64 y,.int .i64 z] 361 (0,0)):=hX▸dM W1.drew _;refine nU hU ?_;clear hX B P U
 
 obtain⟨L,hL⟩:=eX (λV=>K V/\V.heap[W1.heap.size]?=some (.cells #[.int .i64 y,.int .i64 z] 361 (0,0)):World->Prop);have W:L V2:=by rw[hL];exact⟨X,M⟩
 have a5:∀V V',L V->Below V.heap.size V V'->L V':=by rw[hL];rintro V V' ⟨l1,l2⟩ l;exact⟨C _ _ l1 l,by rw[l.block _ (cm l2)];exact l2⟩
 have ab:∀V V',L V->cq T V V'->cD V' T bd m d->L V':=by rw[hL];rintro V V' ⟨l1,l2⟩ j G;exact⟨F _ _ l1 j G,by rw[j.block _ (cm l2) (λh=>by have:=ae.out _ h;omega)];exact l2⟩
 have D:=a5 _ _ W (dw _ _).drew;have ac:∀V,L V->V.cell? (yA b 0)=some (yP bd)/\V.cell? (yA W1.heap.size 0)=some (.int .i64 y)/\V.cell? (yA W1.heap.size 1)=some (.int .i64 z)/\V.rangeAt w.heap.size 0 A.toList:=by rw[hL];rintro V ⟨l1,l2⟩;exact⟨(ad V l1).2,cG l2,cG l2,ah V l1⟩
 have Q:Hid (∀V,L V->K V):=by rw[hL];exact λV h=>h.1
 have E:=a9 V2.drew (Q _ D);clear a9 hL X M F;go_upto_region 2 with fail
 have r:Calls prog 248 #[.agg #[.int .i64 y,.int .i64 z],yP bd,.agg A] V2.drew λe w'=>e=.returned (.tuple #[.string (gu d y z),.bool true])/\L w'/\L w':=by refine iM E ?_;rintro e w' ⟨h1,h2,rfl⟩;have hl:=ab _ _ D h2 h1;exact⟨rfl,hl,hl⟩
 refine kQ (Ni _ L L b w.heap.size W1.heap.size bd y z (gu d y z) true A V2 D ac Z r (λV3 hX uB hU=>?_));have HF:Hid (Fj w S bd m b N a0 a1 a2 a3 d has y z (.returned (.tuple #[.string (gu d y z),.nilIface])) V3):=by have:=HK V3 (Q V3 hX);exact⟨this.1,this.2,rfl⟩
 refine nU hU ?_;obtain⟨t,ht⟩:=eX (gu d y z);rw[<-ht]at HF⊢;clear r E hX ht D W a5 ab ac
 go_wp2
 refine gh (lB rfl _ _ _) rfl ?_;exact HF
def za(w:World)(S:Nat->Prop)(bd m b N a0 a1 a2 a3:Nat)(d:cX)(has:List Ob)(l:List gS)(e:Ending)(w':World):Prop:=
 ed w' S bd m b N a0 a1 a2 a3 d has/\cq S w w'/\∃v,e=.returned (.tuple #[v,.nilIface])/\w'.ownsRow w.heap.size 366 34 v l.length (fM l)
theorem fq(h:w.ownsRow B e k v n xs)(c:B'<=B):w.ownsRow B' e k v n xs:=by
 refine⟨h.1,?_⟩;rcases h.2 with h|⟨g,b,a,hv,hb,hr⟩
 .exact .inl h
 exact .inr ⟨g,b,a,hv,oM,hr⟩
theorem qM(d:cX)(a z:Nat)(_h64:∀s∈df d,s.size=64):(gu d a z).size<=z:=by
 unfold gu;rw[mM];omega
theorem jP(S:Nat->Prop)(G m b N H I J K n:Nat)(d:cX)(has:List Ob)(s:ByteArray)(l:List gS)(w:World)(h:ed w S G m b N H I J K d has)(O:iY w S)(P:d.safe.length=n)(U:n<=4096)(F:∀s∈df d,s.size=64)(hz:(cJ has 3 s).2<=6000)(M:s.size=32)(Q:jf d (cJ has 3 s).1 (cJ has 3 s).2 s)(T:fO (gu d (cJ has 3 s).1 (cJ has 3 s).2)=some l)(E:l.length<=16)(L:∀x∈l,x.dir=false):
  Calls prog 223 #[yP b,dL s] w λe w'=>za w S G m b N H I J K d has l e w':=by
 obtain⟨A,hA⟩:=eX ((db s).toArray);have j:dL s=.agg A:=by rw[hA];rfl
 have q:A.size=32:=by rw[hA,jO,cE,M]
 rw[j];obtain⟨W1,f⟩:=eX (w.alloc (.cells A 131));have g:Below w.heap.size w W1:=by rw[f];exact(dw _ _).alloc (cO _) _
 have r1:W1.heap[w.heap.size]?=some (.cells A 131 (0,0)):=f▸dM w _;have B:Hid (W1.rangeAt w.heap.size 0 A.toList):=by intro i v hv;rw[nS,cG r1,<-kX];exact hv
 have p:Hid ((prog.info? 131).map (·.size)=some A.toList.length/\A.toList.toArray=A):=⟨by rw[gf,q];kernel_rfl,sI⟩;have k:Hid (Calls prog 267 #[yP b,.int .u8 3,.agg A] W1 λe w'=>Fj W1 S G m b N H I J K d has (cJ has 3 s).1 (cJ has 3 s).2 e w'):=by have:=pE S G m b N H I J K n 3 d has s W1 (h.below g) (O.below g) P U F oM oM hz M Q;rw[j]at this;exact this
 have u:Hid (∀V,cq S W1 V->cq S w V):=λV y=>(cq.of_below g).trans y
 have c:Hid ((gu d (cJ has 3 s).1 (cJ has 3 s).2).size<=100000/\w.heap.size<W1.heap.size/\fO (gu d (cJ has 3 s).1 (cJ has 3 s).2)=some l/\l.length<=16/\∀x∈l,x.dir=false):=⟨by have:=qM d (cJ has 3 s).1 (cJ has 3 s).2 F;omega,cm r1,T,E,L⟩;have C:=yH;clear h O P F hz M hA j q g r1 Q T E L;go_enter func223,ntmps223;go_upto_region 1 with fail
 rw[<-f];clear f
 go_wp2_with (refine su rfl 131 _ rfl w.heap.size 0 rfl A.toList _ B kb rfl p.1 ?_;rw[p.out.2])
 refine k.mono ?_;rintro e w2 ⟨h1,h2,rfl⟩;have z:=Hid.mk' h1;have r:=Hid.mk' (u _ h2);have D:=h2.size;clear h1 h2 k;obtain⟨t,ht⟩:=eX (gu d (cJ has 3 s).1 (cJ has 3 s).2);have HL:Hid (Calls prog 268 #[.string t] w2 λe w'=>BM w2 l e w'):=pR t l w2 (ht▸c.1) (ht▸c.2.2.1) c.2.2.2.1 c.2.2.2.2;have o:Hid (∀v w3,Below w2.heap.size w2 w3->w3.ownsRow w2.heap.size 366 34 v l.length (fM l)->za w S G m b N H I J K d has l (.returned (.tuple #[v,.nilIface])) w3):=λv w3 a hh=>⟨z.below a,r.trans (cq.of_below a),v,rfl,fq hh (by have:=c.2.1;omega)⟩
 rw[<-ht];clear ht
 go_wp2_with fail
 refine HL.mono ?_;rintro e w3 ⟨v,rfl,a,hh⟩;have HF:=Hid.mk' (o v w3 a hh);clear a hh HL
 go_wp2
 refine gh (lB rfl _ _ _) rfl ?_;exact HF
def KP(w:World)(S:Nat->Prop)(bd m b N a0 a1 a2 a3:Nat)(d:cX)(has:List Ob)(t:ByteArray)(sz:Nat)(e:Ending)(w':World):Prop:=
 ed w' S bd m b N a0 a1 a2 a3 d has/\cq S w w'/\∃cv:Value,e=.returned (.tuple #[.agg #[.int .i64 sz,cv],.nilIface])/\w'.ownsRow w.heap.size 131 32 cv (du sz) (iP t (du sz))
theorem ed.up(h:ed w S bd m b N a0 a1 a2 a3 d has)(a:cq U w w')(c:∀q,S q->¬U q)(e:¬U b)(f:¬U a0)(g:¬U a1)(i:¬U a2)(j:¬U a3):ed w' S bd m b N a0 a1 a2 a3 d has:=by
 obtain⟨cs,r0,r1⟩:=h.row;exact⟨h.dsk.on a c,⟨cs,by rw[a.block _ (cm r0) e];exact r0,r1⟩,h.kn.onA a f g i j,h.nb,h.na⟩
theorem nG(S:Nat->Prop)(bd m b N a0 a1 a2 a3 n:Nat)(d:cX)(has:List Ob)(s:ByteArray)(sz:Nat)(w:World)(h:ed w S bd m b N a0 a1 a2 a3 d has)(hV:iY w S)(hn:d.safe.length=n)(hb:n<=4096)(a5:∀s∈df d,s.size=64)(hz:(cJ has 2 s).2<=6000)(hs:s.size=32)(hg:jf d (cJ has 2 s).1 (cJ has 2 s).2 s)(a6:jJ (gu d (cJ has 2 s).1 (cJ has 2 s).2)=some sz):
  Calls prog 232 #[yP b,dL s] w λe w'=>KP w S bd m b N a0 a1 a2 a3 d has (gu d (cJ has 2 s).1 (cJ has 2 s).2) sz e w':=by
 obtain⟨T,hT⟩:=eX (λq=>S q/\q<w.heap.size:Nat->Prop);have x:∀q,T q->q<w.heap.size:=by rw[hT];exact λq h=>h.2
 have a:∀q,T q->S q:=by rw[hT];exact λq h=>h.1
 have E:ed w T bd m b N a0 a1 a2 a3 d has:=⟨hT▸h.dsk.tight,h.row,h.kn,λh'=>h.nb (a _ h'),λh'=>h.na.1 (a _ h'),λh'=>h.na.2.1 (a _ h'),λh'=>h.na.2.2.1 (a _ h'),λh'=>h.na.2.2.2 (a _ h')⟩;have I:iY w T:=λV j=>hV V (j.weak a)
 have P:Hid (∀V,ed V T bd m b N a0 a1 a2 a3 d has->cq T w V->ed V S bd m b N a0 a1 a2 a3 d has/\cq S w V):=λV h1 h2=>⟨⟨h1.dsk.mono a,h1.row,h1.kn,h.nb,h.na⟩,h2.weak a⟩
 obtain⟨A,hA⟩:=eX ((db s).toArray);have p:dL s=.agg A:=by rw[hA];rfl
 have H:A.size=32:=by rw[hA,jO,cE,hs]
 rw[p];obtain⟨W2,f⟩:=eX ((w.alloc (.cells A 131)).alloc (.cells #[.int .i64 0,.slice none 0 0] 376));have g:Below w.heap.size w W2:=by rw[f];exact((dw _ _).alloc (cO _) _).alloc sI _
 have r0:W2.heap[w.heap.size]?=some (.cells A 131 (0,0)):=by rw[f];exact(iy w _ _).1
 have r1:W2.heap[w.heap.size+1]?=some (.cells #[.int .i64 0,.slice none 0 0] 376 (0,0)):=by rw[f];exact(iy w _ _).2
 have Q:Hid (W2.rangeAt w.heap.size 0 A.toList):=by intro i v hv;rw[nS,cG r0,<-kX];exact hv
 have y:Hid ((prog.info? 131).map (·.size)=some A.toList.length/\A.toList.toArray=A):=⟨by rw[gf,H];kernel_rfl,sI⟩;have B:Hid (Calls prog 267 #[yP b,.int .u8 2,.agg A] W2 λe w'=>Fj W2 T bd m b N a0 a1 a2 a3 d has (cJ has 2 s).1 (cJ has 2 s).2 e w'):=by have:=pE T bd m b N a0 a1 a2 a3 n 2 d has s W2 (E.below g) (I.below g) hn hb a5 oM oM hz hs hg;rw[p]at this;exact this
 have L:Hid (∀V,cq T W2 V->cq T w V/\V.heap[w.heap.size+1]?=some (.cells #[.int .i64 0,.slice none 0 0] 376 (0,0))):=λV j=>⟨(cq.of_below g).trans j,by rw[j.block _ (cm r1) (λh=>by have:=x _ h;omega)];exact r1⟩
 have c:Hid (¬(w.heap.size+1<=b)/\¬(w.heap.size+1<=a0)/\¬(w.heap.size+1<=a1)/\¬(w.heap.size+1<=a2)/\¬(w.heap.size+1<=a3)):=by obtain⟨cs,q0,-⟩:=h.row;have e:=cm q0;have e0:=h.kn.k0.lt;have e1:=h.kn.k1.lt;have e2:=h.kn.k2.lt;have e3:=h.kn.k3.lt;exact⟨oM,oM,oM,oM,oM⟩
 have r:Hid ((gu d (cJ has 2 s).1 (cJ has 2 s).2).size<=100000/\w.heap.size+1<W2.heap.size/\∀q,T q->q<w.heap.size):=⟨by have:=qM d (cJ has 2 s).1 (cJ has 2 s).2 a5;omega,cm r1,x⟩;have X:=yH;clear h hV hn a5 hz hs hg hA p H g r0 r1 hT x a E I;go_enter func232,ntmps232;go_upto_region 1 with fail
 rw[<-f];clear f
 go_wp2_with (refine su rfl 131 _ rfl w.heap.size 0 rfl A.toList _ Q kb rfl y.1 ?_;rw[y.out.2])
 refine B.mono ?_;rintro e w2 ⟨h1,h2,rfl⟩;have W:=Hid.mk' h1;have l:=Hid.mk' (L _ h2);have Z:=h2.size;have Y:=r.2.1;clear h1 h2 B;obtain⟨t,ht⟩:=eX (gu d (cJ has 2 s).1 (cJ has 2 s).2);have HL:Hid (Calls prog 272 #[.string t] w2 λe w'=>Gi w2 t sz e w'):=ry t sz w2 (ht▸r.1) (ht▸a6);have HT:=Hid.mk' ht;rw[<-ht];clear ht a6
 go_wp2_with fail
 refine HL.mono ?_;rintro e w3 ⟨cv,rfl,u,hh⟩;have O:∃ao k cc,cv=.slice ao k cc:=by obtain⟨ao,cc,rfl⟩:=cQ hh;exact⟨ao,_,cc,rfl⟩
 obtain⟨ao,ck,cc,rfl⟩:=O;have D:w3.heap[w.heap.size+1]?=some (.cells #[.int .i64 0,.slice none 0 0] 376 (0,0)):=by rw[u.block _ (cm l.out.2)];exact l.2
 have z:=Hid.mk' D;have F:=Hid.mk' u;have HH:=Hid.mk' hh;clear u hh D HL;go_upto_region 5 with fail
 refine eR (λV=>Hid (Below w3.heap.size w3 V/\V.heap[w3.heap.size]?=some (.cells #[.int .i64 sz,.slice ao ck cc] 376 (0,0)))) (?_:_) ?_
 .exact Hid.mk' ⟨(dw _ _).alloc (cO _) _,dM w3 _⟩
 intro V4 H4;have G:Hid (V4.heap[w.heap.size+1]?=some (.cells #[.int .i64 0,.slice none 0 0] 376 (0,0))):=by show _=_;rw[H4.out.1.block _ (cm z.out)];exact z
 have d0:V4.cell? (yA w3.heap.size 0)=some (.int .i64 sz):=cG H4.2;have d1:V4.cell? (yA w3.heap.size 1)=some (.slice ao ck cc):=cG H4.2
 go_wp2_with (refine cu rfl 376 _ _ rfl (w.heap.size+1) #[.int .i64 sz,.slice ao ck cc] rfl rfl 376 _ G kR rfl kR ?_;intro V5 o)
 have M:V5.heap[w.heap.size+1]?=some (.cells #[.int .i64 sz,.slice ao ck cc] 376 (0,0)):=by rw[o.out];exact ja _ _ _ _ _ _ G
 refine gh (dX rfl _ _ (w.heap.size+1) (.agg #[.int .i64 sz,.slice ao ck cc]) rfl (zo _ _ 376 376 _ (0,0) _ M Rl rfl kR)) rfl ?_;have J:Below (w.heap.size+1) w2 V5:=by have h1:Below (w.heap.size+1) w2 V4:=(F.mono oM).trans (H4.1.mono (by have:=F.size;omega));rw[o.out];exact cC h1 (cO _) _
 have C:=cq.of_belowB J;have K:cq T w V5:=l.1.then (C.weak λq hq=>.inr oM)
 have U:ed V5 T bd m b N a0 a1 a2 a3 d has:=W.up C (λq hq=>by have:=r.2.2 q hq;omega) (c.1) (c.2.1) (c.2.2.1) (c.2.2.2.1) (c.2.2.2.2);obtain⟨u1,u2⟩:=P V5 U K;refine⟨u1,u2,.slice ao ck cc,rfl,?_⟩;rw[<-HT.out];have h2:=HH;refine fq (cI (cI h2 (λq hq=>H4.1.block q (cr h2 q hq).2)) (λq hq=>?_)) oM;rw[o.out,l7 _ _ _ _ (λe=>by have:=(cr h2 q hq).1;omega)]
end
end Go.Proofs.YtapijhhmjjplmaaGreatDoor

import Derived.Test.YtapijhhmjjplmaaGreatDoorJonce41
namespace Go.Proofs.YtapijhhmjjplmaaGreatDoor
set_option linter.all false
set_option maxRecDepth 100000
set_option maxHeartbeats 4000000
open Go.Proofs.Tryz
variable {R:Array Value}{vd:Bool}{t s:ByteArray}{l ts:List ByteArray}{j bw g cap sc:Nat}{H U:Nat→Prop}{so:Option Addr}{sv v:Value}{w w' W3:World}
section
open Go.RowKit Go.Maps
theorem AF:(prog.info? 9).map (λi=>(i.zero,i.size,i.bytes))=some (some (.string ⟨#[]⟩),1,16):=kR
theorem ml(w:World)(x:Value)(t:TypeId):∀j v,[x][j]?=some v->(w.alloc (.cells #[x] t)).cell? (((yA w.heap.size 0):Addr).add j)=some v:=by
 intro j v hj;have e1:((yA w.heap.size 0):Addr).add j=(yA w.heap.size j):=by unfold Addr.add;split<;>simp_all
 rw[e1,cG (dM w _)];simpa using hj
abbrev jc:=List ByteArray×List ByteArray×Bool
def fR(st:jc)(t:ByteArray):jc:=match st.2.1.findIdx? λx=>decide (x=cV t)with
 |some i=>(st.1,st.2.1,st.2.2||decide (st.1.getD i ⟨#[]⟩≠t))
 |none=>(st.1++[t],st.2.1++[cV t],st.2.2)
def eC(st:jc)(ts:List ByteArray):jc:=ts.foldl fR st
theorem kW(st:jc)(ts:List ByteArray)(t:ByteArray):eC st (ts++[t])=fR (eC st ts) t:=by simp[eC,A5]
theorem Bk(st:jc)(ts us:List ByteArray):eC st (ts++us)=eC (eC st ts) us:=by simp[eC,A5]
theorem Fb{st:jc}(a:j<st.2.1.length)(b:∀i (hi:i<st.2.1.length),i<j->st.2.1[i]≠cV t)(c:st.2.1[j]=cV t):fR st t=(st.1,st.2.1,st.2.2||decide (st.1.getD j ⟨#[]⟩≠t)):=by
 have e:st.2.1.findIdx? (λx=>decide (x=cV t))=some j:=by rw[List.findIdx?_eq_some_iff_getElem];refine⟨a,by simpa using c,λi hi=>?_⟩;simpa using b i oM hi
 unfold fR;rw[e]
theorem Eu{st:jc}(a:∀x∈st.2.1,x≠cV t):fR st t=(st.1++[t],st.2.1++[cV t],st.2.2):=by
 have e:st.2.1.findIdx? (λx=>decide (x=cV t))=none:=by rw[List.findIdx?_eq_none_iff];intro x hx;simpa using a x hx
 unfold fR;rw[e]
theorem Ec{st:jc}(h:st.1.length=st.2.1.length)(t:ByteArray):(fR st t).1.length=(fR st t).2.1.length/\(fR st t).1.length<=st.1.length+1:=by
 unfold fR;split
 .exact⟨h,by show st.1.length<=_;omega⟩
 refine⟨?_,?_⟩
 .show(st.1++[t]).length=(st.2.1++[cV t]).length;simp[h]
 show(st.1++[t]).length<=_;simp
@[reducible] def fS (R:Array Value) (tv sv:Value) (vd:Bool):Array Value:=((R.setIfInBounds 8 tv).setIfInBounds 9 sv).setIfInBounds 10 (.bool vd)
structure vQ (w:World) (bw:Nat) (R:Array Value) (H:Nat->Prop) (st:jc) (tv sv:Value):Prop where
 row:w.heap[bw]?=some (.cells (fS R tv sv st.2.2) 37 (0,0))
 sz:R.size=11
 nb:¬H bw
 txt:eP w H 9 1 tv st.1.length (em st.1)
 sum:eP w H 9 1 sv st.2.1.length (em st.2.1)
 ap:∀q,tv.ownBlock=some q->sv.ownBlock≠some q
 len:st.1.length=st.2.1.length
theorem vQ.on{st:jc}{b:Value}(h:vQ w bw R H st b sv)(a:cq U w w')(c:∀q,H q->¬U q)(d:¬U bw):vQ w' bw R H st b sv:=
 ⟨by rw[a.block _ (cm h.row) d];exact h.row,h.sz,h.nb,eP.on h.txt a (λq e=>c q (h.txt.2 q e)),eP.on h.sum a (λq e=>c q (h.sum.2 q e)),h.ap,h.len⟩
theorem vQ.below{st:jc}{a:Value}(h:vQ w bw R H st a sv)(b:Below w.heap.size w w'):vQ w' bw R H st a sv:=h.on (U:=λ_=>False) (cq.of_below b) (λ_ _ h=>h) (λh=>h)
theorem Hg(R:Array Value)(tv sv:Value)(vd:Bool)(h:R.size=11):(fS R tv sv vd)[8]?=some tv:=by simp[fS,h]
theorem Ll(R:Array Value)(a sv:Value)(vd:Bool)(h:R.size=11):(fS R a sv vd)[9]?=some sv:=by simp[fS,h]
theorem MD(R:Array Value)(a sv:Value)(vd:Bool)(h:R.size=11):(fS R a sv vd)[10]?=some (.bool vd):=by simp[fS,h]
theorem Fi(R:Array Value)(a sv x:Value)(vd:Bool)(h:R.size=11):(fS R a sv vd).setIfInBounds 8 x=fS R x sv vd:=by
 apply N7;intro i;simp only[fS,wU,JQ,h];by_cases h8:8=i
 .subst h8;simp
 simp[h8]
theorem Ez(R:Array Value)(a sv x:Value)(vd:Bool)(h:R.size=11):(fS R a sv vd).setIfInBounds 9 x=fS R a x vd:=by
 apply N7;intro i;simp only[fS,wU,JQ,h];by_cases h9:9=i
 .subst h9;simp
 simp[h9]
theorem Ca(R:Array Value)(a sv:Value)(vd v2:Bool):(fS R a sv vd).setIfInBounds 10 (.bool v2)=fS R a sv v2:=by
 unfold fS;rw[Rh]
def O5(w:World)(bw:Nat)(R:Array Value)(H:Nat->Prop)(st:jc)(s:ByteArray)(e:Ending)(w':World):Prop:=
 e=.returned (.string s)/\(∃tv sv,vQ w' bw R (λq=>H q\/w.heap.size<=q) st tv sv)/\cq (λq=>q=bw\/H q) w w'
theorem GK(h:eP w H 9 1 v l.length (em l))(a:0<l.length):∃g cap,v=.slice (yS g 0) l.length cap/\H g/\g<w.heap.size/\∀k (hk:k<l.length),w.cell? (yA g k)=some (.string l[k]):=by
 obtain⟨g,cap,hv,hg,hc,-⟩:=eP.open h a;refine⟨g,cap,hv,hg,eP.lt h (by rw[hv];rfl),λk hk=>?_⟩;rw[hc k (by rw[iT];exact hk)];simp[em]
theorem vQ.sumApp{k:List ByteArray}{m:Value}{C:Obj}(h:vQ w bw R H (ts,k,vd) m (.slice so k.length sc))(o:W3.ownsRow 0 9 1 (.slice (yS g 0) (k.length+1) cap) (k.length+1) (em k++[.string s]))(p:(w.alloc C).grownBy W3 (Value.ownBlock (.slice so k.length sc)))(n:Value.ownBlock (.slice so k.length sc)=some g\/g=w.heap.size+1):
  W3.heap[bw]?=some (.cells (fS R m (.slice so k.length sc) vd) 37 (0,0))/\cq (λq=>q=bw\/H q) w (W3.setCell (yA bw 9) (.slice (yS g 0) (k.length+1) cap))/\
  (W3.setCell (yA bw 9) (.slice (yS g 0) (k.length+1) cap)).heap[bw]?=some (.cells (fS R m (.slice (yS g 0) (k.length+1) cap) vd) 37 (0,0))/\
  eP (W3.setCell (yA bw 9) (.slice (yS g 0) (k.length+1) cap)) (λq=>H q\/w.heap.size<=q) 9 1 m ts.length (em ts)/\eP (W3.setCell (yA bw 9) (.slice (yS g 0) (k.length+1) cap)) (λq=>H q\/w.heap.size<=q) 9 1 (.slice (yS g 0) (k.length+1) cap) (k++[s]).length (em (k++[s]))/\(∀q,m.ownBlock=some q->q≠g)/\bw<w.heap.size:=by
 have d:=cm h.row;have c:cq (λq=>Value.ownBlock (.slice so k.length sc)=some q) w W3:=(cq.of_below ((dw w.heap.size w).alloc (cO _) _)).trans (cq.of_grown p (λq hq=>hq));have b:Value.ownBlock (.slice so k.length sc)≠some bw:=λe=>h.nb (h.sum.2 bw e)
 have a:W3.heap[bw]?=some (.cells (fS R m (.slice so k.length sc) vd) 37 (0,0)):=by rw[c.block bw d b];exact h.row
 have j:g≠bw:=by
  rintro rfl;rcases n with e|e
  .exact b e
  .omega
 have i:∀q,m.ownBlock=some q->q≠g:=λq hq e=>by
  rcases n with e2|e2
  .exact h.ap q hq (e▸e2)
  have:=eP.lt h.txt hq;omega
 have f:cq (λq=>q=bw\/Value.ownBlock (.slice so k.length sc)=some q) w (W3.setCell (yA bw 9) (.slice (yS g 0) (k.length+1) cap)):=(c.weak (λq hq=>.inr hq)).setCell (yA bw 9) (.inl rfl) _;refine⟨a,f.weak (λq hq=>by rcases hq with e|e;exact .inl e;exact .inr (h.sum.2 q e)),?_,?_,?_,i,d⟩
 .rw[gE W3 bw 9 _ _ _ a,Ez _ _ _ _ _ h.sz]
 .refine eP.mono (eP.on h.txt f (λq e=>?_)) (λq hq=>.inl hq);rintro(e2|e2)
  .rw[e2]at e;exact h.nb (h.txt.2 bw e)
  exact h.ap q e e2
 refine⟨?_,λq hq=>?_⟩
 .rw[ir,qf];have e:em (k++[s])=em k++[.string s]:=by simp[em]
  rw[e];exact cI o (λq hq=>by cases hq;exact lq _ _ _ _ j)
 cases hq;rcases n with e|e
 .exact .inl (h.sum.2 g e)
 exact .inr (by show w.heap.size<=g;omega)
theorem Ge(bw:Nat)(R:Array Value)(H:Nat->Prop)(st:jc)(tv sv:Value)(t:ByteArray)(w:World)(h:vQ w bw R H st tv sv)(hT:fL w)(ht:t.size<=300000)(hl:st.1.length<=1000000000):
  Calls prog 96 #[yP bw,.string t] w λe w'=>O5 w bw R H (fR st t) (cV t) e w':=by
 obtain⟨ts,ss,vd⟩:=st;have I:Hid (Calls prog 65 #[.string t] w λe w'=>e=.returned (.string (cV t))/\Below w.heap.size w w'):=by obtain⟨tg,fr,h1⟩:=hT.start;exact Jt t lw fX tg fr w ht rfl wW wk h1 hT.round
 obtain⟨ta,tc,a7⟩:=cQ h.txt.1;obtain⟨so,sc,ac⟩:=cQ h.sum.1;have ae:ts.length<=1000000000:=hl;have B:ts.length=ss.length:=h.len;subst a7;subst ac;obtain⟨s,hs⟩:=eX (cV t);have HS:=Hid.mk' hs;rw[<-hs]at I⊢;have HI:Hid (∀V,Below w.heap.size w V->vQ V bw R H (ts,ss,vd) (.slice ta ts.length tc) (.slice so ss.length sc)):=λV hb=>h.below hb
 have f:=h.sz;obtain⟨n,hn⟩:=eX (ss.length);have HN:=Hid.mk' hn;have ar:(n:Int)<=1000000000:=by omega
 have av:n<=1000000000:=oM;have HC:Hid (∀V,Below w.heap.size w V->V.cell? (yA bw 8)=some (.slice ta n tc)/\V.cell? (yA bw 9)=some (.slice so n sc)/\V.cell? (yA bw 10)=some (.bool vd)/\V.frozen? (yA bw 9)=false/\V.frozen? (yA bw 10)=false):=λV hb=>by have hr:=(h.below hb).row;have e8:=Hg R (.slice ta ts.length tc) (.slice so ss.length sc) vd f;have e9:=Ll R (.slice ta ts.length tc) (.slice so ss.length sc) vd f;have ag:=MD R (.slice ta ts.length tc) (.slice so ss.length sc) vd f;refine⟨(cG hr).trans (e8.trans (by rw[hn,B])),(cG hr).trans (e9.trans (by rw[hn])),(cG hr).trans ag,fH V bw 9 _ _ hr,fH V bw 10 _ _ hr⟩
 obtain⟨i0,S,a3,N,O⟩:=Ba AF;have a2:=Hid.mk' B;clear h hT ht hl ae hs hn B;go_enter func96,ntmps96
 go_wp2_with fail
 refine I.out.mono ?_;rintro e w1 ⟨rfl,L⟩;have l:=Hid.mk' L;obtain⟨c8,c9,am,f9,a9⟩:=HC.out w1 L;clear L I
 go_wp2
 go_loop [6] (λi_=>∃j:Nat,j<=n/\i_=.int .i64 j/\Hid (∀i (hi:i<ss.length),i<j->ss[i]≠s)) (λi_=>n-(intOf i_).toNat)
 .exact⟨0,fP _,rfl,λi _ h=>absurd h (KE _)⟩
 obtain⟨j,hj,rfl,HJ⟩:=hrel;by_cases ai:j<n
 .have aa:(j:Int)<n:=oM;have K:j<ss.length:=by rw[<-HN.out];exact ai
  have a1:j<ts.length:=by rw[a2.out];exact K
  obtain⟨g,aq,M,-,-,hc⟩:=GK (HI.out w1 l.out).sum (by show 0<ss.length;omega);have ak:so=some (yA g 0):=by injection M
  subst ak;have x1:w1.cell? (yA g j)=some (.string ss[j]):=hc j K;obtain⟨os,z⟩:=eX (ss[j]);rw[<-z]at x1;have T:=fI os s;by_cases r:os=s
  .rw[jX r]at T;obtain⟨g2,ao,C,-,-,Y⟩:=GK (HI.out w1 l.out).txt (by show 0<ts.length;omega);have ah:ta=some (yA g2 0):=by injection C
   subst ah;have y1:w1.cell? (yA g2 j)=some (.string ts[j]):=Y j a1;obtain⟨ot,J⟩:=eX (ts[j]);rw[<-J]at y1;have D:=fI ot t
   have HE:Hid (∀v2:Bool,v2=(vd||decide (ot≠t))->O5 w bw R H (fR (ts,ss,vd) t) s (.returned (.string s)) (w1.setCell (yA bw 10) (.bool v2))):=by
    intro v2 C
    have e:fR (ts,ss,vd) t=(ts,ss,v2):=by
     rw[Fb (st:=(ts,ss,vd)) (j:=j) K (λi hi ad=>by rw[<-HS.out];exact HJ.out i hi ad) (by rw[<-HS.out];show ss[j]=s;rw[<-z];exact r),C];show(ts,ss,vd||decide (ts.getD j ⟨#[]⟩≠t))=_;have e2:ts.getD j ⟨#[]⟩=ot:=by rw[Dv,pI a1,J];rfl
     rw[e2]
    rw[e];have hI:=HI.out w1 l.out;have s1:cq (·=bw) w1 (w1.setCell (yA bw 10) (.bool v2)):=(cq.refl (·=bw) w1).setCell (yA bw 10) rfl _;refine⟨rfl,⟨_,_,?_,hI.sz,?_,eP.mono (eP.on hI.txt s1 (λq e2 e3=>hI.nb (by rw[<-e3];exact hI.txt.2 q e2))) (λq hq=>.inl hq),eP.mono (eP.on hI.sum s1 (λq e2 e3=>hI.nb (by rw[<-e3];exact hI.sum.2 q e2))) (λq hq=>.inl hq),hI.ap,hI.len⟩,(cq.of_below l.out).trans (s1.weak (λq hq=>.inl hq))⟩
    .rw[gE w1 bw 10 _ _ _ hI.row,Ca]
    rintro(h|h)
    .exact hI.nb h
    have:=cm (HI.out w (dw _ _)).row;omega
   clear r z J M hc C Y HI HC;cases vd
   .by_cases p:ot=t
    .rw[jX p]at D;have HG:=Hid.mk' (HE.out false (by simp[p]));clear p HE
     go_wp2
     go_ret;exact HG.out
    rw[lW p]at D;have HG:=Hid.mk' (HE.out true (by simp[p]));clear p HE
    go_wp2
    go_ret;exact HG.out
   have HG:=Hid.mk' (HE.out true sI);clear HE
   go_wp2
   go_ret;exact HG.out
  rw[lW r]at T
  have al:Hid (∀i (hi:i<ss.length),i<j+1->ss[i]≠s):=by
   intro i hi h1;by_cases e:i=j
   .subst e;rw[<-z];exact r
   exact HJ.out i hi oM
  clear r z M hc
  go_wp2
  go_round
  .exact⟨j+1,oM,by go_num,al⟩
  exact mS
 have aa:¬(j:Int)<n:=oM;have a4:Hid (fR (ts,ss,vd) t=(ts++[t],ss++[s],vd)):=by rw[HS.out];refine Eu (st:=(ts,ss,vd)) (λx hx=>?_);obtain⟨i,hi,rfl⟩:=QR hx;rw[<-HS.out];exact HJ.out i hi (by have:=HN.out;have ax:i<ss.length:=hi;omega)
 have d:=HI.out w1 l.out;have Q:Hid (w1.ownsRow 0 9 1 (.slice so n sc) n (em ss)):=by rw[HN.out];exact d.sum.1
 have Z:Hid (∀g9 b W9,W9.ownsRow 0 9 1 (.slice (yS g9 0) (n+1) b) (n+1) (em ss++[.string s])->(w1.alloc (.cells #[.string s] 9)).grownBy W9 (Value.ownBlock (.slice so n sc))->(Value.ownBlock (.slice so n sc)=some g9\/g9=w1.heap.size+1)->W9.cell? (yA bw 9)=some (.slice so n sc)/\W9.frozen? (yA bw 9)=false/\(∀W,W=W9.setCell (yA bw 9) (.slice (yS g9 0) (n+1) b)->W.cell? (yA bw 8)=some (.slice ta n tc)/\W.frozen? (yA bw 8)=false/\W.ownsRow 0 9 1 (.slice ta n tc) n (em ts)/\(∀g8 c W8,W8.ownsRow 0 9 1 (.slice (yS g8 0) (n+1) c) (n+1) (em ts++[.string t])->(W.alloc (.cells #[.string t] 9)).grownBy W8 (Value.ownBlock (.slice ta n tc))->(Value.ownBlock (.slice ta n tc)=some g8\/g8=W.heap.size+1)->W8.cell? (yA bw 8)=some (.slice ta n tc)/\W8.frozen? (yA bw 8)=false/\O5 w bw R H (fR (ts,ss,vd) t) s (.returned (.string s)) (W8.setCell (yA bw 8) (.slice (yS g8 0) (n+1) c))))):=by
  intro g9 b W9 h1 h2 h3;have hn:=HN.out;have v:=a2.out;rw[hn]at h1 h2 h3;obtain⟨p1,p2,p3,p4,p5,p6,p7⟩:=d.sumApp h1 h2 h3;refine⟨by rw[cG p1,hn];exact Ll _ _ _ _ f,fH W9 bw 9 _ _ p1,?_⟩;intro W hW;rw[hn]at hW;rw[<-hW]at p2 p3 p4 p5;have ab:bw<W.heap.size:=cm p3;refine⟨by rw[cG p3,hn,<-v];exact Hg _ _ _ _ f,fH W bw 8 _ _ p3,by rw[hn,<-v];exact p4.1,?_⟩;intro g8 c W8 q1 q2 q3;have a6:cq (λq=>Value.ownBlock (.slice ta n tc)=some q) W W8:=(cq.of_below ((dw W.heap.size W).alloc (cO _) _)).trans (cq.of_grown q2 (λq hq=>hq));have k:∀q,Value.ownBlock (.slice ta n tc)=some q->Value.ownBlock (.slice ta ts.length tc)=some q:=λq hq=>by rw[v,<-hn];exact hq
  have G:Value.ownBlock (.slice ta n tc)≠some bw:=λe=>d.nb (d.txt.2 bw (k bw e))
  have r8:W8.heap[bw]?=some (.cells (fS R (.slice ta ts.length tc) (.slice (yS g9 0) (ss.length+1) b) vd) 37 (0,0)):=by rw[a6.block bw ab G];exact p3
  have an:g8≠bw:=by
   rintro rfl;rcases q3 with e|e
   .exact G e
   .omega
  have a0:cq (λq=>q=bw\/Value.ownBlock (.slice ta n tc)=some q) W (W8.setCell (yA bw 8) (.slice (yS g8 0) (n+1) c)):=(a6.weak (λq hq=>.inr hq)).setCell (yA bw 8) (.inl rfl) _;have N:w.heap.size<=w1.heap.size:=l.out.size;have O:=p2.size;refine⟨by rw[cG r8,hn,<-v];exact Hg _ _ _ _ f,fH W8 bw 8 _ _ r8,rfl,⟨.slice (yS g8 0) (n+1) c,.slice (yS g9 0) (ss.length+1) b,?_⟩,?_⟩
  .rw[a4.out];refine⟨?_,f,?_,⟨?_,?_⟩,⟨?_,?_⟩,?_,?_⟩
   .rw[gE W8 bw 8 _ _ _ r8,Fi _ _ _ _ _ f]
   .rintro(e|e)
    .exact d.nb e
    have:=cm (HI.out w (dw _ _)).row;omega
   .show(W8.setCell _ _).ownsRow 0 _ 1 _ (ts++[t]).length (em (ts++[t]));rw[ir,qf,v,<-hn];have e:em (ts++[t])=em ts++[.string t]:=by simp[em]
    rw[e];exact cI q1 (λq hq=>by cases hq;exact lq _ _ _ _ an)
   .intro q hq;cases hq;rcases q3 with e|e
    .exact .inl (d.txt.2 g8 (k g8 e))
    exact .inr (by show w.heap.size<=g8;omega)
   .refine cI p5.1 (λq hq=>?_);cases hq;refine a0.block g9 ?_ ?_
    .exact eP.lt p5 rfl
    rintro(e|e)
    .have e':g9=bw:=e;have:=(p5.2 g9 rfl);rcases this with e2|e2
     .rw[e']at e2;exact d.nb e2
     .omega
    exact p6 g9 (k g9 e) rfl
   .intro q hq;rcases p5.2 q hq with e|e
    .exact .inl e
    exact .inr oM
   .intro q hq e;cases hq;cases e;rcases q3 with e2|e2
    .exact p6 g9 (k g9 e2) rfl
    have:g9<W.heap.size:=eP.lt p5 rfl;omega
   show(ts++[t]).length=(ss++[s]).length;simp[v]
  refine(cq.of_below l.out).trans ?_;refine p2.trans (a0.weak (λq hq=>?_));rcases hq with e|e
  .exact .inl e
  exact .inr (d.txt.2 q (k q e))
 clear d a4 HI HJ;go_upto_region 9 with(at_builtin;refine F0 _ rfl (.tmp 50) (.tmp 52) 35 rfl 0 9 i0 (.string ⟨#[]⟩) 1 16 Pu S a3 N O rfl dE (.slice so n sc) n (em ss) rfl (rI (w:=w1) Q.out _) (yA w1.heap.size 0) 1 1 [.string s] rfl rfl (λj u hj=>ml w1 _ _ j u hj) (by intro u hu;rw[IZ]at hu;subst hu;rfl) dE (by unfold maxLen;omega) oM oM (w1.heap.size+1) sI ?_;intro g9 b W9 y m E a5;have a:=Z.out g9 b W9 y m E;have k9:=a.1;have a8:=a.2.1;have HG:=Hid.mk' a.2.2;clear a y m E a5)
 obtain⟨W,hW⟩:=eX (W9.setCell (yA bw 9) (.slice (yS g9 0) (n+1) b));rw[<-hW];obtain⟨k8,au,X,P⟩:=HG.out W hW;have aj:=Hid.mk' X;have af:=Hid.mk' P;clear X P HG hW Z Q k9 a8 c8 c9 am f9 a9
 go_wp2_with (at_builtin;refine F0 _ rfl (.tmp 60) (.tmp 62) 35 rfl 0 9 i0 (.string ⟨#[]⟩) 1 16 Pu S a3 N O rfl dE (.slice ta n tc) n (em ts) rfl (rI (w:=W) aj.out _) (yA W.heap.size 0) 1 1 [.string t] rfl rfl (λj u hj=>ml W _ _ j u hj) (by intro u hu;rw[IZ]at hu;subst hu;rfl) dE (by unfold maxLen;omega) oM oM (W.heap.size+1) sI ?_;intro g8 c W8 A o F U;have a:=af.out g8 c W8 A o F;have j8:=a.1;have ay:=a.2.1;have HE:=Hid.mk' a.2.2;clear a A o F U)
 go_ret;exact HE.out
def tk(x:pp):xG:=(dy x.names,x.dir,x.data)
theorem LG(bw B:Nat)(b:Value)(T:cS)(p:List ByteArray)(w:World)(c3:w.cell? (yA bw 3)=some b)(h:ew w B b (T.map tk))(a:eN T)(d:fp p):
    Calls prog 97 #[yP bw,.string (dy p)] w λe w'=>GZ w (dh T p) e w':=by
  have hbl:=pr c3;obtain⟨s,hs⟩:=eX (dy p);rw[<-hs];have HS:=hD hs;clear hs;obtain⟨i0,hi0,hz0,hz1,hz2⟩:=Ba Gd;by_cases h0:0<T.length
  · obtain⟨g,cap,rfl,-,hgl,hc'⟩:=ew.open h (by rw[iF];exact h0)
    have hc:∀k (hk:k<T.length),w.cell? (yA g (k*3))=some (.string (dy T[k].names))/\w.cell? (yA g (k*3+1))=some (.bool T[k].dir)/\w.cell? (yA g (k*3+2))=some (.string T[k].data):=λk hk=>by have:=hc' k (by rw[iF];exact hk);rw[Aw]at this;exact this
    clear hc';rw[iF]at c3;have HC3:Hid (∀V,Below w.heap.size w V->V.cell? (yA bw 3)=some (.slice (yS g 0) T.length cap)):=λV hb=>by rw[hb.cell hbl];exact c3
    have HC:=hD hc;have HT:=hD a;have hn:=a.len;obtain⟨n,hnn⟩:=eX (T.length);rw[<-hnn]at hn HC3 c3;have HN:=hD hnn;clear h a hc hnn h0;go_enter func97,ntmps97
    go_wp2
    go_loopw [5,6] (λv iv wr=>∃(k:Nat)(L:List ByteArray),k<=n/\iv=.int .i64 k/\Hid (ky T p k L)/\Hid (wr.ownsRow w.heap.size 9 1 v L.length (em L))/\Hid (Below w.heap.size w wr)) (λ_ i _=>n-(intOf i).toNat)
    case atStart=>exact⟨0,[],oM,rfl,⟨List.Pairwise.nil,List.Perm.refl _⟩,LR _ _ _ _,dw _ _⟩
    case round=>
      obtain⟨k,L,hk,rfl,HK,HO,HB⟩:=hrel;have k3:=HC3 wr HB;by_cases hlt:k<n
      · have hkt:k<T.length:=by rw[<-HN.out];exact hlt
        obtain⟨c0,-,-⟩:=HC k hkt;obtain⟨q,hq⟩:=eX (dy T[k].names);rw[<-hq]at c0;have c1:wr.cell? (yA g (k*3))=some (.string q):=by rw[HB.out.cell hgl];exact c0
        obtain⟨hx0,hx8,hxv⟩:=HT.val T[k] (mX _);have hqs:q.size<=1000:=by have:=vf _ hxv;rw[<-hq]at this;omega
        have HQ:Hid (∀cut,ln (bl q) q.size cut->(cut= -1/\T[k].names.dropLast=[]/\q=eF T[k].names)\/∃c:Nat,cut=(c:Int)/\c<q.size/\q.extract 0 c=dy T[k].names.dropLast/\q.extract (c+1) q.size=eF T[k].names):=λcut hcut=>Hr hxv hx0 hq hcut
        have HDV:=hD hxv.dropLast;have hlen:=HK.len;clear c0 hq hx0 hx8 hxv;obtain⟨aol,cl,rfl⟩:=cQ HO
        go_wp2
        clear c1;go_loop [8,9] (λcv mv=>∃(m:Nat)(cut:Int),m<=q.size/\mv=.int .i64 m/\cv=.int .i64 cut/\Hid (ln (bl q) m cut)) (λ_ i=>q.size-(intOf i).toNat)
        case atStart=>exact⟨0,-1,oM,rfl,rfl,ln.start _⟩
        case round=>
          obtain⟨m,cut,hm,rfl,rfl,HL⟩:=hrel;by_cases hml:m<q.size
          · have hgm:=Hy q m hml
            by_cases hcm:q[m]=47
            · have hb:((q[m].toNat:Int)==47)=true:=by rw[hcm];rfl
              have HL2:Hid (ln (bl q) (m+1) m):=ln.hit (by rw[hgm,hcm]);clear hgm hcm HL
              go_wp2
              go_round
              case rel=>exact⟨m+1,m,oM,by go_num,rfl,HL2⟩
              case measure=>exact mS
            · have hb:((q[m].toNat:Int)==47)=false:=by
                rw[tC];intro e
                exact hcm (UInt8.toNat.inj (by have:q[m].toNat=47:=oM
                                               rw[this];rfl))
              have HL2:Hid (ln (bl q) (m+1) cut):=HL.miss (by rw[hgm];exact λe=>hcm (kM e));clear hgm hcm HL
              go_wp2
              go_round
              case rel=>exact⟨m+1,cut,oM,by go_num,rfl,HL2⟩
              case measure=>exact mS
          · have hmq:m=q.size:=oM
            subst hmq
            have hcase:∃(u y:ByteArray)(c:Nat),(cut= -1/\c=0/\u=⟨#[]⟩\/cut+1=(c:Int)/\0<=cut/\cut<=1000/\q.extract 0 cut.toNat=u)/\c<=q.size/\q.extract c q.size=y/\u=dy T[k].names.dropLast/\y=eF T[k].names:=by
              rcases HQ cut HL with⟨rfl,h2,h3⟩|⟨c,rfl,h2,h3,h4⟩
              · exact⟨⟨#[]⟩,eF T[k].names,0,.inl ⟨rfl,rfl,rfl⟩,fP _,by rw[vC];exact h3,by rw[h2];rfl,rfl⟩
              · exact⟨q.extract 0 c,q.extract (c+1) q.size,c+1,.inr ⟨oM,oM,oM,rfl⟩,oM,rfl,h3,h4⟩
            obtain⟨u,y,c,hcut,hcq,hy,hu,hyl⟩:=hcase;have HYL:=hD hyl;have hm:u=s↔T[k].names.dropLast=p:=by rw[hu,HS.out];exact⟨λe=>lU HDV d e,λe=>by rw[e]⟩
            clear hyl hu HL HQ HDV;by_cases hd:T[k].names.dropLast=p
            · have hus:=hm.2 hd
              have HD:=hD hd;clear hm hd;rcases hcut with⟨rfl,rfl,rfl⟩|⟨hc1,hc0,hc2,rfl⟩;have he:(s.toList==[])=true:=by rw[<-hus,jF];rfl
              clear hus
              rotate_left
              have hcl:¬cut<0:=oM;have hb:((q.extract 0 cut.toNat).toList==s.toList)=true:=by rw[fI,EP];exact hus
              clear hus
              all_goals
                go_wp2_with (at_builtin;refine Rj _ rfl _ _ 35 rfl w.heap.size 9 i0 (.string ⟨#[]⟩) 1 16 Pu hi0 hz0 hz1 hz2 rfl dE _ _ _ rfl (rI HO _) _ 1 1 [.string y] rfl rfl (cell_one_new _ _ _) (by intro u hu;rw[IZ]at hu;subst hu;rfl) (by unfold maxLen;omega) oM (by have:=HB.size;simp;omega) ?_)
                intro v' w2 hown' hgrow _ _;have HO2:=hD hown';have HB2:Hid (Below w.heap.size w w2):=(HB.alloc HB.size _).grown hgrow (by have:=HB.size;simp;omega) (λg hg=>fA HO g hg);clear hown' hgrow;have HO3:=Ht HO2;obtain⟨g2,c2,rfl⟩:∃g2 c2,v'=.slice (yS g2 0) (L.length+1) c2:=by obtain⟨g2,c2,hv2,-⟩:=we HO3 sI;rw[ir]at hv2;exact⟨g2,c2,hv2⟩
                clear HO2
                go_wp2
                go_loopw [10] (λkv wr'=>IY w L y (.slice (yS g2 0) (L.length+1) c2) kv wr') (λkv _=>(intOf kv).toNat)
                case atStart=>exact⟨L,[],by go_num,oM,nD.start HK.ord y,HO3,HB2⟩
                case round=>
                  clear HO3 HB2;obtain⟨A,B,rfl,hA,hsk,hor,hbr⟩:=hrel;have HSK:=hD hsk;have HOR:=hD hor;have HBR:=hD hbr;have hAB:A.length+B.length=L.length:=by rw[<-hsk.eq];simp
                  clear hsk hor hbr;by_cases hA0:A=[]
                  · have HF:Hid (ky T p (k+1) (A++y::B)):=HK.more hkt HD HYL HSK (.inl hA0)
                    subst hA0
                    go_wp2
                    go_quiet (fail)
                    go_wp2
                    go_roundw
                    case rel=>exact⟨k+1,_,oM,by go_num,HF,wC HOR _,cR HBR _⟩
                    case measure=>exact mS
                  · obtain⟨A',z,rfl⟩:∃A' z,A=A'++[z]:=⟨A.dropLast,A.getLast hA0,(QW hA0).symm⟩
                    obtain⟨gg,cc,hvv,-,hcc,hff⟩:=we HOR sI;cases(show some g2=some gg from Ce Value.ownBlock hvv)
                    clear hvv;have e1:(A'++[z]++y::B)[A'.length+1]'(by simp;try omega)=y:=sI;have e2:(A'++[z]++y::B)[A'.length]'(by simp;try omega)=z:=sI;have cy:wr.cell? (yA g2 (A'.length+1))=some (.string y):=by rw[hcc _ (by simp;try omega),e1]
                    have cz:wr.cell? (yA g2 A'.length)=some (.string z):=by rw[hcc _ (by simp;try omega),e2]
                    have fy:=hff (A'.length+1);have fz:=hff A'.length;rw[ir,qf]at hA hAB⊢;clear hcc hff e1 e2 hA0;cases hl:Op.bytesLess y.toList z.toList
                    · have HF:Hid (ky T p (k+1) (A'++[z]++y::B)):=HK.more hkt HD HYL HSK (.inr ⟨A',z,rfl,E5 hl⟩)
                      go_wp2
                      go_quiet (fail)
                      go_wp2
                      go_roundw
                      case rel=>exact⟨k+1,_,oM,by go_num,HF,wC HOR _,cR HBR _⟩
                      case measure=>exact mS
                    · have HS2:Hid (nD L A' (z::B) y):=HSK.down (Hx hl)
                      have hor2:=HOR;rw[show L.length+1=(A'++[z]++y::B).length by simp;try omega]at hor2;have ho1:=Du hor2 (A'.length+1) z;clear hor2;have ho2:=Du ho1 A'.length y;rw[Ke]at ho2
                      have HO4:Hid (((wr.setCell (yA g2 (A'.length+1)) (.string z)).setCell (yA g2 A'.length) (.string y)).ownsRow w.heap.size 9 1 (.slice (yS g2 0) (L.length+1) c2) (A'++y::z::B).length (em (A'++y::z::B))):=by
                        have e:(A'++y::z::B).length=L.length+1:=by simp;try omega
                        rw[e]at ho2⊢;exact ho2
                      go_wp2
                      go_quiet (fail)
                      go_wp2
                      go_roundw
                      case rel=>exact⟨A',z::B,by go_num,oM,HS2,HO4,cR ((HBR.setCell (p:=(yA g2 (A'.length+1))) (fA HOR g2 rfl) _).setCell (p:=(yA g2 A'.length)) (fA HOR g2 rfl) _) _⟩
                      case measure=>exact mS
            · have hus:u≠s:=λe=>hd (hm.1 e)
              have hb:(u.toList==s.toList)=false:=by rw[fI,PE];exact hus
              have HK2:=hD (HK.skip hkt hd);clear hm hd HK;rcases hcut with⟨rfl,rfl,rfl⟩|⟨hc1,hc0,hc2,rfl⟩
              · have he:(s.toList==[])=false:=by rw[jF];exact lW (λe=>hus (j9 e).symm)
                clear hus
                go_wp2
                go_roundw
                case rel=>exact⟨k+1,L,oM,by go_num,HK2,HO,HB⟩
                case measure=>exact mS
              · have hcl:¬cut<0:=oM
                clear hus
                go_wp2
                go_roundw
                case rel=>exact⟨k+1,L,oM,by go_num,HK2,HO,HB⟩
                case measure=>exact mS
      · have hkn:k=n:=oM
        subst hkn;have hL:L=dh T p:=by have:=HK.perm;rw[pK (by rw[<-HN.out];exact cO _)]at this;exact AR this HK.ord
        have HLK:=hD hL;clear hL HK
        go_wp2
        go_ret;rw[<-HLK.out];exact⟨_,rfl,HO,HB⟩
  · have hT0:T=[]:=OR oM
    subst hT0;obtain⟨ao,c,rfl⟩:=cQ h;have c3:=c3;clear h a h0;go_enter func97,ntmps97
    go_wp2
    go_loop [5,6] (λv i=>i=.int .i64 0/\v=.slice none 0 0) (λ_ _=>0)
    case atStart=>exact⟨rfl,rfl⟩
    case round=>
      obtain⟨rfl,rfl⟩:=hrel
      go_wp2
      go_ret;have e:dh [] p=[]:=by simp[dh,dZ]
      rw[e];exact⟨_,rfl,LR _ _ _ _,dw _ _⟩
end
end Go.Proofs.YtapijhhmjjplmaaGreatDoor

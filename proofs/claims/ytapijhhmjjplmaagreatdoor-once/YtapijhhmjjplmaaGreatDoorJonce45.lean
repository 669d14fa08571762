import Derived.Test.YtapijhhmjjplmaaGreatDoorJonce44
namespace Go.Proofs.YtapijhhmjjplmaaGreatDoor
set_option linter.all false
set_option maxRecDepth 100000
set_option maxHeartbeats 4000000
open Go.Proofs.Tryz
variable {t label:ByteArray}{d:cX}{l:List ByteArray}{has:List Ob}{M:fm}{bd m k j n:Nat}{S:Nat→Prop}{T K:cS}{w:World}
section
open Go.RowKit Go.Maps
def eJ(l:List ByteArray):Nat->Nat
 |0=>0
 |k+1=>if l.getD k z64=z64 then eJ l k else k+1
theorem oD(l:List ByteArray):∀k,eJ l k<=k
 |0=>cO _
 |k+1=>by unfold eJ;have:=oD l k;split<;>omega
theorem AX(w:World):(Instr.makeSlice 134 (.int .i64 64) (.int .i64 64)).run prog w=.ok (.slice (yS w.heap.size 0) 64 64) (w.alloc (.cells (madeCells #[.int .u8 0] 64) 5))/\(convert 134 9 (.slice (yS w.heap.size 0) 64 64)).run prog (w.alloc (.cells (madeCells #[.int .u8 0] 64) 5))=.ok (.string z64) (w.alloc (.cells (madeCells #[.int .u8 0] 64) 5)):=by
 refine⟨run_make_row' (P:=prog) 134 5 (.int .u8 0) 1 yE infoByte rfl .i64 .i64 64 oM oM w,?_⟩;have h:=KH (P:=prog) (w.alloc (.cells (madeCells #[.int .u8 0] 64) 5)) 134 9 5 (yA w.heap.size 0) 64 (List.replicate 64 0) yE I0 xV ?_
 .rw[Kz]at h;exact h
 intro j hj;rw[Kz]at hj;have e1:((yA w.heap.size 0):Addr).add j=(yA w.heap.size j):=by unfold Addr.add;split<;>simp_all
 rw[e1,cG (dM w _),OK];simp[madeCells,hj,Nat.mod_one]
structure Jn (w:World) (S:Nat->Prop) (bd m:Nat) (d:cX) (i:Nat) (v:Value) (wr:World):Prop where
 dsk:cD wr S bd m d
 same:cq S w wr
 own:wr.ownsRow w.heap.size 9 1 v i (em (d.safe.take i))
def Q5(w:World)(S:Nat->Prop)(bd m:Nat)(d:cX)(e:Ending)(w':World):Prop:=
 ∃v,e=.returned (.tuple #[.int .i64 (eJ d.safe d.safe.length:Int),v])/\Jn w S bd m d d.safe.length v w'
theorem L8(w0:World)(a:Nat->Addr)(S0:jm w0 a)(bw bd m:Nat)(S:Nat->Prop)(d:cX)(w:World)(h:cD w S bd m d)(hw:d.wait=[])(hn:d.safe.length<=4096)(c1:w.cell? (yA bw 1)=some (yP bd))(hb:¬S bw)(ad:Below w0.heap.size w0 w)(hS:∀g,S g->w0.heap.size<=g)(ae:∀g,S g->g<w.heap.size):
  Calls prog 38 #[yP bw] w λe w'=>Q5 w S bd m d e w':=by
 obtain⟨n,F⟩:=eX (d.safe.length);have HN:=Hid.mk' F;have C:Hid (Calls prog 62 #[yP bd] w λe w'=>e=.returned (.int .i64 n)/\w=w'):=F▸gA bd m S d w h;have a7:Hid (∀(i:Nat) V (hi:i<d.safe.length),cD V S bd m d->cq S w V->Calls prog 63 #[yP bd,.int .i64 i] V λe w'=>e=.returned (.tuple #[.string d.safe[i],.int .i64 0])/\cD w' S bd m d/\cq S V w'):=by intro i V hi hd hs;refine(CT w0 a S0 bd m S d V i hi hd (ad.trans (hs.below hS ad.size)) hS hn).mono ?_;rintro e w' ⟨rfl,h2,h3⟩;exact⟨by unfold cX.at;rw[hw];rfl,h2,h3⟩
 have a6:Hid (∀V,cq S w V->V.cell? (yA bw 1)=some (yP bd)):=λV hs=>hs.cell hb c1
 have Z:Hid (∀V,Below w.heap.size w V->cD V S bd m d):=λV hV=>h.on (T:=λ_=>False) (cq.of_below hV) (λ_ _ h=>h)
 obtain⟨i0,I,X,L,W⟩:=Ba AF;obtain⟨a4,K⟩:=AX w;have a2:=Hid.mk' ae;have aa:(n:Int)<=4096:=oM;have ab:n<=4096:=oM;obtain⟨z,hz⟩:=eX (z64);have HZ:=Hid.mk' hz;rw[<-hz]at K
 have O:Hid (∀i (hi:i<d.safe.length) (V:World) oo oc g9 b W9,Jn w S bd m d i (.slice oo i oc) V->W9.ownsRow w.heap.size 9 1 (.slice (yS g9 0) (i+1) b) (i+1) (em (d.safe.take i)++[.string d.safe[i]])->(V.alloc (.cells #[.string d.safe[i]] 9)).grownBy W9 (Value.ownBlock (.slice oo i oc))->Jn w S bd m d (i+1) (.slice (yS g9 0) (i+1) b) W9):=by
  intro i hi V oo oc g9 b W9 hU h1 h2;have o:cq (λq=>Value.ownBlock (.slice oo i oc)=some q) V W9:=(cq.of_below ((dw V.heap.size V).alloc (cO _) _)).trans (cq.of_grown h2 (λq hq=>hq));refine⟨hU.dsk.on o (λq hq e=>?_),j7 hU.same o (λq hq=>.inr (cr hU.own q hq).1),?_⟩
  .have:=ae q hq;have:=(cr hU.own q e).1;omega
  rw[sN hi];have e:∀(A:List ByteArray)(x:ByteArray),em (A++[x])=em A++[.string x]:=λA x=>by simp[em]
  rw[e];exact h1
 clear h hw hn F hb ad hS ae hz;go_enter func38,ntmps38
 go_wp2_with fail
 refine C.out.mono ?_;rintro e w1 ⟨rfl,rfl⟩;clear C
 go_wp2
 obtain⟨V1,E⟩:=eX (w.alloc (.cells (madeCells #[.int .u8 0] 64) 5));rw[<-E]
 have P:Hid (Jn w S bd m d 0 (.slice none 0 0) V1):=by
  have Q:Below w.heap.size w V1:=by rw[E];exact(dw _ _).alloc (cO _) _
  exact⟨Z.out V1 Q,cq.of_below Q,⟨rfl,.inl ⟨rfl,rfl⟩⟩⟩
 clear E c1 a4 K;go_loopw [4,5,8] (λn_ l_ i_ wr=>∃i:Nat,i<=n/\i_=.int .i64 i/\n_=.int .i64 (eJ d.safe i:Int)/\Hid (Jn w S bd m d i l_ wr)) (λ_ _ i_ _=>n-(intOf i_).toNat)
 .exact⟨0,fP _,rfl,rfl,P.out⟩
 clear P;obtain⟨i,hi,rfl,rfl,HJ⟩:=hrel;have Y:=oD d.safe i;obtain⟨oo,oc,a5⟩:=cQ HJ.out.own;subst a5;have k1:=a6.out wr HJ.out.same;by_cases a3:i<n
 .have a1:(i:Int)<n:=oM;have v:i<d.safe.length:=by rw[<-HN.out];exact a3
  have HR:=Hid.mk' (a7.out i wr v HJ.out.dsk HJ.out.same);have y:=Hid.mk' HJ.out.own;have D:Hid (∀(V:World) g9 b W9,Jn w S bd m d i (.slice oo i oc) V->W9.ownsRow w.heap.size 9 1 (.slice (yS g9 0) (i+1) b) (i+1) (em (d.safe.take i)++[.string d.safe[i]])->(V.alloc (.cells #[.string d.safe[i]] 9)).grownBy W9 (Value.ownBlock (.slice oo i oc))->Jn w S bd m d (i+1) (.slice (yS g9 0) (i+1) b) W9):=λV g9 b W9=>O.out i v V oo oc g9 b W9
  have B:eJ d.safe (i+1)=if d.safe[i]=z64 then eJ d.safe i else i+1:=by show(if d.safe.getD i z64=z64 then _ else _)=_;rw[Dv,pI v,Option.getD_some]
  obtain⟨x,hx⟩:=eX (d.safe[i]);rw[<-hx]at HR D B;rw[<-HZ.out]at B;have s:=Hid.mk' B;obtain⟨un,k⟩:=eX (eJ d.safe i);have a9:=Hid.mk' k;rw[<-k]at s Y
  try rw[<-k]
  have a0:=hD a2.out;have a8:(un:Int)<=4096:=oM;have J:=fI x z;have M:=Hid.mk' HJ.out.same;clear v hx B k HJ
  go_wp2_with fail
  refine HR.out.mono ?_;rintro e w2 ⟨rfl,H,o⟩;have t:Hid (Jn w S bd m d i (.slice oo i oc) w2):=by refine⟨H,M.out.trans o,cI y.out (λq hq=>o.block q (cr y.out q hq).2 (λe=>?_))⟩;have h1:=a0.out q e;have h2:=(cr y.out q hq).1;omega
  have U:=hD t.out.same.size;have N:=Hid.mk' t.out.own;have HF:Hid (∀g9 b W9,W9.ownsRow w.heap.size 9 1 (.slice (yS g9 0) (i+1) b) (i+1) (em (d.safe.take i)++[.string x])->(w2.alloc (.cells #[.string x] 9)).grownBy W9 (Value.ownBlock (.slice oo i oc))->Jn w S bd m d (i+1) (.slice (yS g9 0) (i+1) b) W9):=λg9 b W9=>D.out w2 g9 b W9 t.out
  clear H o HR D y M t k1;by_cases l:x=z
  .rw[jX l]at J;rw[dq l]at s;clear l
   go_wp2_with (at_builtin;refine F0 _ rfl (.tmp 32) (.tmp 34) 35 rfl w.heap.size 9 i0 (.string ⟨#[]⟩) 1 16 Pu I X L W rfl dE (.slice oo i oc) i (em (d.safe.take i)) rfl (rI (w:=w2) N.out _) (yA w2.heap.size 0) 1 1 [.string x] rfl rfl (λj u hj=>ml w2 _ _ j u hj) (by intro u hu;rw[IZ]at hu;subst hu;rfl) dE (by unfold maxLen;omega) oM (by have:=U.out;simp;omega) (w2.heap.size+1) sI ?_;intro g9 b W9 f c r p;have HG:=Hid.mk' (HF.out g9 b W9 f c);clear f c r p)
   go_roundw
   .exact⟨i+1,oM,by go_num,by rw[s.out],HG.out⟩
   exact mS
  rw[lW l]at J;rw[dj l]at s;clear l
  go_wp2_with (at_builtin;refine F0 _ rfl (.tmp 32) (.tmp 34) 35 rfl w.heap.size 9 i0 (.string ⟨#[]⟩) 1 16 Pu I X L W rfl dE (.slice oo i oc) i (em (d.safe.take i)) rfl (rI (w:=w2) N.out _) (yA w2.heap.size 0) 1 1 [.string x] rfl rfl (λj u hj=>ml w2 _ _ j u hj) (by intro u hu;rw[IZ]at hu;subst hu;rfl) dE (by unfold maxLen;omega) oM (by have:=U.out;simp;omega) (w2.heap.size+1) sI ?_;intro g9 b W9 f c r p;have HG:=Hid.mk' (HF.out g9 b W9 f c);clear f c r p)
  go_roundw
  .exact⟨i+1,oM,by go_num,by rw[s.out,Int.natCast_add];rfl,HG.out⟩
  exact mS
 have G:i=n:=oM;have HE:Hid (Q5 w S bd m d (.returned (.tuple #[.int .i64 (eJ d.safe i:Int),.slice oo i oc])) wr):=by have e:=HN.out;refine⟨_,by rw[G,<-e],?_⟩;rw[<-e,<-G];exact HJ.out
 have a1:¬(i:Int)<n:=oM;clear HJ k1 G
 go_wp2
 refine gh (lB rfl _ _ _) rfl ?_;exact HE.out
end
section
open Go.RowKit
theorem cD.zero(h:cD w S bd m d)(a:d.wait=[]):cD w S bd 0 d:=by
 obtain⟨gs,bm,wv,h1,h2⟩:=h;refine⟨gs,bm,wv,h1,h2.sec,?_,h2.wait,h2.sb,h2.ss,h2.sm,h2.n1,h2.n2,h2.n3,h2.d1,h2.v1,h2.v2⟩;have h3:=wF h2.map;rw[a]at h3⊢;exact h3
structure lF (d:cX):Prop where
 w:d.wait=[]
 f:d.fuse=0
 d:d.down=false
theorem lF.op(a:d.fuse=0):d.op=d:=Dz d (by rw[a];decide)
def rP:Nat->List ByteArray->List (Nat×ByteArray)
 |_,[]=>[]
 |i,s::r=>(i,s)::rP (i+1) r
theorem rq:∀(l:List ByteArray)(i:Nat)(d:cX),d.fuse=0->d.down=false->gO l i d=({d with wait:=d.wait++rP i l},0)
 |[],i,d,hf,hd=>by show(d,0)=_;unfold rP;rw[CO]
 |s::r,i,d,hf,hd=>by
  have ho:=lF.op hf;rw[mt,ho,dj (by rw[hd];decide)];have e:d.write i s={d with wait:=d.wait++[(i,s)]}:=by unfold cX.write;rw[ho,dj (by rw[hd];decide)]
  rw[e,rq r (i+1) {d with wait:=d.wait++[(i,s)]} hf hd];show(({d with wait:=d.wait++[(i,s)]++rP (i+1) r}:cX),0)=({d with wait:=d.wait++rP i (s::r)},0);have e3:rP i (s::r)=(i,s)::rP (i+1) r:=rfl;rw[e3,ve];rfl
theorem qD(l:List ByteArray)(i:Nat)(d:cX)(h:lF d):kP l i d=({d with safe:=cL (rP i l) d.safe},0):=by
 unfold kP;rw[rq l i d h.f h.d,dq rfl,h.w,Ab];have ho:({d with wait:=rP i l}:cX).op={d with wait:=rP i l}:=lF.op h.f;have e1:({d with wait:=rP i l}:cX).flush={d with safe:=cL (rP i l) d.safe}:=by unfold cX.flush;rw[ho,dj (by show¬d.down=true;rw[h.d];decide)];show({d with wait:=[],safe:=cL (rP i l) d.safe}:cX)=_;rw[<-h.w]
 have e2:({d with wait:=rP i l}:cX).fcode=0:=by unfold cX.fcode;rw[ho,dj (by show¬d.down=true;rw[h.d];decide)]
 rw[e1,e2,h.w]
theorem lF.ws(h:lF d)(l:List ByteArray)(i:Nat):lF (kP l i d).1:=by rw[qD l i d h];exact⟨h.w,h.f,h.d⟩
theorem C8(i:Nat):∀(l:List ByteArray)(s:List ByteArray),(cL (rP i l) s).length=s.length:=λl=>by
 induction l generalizing i with
 |nil=>intro s;rfl
 |cons x r ih=>intro s;show(cL (rP (i+1) r) (s.set i x)).length=_;rw[ih,KV]
theorem th:∀(l:List ByteArray)(i:Nat)(s:List ByteArray)(j:Nat),j<i\/i+l.length<=j->(cL (rP i l) s)[j]?=s[j]?
 |[],_,_,_,_=>rfl
 |x::r,i,s,j,h=>by show(cL (rP (i+1) r) (s.set i x))[j]?=_;rw[th r (i+1) (s.set i x) j (by rw[mY]at h;omega),List.getElem?_set];rw[dj (by rw[mY]at h;omega)]
theorem F1:∀(l:List ByteArray)(i:Nat)(s:List ByteArray)(j:Nat)(h:j<l.length),i+l.length<=s.length->(cL (rP i l) s)[i+j]?=some l[j]
 |x::r,i,s,0,h,hs=>by show(cL (rP (i+1) r) (s.set i x))[i+0]?=_;rw[th r (i+1) (s.set i x) (i+0) (by omega),List.getElem?_set,dq (show i=i+0 from rfl),dq (by rw[mY]at hs;omega)];rfl
 |x::r,i,s,j+1,h,hs=>by show(cL (rP (i+1) r) (s.set i x))[i+(j+1)]?=_;have h1:=F1 r (i+1) (s.set i x) j (by simpa using h) (by rw[KV];rw[mY]at hs;omega);rw[show i+(j+1)=i+1+j from by omega,h1];rfl
theorem nr(l:List ByteArray)(b:Nat)(h:∀j,b<=j->l.getD j z64=z64):∀k,eJ l k<=b
 |0=>fP _
 |k+1=>by
  unfold eJ;split
  .exact nr l b h k
  rename_i hn;rcases Fc k b with h1|h1
  .omega
  .exact absurd (h k h1) hn
theorem qS(l:List ByteArray)(j:Nat)(h:l.getD j z64≠z64):∀k,j<k->j+1<=eJ l k
 |k+1,hk=>by
  unfold eJ;split
  .rename_i hz;rcases Fc j k with h1|h1
   .exact qS l j h k h1
   have e:j=k:=oM;subst e;exact absurd hz h
  .omega
theorem j6(has:List Ob)(ps:im)(k:Nat)(t:ByteArray)(a:Nat)(s:ByteArray)(h:tm ps a s=true):tm (gP has ps k t) a s=true:=by
 unfold gP;split
 .exact h
 unfold tm at h⊢;rw[List.any_append,h,Bool.true_or]
theorem wx(has:List Ob)(ps:im)(d:ByteArray)(a:Nat)(s:ByteArray)(h:tm ps a s=true):∀j,tm (iQ has ps d j) a s=true
 |0=>h
 |j+1=>j6 has _ 1 _ a s (wx has ps d a s h j)
theorem wP(T:cS)(has:List Ob):∀(f:Nat)(p:List ByteArray)(ps:im)(k':Nat)(s:ByteArray),tm ps k' s=true->tm (dF T has f p ps).1 k' s=true
 |0,_,_,_,_,h=>h
 |f+1,p,ps,k',s,h=>by
  cases hf:eO T p
  .rw[fC T has f p ps hf];refine j6 has _ 3 _ k' s ?_
   have hk:∀l:List ByteArray,tm (cM T has f p ps l).1 k' s=true:=λl=>by
    induction l using jh with
    |h0=>exact h
    |hs l n ih=>rw[fe];exact wP T has f (p++[n]) _ k' s ih
   exact hk _
  rw[fD T has f p ps hf];exact j6 has _ 2 _ k' s (wx has ps _ k' s h _)
theorem FT(T:cS)(has:List Ob)(f:Nat)(p:List ByteArray)(ps:im)(a:Nat)(s:ByteArray)(l m:List ByteArray)(h:tm (cM T has f p ps l).1 a s=true):tm (cM T has f p ps (l++m)).1 a s=true:=by
 induction m using jh with
 |h0=>rw[CO];exact h
 |hs m n ih=>rw[<-ve,fe];exact wP T has f (p++[n]) _ a s ih
theorem np{ps:im}(h:(cF has k (cV t)).isSome=true):gP has ps k t=ps:=by unfold gP;rw[dq (by rw[h,Bool.true_or])]
theorem nL(T:cS)(has c:List Ob):∀(f:Nat)(p:List ByteArray)(ps:im),(∀k s,((cF has k s).isSome=true\/tm (dF T has f p ps).1 k s=true)->(cF c k s).isSome=true)->∀ps',(dF T c f p ps').1=ps'
 |0,_,_,_,_=>rfl
 |f+1,p,ps,h,ps'=>by
  cases hf:eO T p
  .rw[fC T has f p ps hf]at h;rw[fC T c f p ps' hf]
   have hk:∀(l m:List ByteArray),l++m=dh T p->(cM T c f p ps' l).1=ps'/\(cM T c f p ps' l).2=(cM T has f p ps l).2:=λl=>by
    induction l using jh with
    |h0=>intro m _;exact⟨rfl,rfl⟩
    |hs l n ih=>
     intro m hm;obtain⟨i1,i2⟩:=ih (n::m) (by rw[<-hm];simp);rw[fe,fe]
     have a:=nL T has c f (p++[n]) (cM T has f p ps l).1 (λk s b=>h k s (by
      rcases b with e|e
      .exact .inl e
      refine .inr (j6 has _ 3 _ k s ?_);have e2:tm (cM T has f p ps (l++[n])).1 k s=true:=by rw[fe];exact e
      have e3:=FT T has f p ps k s (l++[n]) m e2;rw[hm]at e3
      exact e3))
     refine⟨?_,?_⟩
     .show(dF T c f (p++[n]) (cM T c f p ps' l).1).1=ps';rw[a,i1]
     show(cM T c f p ps' l).2++gW _ n (cV (dF T c f (p++[n]) _).2)=(cM T has f p ps l).2++gW _ n (cV (dF T has f (p++[n]) _).2);rw[i2,qH T c f (p++[n]),qH T has f (p++[n])]
   obtain⟨j1,j2⟩:=hk (dh T p) [] (CO _);show gP c (cM T c f p ps' (dh T p)).1 3 (cM T c f p ps' (dh T p)).2=ps';rw[j1,j2];refine np (h 3 _ ?_);exact pS has _ 3 _
  rw[fD T has f p ps hf]at h;rw[fD T c f p ps' hf]
  have hc:∀j,j<=du (eK T p).size->iQ c ps' (eK T p) j=ps':=λj=>by
   induction j with
   |zero=>intro _;rfl
   |succ j ih=>
    intro hj;show gP c (iQ c ps' (eK T p) j) 1 (eZ (eK T p) j)=ps';rw[ih (by omega)];refine np (h 1 _ ?_);rcases pS has (iQ has ps (eK T p) j) 1 (eZ (eK T p) j)with e|e
    .exact .inl e
    refine .inr (j6 has _ 2 _ 1 _ ?_)
    have:∀i,tm (iQ has ps (eK T p) (j+1+i)) 1 (cV (eZ (eK T p) j))=true:=λi=>by
     induction i with
     |zero=>exact e
     |succ i ih2=>exact j6 has _ 1 _ 1 _ ih2
    have h2:=this (du (eK T p).size-(j+1));rw[show j+1+(du (eK T p).size-(j+1))=du (eK T p).size from by omega]at h2;exact h2
  show gP c (iQ c ps' (eK T p) (du (eK T p).size)) 2 (iC (eK T p))=ps';rw[hc _ (cO _)];exact np (h 2 _ (pS has _ 2 _))
def wt(S:cS)(has:List Ob):Prop:=(dF S has 9 [] []).1=[]
theorem wt.moreF{S:cS}{f:Nat}(h:(dF S has f [] []).1=[])(more:List Ob):(dF S (has++more) f [] []).1=[]:=nL S has (has++more) f [] [] (λk s a=>by
 rcases a with e|e
 .rw[ld e];exact e
 rw[h]at e;cases e) []
theorem wt.more{S:cS}(h:wt S has)(more:List Ob):wt S (has++more):=wt.moreF h more
theorem wt.snapF(S:cS)(has:List Ob)(E:mu)(f:Nat):(dF S (has++ju E (dF S has f [] []).1) f [] []).1=[]:=nL S has _ f [] [] (λk s a=>by
 rcases a with e|e
 .rw[ld e];exact e
 rw[fU]
 cases hh:cF has k s with
 |some o=>rfl
 |none=>rw[Option.none_or,lV];exact e) []
theorem wt.snap(S:cS)(has:List Ob)(E:mu):wt S (has++ju E (dF S has 9 [] []).1):=wt.snapF S has E 9
end
section
theorem CV{S:cS}(a:eN S)(b:eN T)(h:∀p,cA S p=cA T p)(p:List ByteArray):dh S p=dh T p:=by
 refine AR ((fh S p).trans ?_) (ms S p);refine(Ri (lm a p) (lm b p)).2 (λn=>?_);rw[iS a,iS b,h]
theorem tR{S:cS}(h:∀p,cA S p=cA T p)(q:List ByteArray):eO S q=eO T q:=by unfold eO;rw[h]
theorem D7{S:cS}(h:∀p,cA S p=cA T p)(q:List ByteArray):eK S q=eK T q:=by unfold eK;rw[h]
theorem DH{S:cS}(h:∀p,cA S p=cA T p)(has:List Ob)(f:Nat)(a:∀(p:List ByteArray)(ps:im),dF S has f p ps=dF T has f p ps)(p:List ByteArray)(v:im×ByteArray)(n:ByteArray):E1 S has f p v n=E1 T has f p v n:=by
 unfold E1;rw[a (p++[n]) v.1,tR h (p++[n])]
theorem BG{S:cS}(h:∀p,cA S p=cA T p)(has:List Ob)(f:Nat)(a:∀(p:List ByteArray)(ps:im),dF S has f p ps=dF T has f p ps)(p:List ByteArray)(ps:im)(l:List ByteArray):cM S has f p ps l=cM T has f p ps l:=by
 have e:=funext λv=>funext λn=>DH h has f a p v n
 unfold cM;rw[e]
theorem zE{S:cS}(b:eN S)(c:eN T)(h:∀p,cA S p=cA T p)(has:List Ob)(f:Nat)(a:∀(p:List ByteArray)(ps:im),dF S has f p ps=dF T has f p ps)(p:List ByteArray)(ps:im):dF S has (f+1) p ps=dF T has (f+1) p ps:=by
 cases hf:eO T p
 .have hk:cM S has f p ps (dh S p)=cM T has f p ps (dh T p):=by rw[CV b c h p];exact BG h has f a p ps _
  have g1:=fC S has f p ps (by rw[tR h];exact hf);rw[hk]at g1;exact g1.trans (fC T has f p ps hf).symm
 have g1:=fD S has f p ps (by rw[tR h];exact hf);rw[D7 h]at g1;exact g1.trans (fD T has f p ps hf).symm
theorem BC{S:cS}(a:eN S)(b:eN T)(h:∀p,cA S p=cA T p)(has:List Ob)(f:Nat):∀(p:List ByteArray)(ps:im),dF S has f p ps=dF T has f p ps:=by
 induction f with
 |zero=>intro p ps;unfold dF;rfl
 |succ f ihf=>exact λp ps=>zE a b h has f ihf p ps
theorem wt.lookF{S:cS}(a:eN S)(b:eN T)(h:∀p,cA S p=cA T p){f:Nat}(hc:(dF S has f [] []).1=[]):(dF T has f [] []).1=[]:=by
 rw[<-BC a b h has f [] []];exact hc
theorem wt.look{S:cS}(a:eN S)(b:eN T)(h:∀p,cA S p=cA T p)(hc:wt S has):wt T has:=wt.lookF a b h hc
theorem eN.perm(h:eN T)(b:T.Perm K):eN K:=
 ⟨λx hx=>h.val x (b.mem_iff.2 hx),(b.map _).nodup_iff.1 h.dis,λx hx a=>by
  obtain⟨y,h1,h2⟩:=h.up x (b.mem_iff.2 hx) a
  exact⟨y,by rw[<-jB b h.dis];exact h1,h2⟩,by rw[<-b.length_eq];exact h.len,λx hx=>h.fil x (b.mem_iff.2 hx),λx hx=>h.big x (b.mem_iff.2 hx)⟩
theorem EG(E:mu)(t:ByteArray):(jY E (4,t)).extract 0 64≠z64:=by
 intro h;have hz:=lM E (4,t);have hp:=jM t.size;have h2:(bl ((jY E (4,t)).extract 0 64))[2]?=(bl z64)[2]?:=by rw[h]
 have e1:(bl z64)[2]?=some 0:=dE;rw[e1,cP,FH,NJ (by omega)]at h2
 have e3:(bl (jY E (4,t)))[2]?=some 4:=by
  have er:jY E (4,t)=xN (yq t.size 4 E.seq++fb (pU E.seq E.chain 4 t)++t):=rfl;rw[er];unfold xN;rw[eQ,eQ,eQ];have eh:bl (yq t.size 4 E.seq)=UInt8.ofNat (t.size/256%256)::UInt8.ofNat (t.size%256)::4::bl (fb E.seq):=by unfold yq;rw[eQ];rfl
  rw[eh];rfl
 rw[e3]at h2;exact absurd h2 dE
theorem EF(E:mu)(t:ByteArray):∃h:0<(eH (jY E (4,t))).length,(eH (jY E (4,t)))[0]≠z64:=by
 have hz:(jY E (4,t)).size=64*dU t.size:=lM E (4,t);have hp:=jM t.size;refine⟨by rw[gC];omega,?_⟩;rw[zP];exact EG E t
structure mU (n:Nat) (M:fm) (T K:cS) (d:cX) (sh:List cS):Prop where
 aw:AW n M
 wf:eN T
 k16:mV T
 perm:K.Perm T
 cl:lF d
 dn:d.safe.length=n
 s64:∀s∈d.safe,s.size=64
 zer:∀j,M.at_<=j->d.safe.getD j z64=z64
 near:M.infos≠[]->∃j,j<M.at_/\M.at_<=j+2/\d.safe.getD j z64≠z64
 cnt:M.infos.length=sh.length
 cov:∀S∈sh,eN S/\wt S M.has
theorem AB{x:ByteArray}(h:l[j]?=some x):l.getD j z64=x:=by rw[Dv,h];rfl
theorem C6{a b:List ByteArray}(h:a[j]?=b[j]?):a.getD j z64=b.getD j z64:=by rw[Dv,Dv,h]
theorem qw(l:List ByteArray)(h:∀s∈l,s.size=64):∀(i:Nat)(s:List ByteArray),(∀x∈s,x.size=64)->∀x∈cL (rP i l) s,x.size=64:=by
 induction l with
 |nil=>intro i s hs;exact hs
 |cons y r ih=>
  intro i s hs;show∀x∈cL (rP (i+1) r) (s.set i y),x.size=64;refine ih (λs hs=>h s (Nx _ hs)) (i+1) (s.set i y) (λx hx=>?_);rcases Rp hx with e|e
  .exact hs x e
  rw[e];exact h y sI
theorem CD(hc:lF d)(p:d.safe.length=n)(o:∀s∈d.safe,s.size=64)(q:(snapF T M label).at_<=n):
  (gc T M label d).2=0/\lF (gc T M label d).1/\(gc T M label d).1.safe.length=n/\(∀s∈(gc T M label d).1.safe,s.size=64)/\(∀j,j<M.at_\/(snapF T M label).at_<=j->(gc T M label d).1.safe[j]?=d.safe[j]?)/\(gc T M label d).1.safe.getD (de T M).at_ z64≠z64/\M.at_<=(de T M).at_/\(snapF T M label).at_=(de T M).at_+dU (fF T M label).size:=by
 have hE:M.at_<=(de T M).at_:=by have:=pV (dP T M) (fs M);have e:(fs M).at_=M.at_:=rfl;unfold de;omega
 have hF:(snapF T M label).at_=(de T M).at_+dU (fF T M label).size:=rfl;obtain⟨r,hr⟩:=eX (eH (jY (de T M) (4,fF T M label)));have k:r.length=dU (fF T M label).size:=by have hz:(jY (de T M) (4,fF T M label)).size=64*dU (fF T M label).size:=lM _ _;rw[hr,gC];omega
 have a:∀s∈r,s.size=64:=λs hs=>u9 _ s (by rw[<-hr];exact hs)
 obtain⟨h0,f⟩:=EF (de T M) (fF T M label);have c:∃h:0<r.length,r[0]≠z64:=by subst hr;exact⟨h0,f⟩
 obtain⟨g,i⟩:=c;have fin:∀d1:cX,lF d1->d1.safe.length=n->(∀s∈d1.safe,s.size=64)->(∀j,j<M.at_\/(de T M).at_<=j->d1.safe[j]?=d.safe[j]?)->
   (kP r (de T M).at_ d1).2=0/\lF (kP r (de T M).at_ d1).1/\(kP r (de T M).at_ d1).1.safe.length=n/\(∀s∈(kP r (de T M).at_ d1).1.safe,s.size=64)/\(∀j,j<M.at_\/(snapF T M label).at_<=j->(kP r (de T M).at_ d1).1.safe[j]?=d.safe[j]?)/\(kP r (de T M).at_ d1).1.safe.getD (de T M).at_ z64≠z64:=by
  intro d1 c1 l1 s1 o1;have e:=qD r (de T M).at_ d1 c1;refine⟨by rw[e],c1.ws r _,by rw[e];show(cL _ _).length=n;rw[C8,l1],e▸qw r a _ _ s1,λj hj=>?_,?_⟩
  .rw[e];show(cL (rP (de T M).at_ r) d1.safe)[j]?=_;rw[th r _ _ j (by omega)];exact o1 j oM
  rw[e];show(cL (rP (de T M).at_ r) d1.safe).getD (de T M).at_ z64≠z64;have h1:=F1 r (de T M).at_ d1.safe 0 g oM;rw[NY]at h1;rw[AB h1];exact i
 by_cases hp:dP T M=[]
 .have e:gc T M label d=kP r (de T M).at_ d:=by unfold gc;rw[dq hp,hr]
  rw[e];obtain⟨a1,a2,a3,a4,a5,a6⟩:=fin d hc p o (λ_ _=>rfl);exact⟨a1,a2,a3,a4,a5,a6,hE,hF⟩
 obtain⟨l,hl⟩:=eX (eH (ri (fs M) (dP T M)));have m:M.at_+l.length=(de T M).at_:=by have h1:=oF (dP T M) (fs M);have e:(fs M).at_=M.at_:=rfl;rw[hl,gC];unfold de;omega
 have b:∀s∈l,s.size=64:=λs hs=>u9 _ s (by rw[<-hl];exact hs)
 have e1:=qD l M.at_ d hc;have e:gc T M label d=kP r (de T M).at_ (kP l M.at_ d).1:=by unfold gc;rw[dj hp,<-hl,<-hr,dq (by rw[e1])]
 rw[e]
 obtain⟨a1,a2,a3,a4,a5,a6⟩:=fin (kP l M.at_ d).1 (hc.ws l _) (by rw[e1];show(cL _ _).length=n;rw[C8,p]) (e1▸qw l b _ _ o) (λj hj=>by
  rw[e1];show(cL (rP M.at_ l) d.safe)[j]?=_
  exact th l _ _ j oM)
 exact⟨a1,a2,a3,a4,a5,a6,hE,hF⟩
theorem B8(a:label.size<=20):dU (fF T M label).size<=2/\1<=dU (fF T M label).size:=by
 have h1:(fF T M label).size<=56:=uc a;unfold dU;omega
theorem mU.used_le{a:List cS}(h:mU n M T K d a):eJ d.safe n<=M.at_:=nr d.safe M.at_ h.zer n
theorem mU.snap{o:List cS}(h:mU n M T K d o)(q:label.size<=20)(r:(snapF T M label).at_<=n):
  (gc T M label d).2=0/\mU n (gz T M label) T K (gc T M label d).1 (o++[K])/\(∀j,j<eJ d.safe n->(gc T M label d).1.safe.getD j z64=d.safe.getD j z64)/\
  (wt T M.has->M.infos≠[]->eJ (gc T M label d).1.safe n<=eJ d.safe n+3/\eJ d.safe n<eJ (gc T M label d).1.safe n):=by
 obtain⟨a1,a2,a3,a4,a5,a6,a7,a8⟩:=CD (label:=label) h.cl h.dn h.s64 r;obtain⟨b1,b2⟩:=B8 (T:=T) (M:=M) q;have hu:=h.used_le;have b:eN K:=eN.perm h.wf h.perm.symm;have a:∀p,cA T p=cA K p:=λp=>jB h.perm.symm h.wf.dis p
 have c:∀j,(gz T M label).at_<=j->(gc T M label d).1.safe.getD j z64=z64:=λj hj=>by have f:(snapF T M label).at_<=j:=hj;rw[C6 (a5 j (.inr f))];exact h.zer j (by omega)
 have e:(de T M).at_<n:=oM;have m:=qS (gc T M label d).1.safe (de T M).at_ a6 n e;refine⟨a1,⟨h.aw.snap rfl h.wf h.k16 q r,h.wf,h.k16,h.perm,a2,a3,a4,c,λ_=>⟨(de T M).at_,?_,?_,a6⟩,?_,λS hS=>?_⟩,λj hj=>C6 (a5 j (.inl oM)),λhc hi=>?_⟩
 .show(de T M).at_<(snapF T M label).at_;omega
 .show(snapF T M label).at_<=(de T M).at_+2;omega
 .show(M.infos++[_]).length=(o++[K]).length;rw[ir,ir,h.cnt];rfl
 .rcases List.mem_append.1 hS with hS|hS
  .exact⟨(h.cov S hS).1,(h.cov S hS).2.more _⟩
  simp at hS;rw[hS];exact⟨b,wt.look h.wf b a (wt.snap T M.has (fs M))⟩
 have g:dP T M=[]:=hc;have k:(de T M).at_=M.at_:=by unfold de;rw[g];rfl
 obtain⟨j,j1,j2,j3⟩:=h.near hi;have l:=h.aw.at2;have hj:=qS d.safe j j3 n oM;have i:=nr (gc T M label d).1.safe (snapF T M label).at_ c n;omega
end
end Go.Proofs.YtapijhhmjjplmaaGreatDoor

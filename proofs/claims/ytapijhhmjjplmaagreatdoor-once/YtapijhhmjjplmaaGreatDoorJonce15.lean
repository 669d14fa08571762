import Derived.Test.YtapijhhmjjplmaaGreatDoorJonce10
import Derived.Test.YtapijhhmjjplmaaGreatDoorJonce12
import Derived.Test.YtapijhhmjjplmaaGreatDoorJonce13
import Derived.Test.YtapijhhmjjplmaaGreatDoorRows
namespace Go.Proofs.YtapijhhmjjplmaaGreatDoor
set_option linter.all false
set_option maxRecDepth 100000
set_option maxHeartbeats 4000000
open Go.Proofs.Tryz
variable {s:ByteArray}{f:ByteArray→Option Value}{D:DataW Value}{x:pp}{p l:List ByteArray}{nb nb' mb:List ByteArray→Nat}{zs:List Nat}{rb b n m fuel:Nat}{S U:Nat→Prop}{P:Program}{T T':cS}{e:TypeId}{w w' w1 w2 W:World}
section
open Go.RowKit Go.Maps
def eM(b:Nat):Value:=(yP b)
structure jr (T:cS) (nb:List ByteArray->Nat) (p:List ByteArray) (D:DataW Value):Prop where
 tidy:Tidy D
 mem:∃es,D=.map es/\∀l d,(l,d)∈es↔∃k,l=.string (bl k)/\(cA T (p++[k])).isSome/\d=.held (eM (nb (p++[k])))
theorem gx(a b:List UInt8):(Lit.string a).sameKey (.string b)=decide (a=b):=by
 show(a==b)=_;by_cases h:a=b
 .rw[h];simp
 rw[lW h];simpa using h
theorem gv{l:Lit}{b:List UInt8}:l.sameKey (.string b)=true↔l=.string b:=by
 constructor
 .intro h;exact WideAt.sameKey_eq h
 rintro rfl;rw[gx];simp
theorem jr.has(h:jr T nb p D)(k:ByteArray):Maps.has D (.string (bl k))=(cA T (p++[k])).isSome:=by
 obtain⟨es,rfl,hm⟩:=h.mem;rw[has_eq];cases hs:(cA T (p++[k])).isSome
 .rw[List.any_eq_false];rintro⟨l,d⟩ hx he;obtain⟨k',rfl,h1,-⟩:=(hm l d).1 hx;have:=gv.1 he;simp only[PF]at this;rw[ej this,hs]at h1;cases h1
 rw[PB];exact⟨(.string (bl k),.held (eM (nb (p++[k])))),(hm _ _).2 ⟨k,rfl,hs,rfl⟩,gv.2 rfl⟩
theorem jr.at(h:jr T nb p D)(k:ByteArray)(z:DataW Value):D.atKey (.string (bl k)) z=if(cA T (p++[k])).isSome then .held (eM (nb (p++[k])))else z:=by
 obtain⟨es,rfl,hm⟩:=h.mem
 cases hf:es.find? (λp=>p.1.sameKey (.string (bl k)))with
 |none=>
  have e:(DataW.map es).atKey (.string (bl k)) z=z:=by simp only[DataW.atKey,hf]
  rw[e];cases hs:(cA T (p++[k])).isSome
  .rfl
  .rw[Nw]at hf;exact absurd (gv.2 rfl) (hf (.string (bl k),.held (eM (nb (p++[k])))) ((hm _ _).2 ⟨k,rfl,hs,rfl⟩))
 |some x=>
  obtain⟨l,d⟩:=x;have e:(DataW.map es).atKey (.string (bl k)) z=d:=by simp only[DataW.atKey,hf]
  rw[e];have h1:=OV hf;have h2:=N9 hf;obtain⟨k',rfl,h3,rfl⟩:=(hm l d).1 h1;have:=gv.1 h2;simp only[PF]at this;rw[ej this]at h3⊢;rw[h3];rfl
theorem jr.keys(f:eN T)(h:jr T nb p D):(strKeys D).Perm ((dZ T p).map bl)/\Maps.size D=(dZ T p).length:=by
 obtain⟨es,rfl,hm⟩:=h.mem;obtain⟨c,he,ht⟩:=h.tidy;cases he
 have hp:(strKeys (.map es:DataW Value)).Perm ((dZ T p).map bl):=by
  show(es.map λp=>strOf p.1).Perm _;rw[Ri]
  .intro a;rw[N1,N1];constructor
   .rintro⟨⟨l,d⟩,hx,rfl⟩;obtain⟨k,rfl,h1,-⟩:=(hm l d).1 hx;exact⟨k,(iS f p k).2 h1,rfl⟩
   rintro⟨k,hk,rfl⟩;exact⟨(.string (bl k),.held (eM (nb (p++[k])))),(hm _ _).2 ⟨k,rfl,(iS f p k).1 hk,rfl⟩,rfl⟩
  .rw[Rm,PY];refine ht.imp_of_mem ?_;rintro⟨l,d⟩ ⟨l',d'⟩ hx hy b e;obtain⟨k,rfl,-,-⟩:=(hm l d).1 hx;obtain⟨k',rfl,-,-⟩:=(hm l' d').1 hy;exact b (Ce Lit.string e)
  rw[Rm,PY];exact(List.nodup_iff_pairwise_ne.1 (lm f p)).imp (λb e=>b (ej e))
 refine⟨hp,?_⟩;have:=hp.length_eq;rw[iF]at this;show es.length=_;rw[<-this];show _=(es.map _).length;rw[iF]
theorem pF{x y:Lit×DataW Value}:∀l:List (Lit×DataW Value),y∈DataW.insert x l↔y=x\/y∈l
 |[]=>by simp[DataW.insert]
 |z::r=>by
  unfold DataW.insert;split
  .simp
  .rw[OS,pF r,OS];constructor
   .rintro(h|h|h)
    .exact .inr (.inl h)
    .exact .inl h
    exact .inr (.inr h)
   rintro(h|h|h)
   .exact .inr (.inl h)
   .exact .inl h
   exact .inr (.inr h)
theorem jr.put(h:jr T nb p D)(n:ByteArray)(f:(cA T (p++[n]))=none)(b:∀k,(cA T' (p++[k])).isSome=((cA T (p++[k])).isSome||decide (k=n)))(c:∀k,k≠n->nb' (p++[k])=nb (p++[k]))(g:Tidy (D.put (.string (bl n)) (.held (eM (nb' (p++[n])))))):
  jr T' nb' p (D.put (.string (bl n)) (.held (eM (nb' (p++[n]))))):=by
 refine⟨g,?_⟩;obtain⟨es,rfl,hm⟩:=h.mem;refine⟨_,rfl,λl d=>?_⟩;rw[pF,L5];constructor
 .rintro(e|⟨hx,hne⟩)
  .cases e;exact⟨n,rfl,by rw[b];simp,rfl⟩
  obtain⟨k,rfl,h3,rfl⟩:=(hm l d).1 hx;have a:k≠n:=by rintro rfl;rw[f]at h3;cases h3
  exact⟨k,rfl,by rw[b,h3];rfl,by rw[c k a]⟩
 rintro⟨k,rfl,h3,rfl⟩;by_cases a:k=n
 .subst a;exact .inl rfl
 rw[b,lW a,Bool.or_false]at h3;refine .inr ⟨(hm _ _).2 ⟨k,rfl,h3,by rw[c k a]⟩,?_⟩;show(!(Lit.string (bl k)).sameKey (.string (bl n)))=true;rw[gx,lW (λe=>a (ej e))];rfl
theorem jr.del(h:jr T nb p D)(n:ByteArray)(c:∀k,(cA T' (p++[k])).isSome=((cA T (p++[k])).isSome&&decide (k≠n)))(f:Tidy (D.del (.string (bl n)))):jr T' nb p (D.del (.string (bl n))):=by
 refine⟨f,?_⟩;obtain⟨es,rfl,hm⟩:=h.mem;refine⟨_,rfl,λl d=>?_⟩;rw[L5];constructor
 .rintro⟨hx,b⟩;obtain⟨k,rfl,h3,rfl⟩:=(hm l d).1 hx;have a:k≠n:=by rintro rfl;have:(!(Lit.string (bl k)).sameKey (.string (bl k)))=true:=b;rw[gx]at this;simp at this
  exact⟨k,rfl,by rw[c,h3,jX a];rfl,rfl⟩
 rintro⟨k,rfl,h3,rfl⟩;rw[c,Dj,EP]at h3;refine⟨(hm _ _).2 ⟨k,rfl,h3.1,rfl⟩,?_⟩;show(!(Lit.string (bl k)).sameKey (.string (bl n)))=true;rw[gx,lW (λe=>h3.2 (ej e))];rfl
theorem jr.same(h:jr T nb p D)(a:∀k,(cA T' (p++[k])).isSome=(cA T (p++[k])).isSome)(b:∀k,(cA T (p++[k])).isSome->nb' (p++[k])=nb (p++[k])):jr T' nb' p D:=by
 refine⟨h.tidy,?_⟩;obtain⟨es,rfl,hm⟩:=h.mem;refine⟨es,rfl,λl d=>?_⟩;rw[hm];constructor
 .rintro⟨k,rfl,h3,rfl⟩;exact⟨k,rfl,by rw[a];exact h3,by rw[b k h3]⟩
 rintro⟨k,rfl,h3,rfl⟩;rw[a]at h3;exact⟨k,rfl,h3,by rw[b k h3]⟩
theorem jr.empty(h:∀k,cA T (p++[k])=none):jr T nb p (.map []):=by
 refine⟨tidy_empty,[],rfl,λl d=>⟨λh=>(by cases h),?_⟩⟩;rintro⟨k,-,h3,-⟩;rw[h]at h3;cases h3
def dK(T:cS)(p:List ByteArray):Prop:=p=[]\/(cA T p).isSome
def i8(T:cS)(p:List ByteArray):ByteArray:=match cA T p with
 |some x=>x.data
 |none=>⟨#[]⟩
def sQ(T:cS)(mb:List ByteArray->Nat)(p:List ByteArray):Array Value:=#[.string (i8 T p),.map (if eO T p then none else some (mb p))]
theorem oz(h:eO T p=true):sQ T mb p=#[.string (i8 T p),.map none]:=by unfold sQ;rw[h];rfl
theorem iK(h:eO T p=false):sQ T mb p=#[.string (i8 T p),.map (some (mb p))]:=by unfold sQ;rw[h];rfl
structure dC (w:World) (S:Nat->Prop) (rb:Nat) (T:cS) (nb mb:List ByteArray->Nat):Prop where
 root:nb []=rb
 sn:∀p,dK T p->S (nb p)
 node:∀p,dK T p->w.heap[nb p]?=some (.cells (sQ T mb p) 274 (0,0))
 sm:∀p,dK T p->eO T p=false->S (mb p)
 map:∀p,dK T p->eO T p=false->∃D,w.ownsMap prog 9 cY (mb p) 256 D/\jr T nb p D
 i1:∀p q,dK T p->dK T q->nb p=nb q->p=q
 i2:∀p q,dK T p->eO T p=false->dK T q->eO T q=false->mb p=mb q->p=q
 i3:∀p q,dK T p->dK T q->eO T q=false->nb p≠mb q
theorem dC.on(h:dC w S rb T nb mb)(a:cq U w w')(c:∀g,S g->¬U g):dC w' S rb T nb mb:=
 ⟨h.root,h.sn,λp hp=>by rw[a.block _ (cm (h.node p hp)) (c _ (h.sn p hp))];exact h.node p hp,h.sm,λp hp hf=>by
  obtain⟨D,h1,h2⟩:=h.map p hp hf
  exact⟨D,dg h1 (a.block _ (dN h1) (c _ (h.sm p hp hf))),h2⟩,h.i1,h.i2,h.i3⟩
theorem dC.mono(h:dC w S rb T nb mb)(a:∀g,S g->U g):dC w U rb T nb mb:=
 ⟨h.root,λp hp=>a _ (h.sn p hp),h.node,λp hp hf=>a _ (h.sm p hp hf),h.map,h.i1,h.i2,h.i3⟩
theorem wF{k:TypeId}(h:w.ownsMap prog k cY b n D):w.ownsMap prog k cY b (Maps.size D) D:=by
 obtain⟨es,a,hb,F,hs,hD⟩:=h;refine⟨es,a,hb,F,?_,hD⟩;rw[hD,Maps.size_eq,length_read];exact cO _
theorem Bv(a:eN T)(h:jr T nb p D):Maps.size D<=256:=by
 rw[(h.keys a).2];exact lZ (nz _ _) a.len
theorem dC.set(h:dC w S rb T nb mb)(g:cA T l=some x)(i:x.dir=false)(d:ByteArray):dC (w.setCell ⟨nb l,0,none⟩ (.string d)) S rb (jl T l d) nb mb:=by
 have hn:∀p,dK (jl T l d) p↔dK T p:=λp=>by unfold dK;rw[ki];cases cA T p<;>simp
 have hf:∀p,eO (jl T l d) p=eO T p:=λp=>by
  unfold eO;rw[ki]
  cases cA T p with
  |none=>rfl
  |some y=>
   show(!(if p=l then{y with data:=d}else y).dir)=_;split<;>rfl
 have c:dK T l:=.inr (by rw[g];rfl);have f:eO T l=true:=by unfold eO;rw[g];show(!x.dir)=true;rw[i];rfl
 have hs:cq (·=nb l) w (w.setCell ⟨nb l,0,none⟩ (.string d)):=cq.setCell (S:=(·=nb l)) (cq.refl _ w) ⟨nb l,0,none⟩ rfl _;refine⟨h.root,λp hp=>h.sn p ((hn p).1 hp),λp hp=>?_,λp hp a=>h.sm p ((hn p).1 hp) (by rw[<-hf];exact a),λp hp a=>?_,λp q hp hq=>h.i1 p q ((hn p).1 hp) ((hn q).1 hq),λp q hp a hq b=>h.i2 p q ((hn p).1 hp) (by rw[<-hf];exact a) ((hn q).1 hq) (by rw[<-hf];exact b),λp q hp hq b=>h.i3 p q ((hn p).1 hp) ((hn q).1 hq) (by rw[<-hf];exact b)⟩
 .by_cases e:p=l
  .subst e;rw[gE w _ 0 _ _ _ (h.node p c),oz f,oz (by rw[hf];exact f)];have:i8 (jl T p d) p=d:=by unfold i8;rw[ki,g];simp
   rw[this];rfl
  rw[lq _ _ _ _ (λe2=>e (h.i1 p l ((hn p).1 hp) c e2)),h.node p ((hn p).1 hp)]
  have h1:sQ (jl T l d) mb p=sQ T mb p:=by
   unfold sQ;rw[hf]
   have:i8 (jl T l d) p=i8 T p:=by
    unfold i8;rw[ki]
    cases cA T p with
    |none=>rfl
    |some y=>show(if p=l then{y with data:=d}else y).data=_;rw[dj e]
   rw[this]
  rw[h1]
 obtain⟨D,h1,h2⟩:=h.map p ((hn p).1 hp) (by rw[<-hf];exact a);refine⟨D,dg h1 (hs.block _ (dN h1) (λe=>h.i3 l p c ((hn p).1 hp) (by rw[<-hf];exact a) e.symm)),h2.same (λk=>?_) (λk _=>rfl)⟩;rw[ki];cases cA T (p++[k])<;>rfl
theorem mm:Keyed prog 9:=string_keyed xV
theorem L4(a:eN T)(c:l≠[])(d:cA T l=none)(k:ByteArray):cA T (l++[k])=none:=by
 cases hx:cA T (l++[k])with
 |none=>rfl
 |some y=>
  obtain⟨h1,h2⟩:=dI hx;have:=a.up y h1;rw[h2,Pk]at this;obtain⟨z,hz,-⟩:=this c;rw[d]at hz;cases hz
theorem dC.more(h:dC w S rb T nb mb)(Z:eN T)(V:l≠[])(W:cA T l=none)(H:dK T l.dropLast)(I:eO T l.dropLast=false)(x:pp)(O:x.names=l)(b G:Nat)(X:eN (T++[x]))(N:cq (λ_=>False) w w1)(Y:w.heap.size<=b/\b<w1.heap.size)(J:x.dir=true->w.heap.size<=G/\G<w1.heap.size/\G≠b/\w1.ownsMap prog 9 cY G 0 (.map []))(P:w1.heap[b]?=some (.cells #[.string x.data,.map (if x.dir then some G else none)] 274 (0,0)))(K:cq (·=mb l.dropLast) w1 w2)(Q:∀g,S g->U g)(L:∀g,w.heap.size<=g->U g)(M:∀D,w1.ownsMap prog 9 cY (mb l.dropLast) 256 D->w2.ownsMap prog 9 cY (mb l.dropLast) 257 (D.put (.string (bl (l.getLast?.getD ⟨#[]⟩))) (.held (eM b)))):
  dC w2 U rb (T++[x]) (λp=>if p=l then b else nb p) (λp=>if p=l then G else mb p):=by
 have c:∀p,cA (T++[x]) p=if p=l then some x else cA T p:=λp=>by rw[se (O▸W),O]
 have a:∀p,dK (T++[x]) p->p≠l->dK T p:=λp hp t=>by
  rcases hp with e|e
  .exact .inl e
  rw[c,dj t]at e;exact .inr e
 have d:∀p,p≠l->eO (T++[x]) p=eO T p:=λp t=>by unfold eO;rw[c,dj t]
 have z:∀p,p≠l->i8 (T++[x]) p=i8 T p:=λp t=>by unfold i8;rw[c,dj t]
 have F:l.dropLast≠l:=λe=>by have:=Ce List.length e;rw[Ot]at this;have:=List.length_pos_iff.2 V;omega
 have m:∀p,dK T p->nb p<w.heap.size:=λp hp=>cm (h.node p hp)
 have i:∀p,dK T p->eO T p=false->mb p<w.heap.size:=λp hp hf=>by obtain⟨D,h1,-⟩:=h.map p hp hf;exact dN h1
 have E:=N.size;refine⟨?_,λp hp=>?_,λp hp=>?_,λp hp hf=>?_,λp hp hf=>?_,λp q hp hq e=>?_,λp q hp j hq f e=>?_,λp q hp hq f e=>?_⟩
 .show(if[]=l then b else nb [])=rb;rw[dj (λe=>V e.symm)];exact h.root
 .show U (if p=l then b else nb p);by_cases e:p=l
  .rw[dq e];exact L b Y.1
  rw[dj e];exact Q _ (h.sn p (a p hp e))
 .show w2.heap[(if p=l then b else nb p)]?=some (.cells (sQ (T++[x]) (λp=>if p=l then G else mb p) p) _ _);by_cases e:p=l
  .subst e;rw[dq rfl,K.block b Y.2 (λe2=>by have:=i _ H I;omega),P];have e1:i8 (T++[x]) p=x.data:=by unfold i8;rw[c,dq rfl]
   have e2:eO (T++[x]) p=!x.dir:=by unfold eO;rw[c,dq rfl]
   unfold sQ;rw[e1,e2];cases x.dir<;>simp
  have r:=a p hp e;rw[dj e,K.block _ (by have:=m p r;omega) (λe2=>h.i3 p _ r H I e2),N.block _ (m p r) (λh=>h),h.node p r];unfold sQ;rw[z p e,d p e];show _=some (Obj.cells #[_,.map (if _ then none else some (if p=l then G else mb p))] _ _);rw[dj e]
 .show U (if p=l then G else mb p);by_cases e:p=l
  .subst e;rw[dq rfl];have e2:eO (T++[x]) p=!x.dir:=by unfold eO;rw[c,dq rfl]
   rw[e2]at hf;exact L _ (J (by simpa using hf)).1
  rw[dj e];exact Q _ (h.sm p (a p hp e) (by rw[<-d p e];exact hf))
 .by_cases e:p=l
  .subst e;have e2:eO (T++[x]) p=!x.dir:=by unfold eO;rw[c,dq rfl]
   rw[e2]at hf;obtain⟨g1,g2,g3,g4⟩:=J (by simpa using hf);refine⟨.map [],?_,jr.empty λk=>?_⟩
   .show World.ownsMap _ _ _ _ (if p=p then G else mb p) _ _;rw[dq rfl];exact(dg g4 (K.block G g2 (λe3=>by have:=i _ H I;omega))).mono (fP _)
   rw[c,dj (λe3=>by have:=Ce List.length e3;simp at this)];exact L4 Z V W k
  have r:=a p hp e;have j:eO T p=false:=by rw[<-d p e];exact hf
  obtain⟨D,h1,h2⟩:=h.map p r j;have y:=dg h1 (N.block _ (dN h1) (λh=>h));have C:∀k,p++[k]≠l->(if p++[k]=l then b else nb (p++[k]))=nb (p++[k]):=λk hk=>dj hk
  by_cases e2:p=l.dropLast
  .have hl:p++[l.getLast?.getD ⟨#[]⟩]=l:=e2▸ie V;obtain⟨n,B⟩:=eX (l.getLast?.getD ⟨#[]⟩);rw[<-B]at hl M;have o:=M D (by rw[<-e2];exact y);rw[<-e2]at o;have A:(if p++[n]=l then b else nb (p++[n]))=b:=dq hl;have u:∀k,p++[k]=l↔k=n:=λk=>by rw[<-hl];simp
   have v:=h2.put (T':=T++[x]) (nb':=λq=>if q=l then b else nb q) n (hl▸W) (λk=>by
    rw[c];by_cases ek:k=n
    .rw[dq ((u k).2 ek),jX ek];simp
    .rw[dj (λh=>ek ((u k).1 h)),lW ek];simp) (λk hk=>by
    show(if p++[k]=l then b else _)=_
    rw[dj (λh=>hk ((u k).1 h))]) (by rw[A];exact o.tidy mm)
   rw[A]at v;refine⟨_,?_,v⟩;show World.ownsMap _ _ _ _ (if p=l then G else mb p) _ _;rw[dj e];exact(wF o).mono (Bv X v)
  refine⟨D,?_,h2.same (λk=>?_) (λk hk=>?_)⟩
  .show World.ownsMap _ _ _ _ (if p=l then G else mb p) _ _;rw[dj e];exact dg y (K.block _ (dN y) (λe3=>e2 (h.i2 p _ r j H I e3)))
  .rw[c,dj (λe3=>e2 (by rw[<-e3,Pk]))]
  show(if p++[k]=l then b else _)=_;rw[dj (λe3=>e2 (by rw[<-e3,Pk]))]
 .have e':=e;by_cases ep:p=l
  .by_cases eq:q=l
   .rw[ep,eq]
   rw[dq ep,dj eq]at e';have:=m q (a q hq eq);omega
  by_cases eq:q=l
  .rw[dj ep,dq eq]at e';have:=m p (a p hp ep);omega
  rw[dj ep,dj eq]at e';exact h.i1 p q (a p hp ep) (a q hq eq) e'
 .have e':=e
  have s:∀p,p=l->eO (T++[x]) p=false->w.heap.size<=G:=λp e hf=>by
   subst e;have e2:eO (T++[x]) p=!x.dir:=by unfold eO;rw[c,dq rfl]
   rw[e2]at hf;exact(J (by simpa using hf)).1
  by_cases ep:p=l
  .by_cases eq:q=l
   .rw[ep,eq]
   rw[dq ep,dj eq]at e';have h1:=i q (a q hq eq) (by rw[<-d q eq];exact f);have h2:=s p ep j;omega
  by_cases eq:q=l
  .rw[dj ep,dq eq]at e';have h1:=i p (a p hp ep) (by rw[<-d p ep];exact j);have h2:=s q eq f;omega
  rw[dj ep,dj eq]at e';exact h.i2 p q (a p hp ep) (by rw[<-d p ep];exact j) (a q hq eq) (by rw[<-d q eq];exact f) e'
 have e':=e
 have s:q=l->w.heap.size<=G/\G≠b:=λeq=>by
  have e2:eO (T++[x]) q=!x.dir:=by unfold eO;rw[c,dq eq]
  rw[e2]at f;have:=J (by simpa using f);exact⟨this.1,this.2.2.1⟩
 by_cases ep:p=l
 .by_cases eq:q=l
  .rw[dq ep,dq eq]at e';exact(s eq).2 e'.symm
  rw[dq ep,dj eq]at e';have h1:=i q (a q hq eq) (by rw[<-d q eq];exact f);omega
 by_cases eq:q=l
 .rw[dj ep,dq eq]at e';have h1:=m p (a p hp ep);have h2:=(s eq).1;omega
 rw[dj ep,dj eq]at e';exact h.i3 p q (a p hp ep) (a q hq eq) (by rw[<-d q eq];exact f) e'
theorem dC.less(h:dC w S rb T nb mb)(A:l≠[])(v:dK T l.dropLast)(y:eO T l.dropLast=false)(z:cq (·=mb l.dropLast) w w2)(u:∀D,w.ownsMap prog 9 cY (mb l.dropLast) 256 D->w2.ownsMap prog 9 cY (mb l.dropLast) 256 (D.del (.string (bl (l.getLast?.getD ⟨#[]⟩))))):
  dC w2 S rb (dS T l) nb mb:=by
 have b:=ud T l;have t:l.dropLast≠l:=λe=>by have:=Ce List.length e;rw[Ot]at this;have:=List.length_pos_iff.2 A;omega
 have a:∀p,dK (dS T l) p->dK T p/\p≠l:=λp hp=>by
  rcases hp with e|e
  .exact⟨.inl e,by rw[e];exact λe=>A e.symm⟩
  rw[b]at e;by_cases ep:p=l
  .rw[dq ep]at e;cases e
  rw[dj ep]at e;exact⟨.inr e,ep⟩
 have c:∀p,p≠l->eO (dS T l) p=eO T p:=λp j=>by unfold eO;rw[b,dj j]
 have m:∀p,p≠l->i8 (dS T l) p=i8 T p:=λp j=>by unfold i8;rw[b,dj j]
 refine⟨h.root,λp hp=>h.sn p (a p hp).1,λp hp=>?_,λp hp hf=>?_,λp hp hf=>?_,λp q hp hq=>h.i1 p q (a p hp).1 (a q hq).1,λp q hp r hq i=>?_,λp q hp hq i=>?_⟩
 .obtain⟨d,e⟩:=a p hp;rw[z.block _ (cm (h.node p d)) (λe2=>h.i3 p _ d v y e2),h.node p d];unfold sQ;rw[m p e,c p e]
 .obtain⟨d,e⟩:=a p hp;exact h.sm p d (by rw[<-c p e];exact hf)
 .obtain⟨d,e⟩:=a p hp;have g:eO T p=false:=by rw[<-c p e];exact hf
  obtain⟨D,h1,h2⟩:=h.map p d g;by_cases e2:p=l.dropLast
  .have hl:p++[l.getLast?.getD ⟨#[]⟩]=l:=e2▸ie A;obtain⟨n,s⟩:=eX (l.getLast?.getD ⟨#[]⟩);rw[<-s]at hl u;have f:=u D (by rw[<-e2];exact h1);rw[<-e2]at f;have o:∀k,p++[k]=l↔k=n:=λk=>by rw[<-hl];simp
   refine⟨_,f,h2.del n (λk=>?_) (f.tidy mm)⟩;rw[b];by_cases ek:k=n
   .rw[dq ((o k).2 ek),lW (λh=>h ek)];simp
   rw[dj (λh=>ek ((o k).1 h)),jX ek];simp
  refine⟨D,dg h1 (z.block _ (dN h1) (λe3=>e2 (h.i2 p _ d g v y e3))),h2.same (λk=>?_) (λk hk=>rfl)⟩;rw[b,dj (λe3=>e2 (by rw[<-e3,Pk]))]
 .exact h.i2 p q (a p hp).1 (by rw[<-c p (a p hp).2];exact r) (a q hq).1 (by rw[<-c q (a q hq).2];exact i)
 exact h.i3 p q (a p hp).1 (a q hq).1 (by rw[<-c q (a q hq).2];exact i)
end
section
open Go.RowKit
theorem Mo(s:ByteArray)(b a:List Nat)(tg:TypeId)(k:Nat×Nat)(w:World)(c:s.size<=300000)(f:a.length=8)(g:∀d∈a,d<dQ)(j:∀d∈b,d<dQ)(l:w.heap[13]?=some (.cells (eW a) tg k))(m:∀i,i<64->w.cell? ⟨14,i,none⟩=some (.int .u32 (b.getD i 0:Int))):
  Calls prog 107 #[.string s] w λe w2=>∃A:Array Value,e=.returned (.agg A)/\Hid (A=kL (jp (gY b a (fE (fW s)) ((fE (fW s)).length/64)) 32))/\Hid ((prog.info? 131).map (·.size)=some A.size)/\Hid (∀Z:Array Value,Z.size=32->Z.size=A.size)/\Hid (A.all (·.oneCell')=true)/\Hid (Below w.heap.size w w2):=by
 refine(Dq s b a tg k w c f g j l m).mono ?_;rintro e w2 ⟨rfl,hb⟩;have hz:∀st,(kL (jp st 32)).size=32:=λst=>by simp[kL,gy]
 refine⟨_,rfl,rfl,?_,λZ h=>by rw[hz,h],xO _,hb⟩;show _=_;rw[hz]
 kernel_rfl
theorem Jt(s:ByteArray)(x v:List Nat)(tg:TypeId)(D:Nat×Nat)(w:World)(C:s.size<=300000)(y:v.length=8)(z:∀d∈v,d<dQ)(B:∀d∈x,d<dQ)(E:w.heap[13]?=some (.cells (eW v) tg D))(F:∀i,i<64->w.cell? ⟨14,i,none⟩=some (.int .u32 (x.getD i 0:Int))):
  Calls prog 65 #[.string s] w λe w'=>e=.returned (.string ⟨(Es x v (fW s)).toArray⟩)/\Below w.heap.size w w':=by
 have HD:=Mo s x v tg D w C y z B E F;obtain⟨l,hl⟩:=eX (Es x v (fW s));have a:(jp (gY x v (fE (fW s)) ((fE (fW s)).length/64)) 32).map UInt8.ofNat=l:=by rw[hl];exact zh _ (ji _ _ _ y _)
 rw[<-hl];obtain⟨o,ho⟩:=eX (jp (gY x v (fE (fW s)) ((fE (fW s)).length/64)) 32);have k:o.length=32:=ho▸gy _ _;have m:∀d∈o,d<256:=ho▸Da _ _;rw[<-ho]at HD a;have g:=HD;have b:=hD a;have c:=hD k;have q:=hD m;clear HD hl ho a E F y z B k m;have r:=hD g;clear g;go_enter func65,ntmps65
 go_wp2_with fail
 refine r.mono ?_;rintro e w1 ⟨A,rfl,HA,HI,HZ,HO,HB⟩
 have u:∀Z:Array Value,(convert 134 9 (.slice (yS w1.heap.size 0) 32 32)).run prog ((w1.alloc (.cells Z 131)).setRow w1.heap.size A)=.ok (.string ⟨l.toArray⟩) ((w1.alloc (.cells Z 131)).setRow w1.heap.size A):=λZ=>by
  have n:l.length=32:=by rw[<-b.out,iF];exact c
  have h:=KH (P:=prog) ((w1.alloc (.cells Z 131)).setRow w1.heap.size A) 134 9 5 (yA w1.heap.size 0) 32 l yE I0 xV ?_
  .rw[n]at h;exact h
  intro j hj;have hr:=ja _ _ _ A _ _ (dM w1 (.cells Z 131));have p:j<o.length:=by rw[c.out];omega
  have f:fV ((w1.alloc (.cells Z 131)).setRow w1.heap.size A) w1.heap.size 131 o:=by unfold fV;rw[<-HA.out];exact hr
  have hc:=f.cell j p;have e1:((yA w1.heap.size 0):Addr).add j=(yA w1.heap.size j):=by unfold Addr.add;split<;>simp_all
  have e2:l[j].toNat=o[j]:=by
   have t:=q o[j] (mX _);have e3:l[j]=UInt8.ofNat o[j]:=by have:l=o.map UInt8.ofNat:=b.symm;subst this;rw[Aw]
   rw[e3,MJ];omega
  rw[e1,e2];exact hc
 go_wp2_with (refine ER rfl 131 _ _ rfl w1.heap.size A rfl rfl 131 _ (dM w1 _) HI (HZ _ rfl) HO ?_)
 go_ret;exact⟨rfl,cC (HB.alloc HB.size _) HB.size _⟩
theorem Bh{o:Obj}(h:W.heap[b]?=some o):b<W.heap.size:=(Array.getElem?_eq_some_iff.1 h).1
structure fL (w:World):Prop where
 start:∃tg fr,w.heap[13]?=some (.cells (eW fX) tg fr)
 round:∀i,i<64->w.cell? ⟨14,i,none⟩=some (.int .u32 (lw.getD i 0:Int))
theorem fL.on(h:fL w)(a:Below w.heap.size w W):fL W:=by
 obtain⟨⟨tg,fr,h1⟩,h2⟩:=h;refine⟨⟨tg,fr,?_⟩,λi hi=>?_⟩
 .rw[a.block _ (Bh h1)];exact h1
 rw[a.cell (pr (h2 i hi))];exact h2 i hi
end
section
open Go.RowKit Go.Maps
structure gj (D:DataW Value) (f:ByteArray->Option Value):Prop where
 tidy:Tidy D
 mem:∃es,D=.map es/\∀l d,(l,d)∈es↔∃s v,l=.string (bl s)/\s.size=32/\f s=some v/\d=.held v
theorem gj.keys(h:gj D f){l:Lit}(a:Maps.has D l=true):∃s v,l=.string (bl s)/\s.size=32/\f s=some v:=by
 obtain⟨es,rfl,hm⟩:=h.mem;rw[has_eq,PB]at a;obtain⟨⟨l',d⟩,hx,he⟩:=a;obtain⟨s,v,rfl,h1,h2,-⟩:=(hm l' d).1 hx;exact⟨s,v,(WideAt.sameKey_eq he).symm,h1,h2⟩
theorem gj.has(h:gj D f)(a:s.size=32):Maps.has D (.string (bl s))=(f s).isSome:=by
 obtain⟨es,rfl,hm⟩:=h.mem;rw[has_eq]
 cases hf:f s with
 |none=>
  show _=false;rw[List.any_eq_false];rintro⟨l,d⟩ hx he;obtain⟨s',v,rfl,-,h2,-⟩:=(hm l d).1 hx;have:=gv.1 he;simp only[PF]at this;rw[ej this,hf]at h2;cases h2
 |some v=>
  show _=true;rw[PB];exact⟨(.string (bl s),.held v),(hm _ _).2 ⟨s,v,rfl,a,hf,rfl⟩,gv.2 rfl⟩
def tH(o:Option Value)(z:DataW Value):DataW Value:=match o with
 |some v=>.held v
 |none=>z
theorem gj.at(h:gj D f)(a:s.size=32)(z:DataW Value):D.atKey (.string (bl s)) z=tH (f s) z:=by
 obtain⟨es,rfl,hm⟩:=h.mem
 cases hf:es.find? (λp=>p.1.sameKey (.string (bl s)))with
 |none=>
  have e:(DataW.map es).atKey (.string (bl s)) z=z:=by simp only[DataW.atKey,hf]
  rw[e]
  cases hv:f s with
  |none=>rfl
  |some v=>
   rw[Nw]at hf;exact absurd (gv.2 rfl) (hf (.string (bl s),.held v) ((hm _ _).2 ⟨s,v,rfl,a,hv,rfl⟩))
 |some x=>
  obtain⟨l,d⟩:=x;have e:(DataW.map es).atKey (.string (bl s)) z=d:=by simp only[DataW.atKey,hf]
  rw[e];have h1:=OV hf;have h2:=N9 hf;obtain⟨s',v,rfl,-,h3,rfl⟩:=(hm l d).1 h1;have:=gv.1 h2;simp only[PF]at this;rw[ej this]at h3;rw[h3];rfl
theorem gj.put(h:gj D f){n:ByteArray}(b:n.size=32)(v:Value)(c:Tidy (D.put (.string (bl n)) (.held v))):gj (D.put (.string (bl n)) (.held v)) (λs=>if s=n then some v else f s):=by
 refine⟨c,?_⟩;obtain⟨es,rfl,hm⟩:=h.mem;refine⟨_,rfl,λl d=>?_⟩;rw[pF,L5];constructor
 .rintro(e|⟨hx,hne⟩)
  .cases e;exact⟨n,v,rfl,b,dq rfl,rfl⟩
  obtain⟨k,u,rfl,h1,h3,rfl⟩:=(hm l d).1 hx;have a:k≠n:=by rintro rfl;have:(!(Lit.string (bl k)).sameKey (.string (bl k)))=true:=hne;rw[gx]at this;simp at this
  exact⟨k,u,rfl,h1,by rw[dj a];exact h3,rfl⟩
 rintro⟨k,u,rfl,h1,h3,rfl⟩;by_cases a:k=n
 .rw[dq a]at h3;cases h3;subst a;exact .inl rfl
 rw[dj a]at h3;refine .inr ⟨(hm _ _).2 ⟨k,u,rfl,h1,h3,rfl⟩,?_⟩;show(!(Lit.string (bl k)).sameKey (.string (bl n)))=true;rw[gx,lW (λe=>a (ej e))];rfl
theorem gj.congr{g:ByteArray->Option Value}(h:gj D f)(e:∀s,s.size=32->f s=g s):gj D g:=by
 refine⟨h.tidy,?_⟩;obtain⟨es,rfl,hm⟩:=h.mem;refine⟨es,rfl,λl d=>?_⟩;rw[hm];constructor
 .rintro⟨s,v,rfl,h1,h2,rfl⟩;exact⟨s,v,rfl,h1,by rw[<-e s h1];exact h2,rfl⟩
 rintro⟨s,v,rfl,h1,h2,rfl⟩;exact⟨s,v,rfl,h1,by rw[e s h1];exact h2,rfl⟩
def db(s:ByteArray):List Value:=(bl s).map λb:UInt8=>Value.int .u8 b.toNat
def dL(s:ByteArray):Value:=.agg (db s).toArray
theorem cE(s:ByteArray):(db s).length=s.size:=by unfold db;rw[iF,dO]
theorem wl{α β:Type}(g:α->Option β)(h:α->β):∀l:List α,(∀x∈l,g x=some (h x))->l.mapM g=some (l.map h)
 |[],_=>rfl
 |x::l,hx=>by rw[List.mapM_cons,hx x (by simp),wl g h l (λy hy=>hx y (by simp[hy]))];rfl
theorem zn(l:List UInt8):keyBytes (l.map λb:UInt8=>Lit.int .u8 b.toNat)=l:=by
 induction l with
 |nil=>rfl
 |cons b r ih=>
  have hb:=b.toNat_lt;have e:(Lit.int .u8 b.toNat).keyBytes=[b]:=by show bytesBE 1 (((b.toNat:Int)%2^8).toNat)=[b];have:((b.toNat:Int)%2^8).toNat=b.toNat:=oM;rw[this];simp[bytesBE,bytesLE]
  have e2:keyBytes ((b::r).map λb:UInt8=>Lit.int .u8 b.toNat)=(Lit.int .u8 b.toNat).keyBytes++keyBytes (r.map λb:UInt8=>Lit.int .u8 b.toNat):=by simp[keyBytes]
  rw[e2,e,ih];rfl
theorem BU{k:TypeId}(g:P.underlying k=some (.array 32 e))(j:P.underlying e=some (.int .u8))(hc:P.cellsOf k=32)(h:P.cellsOf e=1)(o:P.keyType k=true)(p:P.types.size=m+1)(s:ByteArray)(r:s.size=32):keyOf P k (dL s)=some (.string (bl s)):=by
 have c:(db s).length=32:=by rw[cE,r]
 have hf:(dL s).formed P k=true:=by unfold dL;simp[Value.formed,g,hc,c]
 have a:(dL s).cells.toList=db s:=by unfold dL;simp[Value.cells]
 have hl:P.keyLits (P.types.size+1) k (db s)=some ((bl s).map λb:UInt8=>Lit.int .u8 b.toNat):=by
  rw[p];unfold Program.keyLits;rw[g];simp only[hc,c,if_true]
  have step:∀i∈List.range 32,P.keyLits (m+1) e (((db s).drop (i*P.cellsOf e)).take (P.cellsOf e))=some [Lit.int .u8 ((((bl s).getD i 0).toNat:Nat):Int)]:=λi hi=>by
   rw[QE]at hi;have d:i<(bl s).length:=by rw[dO];omega
   have e1:((db s).drop (i*P.cellsOf e)).take (P.cellsOf e)=[Value.int .u8 ((((bl s).getD i 0).toNat:Nat):Int)]:=by
    rw[h,Nat.mul_one];have h1:i<(db s).length:=oM;rw[OC h1];have h2:(db s)[i]=Value.int .u8 ((((bl s).getD i 0).toNat:Nat):Int):=by apply kM;rw[<-pI h1];show((bl s).map _)[i]?=_;rw[JH,Dv,pI d];rfl
    rw[h2];rfl
   rw[e1];unfold Program.keyLits;rw[j];have hb:=((bl s).getD i 0).toNat_lt;have hw:(Lit.int .u8 ((((bl s).getD i 0).toNat:Nat):Int)).wf=true:=by generalize ((bl s).getD i 0).toNat=q at hb;have e1:IntKind.u8.min=0:=dE;have e2:IntKind.u8.max=255:=dE;show(decide (IntKind.u8.min<=(q:Int))&&decide ((q:Int)<=IntKind.u8.max))=true;rw[e1,e2,Dj,P2,P2];omega
   generalize ((bl s).getD i 0).toNat=q at hw;simp[hw]
  rw[wl _ (λi=>[Lit.int .u8 ((((bl s).getD i 0).toNat:Nat):Int)]) _ step];simp only[Qa,Option.some.injEq]
  have e2:∀(l:List UInt8)(n:Nat),n<=l.length->((List.range n).map λi=>[Lit.int .u8 (((l.getD i 0).toNat:Nat):Int)]).flatten=(l.take n).map λb:UInt8=>Lit.int .u8 b.toNat:=λl n=>by
   induction n with
   |zero=>intro _;simp
   |succ n ih=>
    intro hn;rw[JO,qA,List.flatten_append,ih (by omega),sN (by omega),qA];simp[pI (show n<l.length by omega)]
  rw[e2 (bl s) 32 (by rw[dO];omega),pK (by rw[dO];omega)]
 unfold keyOf;rw[g];simp only[o,hf,Bool.and_self,if_true,a,hl,Qa,zn]
end
section
open Go.ChangeShapes Go.WideShapes Go.ChangeAt Go.WideMaps Go.WideElems Go.RowKit
theorem own:ownKnob prog.godebug=none:=kR
def mH:List (String×DataW Unit):=Rows.sumsRow.laid
theorem uF  :∀{l:List (String×DataW Unit)}{ps:List MemPlace},DataW.LaidVars P W l ps->∀n d,(n,d)∈l->
  ∃g t cs fuel p,P.globalNamed n=some g/\(P.globals[g]?).map (·.type)=some t/\W.var? P n=some cs/\DataW.trod (λ_=>()) P W 0 (λ_=>true) false fuel t cs.toList=some (d,p)
 |[],_,_,_,_,h=>by cases h
 |(n',d')::r,ps,h,n,d,hm=>by
  obtain⟨g,t,cs,fuel,p,q,hg,ht,hv,hd,hr,-⟩:=h;rcases List.mem_cons.1 hm with h|h
  .cases h;exact⟨g,t,cs,fuel,p,hg,ht,hv,hd⟩
  exact uF hr n d h
theorem zM{t:Nat}{c:List Value}{p:List MemPlace}(e:prog.underlying t=some (.array n 81))(d:zs.length=n)(h:DataW.trod (λ_=>()) prog W 0 (λ_=>true) false fuel t c=some (.agg (zs.map λz:Nat=>.lit (.int .u32 z)),p))(hc:prog.cellsOf t=n):
  c=zs.map λz:Nat=>Value.int .u32 z:=by
 obtain⟨xs,m,_,ex,hl,hx,b⟩:=DataW.trod_array e h;have c5:prog.cellsOf 81=1:=kR;have e3:(xs.map (·.1))=zs.map λz:Nat=>(.lit (.int .u32 z):DataW Unit):=(DataW.agg.inj (Hi ex).1).symm
 apply MX
 .rw[hl,hc,iF,d]
 intro j h1 h2;have hj:j<n:=by rw[iF,d]at h2;exact h2
 have hE:=b j hj;rw[c5,Nat.mul_one,pI (by omega)]at hE;obtain⟨z,e1,e2,_⟩:=P9 underlying81 hE;have e4:(xs.map (·.1))[j]?=(zs.map λz:Nat=>(.lit (.int .u32 z):DataW Unit))[j]?:=by rw[e3]
 rw[JH,JH,pI (by omega:j<xs.length),pI (by omega:j<zs.length),e2]at e4;simp only[Qa,Option.some.injEq,DataW.lit.injEq,Lit.int.injEq,true_and]at e4;rw[Aw,<-e4];have h0:((c.drop j).take 1)[0]?=some (.int .u32 z):=by rw[e1];rfl
 have a:c[j]?=some (.int .u32 z):=by simpa using h0
 rw[pI h1]at a;exact kM a
theorem om{l:List (String×DataW Unit)}(h:laidMetH P l W):laidMet P (l.filter λx=>x.2.handleName?.isNone) W:=by
 unfold laidMetH at h;split at h
 .rename_i hf
  have e:(l.filter λx=>x.2.handleName?.isNone)=l:=by
   rw[List.filter_eq_self];intro x hx;have:=(List.filter_eq_nil_iff.1 hf) x hx
   cases hn:x.2.handleName? with
   |none=>rfl
   |some s=>rw[hn]at this;exact absurd rfl this
  rw[e];exact h
 exact h.1
theorem JU:prog.globalNamed "keepsake/sums.startWords"=some 13:=kR
theorem Jv:prog.globalNamed "keepsake/sums.roundWords"=some 14:=kR
theorem J2:(prog.globals[13]?).map (·.type)=some 302:=kR
theorem JD:(prog.globals[14]?).map (·.type)=some 394:=kR
theorem GV:("keepsake/sums.startWords",Rows.laid_keepsake_sums_startWords)∈mH.filter λx=>x.2.handleName?.isNone:=List.mem_filter.2 ⟨by simp[mH,Rows.sumsRow],rfl⟩
theorem Is:("keepsake/sums.roundWords",Rows.laid_keepsake_sums_roundWords)∈mH.filter λx=>x.2.handleName?.isNone:=List.mem_filter.2 ⟨by simp[mH,Rows.sumsRow],rfl⟩
theorem IL:(Rows.laid_keepsake_sums_startWords:DataW Unit)=.agg (fX.map λz:Nat=>.lit (.int .u32 z)):=rfl
theorem IG:(Rows.laid_keepsake_sums_roundWords:DataW Unit)=.agg (lw.map λz:Nat=>.lit (.int .u32 z)):=rfl
theorem yB(h:laidMetH prog mH W):fL W:=by
 obtain⟨ps,hl,-,-⟩:=om h;refine⟨?_,?_⟩
 .obtain⟨g,t,cs,a,p,a1,a2,a3,a4⟩:=uF hl _ _ GV;obtain rfl:=kM (JU.symm.trans a1);obtain rfl:=kM (J2.symm.trans a2);rw[IL]at a4;have hw:=zM (n:=8) Gg rfl a4 kR;simp only[World.var?,a1,Option.bind_some]at a3;split at a3
  .rename_i b tg fr hh;cases a3;refine⟨tg,fr,?_⟩;rw[hh];congr 2;show _=eW fX;unfold eW;rw[<-hw]
  cases a3
 obtain⟨g,t,cs,a,p,a1,a2,a3,a4⟩:=uF hl _ _ Is;obtain rfl:=kM (Jv.symm.trans a1);obtain rfl:=kM (JD.symm.trans a2);rw[IG]at a4;have hw:=zM (n:=64) underlying394 rfl a4 kR;intro i hi;rw[P0 a1 a3 i,<-kX,hw,JH];have hr:lw.length=64:=rfl;rw[pI (by omega),Dv,pI (by omega)];rfl
def MB:List (String×DataW Unit):=[("unicode/utf8.first",Rows.laid_unicode_utf8_first)]
theorem LB:((mH.filter λx=>x.2.handleName?.isNone).filter λx=>["unicode/utf8.first"].contains x.1)=MB:=kR
theorem Kf(os:Os)(args:Array Value):laidMetH prog mH (((World.doorLaid prog 264 os).layVars prog MB).forCall (λ_ _=>0) ⟨#[],args,[]⟩).memory:=
 laidMetH_of_parts3 (fuel:=8) (laidMet_layVars (w0:=World.doorLaid prog 264 os) ["unicode/utf8.first"] ((List.range (World.doorLaid prog 264 os).heap.size).filter (·!=16)) (by rw[LB];simp[World.memory,World.forCall,Input.heap]) kR kR
  (LaidIn.of_run _ 8 kR kR kR kR)) kR kR
end
end Go.Proofs.YtapijhhmjjplmaaGreatDoor

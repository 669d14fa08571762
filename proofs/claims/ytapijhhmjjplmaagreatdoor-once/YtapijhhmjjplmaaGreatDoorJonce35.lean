import Derived.Test.YtapijhhmjjplmaaGreatDoorJonce34
namespace Go.Proofs.YtapijhhmjjplmaaGreatDoor
set_option linter.all false
set_option maxRecDepth 100000
set_option maxHeartbeats 4000000
open Go.Proofs.Tryz
variable {C:Array Value}{D':lI}{nb mb:List ByteArray→Nat}{has:List Ob}{pre:List Value}{rb b8 k c' g ba N a0 a1 a2 a3 f0 f1 f2 f3:Nat}{ST:Nat→Prop}{T:cS}{t0 t1 t2 t3 t4 t5 t6 t8 t9 t10 t11 t12 t13 t14 t15 t16 t17 t18 t19 t20 t21 t22 t23 t24 t25 t26 t27 t28 t29 t30 t31 t32 t33 t34 t35 t36 t37 t38 t39 t40 t41 t42 t43 t44 t45 t46 t47 t48 t49 t50 t51:Value}{V1 w5 W7 w' wr w1:World}
section
theorem DB.file{E:mu}(b:1<=E.seq){ps:im}{a:Nat}(h:DB (jH E ps) a)(has:List Ob)(d:ByteArray)(c:d.size<=1536):DB (jH E (qp has ps d)) (a+41):=by
 rw[<-uu E b];have h1:=h.chunks has d (du d.size) (cO _);refine(h1.obj has 2 (iC d)).mono ?_;have e:(iC d).size=4+32*du d.size:=by unfold iC gG;rw[lY,gL,iO _ (λ_=>el _)]
 rw[e];unfold dU du;omega
theorem qZ(h:eN T)(p:List ByteArray):(eK T p).size<=1536:=by
 unfold eK
 cases hx:cA T p with
 |none=>exact fP _
 |some x=>exact h.big x (dI hx).1
theorem DB.node(h:eN T)(b:mV T)(c:fX.length=8){E:mu}(d:1<=E.seq)(has:List Ob):∀(f:Nat)(p:List ByteArray)(ps:im)(a:Nat),(∀x∈ps,nR x)->DB (jH E ps) a->DB (jH E (dF T has f p ps).1) (a+41*(1+(lA T p).length))
 |0,p,ps,a,_,hd=>hd.mono oM
 |f+1,p,ps,a,hw,hd=>by
  cases hf:eO T p
  .have hz:=(mB c h b has (f+1) p ps hw).2;rw[fC T has f p ps hf]at hz⊢
   have hk:∀l:List ByteArray,(∀n∈l,(cA T (p++[n])).isSome)->(∀x∈(cM T has f p ps l).1,nR x)/\DB (jH E (cM T has f p ps l).1) (a+41*(l.map λn=>(JZ T (p++[n])).length).sum):=λl=>by
    induction l using jh with
    |h0=>intro _;exact⟨hw,hd.mono oM⟩
    |hs l n ih=>
     intro hl;obtain⟨a1,b1⟩:=ih (λm hm=>hl m (List.mem_append.2 (.inl hm)));have h2:=DB.node h b c d has f (p++[n]) (cM T has f p ps l).1 _ a1 b1;have h3:=tD h (hl n sI);have h4:=(mB c h b has f (p++[n]) (cM T has f p ps l).1 a1).1;rw[fe,qA,NT,Cw,PR];exact⟨h4,DB.mono (D:=jH E (dF T has f (p++[n]) (cM T has f p ps l).1).1) h2 oM⟩
   have h1:=(hk (dh T p) (λn hn=>(js h p n).1 hn)).2;have h2:=me T p (dh T p) (kT h p);show DB (jH E (gP has _ 3 _)) _;rw[<-oC E d];refine(h1.obj has 3 _).mono ?_;have hz:(cM T has f p ps (dh T p)).2.size<=800:=hz;unfold dU;omega
  rw[fD T has f p ps hf];exact DB.mono (D:=jH E (qp has ps (eK T p))) (hd.file d has _ (qZ h p)) oM
def gU(T:cS)(p:List ByteArray)(l:List ByteArray):Nat:=(l.map λn=>(JZ T (p++[n])).length).sum
theorem wM(T:cS)(p l:List ByteArray)(n:ByteArray):gU T p (l++[n])=gU T p l+(JZ T (p++[n])).length:=by
 unfold gU;rw[qA,NT,Cw,PR]
theorem Eg(T:cS)(p l:List ByteArray)(j:Nat)(a:j<l.length):gU T p (l.take (j+1))=gU T p (l.take j)+(JZ T (p++[l[j]])).length:=by rw[sN a,wM]
theorem JB(T:cS)(p l:List ByteArray)(j:Nat):gU T p (l.take j)<=gU T p l:=by
 have e:l=l.take j++l.drop j:=(Q2 j l).symm;have h:gU T p (l.take j++l.drop j)=gU T p (l.take j)+gU T p (l.drop j):=by unfold gU;rw[qA,NT]
 rw[<-e]at h;omega
theorem zv(h:eN T)(p:List ByteArray):gU T p (dh T p)<=(lA T p).length:=me T p (dh T p) (kT h p)
theorem DB.kids(h:eN T)(b:mV T)(c:fX.length=8){E:mu}(e:1<=E.seq)(has:List Ob)(f:Nat)(p:List ByteArray)(ps:im)(a:Nat)(g:∀x∈ps,nR x)(i:DB (jH E ps) a)(l:List ByteArray)(d:∀n∈l,(cA T (p++[n])).isSome):(∀x∈(cM T has f p ps l).1,nR x)/\DB (jH E (cM T has f p ps l).1) (a+41*gU T p l):=by
 induction l using jh with
 |h0=>exact⟨g,i.mono oM⟩
 |hs l n ih=>
  obtain⟨a1,b1⟩:=ih (λm hm=>d m (List.mem_append.2 (.inl hm)));have h2:=DB.node h b c e has f (p++[n]) (cM T has f p ps l).1 _ a1 b1;have h3:=tD h (d n sI);have h4:=(mB c h b has f (p++[n]) (cM T has f p ps l).1 a1).1;rw[fe,wM];exact⟨h4,DB.mono (D:=jH E (dF T has f (p++[n]) (cM T has f p ps l).1).1) h2 oM⟩
def nl(T:cS)(has:List Ob)(f:Nat)(p:List ByteArray)(ps:im)(n:ByteArray):gS:=⟨n,!eO T (p++[n]),cV (dF T has f (p++[n]) ps).2⟩
theorem Bn(T:cS)(has:List Ob)(f:Nat)(p:List ByteArray)(ps:im)(l:List ByteArray)(j:Nat)(a:j<l.length):(cM T has f p ps (l.take (j+1))).2=(cM T has f p ps (l.take j)).2++nI (nl T has f p (cM T has f p ps (l.take j)).1 l[j]):=by
 rw[tW T has f p ps l j a];show _++gW _ _ _=_++gW _ _ _;rw[nl,Bool.not_not]
theorem EM(T:cS)(has:List Ob)(f:Nat)(p:List ByteArray)(ps:im)(l:List ByteArray)(j:Nat)(a:j<l.length):(cM T has f p ps (l.take (j+1))).1=(dF T has f (p++[l[j]]) (cM T has f p ps (l.take j)).1).1:=by rw[tW T has f p ps l j a];rfl
end
section
open Go.RowKit Go.Maps
structure yI (w:World) (S:Nat->Prop) (g ba N a0 a1 a2 a3 M f0 f1 f2 f3 b4:Nat) (pre:List Value) (has:List Ob) (D:lI) (ls:List gS) (lv nv:Value) (L:List ByteArray) (U:Nat->Prop) (p0 bv:Value) (wr:World):Prop where
 dr:j0 wr U g ba N a0 a1 a2 a3 M f0 f1 f2 f3 pre has D p0 bv
 tS:∀q,U q->up S w.heap.size q/\q<wr.heap.size
 n4:¬U b4
 r4:wr.heap[b4]?=some (.cells fN 131 (0,0))
 own:wr.ownsRow 0 366 34 lv ls.length (fM ls)
 nsv:∀q,lv.ownBlock=some q->¬U q/\w.heap.size<=q/\q≠b4
 nm:wr.ownsRow 0 9 1 nv L.length (em L)
 nnm:∀q,nv.ownBlock=some q->¬U q/\w.heap.size<=q/\q≠b4/\lv.ownBlock≠some q
 same:cq (λq=>S q\/q=ba) w wr
section
variable {w wr V:World} {S U:Nat->Prop} {g ba N a0 a1 a2 a3 M f0 f1 f2 f3 b4:Nat} {pre:List Value} {has:List Ob} {D:lI} {ls:List gS} {lv nv p0 bv:Value} {L:List ByteArray}
theorem yI.below(h:yI w S g ba N a0 a1 a2 a3 M f0 f1 f2 f3 b4 pre has D ls lv nv L U p0 bv wr)(a:Below wr.heap.size wr V):yI w S g ba N a0 a1 a2 a3 M f0 f1 f2 f3 b4 pre has D ls lv nv L U p0 bv V:=
 ⟨h.dr.below a,λq hq=>⟨(h.tS q hq).1,ny (h.tS q hq).2 a.size⟩,h.n4,by rw[a.block _ (cm h.r4)];exact h.r4,cI h.own (λq hq=>a.block _ (cr h.own q hq).2),h.nsv,cI h.nm (λq hq=>a.block _ (cr h.nm q hq).2),h.nnm,h.same.trans (cq.of_below a)⟩
theorem yI.tree(h:yI w S g ba N a0 a1 a2 a3 M f0 f1 f2 f3 b4 pre has D ls lv nv L U p0 bv wr)(b:dC w ST rb T nb mb)(a:∀q,ST q->¬S q/\q≠ba/\q<w.heap.size):dC wr ST rb T nb mb/\∀q,ST q->¬U q/\q≠ba/\q<wr.heap.size:=by
 refine⟨b.on h.same (λq hq e=>e.elim (a q hq).1 (a q hq).2.1),λq hq=>⟨λe=>?_,(a q hq).2.1,ny (a q hq).2.2 h.same.size⟩⟩;rcases(h.tS q e).1 with e|e
 .exact(a q hq).1 e
 have:=(a q hq).2.2;omega
theorem yI.kid{n:Nat}(h:yI w S g ba N a0 a1 a2 a3 M f0 f1 f2 f3 b4 pre has D ls lv nv L U p0 bv wr)(p:ba<w.heap.size)(r:a0<w.heap.size/\a1<w.heap.size/\a2<w.heap.size/\a3<w.heap.size)(u:w.heap.size<=b4)(o:Below wr.heap.size wr V1)(v:b8=wr.heap.size)(s:b8<V1.heap.size)(t:rr V1 U g ba N a0 a1 a2 a3 n f0 f1 f2 f3 pre has D' w5)(m:cq (·=b8) w5 W7):∃U' p0' bv',yI w S g ba N a0 a1 a2 a3 n f0 f1 f2 f3 b4 pre has D' ls lv nv L U' p0' bv' W7/\b8<W7.heap.size/\¬U' b8:=by
 obtain⟨hs,p0',bv',hd⟩:=t;have f:=hd.cut;have j:=o.size;have l:=hs.size;have k:=m.size;have i:=h.same.size;have l4:=cm h.r4;have a:cq (λq=>U q\/q=ba\/q=b8) wr W7:=((cq.of_below o).trans (hs.weak λq e=>e.elim .inl (λe=>.inr (.inl e)))).trans (m.weak λq e=>.inr (.inr e))
 have d:∀q,lv.ownBlock=some q->¬(U q\/q=ba\/q=b8):=by
  rintro q e (e2|e2|e2)
  .exact(h.nsv q e).1 e2
  .have:=(h.nsv q e).2.1;omega
  have:=(cr h.own q e).2;omega
 have c:∀q,nv.ownBlock=some q->¬(U q\/q=ba\/q=b8):=by
  rintro q e (e2|e2|e2)
  .exact(h.nnm q e).1 e2
  .have:=(h.nnm q e).2.1;omega
  have:=(cr h.nm q e).2;omega
 have b:∀q,up U V1.heap.size q/\q<w5.heap.size->q≠b8:=by
  rintro q ⟨e|e,-⟩ e2
  .have:=(h.tS q e).2;omega
  .omega
 refine⟨_,p0',bv',⟨f.on m (λq hq e=>b q hq e) oM ⟨oM,oM,oM,oM⟩,?_,?_,?_,cU h.own a d,?_,cU h.nm a c,?_,?_⟩,oM,λe=>b _ e rfl⟩
 .rintro q ⟨e|e,e2⟩
  .exact⟨(h.tS q e).1,oM⟩
  exact⟨.inr oM,oM⟩
 .rintro⟨e|e,-⟩
  .exact h.n4 e
  .omega
 .rw[a.block _ l4 (by rintro(e|e|e);exact h.n4 e;omega;omega)];exact h.r4
 .intro q e;refine⟨?_,(h.nsv q e).2⟩;rintro⟨e2|e2,-⟩
  .exact(h.nsv q e).1 e2
  have:=(cr h.own q e).2;omega
 .intro q e;refine⟨?_,(h.nnm q e).2⟩;rintro⟨e2|e2,-⟩
  .exact(h.nnm q e).1 e2
  have:=(cr h.nm q e).2;omega
 refine h.same.then (a.weak ?_)
 rintro q (e|e|e)
 .exact(h.tS q e).1.elim (λe=>.inl (.inl e)) .inr
 .exact .inl (.inr e)
 exact .inr oM
theorem yI.app{i:Nat}{x:gS}(h:yI w S g ba N a0 a1 a2 a3 M f0 f1 f2 f3 b4 pre has D ls lv nv L U p0 bv wr)(m:ba<w.heap.size)(f:a0<w.heap.size/\a1<w.heap.size/\a2<w.heap.size/\a3<w.heap.size)(o:k=ls.length)(p:C.toList=gp x)(j:w'.ownsRow 0 366 34 (.slice (yS i 0) (k+1) c') (k+1) (fM ls++C.toList))(n:(wr.alloc (.cells C 366)).grownBy w' lv.ownBlock)(l:lv.ownBlock=some i\/i=wr.heap.size+1):
  yI w S g ba N a0 a1 a2 a3 M f0 f1 f2 f3 b4 pre has D (ls++[x]) (.slice (yS i 0) (k+1) c') nv L U p0 bv w':=by
 have c:Below wr.heap.size wr (wr.alloc (.cells C 366)):=(dw _ _).alloc (cO _) _;have sA:cq (λq=>lv.ownBlock=some q) wr w':=(cq.of_below c).trans (cq.of_grown n (λq e=>e));have hz:=sA.size;have d:=h.same.size;have l4:=cm h.r4;have a:∀q,q<w.heap.size->lv.ownBlock≠some q:=λq hq e=>by have:=(h.nsv q e).2.1;omega
 have b:∀q,(Value.slice (yS i 0) (k+1) c').ownBlock=some q->i=q:=λq e=>by injection e
 refine⟨h.dr.on sA (λq hq e=>(h.nsv q e).1 hq) (a _ m) ⟨a _ f.1,a _ f.2.1,a _ f.2.2.1,a _ f.2.2.2⟩,λq hq=>⟨(h.tS q hq).1,by have:=(h.tS q hq).2;omega⟩,h.n4,?_,?_,?_,cU h.nm sA (λq e e2=>(h.nnm q e).2.2.2 e2),?_,?_⟩
 .rw[sA.block _ l4 (λe=>(h.nsv _ e).2.2 rfl)];exact h.r4
 .rw[uI,<-p,ir,qf,<-o];exact j
 .intro q e;rw[<-b q e];rcases l with e2|e2
  .exact h.nsv _ e2
  exact⟨λe3=>by have:=(h.tS _ e3).2;omega,oM,oM⟩
 .intro q e;obtain⟨n1,n2,n3,n4⟩:=h.nnm q e;refine⟨n1,n2,n3,λe2=>?_⟩;have e3:=b q e2;rcases l with e4|e4
  .exact n4 (by rw[e4,e3])
  have:=(cr h.nm q e).2;omega
 exact h.same.then (sA.weak λq e=>.inr (h.nsv q e).2.1)
end
theorem rr.up{T:Nat->Prop}{M a:Nat}{E:lI}(h:rr wr T g ba N a0 a1 a2 a3 M f0 f1 f2 f3 pre has E w1)(b:M<=a):rr wr T g ba N a0 a1 a2 a3 a f0 f1 f2 f3 pre has E w1:=by
 obtain⟨h1,p0,bv,h2⟩:=h;exact⟨h1,p0,bv,h2.upN b⟩
end
section
open Go.RowKit Go.Maps
@[reducible] def qt (nm:ByteArray) (k:Int):Array Value:=(.string nm::.int .u8 k::List.replicate 32 (.int .u8 0)).toArray
abbrev KZ:Oper:=⟨some 21,.move (.tmp 7),9,"snapshot.go:47",#[],none⟩
abbrev FZ:Oper:=⟨some 22,.build 366 #[(0,.tmp 21),(1,.const (.int .u8 2))],366,"snapshot.go:47",#[⟨0,.data⟩],none⟩
abbrev Ga:Oper:=⟨some 8,.alloc 366,0,"snapshot.go:47",#[],none⟩
abbrev G7:Oper:=⟨none,.store 366 (.tmp 8) (.tmp 22),0,"snapshot.go:47",#[⟨2,.data⟩,⟨1,.data⟩,⟨0,.phase⟩,⟨1,.phase⟩,⟨2,.phase⟩],none⟩
abbrev Ck:Array Oper:=#[KZ,FZ,Ga,G7]
theorem Gj(Q:Exit->Act->World->Prop)(nm:ByteArray){t0 t1 t2 t3 t4 t5 t6 t8 t9 t10 t11 t12 t13 t14 t15 t16 t17 t18 t19 t20 t21 t22 t23 t24 t25 t26 t27 t28 t29 t30 t31 t32 t33 t34 t35 t36 t37 t38 t39 t40 t41 t42 t43 t44 t45 t46 t47 t48 t49 t50 t51:Value}(w:World)(a:∀V,Hid (V=(w.alloc (.cells ic 366)).setRow w.heap.size (qt nm 2))->Q .normal {tmps:=#[t0,t1,t2,t3,t4,t5,t6,.string nm,yP w.heap.size,t9,t10,t11,t12,t13,t14,t15,t16,t17,t18,t19,t20,.string nm,.agg (qt nm 2),t23,t24,t25,t26,t27,t28,t29,t30,t31,t32,t33,t34,t35,t36,t37,t38,t39,t40,t41,t42,t43,t44,t45,t46,t47,t48,t49,t50,t51],defers:=[]} V):
  (Code.region 5 Ck false).wp prog Q {tmps:=#[t0,t1,t2,t3,t4,t5,t6,.string nm,t8,t9,t10,t11,t12,t13,t14,t15,t16,t17,t18,t19,t20,t21,t22,t23,t24,t25,t26,t27,t28,t29,t30,t31,t32,t33,t34,t35,t36,t37,t38,t39,t40,t41,t42,t43,t44,t45,t46,t47,t48,t49,t50,t51],defers:=[]} w:=by
 refine wp_region_list (ops:=Ck) ?_;show wpList prog Ck Q [KZ,FZ,Ga,G7] _ w;refine Great.wpList_readTo rfl (some 21) rfl (.string nm) rfl ?_;refine QP (o:=FZ) rfl 366 _ rfl (some 22) rfl (qt nm 2) kR ?_;refine N0 (o:=Ga) rfl (some 8) rfl (yP w.heap.size) (.cells ic 366) kR ?_;refine ER (o:=G7) rfl 366 _ _ rfl w.heap.size (qt nm 2) rfl rfl 366 ic (dM w _) kR rfl kR ?_;exact wpList_nil (a _ rfl)
def LT(w:World)(S:Nat->Prop)(bd m n:Nat)(d:cX)(M:fm)(e:Ending)(w':World):Prop:=
 cq S w w'/\∃ba B N rb a0 a1 a2 a3 sv m',e=.returned (.tuple #[yP ba,.nilIface])/\w.heap.size<=B/\B<=w'.heap.size/\N<=M.seq/\m'<=m+n/\cD w' (up S B) bd m' d/\gn w' (λg=>w.heap.size<=g/\g<B) ba bd N rb a0 a1 a2 a3 M.at_ (M.seq-1) M.chain sv false M.has M.infos (nP M.has M.infos)
theorem yQ(bd m n:Nat)(S:Nat->Prop)(d:cX)(w:World)(h:cD w S bd m d)(hn:4<=n)(hb:n<=4096)(h1:d.safe.length=n)(hx:d.at 0 oM=iD n)(aK:∀s∈df d,s.size=64)(hV:iY w S)(hu:Up d)(aO:d.wait=[])(hm:m<=800000)(aL:∀g,S g->g<w.heap.size)(G:fm->Prop)(aR:G (M0 n))(aS:GI (df d) G)(aM:GC d (g6 (df d) (M0 n)).has (g6 (df d) (M0 n)).infos)(hw:∀i,(g6 (df d) (M0 n)).at_<=i->i<n->(df d)[i]?=some z64):
  Calls prog 45 #[yP bd] w λe w'=>LT w S bd m n d (g6 (df d) (M0 n)) e w':=by
 obtain⟨M,hM⟩:=eX (g6 (df d) (M0 n));rw[<-hM]at aM hw;have av:=Hid.mk' aM;have au:=Hid.mk' hw;have E:(df d).length=n:=by unfold df;rw[eo,h1]
 have a4:Hid (Calls prog 62 #[yP bd] w λe w'=>e=.returned (.int .i64 n)/\w=w'):=by have:=gA bd m S d w h;rw[h1]at this;exact this
 have aD:=mZ;have aI:=Mf;have aE:¬(n:Int)<4:=oM;have a6:Hid (Calls prog 83 #[yP bd] w λe w'=>e=.returned (.bool true)/\cD w' S bd m d/\cq S w w'):=by have:=xT bd m n S d w h oM hb h1;rw[jX hx]at this;exact this
 have aB:¬S w.heap.size:=λh=>by have:=aL _ h;omega
 have a:∀g,w.heap.size<=g->¬S g:=λg hg h=>by have:=aL g h;omega
 have an:∀V,cq S w V->iY V S:=λV hs=>hV.on hs
 have U:=hD sJ
 have a7:Hid (∀w3 ba B g a0 a1 a2 a3 sh l,w.heap.size<=ba->ba<B->cD w3 S bd m d->cq S w w3->dt l w3 ba->jd w3 (λq=>B<=q) 0 g a0 a1 a2 a3 sh (.slice none 0 0) [] []->Calls prog 85 #[yP bd,.pointer (yS ba 12),.func (.func 86) #[yP g] #[]] w3 λe w'=>Hv w3 S (λq=>B<=q) bd m ba g a0 a1 a2 a3 sh 0 d l M e w'):=by
  intro w3 ba B g a0 a1 a2 a3 sh l e1 e2 e3 e4 e5 e6
  have az:∀V,cq (λq=>S q\/q=ba\/B<=q) w3 V->cq S w V:=λV hs=>e4.then (hs.weak λq hq=>by
   rcases hq with hq|hq|hq
   .exact .inl hq
   .exact .inr oM
   exact .inr oM)
  have:=sL S (λq=>B<=q) bd m ba g a0 a1 a2 a3 sh 0 n (.slice none 0 0) d l w3 e3 e5 e6 (a ba e1) (λq hq h=>a q oM hq) oM (λV hs=>hV V (az V hs)) h1 hn hb aK oM G aR aS;rw[<-hM]at this;exact this
 rw[<-hM];have aj:Hid (MW (df d) M):=hM▸MW.scan aK (MW.first (by rw[E];omega));have a8:Hid (d.safe.length=n/\Up d/\d.wait=[]/\m<=800000/\(∀s∈df d,s.size=64)/\(df d).length=n):=⟨h1,hu,aO,hm,aK,E⟩;have ax:=hD an;have aq:=hD a;have aG:=yH;clear hM E hx h hu aO hm aK h1 hV aB a an aM hw;go_enter func45,ntmps45
 go_wp2_with (first|(go_at_call 62;refine a4.mono ?_;rintro e w2 ⟨rfl,rfl⟩;clear a4)|(go_at_call 83;refine a6.mono ?_;rintro e w2 ⟨rfl,X,I⟩;have O:Hid (cD w2 S bd m d/\cq S w w2):=⟨X,I⟩;have ah:=I.size;clear X I a6))
 refine(U _).mono ?_;rintro e w3 ⟨g,a0,a1,a2,a3,sh,rfl,u,af⟩;obtain⟨ba,f⟩:=eX (w2.heap.size);have ao:(w2.alloc (.cells (MU bd) 129)).heap.size=ba+1:=by rw[f];simp
 have A:jd w3 (λq=>ba+1<=q) 0 g a0 a1 a2 a3 sh (.slice none 0 0) [] []:=by
  have e:(λq=>(w2.alloc (.cells (MU bd) 129)).heap.size<=q)=λq=>ba+1<=q:=by rw[ao]
  rw[<-e];exact af
 have N:w3.heap[ba]?=some (.cells (MU bd) 129 (0,0)):=by rw[u.block _ (by rw[f];simp),f];exact dM w2 _
 have ag:dt (jL bd (.pointer none) 0 (.slice none 0 0) none none none none 0 0 0 false) w3 ba:=.inl ⟨rfl,N⟩;have J:=O.2.trans ((cq.alloc0 w2 _).trans (.of_below u));have a5:=O.1.on (T:=λ_=>False) ((cq.alloc0 w2 _).trans (.of_below u)) (λ_ _ h=>h);have ae:=Hid.mk' (a7 w3 ba (ba+1) g a0 a1 a2 a3 sh _ oM oM a5 J ag A);have W:=Hid.mk' J;have ay:Hid (w.heap.size<=ba/\ba<w3.heap.size):=⟨oM,cm N⟩;rw[<-f];clear u af ao A N ag J a5 U a7 O ah f
 go_wp2_with fail
 refine ae.mono ?_;rintro e w4 ⟨rfl,ak,b,⟨sv,N',ar,ap⟩,Q,Z⟩;obtain⟨l1,l2⟩:=ay;have a:=aq;have c:jd w4 (λq=>ba+1<=q) N' g a0 a1 a2 a3 sh sv M.has M.infos:=ap.grow λq hq=>hq.elim (λh=>h) (λh=>by show ba+1<=q;omega)
 have z:cq S w w4:=W.then (Q.weak λq hq=>by
  rcases hq with hq|hq|hq
  .exact .inl hq
  .exact .inr oM
  exact .inr (by have:ba+1<=q:=hq;omega))
 obtain⟨y,hy⟩:=eX (M.at_);obtain⟨sq,C⟩:=eX (M.seq-1);obtain⟨ch,L⟩:=eX (M.chain);have HY:Hid (y=M.at_/\sq=M.seq-1/\ch=M.chain/\N'<=M.seq):=⟨hy,C,L,oM⟩;obtain⟨sa,sc,rfl⟩:=cQ c.inf;obtain⟨k,hk⟩:=eX (M.infos.length);have HK:=hD hk;rw[<-hk]at c;have am:Hid (jd w4 (λq=>ba+1<=q) N' g a0 a1 a2 a3 sh (.slice sa k sc) M.has M.infos/\cD w4 S bd m d/\cq S w w4/\dt (jL bd (.pointer none) 0 (.slice none 0 0) none none none none 0 0 0 false) w4 ba):=⟨c,ak,z,b⟩;have c8:w4.cell? (yA ba 8)=some (.int .i64 0):=b.cell oM;have c9:w4.cell? (yA ba 9)=some (.int .u32 0):=b.cell oM;have aC:w4.cell? (yA ba 10)=some (.int .u32 0):=b.cell oM;have f8:=b.frozen 8;have f9:=b.frozen 9;have aA:=b.frozen 10;rw[oP,<-hy,<-C,<-L];clear ak b ap c Q z Z ar hy C L hk ae W;go_upto_region 5 with fail
 obtain⟨w5,v⟩:=eX (((w4.setCell (yA ba 8) (.int .i64 y)).setCell (yA ba 9) (.int .u32 sq)).setCell (yA ba 10) (.int .u32 ch));rw[<-v]
 have H5:Hid (jd w5 (λq=>ba+1<=q) N' g a0 a1 a2 a3 sh (.slice sa k sc) M.has M.infos/\cD w5 S bd m d/\cq S w w5/\dt (jL bd (.pointer none) 0 (.slice none 0 0) none none none none y sq ch false) w5 ba):=by
  obtain⟨i1,i2,i3,i4⟩:=am;have F:cq (·=ba) w4 w5:=by rw[v];exact(((cq.refl (·=ba) w4).setCell (yA ba 8) rfl _).setCell (yA ba 9) rfl _).setCell (yA ba 10) rfl _
  refine⟨i1.on F (λq hq e=>by have:ba+1<=q:=hq;omega),i2.on F (λq hq e=>a q oM hq),i3.then (F.weak λq e=>.inr oM),?_⟩;rw[v];exact((i4.setP (show 8<12 by omega) (.int .i64 y)).setP (show 9<12 by omega) (.int .u32 sq)).setP (show 10<12 by omega) (.int .u32 ch)
 clear v c8 c9 aC f8 f9 aA am;have h5:=H5.2.2.2;have ad:w5.cell? (yA ba 4)=some (.map none)/\w5.cell? (yA ba 5)=some (.map none)/\w5.cell? (yA ba 6)=some (.map none)/\w5.cell? (yA ba 7)=some (.map none)/\w5.frozen? (yA ba 4)=false/\w5.frozen? (yA ba 5)=false/\w5.frozen? (yA ba 6)=false/\w5.frozen? (yA ba 7)=false:=⟨h5.cell oM,h5.cell oM,h5.cell oM,h5.cell oM,h5.frozen 4,h5.frozen 5,h5.frozen 6,h5.frozen 7⟩;have x:w5.cell? (yA ba 3)=some (.slice none 0 0)/\w5.frozen? (yA ba 3)=false:=⟨h5.cell oM,h5.frozen 3⟩;have ac:∀V,cq (·=ba) w5 V->V.cell? (yA g 0)=some (.map (some a0))/\V.cell? (yA g 1)=some (.map (some a1))/\V.cell? (yA g 2)=some (.map (some a2))/\V.cell? (yA g 3)=some (.map (some a3))/\V.cell? (yA g 4)=some (.slice sa k sc):=by intro V hs;have hr:=(H5.1.on hs (λq hq e=>by have:ba+1<=q:=hq;omega)).row;exact⟨cG hr,cG hr,cG hr,cG hr,cG hr⟩
 have o:cq (·=ba) w5 ((((w5.setCell (yA ba 4) (.map (some a0))).setCell (yA ba 5) (.map (some a1))).setCell (yA ba 6) (.map (some a2))).setCell (yA ba 7) (.map (some a3))):=((((cq.refl (·=ba) w5).setCell (yA ba 4) rfl _).setCell (yA ba 5) rfl _).setCell (yA ba 6) rfl _).setCell (yA ba 7) rfl _;refine kQ (L6 _ (λV=>cq (·=ba) w5 V) ba g a0 a1 a2 a3 k sc sa w5 (cq.refl _ _).drew o.drew (o.setCell (yA ba 3) rfl _).drew ac ad x (λw6 K uB hU=>?_))
 have H6:Hid (jd w6 (λq=>ba+1<=q) N' g a0 a1 a2 a3 sh (.slice sa k sc) M.has M.infos/\cD w6 S bd m d/\cq S w w6/\dt (jL bd (.pointer none) 0 (.slice sa k sc) (some a0) (some a1) (some a2) (some a3) y sq ch false) w6 ba):=by
  obtain⟨i1,i2,i3,i4⟩:=H5;have P:cq (·=ba) w5 w6:=by rw[K];exact(o.setCell (yA ba 3) rfl _).drew
  refine⟨i1.on P (λq hq e=>by have:ba+1<=q:=hq;omega),i2.on P (λq hq e=>a q oM hq),i3.then (P.weak λq e=>.inr oM),?_⟩;rw[K];exact((((i4.setP (show 4<12 by omega) (.map (some a0))).setP (show 5<12 by omega) (.map (some a1))).setP (show 6<12 by omega) (.map (some a2))).setP (show 7<12 by omega) (.map (some a3))).setP (show 3<12 by omega) (.slice sa k sc)
 refine nU hU ?_;clear K o ac ad x h5 H5;have a9:Hid (Calls prog 87 #[yP ba] w6 λe w'=>C3 w6 S bd m ba N' a0 a1 a2 a3 d M.has M.infos e w'):=by obtain⟨i1,i2,i3,i4⟩:=H6;obtain⟨q1,q2,q3,q4,q5,q6⟩:=a8;have al:=HK;have Z:=aj;obtain⟨tt,t1,t2⟩:=i4.row;have r:=i1.fixed;have Y:ed w6 S bd m ba N' a0 a1 a2 a3 d M.has:=⟨i2,⟨_,t2,rfl,rfl,rfl,rfl,rfl⟩,i1.kn.mono (λ_ _=>trivial),a _ l1,a _ (by have:ba+1<=a0:=r.2.1;omega),a _ (by have:ba+1<=a1:=r.2.2.1;omega),a _ (by have:ba+1<=a2:=r.2.2.2.1;omega),a _ (by have:ba+1<=a3:=r.2.2.2.2.1;omega)⟩;have:=vm S bd m ba N' a0 a1 a2 a3 n (.slice sa k sc) d M.has M.infos w6 Y (ax w6 i3) (λq hq=>ny (aL q hq) i3.size) q1 hb q5 av (i4.cell (show 3<12 by omega)) (by rw[al];have:=i1.inf;rw[al]at this;exact this) (λq e=>a q (by have:ba+1<=q:=(i1.infS q e).1;omega));exact this
 go_wp2_with fail
 refine a9.mono ?_;rintro e w7 ⟨rb,nb,mb,rfl,g1,g2,g3⟩;obtain⟨tn,H⟩:=eX ((nP M.has M.infos).length);have H7:Hid (jd w7 (λq=>ba+1<=q) N' g a0 a1 a2 a3 sh (.slice sa k sc) M.has M.infos/\cD w7 S bd m d/\cq S w w7/\dt (jL bd (.pointer none) 0 (.slice sa k sc) (some a0) (some a1) (some a2) (some a3) y sq ch false) w7 ba/\dC w7 (λg=>w6.heap.size<=g) rb (nP M.has M.infos) nb mb/\tn=(nP M.has M.infos).length/\ba<w6.heap.size/\a0<w6.heap.size/\a1<w6.heap.size/\a2<w6.heap.size/\a3<w6.heap.size):=by obtain⟨i1,i2,i3,i4⟩:=H6;exact⟨i1.on g2 (λq hq e=>a q (by have:ba+1<=q:=hq;omega) e),g1.dsk,i3.trans g2,i4.on g2 (a _ l1),g3,H,i4.lt,i1.kn.k0.lt,i1.kn.k1.lt,i1.kn.k2.lt,i1.kn.k3.lt⟩
 rw[<-H];have h7:=H7.2.2.2.1;have c1:w7.cell? (yA ba 1)=some (.pointer none):=h7.cell oM;have c2:w7.cell? (yA ba 2)=some (.int .i64 0):=h7.cell oM;have f1:=h7.frozen 1;have f2:=h7.frozen 2;have c8:w7.cell? (yA ba 8)=some (.int .i64 y):=h7.cell oM;have aF:=h7.lt;clear h7 g1 g2 g3 H a9 H6
 go_wp2_with fail
 obtain⟨w8,p⟩:=eX (((w7.setCell (yA ba 1) (yP rb)).setCell (yA ba 2) (.int .i64 tn)).alloc (.cells #[yP rb,.int .i64 tn] 113));rw[<-p]
 have H8:Hid (gn w8 (λg=>w.heap.size<=g/\g<w8.heap.size) ba bd N' rb a0 a1 a2 a3 y sq ch (.slice sa k sc) false M.has M.infos (nP M.has M.infos)/\cD w8 S bd m d/\cq S w w8):=by
  obtain⟨i1,i2,i3,i4,i5,i6,i7,x0,x1,x2,x3⟩:=H7;have j:cq (·=ba) w7 w8:=by rw[p];exact(((cq.refl (·=ba) w7).setCell (yA ba 1) rfl _).setCell (yA ba 2) rfl _).alloc _
  have aH:=j.size;have j1:=i1.on j (λq hq e=>by have:ba+1<=q:=hq;omega);have jt:dC w8 (λg=>w6.heap.size<=g) rb (nP M.has M.infos) nb mb:=i5.on j (λq hq e=>by have:w6.heap.size<=q:=hq;omega);refine⟨⟨?_,⟨j1.kn.k0,j1.kn.k1,j1.kn.k2,j1.kn.k3,⟨⟨?_,j1.kn.k0.lt⟩,⟨?_,j1.kn.k1.lt⟩,⟨?_,j1.kn.k2.lt⟩,⟨?_,j1.kn.k3.lt⟩⟩,j1.kn.d⟩,j1.inf,λq e=>⟨?_,(cr j1.inf q e).2⟩,⟨nb,mb,?_⟩,⟨l1,oM⟩⟩,i2.on j (λq hq e=>a q oM hq),i3.then (j.weak λq e=>.inr oM)⟩
  .have:=((i4.setP (show 1<12 by omega) (yP rb)).setP (show 2<12 by omega) (.int .i64 tn)).on (S:=λ_=>False) ((cq.refl _ _).alloc (.cells #[yP rb,.int .i64 tn] 113)) (λh=>h);rw[p,<-i6];exact this
  .have:ba+1<=a0:=j1.kn.s.1;omega
  .have:ba+1<=a1:=j1.kn.s.2.1;omega
  .have:ba+1<=a2:=j1.kn.s.2.2.1;omega
  .have:ba+1<=a3:=j1.kn.s.2.2.2;omega
  .have:ba+1<=q:=(j1.infS q e).1;omega
  refine⟨jt.root,λq hq=>⟨⟨?_,cm (jt.node q hq)⟩,?_⟩,jt.node,λq hq hf=>⟨⟨?_,?_⟩,?_⟩,jt.map,jt.i1,jt.i2,jt.i3⟩
  .have:w6.heap.size<=nb q:=jt.sn q hq;omega
  .have:w6.heap.size<=nb q:=jt.sn q hq;rintro(e|e|e|e)<;>omega
  .have:w6.heap.size<=mb q:=jt.sm q hq hf;omega
  .obtain⟨D,o1,-⟩:=jt.map q hq hf;exact dN o1
  have:w6.heap.size<=mb q:=jt.sm q hq hf;rintro(e|e|e|e)<;>omega
 have ab:Hid (Calls prog 80 #[yP bd,.int .i64 y] w8 λe w'=>e=.returned .nilIface/\cD w' (tg S w8 w') bd m d/\cq S w8 w'):=by obtain⟨-,i2,i3⟩:=H8;obtain⟨q1,q2,q3,q4,-,q6⟩:=a8;have hp:=wG bd m S d n y w8 i2 q2 hb q1 (q3▸fP _) (by have:=aj.at2;rw[q6]at this;rw[HY.out.1];exact this) (by rw[HY.out.1];exact au);rw[show d.flush=d by rw[q2.flush,q3];show cX.mk d.safe [] d.fuse d.down=d;rw[<-q3]]at hp;exact hp
 clear p c1 c2 f1 f2 c8 H7;refine ab.mono ?_;rintro e w9 ⟨rfl,ai,t⟩;have aa:Hid (LT w S bd m n d M (.returned (.tuple #[yP ba,.nilIface])) w9):=by obtain⟨i1,i2,i3⟩:=H8;obtain⟨y1,y2,y3,y4⟩:=HY;have hi:=i1.on t (λq hq e=>a q hq.1 e);rw[y1,y2,y3]at hi;exact⟨i3.trans t,ba,w8.heap.size,N',rb,a0,a1,a2,a3,.slice sa k sc,m,rfl,i3.size,t.size,y4,Nat.le_add_right _ _,ai.mono λq hq=>hq.1,hi⟩
 clear ai t ab
 go_wp2
 refine gh (lB rfl _ _ _) rfl ?_;exact aa
end
section
open Go.RowKit
theorem uq(V:World)(b:Nat)(s:ByteArray)(a:s.size=32)(C:Array Value)(U:TypeId)(c:∀(j:Nat) u,(db s)[j]?=some u->C[j]?=some u)(d:V.heap[b]?=some (.cells C U (0,0))):
  (convert 134 9 (.slice (yS b 0) 32 32)).run prog V=.ok (.string s) V:=by
 have hl:s.data.toList.length=32:=by rw[gf];exact a
 have h:=KH (P:=prog) V 134 9 5 (yA b 0) 32 s.data.toList yE I0 xV ?_
 .rw[hl]at h;exact h
 intro j hj;have e1:((yA b 0):Addr).add j=(yA b j):=by unfold Addr.add;split<;>simp_all
 rw[e1,cG d];refine c j _ ?_;unfold db bl;rw[JH,pI hj];rfl
theorem BX(n:Nat)(root label:ByteArray)(w:World)(k:root.size=32)(l:label.size<=1000)(m:n<=1000000):
  Calls prog 164 #[.agg (db root++[Value.string label]).toArray,.int .i64 n] w λe w'=>e=.returned (.string (fb n++root++label))/\Below w.heap.size w w':=by
 obtain⟨C,hC⟩:=eX ((db root++[Value.string label]).toArray);rw[<-hC];have i:C.size=33:=by rw[hC,jO,ir,cE,k];rfl
 have c:IntKind.u32.wrap (n:Int)=(n:Int):=by rw[Qc];omega
 have HC:Hid ((∀(j:Nat) u,(db root)[j]?=some u->C[j]?=some u)/\C[32]?=some (.string label)/\root.size=32):=by
  refine⟨λj u hu=>?_,?_,k⟩
  .rw[hC,Ew,FD (by obtain⟨h,-⟩:=List.getElem?_eq_some_iff.1 hu;exact h)];exact hu
  rw[hC,Ew,F8 (by rw[cE,k];omega),cE,k];rfl
 have f:(fb n).size+root.size+label.size<=1000000:=by rw[gL,k];omega
 clear hC;go_enter func164,ntmps164;go_upto_region 1 with fail
 obtain⟨W,hW⟩:=eX (w.alloc (.cells C 133));have hb:Below w.heap.size w W:=by rw[hW];exact(dw _ _).alloc (cO _) _
 have a:W.heap[w.heap.size]?=some (.cells C 133 (0,0)):=hW▸dM w _;rw[<-hW];have b:Below W.heap.size W W.drew:=(dw _ _).drew;refine kQ (MC _ (λV=>V.heap[w.heap.size]?=some (.cells C 133 (0,0))) (λV=>Below w.heap.size w V) n w.heap.size C root label (fb n) W c f a (λV hV=>⟨uq V _ root HC.2.2 C _ HC.1 hV,by rw[cG hV];exact HC.2.1⟩) ?_ (λV hX uB hU=>?_))
 .refine iM (kj n W.drew oM) ?_;rintro e w' ⟨rfl,d⟩;have h2:=b.trans (d.mono b.size);exact⟨rfl,by rw[h2.block _ (cm a)];exact a,hb.trans (h2.mono hb.size)⟩
 have g:=Hid.mk' hX;refine nU hU ?_;clear hX hW hb a b c
 go_wp2_with fail
 go_ret;exact⟨rfl,g⟩
theorem zt(w:World)(T:TypeId)(g o:Nat)(v:Array Value)(bv:Value)(l:List UInt8)(h:mO w T g o v bv l)(t:l≠[])(u:l.length<=10000000):
  Calls prog 213 #[.pointer (yS g o)] w λe w'=>e=.returned (.string ⟨l.toArray⟩)/\cq (λx=>some x=bv.ownBlock) w w':=by
 have c1:w.cell? (yA g (o+1))=some bv:=(cG h.row).trans h.c1;have n:l.length≠0:=by simpa using t
 have i:=h.ne;rcases h.own.2 with⟨-,hn⟩|⟨q,c,d,rfl,-,hq,r,-,m,f⟩
 .exact absurd hn n
 have p:q≠g:=λe=>i (by rw[e];rfl)
 have a:∀V,(Builtin.unsafeSliceData_ #[134] 403 #[.slice (yS q 0) l.length c]).run prog V=.ok (yP q) V:=λV=>Rv V _ _ _ _ _ oM
 have b:(Builtin.unsafeString_ #[403,3] 9 #[yP q,.int .i64 l.length]).run prog w.drew=.ok (.string ⟨l.toArray⟩) (w.drew.freeze (yA q 0) l.length):=by
  have k:w.drew.shape? q=some (5,d.size):=by show w.shape? q=_;simp[World.shape?,hq]
  refine Lib.run_unsafeString_row (P:=prog) w.drew _ _ _ 5 underlying403 kR q d.size k l t oM oM ?_;intro j x hj;have e:((yA q 0):Addr).add j=(yA q j):=by simp[Addr.add];omega
  have s:=(List.getElem?_eq_some_iff.1 hj).1;rw[e,nZ,cG hq,<-kX];have ht:(d.toList.take (l.length*1))[j]?=some (.int .u8 x.toNat):=by rw[f];unfold Lib.byteCells;rw[JH,hj];rfl
  rw[LZ,dq (by omega)]at ht;exact ht
 clear h f m hq;go_enter func213,ntmps213;go_upto_region 1 with fail
 refine kQ (It _ g o q c l w c1 p a b (λV hX uB hU=>?_));have HX:=hD hX;refine nU hU ?_;clear hX a b
 go_wp2
 go_ret;refine⟨rfl,?_⟩;rw[HX.out];exact(cq.refl (λx=>some x=(Value.slice (yS q 0) l.length c).ownBlock) w).drew.freeze (yA q 0) (show some q=_ from rfl) _
end
end Go.Proofs.YtapijhhmjjplmaaGreatDoor

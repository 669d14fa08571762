import Derived.Test.YtapijhhmjjplmaaGreatDoorJonce12
namespace Go.Proofs.YtapijhhmjjplmaaGreatDoor
set_option linter.all false
set_option maxRecDepth 100000
set_option maxHeartbeats 4000000
open Go.Proofs.Tryz
variable {ops:Array Oper}{Z:Array Value}{d:cX}{Q:Exit→Act→World→Prop}{lk:Int}{l:List ByteArray}{rest:List Oper}{bd gs bm m gw cw n:Nat}{S:Nat→Prop}{o:Oper}{P:Program}{wv:Value}{w w':World}
section
open Go.RowKit Go.Maps
theorem ix.setFuse(h:ix w S lk bd gs bm m wv d)(x:Int):ix (w.setCell (yA bd 5) (.int .i64 x)) S lk bd gs bm m wv {d with fuse:=x}/\cq S w (w.setCell (yA bd 5) (.int .i64 x)):=by
 have hs:cq (·=bd) w (w.setCell (yA bd 5) (.int .i64 x)):=cq.setCell (S:=(·=bd)) (cq.refl _ w) (yA bd 5) rfl _;refine⟨h.turn hs lk x d.down ?_,hs.weak (by rintro g rfl;exact h.rest.sb)⟩;rw[gE w bd 5 _ _ _ h.blk];rfl
theorem ix.setDown(h:ix w S lk bd gs bm m wv d)(x:Bool):ix (w.setCell (yA bd 6) (.bool x)) S lk bd gs bm m wv {d with down:=x}/\cq S w (w.setCell (yA bd 6) (.bool x)):=by
 have hs:cq (·=bd) w (w.setCell (yA bd 6) (.bool x)):=cq.setCell (S:=(·=bd)) (cq.refl _ w) (yA bd 6) rfl _;refine⟨h.turn hs lk d.fuse x ?_,hs.weak (by rintro g rfl;exact h.rest.sb)⟩;rw[gE w bd 6 _ _ _ h.blk];rfl
theorem FI:∀w,(zeroValue 193).run prog w=.ok (mT z64) w:=λ_=>by kernel_rfl
theorem Hl:Keyed prog 3:=int_keyed NK
theorem Gx(k:Nat)(h:k<=4096):(Lit.int .i64 k).wf=true:=by
 simp[Lit.wf,IntKind.min,IntKind.max,IntKind.signed,IntKind.bits];omega
theorem lj{a:Act}(p:o.guard=none)(g x:Operand)(h:o.op=Op.lookup 78 g x true)(b n:Nat)(l:List (Nat×ByteArray))(q:a.eval g=.map (some b))(f:w.ownsMap prog 3 cY b n (oQ l))(k:Nat)(r:a.eval x=.int .i64 k)(t:k<=4096)(A:Array Value)(u:mT ((iH l k).getD z64)=.agg A)(j:Bool)(i:(iH l k).isSome=j)(y:wpList prog ops Q rest (a.put o.dst (.tuple #[.agg A,.bool j])) w):wpList prog ops Q (o::rest) a w:=by
 refine wpList_lookup_own_ok w p g x 78 h 3 193 Hl underlying78 cY (FI w) (.held (mT z64)) [] rfl b n (oQ l) q f _ _ r (keyOf_int_mk NK (Gx k t)) (λv ps hv=>?_);obtain⟨h1,h2⟩:=I3 l k (.held (mT z64));have c:(DataW.held v:DataW Value)=(oQ l).atKey (.int .i64 k) (.held (mT z64)):=by unfold cY at hv;exact(Hi (kM hv)).1
 have e:v=.agg A:=by
  rw[<-u];rw[h1]at c
  cases hl:iH l k with
  |none=>rw[hl]at c;exact FA c
  |some s=>rw[hl]at c;exact FA c
 rw[e,h2,i];exact y
theorem oY(l:List UInt8):(cW l).toArray.all (·.oneCell')=true:=by
 rw[NC];intro v hv;exact jv l v (by simpa using hv)
theorem DG:∀(l:List ByteArray),(∀s∈l,s.size=64)->∀k (h:k<l.length) j,j<64->(iX l)[k*64+j]?=(cW l[k].data.toList)[j]?
 |[],_,k,h,_,_=>by cases h
 |s::r,hs,k,h,j,hj=>by
  have hl:(cW s.data.toList).length=64:=by rw[dW,gf];exact hs s (PN ..)
  have e:iX (s::r)=cW s.data.toList++iX r:=rfl
  match k,h with
  |0,_=>
   rw[e,NW,nS,FD (by omega)];rfl
  |k+1,h=>
   rw[e,F8 (by rw[hl];omega),hl,show(k+1)*64+j-64=k*64+j by omega];exact DG r (λx hx=>hs x (Nx _ hx)) k (by simpa using h) j hj
theorem nf:∀(l:List ByteArray),(∀s∈l,s.size=64)->(iX l).length=l.length*64
 |[],_=>rfl
 |s::r,hs=>by
  have hl:(cW s.data.toList).length=64:=by rw[dW,gf];exact hs s (PN ..)
  have e:iX (s::r)=cW s.data.toList++iX r:=rfl;rw[e,ir,hl,nf r (λx hx=>hs x (Nx _ hx)),mY];omega
theorem Fe{t:TypeId}(h:w.heap[gs]?=some (.cells (iX l).toArray t (0,0)))(b:∀s∈l,s.size=64)(k:Nat)(c:k<l.length):w.rangeAt gs (k*64) (cW l[k].data.toList):=by
 intro j v hv;have hj:j<64:=by have:=(List.getElem?_eq_some_iff.1 hv).1;rw[dW,gf]at this;have a:l[k].data.size=64:=b _ (mX _);omega
 rw[cG h];simp only[Ew];rw[DG l b k c j hj];exact hv
theorem ix.keep(h:ix w S lk bd gs bm m wv d)(a:Below w.heap.size w w'):ix w' S lk bd gs bm m wv d:=by
 have hs:cq (λg=>w.heap.size<=g) w w':=⟨a.os,a.tape,a.output,a.size,λk hk _=>a.block k hk⟩;have l1:=cm h.blk;have l2:=cm h.rest.sec;have l3:=dN h.rest.map;refine⟨by rw[a.block _ l1];exact h.blk,h.rest.on hs oM oM (λg hg=>?_)⟩;have:=h.rest.wait.lt hg;omega
theorem lN{A:Array Value}{t:TypeId}:Below w.heap.size w ((w.alloc (.cells Z t)).setRow w.heap.size A):=cC ((dw _ _).alloc (cO _) _) (cO _) _
theorem jz(S:Nat->Prop)(h:Below w.heap.size w w'):cq S w w':=⟨h.os,h.tape,h.output,h.size,λk hk _=>h.block k hk⟩
theorem uL(w:World)(s:ByteArray)(a:s.size=64)(A:Array Value)(b:A=(cW s.data.toList).toArray)(Z:Array Value):
  (convert 134 9 (.slice (yS w.heap.size 0) 64 64)).run prog ((w.alloc (.cells Z 193)).setRow w.heap.size A)=.ok (.string s) ((w.alloc (.cells Z 193)).setRow w.heap.size A):=by
 have hl:s.data.toList.length=64:=by rw[gf];exact a
 have h:=KH (P:=prog) ((w.alloc (.cells Z 193)).setRow w.heap.size A) 134 9 5 (yA w.heap.size 0) 64 s.data.toList yE I0 xV ?_
 .rw[hl]at h;exact h
 intro j hj;have e1:((yA w.heap.size 0):Addr).add j=(yA w.heap.size j):=by unfold Addr.add;split<;>simp_all
 have hr:=ja _ _ _ A _ _ (dM w (.cells Z 193));rw[e1,cG hr,b];simp only[Ew];unfold cW;rw[JH,pI hj];rfl
theorem cu{a:Act}(b:o.guard=none)(ty:TypeId)(x y:Operand)(c:o.op=.store ty x y)(g:Nat)(cells:Array Value)(e:a.eval x=yP g)(f:a.eval y=.agg cells)(t:TypeId)(old:Array Value)(i:w.heap[g]?=some (.cells old t (0,0)))(j:(P.info? ty).map (·.size)=some cells.size)(hold:old.size=cells.size)(k:cells.all (·.oneCell')=true)(h:∀w',Hid (w'=w.setRow g cells)->wpList P ops Q rest (a.put o.dst undef) w'):wpList P ops Q (o::rest) a w:=
 ER b ty x y c g cells e f t old i j hold k (h _ rfl)
def cX.at(d:cX)(k:Nat)(h:k<d.safe.length):ByteArray:=(iH d.wait k).getD d.safe[k]
theorem ol(bd m:Nat)(S:Nat->Prop)(d:cX)(k:Nat)(w:World)(h:cD w S bd m d)(hk:k<d.safe.length)(hn:d.safe.length<=4096):
  Calls prog 104 #[yP bd,.int .i64 k] w λe w'=>e=.returned (.tuple #[.string (d.at k hk),.nilIface])/\cD w' S bd m d/\cq S w w':=by
 have HH:Hid (Calls prog 179 #[yP bd,.int .i64 k] w λe w'=>e=.returned (.bool true)/\w=w'):=by
  have h1:=De bd m S d k w h;have e:(decide (0<=(k:Int))&&decide ((k:Int)<d.safe.length))=true:=by rw[Dj,EP,EP];omega
  rw[e]at h1;exact h1
 obtain⟨gs,bm,wv,h⟩:=h;have c0:w.cell? (yA bd 0)=some (.int .i32 0):=cG h.blk;have f0:=fH w bd 0 _ _ h.blk;obtain⟨h1,s1⟩:=h.lockTo 1;obtain⟨w1,r⟩:=eX (w.setCell (yA bd 0) (.int .i32 1));have HL:Hid (Calls prog 57 #[yP bd] w λe w'=>e=.returned (.tuple #[])/\w1=w'):=by refine(kh (yA bd 0) w c0 f0).mono ?_;rintro e w' ⟨rfl,rfl⟩;exact⟨rfl,r⟩
 rw[<-r]at h1 s1;have c3:w1.cell? (yA bd 3)=some (.map (some bm)):=cG h1.blk;have a0:=cm h1.blk;have Y:=mZ;obtain⟨A,hA⟩:∃A,mT ((iH d.wait k).getD z64)=.agg A:=⟨_,rfl⟩
 have a:((iH d.wait k).getD z64).size=64:=by
  cases hl:iH d.wait k with
  |none=>exact qi
  |some s=>
   have:∀(l:List (Nat×ByteArray)),(∀x∈l,x.2.size=64)->∀s,iH l k=some s->s.size=64:=by
    intro l;refine tJ (P:=λl=>(∀x∈l,x.2.size=64)->∀s,iH l k=some s->s.size=64) (λ_ s e=>by cases e) (λl x ih hx s e=>?_) l;obtain⟨j,t⟩:=x;rw[o6]at e;split at e
    .cases e;exact hx (j,s) sI
    exact ih (λy hy=>hx y (by simp[hy])) s e
   exact this d.wait (λx hx=>(h1.rest.v2 x hx).2) s hl
 have b:A.size=64:=by unfold mT at hA;cases hA;rw[jO,dW,gf];exact a
 have I:Hid ((prog.info? 193).map (·.size)=some A.size):=by show _=_;rw[b];kernel_rfl
 have o:Hid (∀Z:Array Value,Z.size=64->Z.size=A.size):=λZ hz=>hz.trans b.symm
 have F:Hid (A.all (·.oneCell')=true):=by unfold mT at hA;cases hA;exact oY _
 have i:=hD h1.rest.map;have HV:=hD h1;have HS:=hD s1;have D:=hD hA;have J:=hD a;clear h h1 s1 r hA b c0 f0 a
 cases hok:iH d.wait k with
 |some s=>
  have v:k<=4096:=oM;have q:Hid ((iH d.wait k).isSome=true):=by rw[hok];rfl
  have b:A=(cW s.data.toList).toArray:=by have h:=D;rw[hok]at h;exact(Value.agg.inj h).symm
  have a:s.size=64:=by have h:=J;rw[hok]at h;exact h
  have U:=uL w1 s a A b;have c:d.at k hk=s:=by unfold cX.at;rw[hok];rfl
  rw[c];clear c b a hok
  go_enter_defers func104,ntmps104
  go_wp2_with (first|(go_at_call 179;refine HH.mono ?_;rintro e w' ⟨rfl,rfl⟩)|(go_at_call 57;refine HL.mono ?_;rintro e w' ⟨rfl,rfl⟩)|(at_lookup;refine lj rfl _ _ rfl bm m d.wait rfl i k rfl v A D true q ?_)|refine ER rfl 193 _ _ rfl w1.heap.size A rfl rfl 193 _ (dM w1 _) I (o _ rfl) F ?_)
  have h2:=λZ=>HV.keep (lN (Z:=Z) (A:=A) (t:=193))
  refine Jk (f:=58) (args:=#[yP bd]) sI (by simp[go_sem]) ?_;refine(fj (yA bd 0) .returning _ (cG (h2 _).blk) (fH _ _ _ _ _ (h2 _).blk)).mono ?_;rintro e u' W ⟨rfl,rfl,hw⟩;have h3:=λZ=>(h2 Z).lockTo 0
  refine⟨_,lB rfl _ _ _,rfl,?_,?_⟩
  .rw[hw];exact⟨_,_,_,(h3 _).1⟩
  rw[hw];exact HS.trans ((jz S lN).trans (h3 _).2)
 |none=>
  have v:k<=4096:=oM;have q:Hid ((iH d.wait k).isSome=false):=by rw[hok];rfl
  obtain⟨s,hs⟩:=eX (d.safe[k]);have a:s.size=64:=hs▸HV.rest.v1 _ (mX _);obtain⟨C,hC⟩:=eX (cW s.data.toList);obtain⟨B,hB⟩:=eX (C.toArray);have p:C.length=64:=by rw[hC,dW,gf];exact a
  have z:B.size=64:=by rw[hB,jO];exact p
  have X:Hid (∀(Z:Array Value)(w2 w3:World),w2=(w1.alloc (.cells Z 193)).setRow w1.heap.size A->w3=w2.setRow w1.heap.size B->(convert 134 9 (.slice (yS w1.heap.size 0) 64 64)).run prog w3=.ok (.string s) w3):=λZ w2 w3 e1 e2=>by rw[e2,e1,setRow_setRow];exact uL w1 s a B (by rw[hB,hC]) Z
  have c:d.at k hk=s:=by unfold cX.at;rw[hok,hs];rfl
  rw[c];have G:Hid (∀w2,Below w1.heap.size w1 w2->w2.rangeAt gs (k*64) C):=λw2 hb=>by rw[hC,hs];exact Fe (HV.keep hb).rest.sec HV.rest.v1 k hk
  have T:Hid ((prog.info? 193).map (·.size)=some C.length):=by show _=_;rw[p];kernel_rfl
  have V:Hid ((prog.info? 193).map (·.size)=some B.size):=by show _=_;rw[z];kernel_rfl
  have N:Hid (A.size=B.size):=by show _=_;rw[z];exact(o (List.replicate 64 (Value.int .u8 0)).toArray sI).symm.trans sI
  have L:Hid (B.all (·.oneCell')=true):=by rw[hB,hC];exact oY _
  have Q:=hD hB.symm;have a1:(k:Int)<d.safe.length:=oM;clear c a hok hs hC hB p z
  go_enter_defers func104,ntmps104
  go_wp2_with (first|(go_at_call 179;refine HH.mono ?_;rintro e w' ⟨rfl,rfl⟩)|(go_at_call 57;refine HL.mono ?_;rintro e w' ⟨rfl,rfl⟩)|(at_lookup;refine lj rfl _ _ rfl bm m d.wait rfl i k rfl v A D false q ?_)|(refine cu rfl 193 _ _ rfl w1.heap.size A rfl rfl 193 _ (dM w1 _) I (o _ rfl) F ?_;intro w2 g;have u:Hid (Below w1.heap.size w1 w2):=(by rw[g.out];exact lN);have n:=λw3=>X _ w2 w3 g.out;have E:Hid (∀w3,w3=w2.setRow w1.heap.size B->(convert 134 9 (.slice (yS w1.heap.size 0) 64 64)).run prog w3=.ok (.string s) w3):=n;have M:Hid (w2.heap[w1.heap.size]?=some (.cells A 193 (0,0))):=(by rw[g.out];exact ja _ _ _ _ _ _ (dM w1 _));have c2:w2.cell? (yA bd 2)=some (.slice (yS gs 0) d.safe.length d.safe.length):=cG (HV.keep u).blk;have O:Hid (w2.rangeAt gs (k*64) C):=G w2 u;clear n g)|(refine su rfl 193 _ rfl gs (k*64) rfl C _ O Qd rfl T ?_;rw[Q.out])|(refine cu rfl 193 _ _ rfl w1.heap.size B rfl rfl 193 A M V N L ?_;intro w3 K;have U:=E w3 K.out;have H:Hid (Below w1.heap.size w1 w3):=(by rw[K.out];exact cC u (cO _) _)))
  have h2:=HV.keep H;refine Jk (f:=58) (args:=#[yP bd]) sI (by simp[go_sem]) ?_;refine(fj (yA bd 0) .returning _ (cG h2.blk) (fH _ _ _ _ _ h2.blk)).mono ?_;rintro e u' W ⟨rfl,rfl,hw⟩;obtain⟨h3,s3⟩:=h2.lockTo 0;rw[<-hw]at h3 s3;exact⟨_,lB rfl _ _ _,rfl,⟨_,_,_,h3⟩,HS.trans ((jz S H).trans s3)⟩
theorem Hid.mk'{p:Prop}(h:p):Hid p:=h
def cX.op(d:cX):cX:=if 0<d.fuse then{d with fuse:=d.fuse-1,down:=d.down||decide (d.fuse-1=0)}else d
theorem Dz(d:cX)(h:¬0<d.fuse):d.op=d:=by unfold cX.op;rw[dj h]
theorem m6(d:cX):d.op.safe=d.safe:=by unfold cX.op;split<;>rfl
theorem qo(d:cX):d.op.wait=d.wait:=by unfold cX.op;split<;>rfl
structure Up (d:cX):Prop where
 f:d.fuse=0
 d:d.down=false
theorem Up.op(h:Up d):d.op=d:=Dz d (by rw[h.f];decide)
theorem Up.dn(h:Up d):d.op.down=false:=by rw[h.op];exact h.d
theorem ub(l:Nat)(n:l=215\/l=216)(j m o:Nat)(S T U:Nat->Prop)(d p:cX)(k:Array Value)(w:World)(h:cD w S j m d)(q:Up d)(r:∀g,S g->T g)(s:∀g,U g->T g)(t:∀w2 gs bm wv,ix w2 S 1 j gs bm m wv d->cq (·=j) w w2->Calls prog l k w2 λe w3=>e=.returned (.tuple #[])/\(∃gs' bm' wv',ix w3 U 1 j gs' bm' o wv' p)/\cq T w2 w3):
  Calls prog 214 #[yP j,.func (.func l) #[] k] w λe w'=>e=.returned .nilIface/\cD w' U j o p/\cq T w w':=by
 obtain⟨gs,bm,wv,h⟩:=h;have c0:w.cell? (yA j 0)=some (.int .i32 0):=cG h.blk;have f0:=fH w j 0 _ _ h.blk;obtain⟨h1,s1⟩:=h.lockTo 1;have c5:(w.setCell (yA j 0) (.int .i32 1)).cell? (yA j 5)=some (.int .i64 0):=by rw[<-q.f];exact cG h1.blk
 have c6:(w.setCell (yA j 0) (.int .i32 1)).cell? (yA j 6)=some (.bool false):=by rw[<-q.d];exact cG h1.blk
 have HS:=hD s1;have c:=mZ;have HC:Hid (Calls prog l k (w.setCell (yA j 0) (.int .i32 1)) λe w3=>e=.returned (.tuple #[])/\Hid (∃gs' bm' wv',ix w3 U 1 j gs' bm' o wv' p)/\Hid (cq T (w.setCell (yA j 0) (.int .i32 1)) w3)):=t _ gs bm wv h1 (cq.setCell (S:=(·=j)) (cq.refl _ w) (yA j 0) rfl _);clear h h1 s1 t q;rcases n with rfl|rfl
 all_goals
  go_enter_defers func214,ntmps214
  go_wp2_with (first|(go_at_call 57;refine(kh (yA j 0) _ c0 f0).mono ?_;rintro e w' ⟨rfl,rfl⟩)|((first|go_at_call 215|go_at_call 216);refine HC.mono ?_;rintro e w3 ⟨rfl,b,a⟩))
  obtain⟨gs',bm',wv',hv⟩:=b;refine Jk (f:=58) (args:=#[yP j]) sI (by simp[go_sem]) ?_;refine(fj (yA j 0) .returning _ (cG hv.blk) (fH _ _ _ _ _ hv.blk)).mono ?_;rintro e u' i ⟨rfl,rfl,hw⟩;obtain⟨h3,s3⟩:=hv.lockTo 0;rw[<-hw]at h3 s3;exact⟨_,Qm rfl _ _ _,rfl,⟨_,_,_,h3⟩,(HS.weak r).trans (a.trans (s3.weak s))⟩
theorem ro{w:World}{ops:Array Oper}{rest:List Oper}{a:Act}{Q:Exit->Act->World->Prop}(g:o.guard=none)(x:Operand)(i:o.op=.call {callee:=.builtin .clear,args:=#[x],argTypes:=#[78]})(bm m:Nat)(D:DataW Value)(j:a.eval x=.map (some bm))(f:w.ownsMap prog 3 cY bm m D)(h:∀w',w'.ownsMap prog 3 cY bm m (.map [])->cq (·=bm) w w'->wpList prog ops Q rest (a.put o.dst (.tuple #[])) w'):wpList prog ops Q (o::rest) a w:=by
 obtain⟨es,b,hb,-⟩:=f;refine ND g λK hK=>?_
 have d:=cm hb;have c:(Builtin.clear_ #[78] o.type #[.map (some bm)]).run prog w=.ok (.tuple #[]) {w with heap:=w.heap.setIfInBounds bm (.map #[] b)}:=by simp[Builtin.clear_,PJ underlying78,MapKept.run_getObj_map hb,MapKept.run_setObj_map _ hb,Result.andThen]
 unfold Oper.wp;simp[execOp,i,resolve,invoke,builtin,j,c,Result.andThen];refine hK _ _ (h _ ⟨#[],b,by simp[d],⟨sI,MapKept.stamped_empty b,sI⟩,fP _,rfl⟩ ⟨rfl,rfl,rfl,sI,λk hk hn=>?_⟩);simp[wU];exact λe=>absurd e.symm hn
theorem xX(P:Program)(w:World)(g o:Nat)(t:TypeId)(e:List Value)(c:Array Value)(f:w.heap[g]?=some (.cells c t (0,0)))(i:o+e.length<=c.size)(h:∀v∈e,v.oneCell'=true):
  w.setCells g o e=w.setRow g (c.toList.take o++e++c.toList.drop (o+e.length)).toArray:=by
 have a:=QH P g o t e 0 c w f (by simpa using i) h;have b:=run_storeCells_cells (P:=P) g o e 0 w (λj hj=>by rw[NY,cG f,Nt (by omega)];rfl) (λj hj=>fH _ _ _ _ _ f) h;simp only[NY]at a b;rw[a]at b;exact(Result.ok.inj b).2.symm
theorem ug(bd gs bm m:Nat)(S:Nat->Prop)(lk:Int)(wv:Value)(d:cX)(w:World)(h:ix w S lk bd gs bm m wv d):
  Calls prog 101 #[yP bd] w λe w'=>e=.returned (.tuple #[])/\ix w' S lk bd gs bm m (.slice none 0 0) {d with wait:=[]}/\cq S w w':=by
 have c3:w.cell? (yA bd 3)=some (.map (some bm)):=cG h.blk;have HV:=hD h;clear h;go_enter func101,ntmps101
 go_wp2_with (refine ro rfl _ rfl bm m _ rfl HV.rest.map ?_;intro w1 hm hs;have a:=hs.block bd (cm HV.blk) HV.rest.n2;have c4:w1.cell? (yA bd 4)=some wv:=cG (a.trans HV.blk);have f4:=fH w1 bd 4 _ _ (a.trans HV.blk);have HM:Hid (w1.ownsMap prog 3 cY bm m (.map [])):=hm;have HS:Hid (cq (·=bm) w w1):=hs;clear hm hs a)
 go_end0
 have hv:=HV;have a:=(HS.block bd (cm hv.blk) hv.rest.n2).trans hv.blk;have hl:=cm a;refine⟨rfl,⟨?_,?_⟩,(HS.weak (by rintro g rfl;exact hv.rest.sm)).trans (cq.setCell (S:=S) (cq.refl _ _) (yA bd 4) hv.rest.sb _)⟩
 .rw[gE w1 bd 4 _ _ _ a];rfl
 have b:cq (·=bd) w1 (w1.setCell (yA bd 4) (.slice none 0 0)):=cq.setCell (S:=(·=bd)) (cq.refl _ _) (yA bd 4) rfl _;refine⟨?_,?_,?_,hv.rest.sb,hv.rest.ss,hv.rest.sm,hv.rest.n1,hv.rest.n2,hv.rest.n3,?_,hv.rest.v1,?_⟩
 .have h1:=(HS.block gs (cm hv.rest.sec) hv.rest.n3).trans hv.rest.sec;rw[b.block gs (cm h1) (λe=>hv.rest.n1 e.symm)];exact h1
 .exact dg HM (b.block bm (dN HM) (λe=>hv.rest.n2 e.symm))
 .exact⟨⟨rfl,.inl ⟨rfl,rfl⟩⟩,λg hg=>by cases hg⟩
 .exact λg hg=>by cases hg
 exact λx hx=>by cases hx
theorem zZ:∀(l:List ByteArray),(∀s∈l,s.size=64)->∀k (_:k<l.length) (s:ByteArray),(iX l).take (k*64)++cW s.data.toList++(iX l).drop (k*64+64)=iX (l.set k s)
 |[],_,k,h,_=>by cases h
 |x::r,hs,k,h,s=>by
  have hl:(cW x.data.toList).length=64:=by rw[dW,gf];exact hs x (PN ..)
  have e:iX (x::r)=cW x.data.toList++iX r:=rfl
  match k,h with
  |0,_=>
   rw[e,NW,N6,Ab,nS,NN (by omega),A9 (by omega),Ab];rfl
  |k+1,h=>
   have ih:=zZ r (λy hy=>hs y (Nx _ hy)) k (by simpa using h) s;have e2:iX ((x::r).set (k+1) s)=cW x.data.toList++iX (r.set k s):=rfl;rw[e2,<-ih,e,show(k+1)*64=64+k*64 by omega];have t1:(cW x.data.toList++iX r).take (64+k*64)=cW x.data.toList++(iX r).take (k*64):=by rw[List.take_append,pK (by omega),hl,show 64+k*64-64=k*64 by omega]
   have t2:(cW x.data.toList++iX r).drop (64+k*64+64)=(iX r).drop (k*64+64):=by rw[List.drop_append,A9 (by omega),hl,Ab,show 64+k*64+64-64=k*64+64 by omega]
   rw[t1,t2];simp only[ve]
theorem ix.setSec(h:ix w S lk bd gs bm m wv d)(k:Nat)(i:k<d.safe.length)(s:ByteArray)(f:s.size=64):
  ix (w.setCells gs (k*64) (cW s.data.toList)) S lk bd gs bm m wv {d with safe:=d.safe.set k s}/\cq S w (w.setCells gs (k*64) (cW s.data.toList)):=by
 have hl:(cW s.data.toList).length=64:=by rw[dW,gf];exact f
 have c:=nf d.safe h.rest.v1;have e:=xX prog w gs (k*64) _ (cW s.data.toList) _ h.rest.sec (by rw[hl,jO,c];omega) (jv _);rw[hl]at e;simp only[]at e;rw[zZ d.safe h.rest.v1 k i s]at e;have a:cq (·=gs) w (w.setRow gs (iX (d.safe.set k s)).toArray):=⟨rfl,rfl,rfl,sI,λj hj hn=>l7 _ _ _ _ hn⟩;rw[e];refine⟨⟨?_,?_,?_,?_,h.rest.sb,h.rest.ss,h.rest.sm,h.rest.n1,h.rest.n2,h.rest.n3,h.rest.d1,?_,?_⟩,a.weak (by rintro g rfl;exact h.rest.ss)⟩
 .rw[a.block bd (cm h.blk) h.rest.n1];have b:(d.safe.set k s).length=d.safe.length:=KV;show _=some (Obj.cells (mj lk gs (List.length (d.safe.set k s)) bm wv d.fuse d.down) _ _);rw[b];exact h.blk
 .exact ja _ _ _ _ _ _ h.rest.sec
 .exact dg h.rest.map (a.block bm (dN h.rest.map) (λe=>h.rest.n3 e.symm))
 .exact h.rest.wait.on a (λg hg=>(h.rest.d1 g hg).2.1)
 .intro y hy;rcases Rp hy with hy|rfl
  .exact h.rest.v1 y hy
  exact f
 intro x hx;have:=h.rest.v2 x hx;exact⟨by show _<List.length (d.safe.set k s);rw[KV];exact this.1,this.2⟩
def cL(wait:List (Nat×ByteArray))(safe:List ByteArray):List ByteArray:=wait.foldl (λl x=>l.set x.1 x.2) safe
theorem eo:∀(wait:List (Nat×ByteArray))(safe:List ByteArray),(cL wait safe).length=safe.length
 |[],_=>rfl
 |x::r,safe=>by show(cL r (safe.set x.1 x.2)).length=_;rw[eo r,KV]
theorem vr(a:List (Nat×ByteArray))(b:List ByteArray)(i:Nat)(h:i<a.length):cL (a.take (i+1)) b=(cL (a.take i) b).set a[i].1 a[i].2:=by
 unfold cL;rw[sN h,A5];rfl
theorem Gn:∀(l:List (Nat×ByteArray)),(∀x∈l,x.2.size=64)->∀k (h:k<l.length) j,j<65->(FC l)[k*65+j]?=(.int .i64 (l[k].1:Int)::cW l[k].2.data.toList)[j]?
 |[],_,k,h,_,_=>by cases h
 |x::r,hs,k,h,j,hj=>by
  have hl:(cW x.2.data.toList).length=64:=by rw[dW,gf];exact hs x (PN ..)
  have a:(Value.int .i64 x.1::cW x.2.data.toList).length=65:=by rw[mY,hl]
  have e:FC (x::r)=(.int .i64 x.1::cW x.2.data.toList)++FC r:=rfl
  match k,h with
  |0,_=>
   rw[e,NW,nS,FD (by omega)];rfl
  |k+1,h=>
   rw[e,F8 (by rw[a];omega),a,show(k+1)*65+j-65=k*65+j by omega];exact Gn r (λy hy=>hs y (Nx _ hy)) k (by simpa using h) j hj
theorem Fg{l:List (Nat×ByteArray)}(h:eP w S 195 65 (.slice (yS gw 0) n cw) n (FC l))(g:n=l.length)(c:∀x∈l,x.2.size=64)(k:Nat)(f:k<l.length):
  w.rangeAt gw (k*65) (.int .i64 (l[k].1:Int)::cW l[k].2.data.toList):=by
 intro j v hv;obtain⟨g',c',e,-,hc,-⟩:=h.open oM;cases e;have hj:j<65:=by have:=(List.getElem?_eq_some_iff.1 hv).1;rw[mY,dW,gf]at this;have b:l[k].2.data.size=64:=c _ (mX _);omega
 have hw:=Gn l c k f j hj;rw[hv]at hw;obtain⟨a,he⟩:=List.getElem?_eq_some_iff.1 hw;rw[hc (k*65+j) a,he]
theorem Ib(h:pT w S bd gs bm m wv d):∃ao cw,wv=.slice ao d.wait.length cw/\(0<d.wait.length->∃gw,ao=some (yA gw 0)):=by
 obtain⟨-,h2|⟨g,a,b,hv,-⟩⟩:=h.wait.1
 .exact⟨none,0,by rw[h2.2,h2.1],λh=>by omega⟩
 exact⟨_,a,hv,λ_=>⟨g,rfl⟩⟩
theorem cq.alloc0(w:World)(o:Obj):cq S w (w.alloc o):=(cq.refl S w).alloc o
theorem LF(bd gs bm m:Nat)(S:Nat->Prop)(wv:Value)(d:cX)(pl:Addr)(w:World)(h:ix w S 1 bd gs bm m wv d)(hp:w.cell? pl=some (yP bd))(ag:¬S pl.block)(ah:d.wait.length<=1000000)(hn:d.safe.length<=4096):
  Calls prog 216 #[.pointer (some pl)] w λe w'=>e=.returned (.tuple #[])/\(∃gs' bm' wv',ix w' S 1 bd gs' bm' m wv' {d with safe:=cL d.wait d.safe,wait:=[]})/\cq S w w':=by
 obtain⟨ao,cw,rfl,k⟩:=Ib h.rest;obtain⟨q,hq⟩:=eX (d.wait.length);obtain⟨n,J⟩:=eX (d.safe.length);rw[<-hq]at h k ah;have c4:w.cell? (yA bd 4)=some (.slice ao q cw):=cG h.blk;have H:=hD h;have HP:=hD hp;have HQ:=hD hq;have HN:=hD J;have U:=hD k;have ab:(q:Int)<=1000000:=oM;have ac:(n:Int)<=4096:=oM;have A:=hD h.rest.v2;clear h hq J k ah hn;go_enter func216,ntmps216
 go_wp2
 clear c4 hp;go_loopw [8] (λp wr=>∃i:Nat,i<=q/\p=.int .i64 i/\Hid (ix wr S 1 bd gs bm m (.slice ao q cw) {d with safe:=cL (d.wait.take i) d.safe})/\Hid (cq S w wr)) (λp _=>q-(intOf p).toNat)
 .exact⟨0,oM,rfl,H,cq.refl _ _⟩
 clear H;obtain⟨i,hi,rfl,HV,HS⟩:=hrel;by_cases V:i<q
 .obtain⟨gw,rfl⟩:=U oM;have F:i<d.wait.length:=by rw[<-HQ.out];exact V
  obtain⟨x,hx⟩:=eX (d.wait[i]);obtain⟨o,u⟩:=A x (hx▸mX _);rw[<-HN.out]at o;obtain⟨C,hC⟩:=eX (Value.int .i64 x.1::cW x.2.data.toList);have D:Hid (wr.rangeAt gw (i*65) C):=by have t:eP wr S 195 65 (.slice (yS gw 0) q cw) d.wait.length (FC d.wait):=HV.rest.wait;rw[<-HQ.out]at t;rw[hC,hx];exact Fg t HQ (λy hy=>(A y hy).2) i F
  have G:(cW x.2.data.toList).length=64:=by rw[dW,gf];exact u
  have g:C.length=65:=by rw[hC,mY,G]
  have a4:Hid ((prog.info? 195).map (·.size)=some C.length):=by show _=_;rw[g];kernel_rfl
  obtain⟨E,hE⟩:=eX (C.toArray);have r:E.size=65:=by rw[hE,jO];exact g
  have Q:Hid ((prog.info? 195).map (·.size)=some E.size):=by show _=_;rw[r];kernel_rfl
  have a7:=hD hE.symm;have a2:Hid (∀Z:Array Value,Z.size=65->Z.size=E.size):=λZ hz=>hz.trans r.symm
  have L:Hid (E.all (·.oneCell')=true):=by
   show _=_;rw[hE,hC,NC];intro v hv;rcases List.mem_cons.1 (by simpa using hv:v∈Value.int .i64 x.1::cW x.2.data.toList)with rfl|hv
   .rfl
   .exact jv _ v hv
  have K:Hid (E=(Value.int .i64 x.1::cW x.2.data.toList).toArray):=by rw[hE,hC];rfl
  have I:=hD u;have a5:=hD hx;clear hx hC hE g r
  go_wp2_with (first|(refine su rfl 195 _ rfl gw (i*65) rfl C _ D underlying195 rfl a4 ?_;rw[a7.out])|(refine cu rfl 195 _ _ rfl wr.heap.size E rfl rfl 195 _ (dM wr _) Q (a2 _ rfl) L ?_;intro w2 s))
  have l:Hid (Below wr.heap.size wr w2):=by rw[s.out];exact lN
  have c:w2.heap[wr.heap.size]?=some (.cells E 195 (0,0)):=by rw[s.out];exact ja _ _ _ _ _ _ (dM wr _)
  have a:=HV.keep l;have b:(cL (d.wait.take i) d.safe).length=n:=by rw[eo,HN.out]
  have X:w2.cell? pl=some (yP bd):=by have h1:=HS.cell ag HP;rw[l.out.cell (pr h1)];exact h1
  have c2:w2.cell? (yA bd 2)=some (.slice (yS gs 0) n n):=by have h1:w2.cell? (yA bd 2)=some (.slice (yS gs 0) (cL (d.wait.take i) d.safe).length (cL (d.wait.take i) d.safe).length):=cG a.blk;rw[b]at h1;exact h1
  have aa:w2.cell? (yA wr.heap.size 0)=some (.int .i64 x.1):=by rw[cG c,K.out];rfl
  obtain⟨B,hB⟩:=eX (cW x.2.data.toList);have P:B.length=64:=hB▸G;have a9:w2.rangeAt wr.heap.size 1 B:=by intro j v hv;rw[cG c,K.out];simp only[Ew];rw[Gb 1 j,A6,<-hB];exact hv
  have ae:w2.there gs (x.1*64) 64:=by intro j hj;have f:=a.rest.sec;have z:=nf (cL (d.wait.take i) d.safe) a.rest.v1;rw[b]at z;refine⟨?_,fH w2 gs _ _ _ f⟩;rw[cG f,Nt (by rw[jO];show _<(iX (cL (d.wait.take i) d.safe)).length;rw[z];omega)];rfl
  have O:prog.underlying 193=some (.array 64 5):=Qd;have Y:(prog.info? 193).map (·.size)=some B.length:=by rw[P];kernel_rfl
  have IB:∀v∈B,v.oneCell'=true:=hB▸jv _;have a1:pl.block≠gs:=λe=>ag (e▸HV.rest.ss)
  have N:bd≠gs:=HV.rest.n1;have ad:=cm HV.rest.sec;have T:Hid (ix (w2.drew.setCells gs (x.1*64) B) S 1 bd gs bm m (.slice (yS gw 0) q cw) {d with safe:=cL (d.wait.take (i+1)) d.safe}):=by have h1:ix w2.drew S 1 bd gs bm m (.slice (yS gw 0) q cw) {d with safe:=cL (d.wait.take i) d.safe}:=a.keep (dw w2.heap.size w2).drew;have h2:=(h1.setSec x.1 (by show x.1<(cL (d.wait.take i) d.safe).length;rw[b];exact o) x.2 I).1;rw[<-hB]at h2;rw[vr _ _ i F,<-a5.out];exact h2
  have a3:Hid (cq S w (w2.drew.setCells gs (x.1*64) B)):=by have h1:ix w2.drew S 1 bd gs bm m (.slice (yS gw 0) q cw) {d with safe:=cL (d.wait.take i) d.safe}:=a.keep (dw w2.heap.size w2).drew;have h2:=(h1.setSec x.1 (by show x.1<(cL (d.wait.take i) d.safe).length;rw[b];exact o) x.2 I).2;rw[<-hB]at h2;exact HS.trans ((jz S l).drew.trans h2)
  have a8:(x.1:Int)<n:=oM;clear a c b hB s D;go_frame
  go_region_held3 (λw'=>w'.cell? pl=some (yP bd)/\w'.cell? (yA bd 2)=some (.slice (yS gs 0) n n)/\w'.cell? (yA wr.heap.size 0)=some (.int .i64 x.1)/\w'.rangeAt wr.heap.size 1 B/\w'.there gs (x.1*64) 64) ((go_split_ands;((repeat' constructor)<;>first|assumption|(rw[nZ];assumption)|(rw[Qv];assumption)|(rw[World.there_drew];assumption)|(apply World.there_setCells;assumption)|(refine RH (by assumption) _ _ _ oM)|(rw[World.cell?_setCells_out _ _ _ _ _ (by intro h1 h2;first|exact absurd h1 a1|exact absurd h1 N|exact absurd h1 (by show wr.heap.size≠gs;omega))];assumption)))) (fail)
  go_wp2
  go_roundw
  .exact⟨i+1,oM,by go_num,T,a3⟩
  exact mS
 obtain⟨i1,W⟩:=eX (i);subst W;have a0:Hid (ix wr S 1 bd gs bm m (.slice ao q cw) {d with safe:=cL d.wait d.safe}):=by have h1:=HV;rw[pK (by rw[<-HQ.out];omega)]at h1;exact h1
 have X:wr.cell? pl=some (yP bd):=HS.cell ag HP;have HF:Hid (Calls prog 101 #[yP bd] wr λe w'=>e=.returned (.tuple #[])/\Hid (ix w' S 1 bd gs bm m (.slice none 0 0) {d with safe:=cL d.wait d.safe,wait:=[]})/\Hid (cq S wr w')):=ug bd gs bm m S 1 _ _ wr a0;clear HV
 go_wp2_with fail
 refine HF.mono ?_;rintro e w3 ⟨rfl,a6,M⟩
 go_wp2
 go_end0
 exact⟨rfl,⟨_,_,_,a6⟩,HS.trans M⟩
def cX.flush(d:cX):cX:=if d.op.down then d.op else{d.op with safe:=cL d.op.wait d.op.safe,wait:=[]}
theorem Up.flush(h:Up d):d.flush={d with safe:=cL d.wait d.safe,wait:=[]}:=by unfold cX.flush;rw[h.dn,h.op];rfl
theorem xa(bd m:Nat)(S:Nat->Prop)(d:cX)(w:World)(h:cD w S bd m d)(p:Up d)(n:d.wait.length<=1000000)(q:d.safe.length<=4096)(o:∀g,S g->g<w.heap.size):
  Calls prog 141 #[yP bd] w λe w'=>e=.returned .nilIface/\cD w' S bd m d.flush/\cq S w w':=by
 have l:=Mf;obtain⟨w1,a⟩:=eX (w.alloc (.cells #[yP bd] 30));have b:cq (λ_=>False) w w1:=a▸cq.alloc0 w _;have h1:=h.on b (λ_ _ h=>h);have f:w1.cell? (yA w.heap.size 0)=some (yP bd):=by rw[a];simp
 have c:¬S w.heap.size:=λh=>by have:=o _ h;omega
 have k:S bd:=by obtain⟨_,_,_,h⟩:=h;exact h.rest.sb
 have HO:Hid (Calls prog 214 #[yP bd,.func (.func 216) #[] #[yP w.heap.size]] w1 λe w'=>e=.returned .nilIface/\Hid (cD w' S bd m d.flush)/\Hid (cq S w w')):=by
  rw[p.flush];refine(ub _ (.inr rfl) bd m m S S S d {d with safe:=cL d.wait d.safe,wait:=[]} _ w1 h1 p (λ_ h=>h) (λ_ h=>h) (λw2 gs bm wv hv i=>?_)).mono ?_
  .have j:w2.cell? (yA w.heap.size 0)=some (yP bd):=i.cell (by show¬w.heap.size=bd;rintro rfl;exact c k) f;exact LF bd gs bm m S wv d (yA w.heap.size 0) w2 hv j c n q
  rintro e w3 ⟨rfl,h3,s3⟩;exact⟨rfl,h3,(b.weak (λ_ h=>h.elim)).trans s3⟩
 rw[a]at HO;clear a b h1 f h p n q o w1;go_enter func141,ntmps141
 go_wp2_with (go_at_call 214;refine HO.mono ?_;rintro e w3 ⟨rfl,H3,S3⟩)
 go_ret;exact⟨rfl,H3,S3.out⟩
theorem DS(j m:Nat)(S:Nat->Prop)(d:cX)(n:Option Addr)(o:Nat)(w:World)(h:cD w S j m d)(l:Up d)(k:d.wait=[]):
  Calls prog 59 #[yP j,.slice n 0 o] w λe w'=>e=.returned (.tuple #[])/\cD w' S j m d/\cq S w w':=by
 obtain⟨gs,bm,wv,h⟩:=h;have c0:w.cell? (yA j 0)=some (.int .i32 0):=cG h.blk;have f0:=fH w j 0 _ _ h.blk;obtain⟨h1,s1⟩:=h.lockTo 1;obtain⟨W1,b⟩:=eX (w.setCell (yA j 0) (.int .i32 1));rw[<-b]at h1 s1;have HF:Hid (Calls prog 101 #[yP j] W1 λe w'=>e=.returned (.tuple #[])/\Hid (ix w' S 1 j gs bm m (.slice none 0 0) {d with wait:=[]})/\Hid (cq S W1 w')):=ug j gs bm m S 1 _ _ W1 h1;have HD:Hid (({d with wait:=[],fuse:=0,down:=false}:cX)=d):=by show _=_;rw[<-k,<-l.f,<-l.d]
 have HS:=Hid.mk' s1;clear h h1 s1 l k
 go_enter_defers func59,ntmps59
 go_wp2_with (go_at_call 57;refine(kh (yA j 0) _ c0 f0).mono ?_;rintro e w' ⟨rfl,rfl⟩)
 rw[<-b];clear c0 f0 b;go_loopw [16] (λc wr=>c=.int .i64 0/\Hid (wr=W1)) (λ_ _=>0)
 .exact⟨rfl,rfl⟩
 obtain⟨rfl,hw⟩:=hrel;obtain rfl:=hw.out;clear hw
 go_wp2_with fail
 refine HF.mono ?_;rintro e w3 ⟨rfl,a,g⟩;have c5:w3.cell? (yA j 5)=some (.int .i64 d.fuse):=cG a.blk;have c6:w3.cell? (yA j 6)=some (.bool d.down):=cG a.blk;have f5:=fH w3 j 5 _ _ a.blk;have f6:=fH w3 j 6 _ _ a.blk
 go_wp2
 obtain⟨h4,s4⟩:=a.setFuse 0;obtain⟨h5,s5⟩:=h4.setDown false;refine Jk (f:=58) (args:=#[yP j]) sI (by simp[go_sem]) ?_;refine(fj (yA j 0) .returning _ (cG h5.blk) (fH _ _ _ _ _ h5.blk)).mono ?_;rintro e u' i ⟨rfl,rfl,hw⟩;obtain⟨h6,s6⟩:=h5.lockTo 0;rw[<-hw]at h6 s6;exact⟨_,MR rfl _ _ _,rfl,HD▸⟨_,_,_,h6⟩,HS.trans (g.trans (s4.trans (s5.trans s6)))⟩
end
end Go.Proofs.YtapijhhmjjplmaaGreatDoor

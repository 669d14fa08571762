import Derived.Test.YtapijhhmjjplmaaGreatDoorJonce21
namespace Go.Proofs.YtapijhhmjjplmaaGreatDoor
set_option linter.all false
set_option maxRecDepth 100000
set_option maxHeartbeats 4000000
open Go.Proofs.Tryz
variable {ops:Array Oper}{uA:Array Value}{d:cX}{Q:Exit→Act→World→Prop}{uD:List Deferred}{rest:List Oper}{xs:List Value}{n B k bd m at_ i:Nat}{U S:Nat→Prop}{op:Oper}{e:TypeId}{v p0 bv:Value}{w w' wr:World}
section
open Go.RowKit
theorem Na(Q:Exit->Act->World->Prop)(n k a u x:Nat)(t X:ByteArray)(w:World)(y:X=⟨#[UInt8.ofNat u,UInt8.ofNat x,UInt8.ofNat k]⟩)(C:k<=255)(z:u<=255)(A:x<=255)(_hti:(t.size:Int)<=60000)(D:(t.size:Int)/256=(a:Int))(E:IntKind.u8.wrap (a:Int)=(u:Int))(F:IntKind.u8.wrap (t.size:Int)=(x:Int))(r:∀V,Calls prog 144 #[.int .u32 n] V λe w'=>e=.returned (.string (fb n))/\Below V.heap.size V w')(s:∀V,Below w.heap.size w V->∀uB,uP uA uB [11,17,18,19,20,21,22,23,24,25,26,27,28,29] [(11,.string (X++fb n))]->Q .normal ⟨uB,uD⟩ V)(hz:uA.size=56:=by rfl)(s1:gD uA 1=.int .u8 k:=by rfl)(s2:gD uA 2=.string t:=by rfl)(s10:gD uA 10=.int .u32 n:=by rfl):(Code.region 2 (rg f163 2) true).wp prog Q ⟨uA,uD⟩ w:=by
 have f:∀(V:World)(B:Nat),V.heap[B]?=some (.cells #[.int .u8 u,.int .u8 x,.int .u8 k] 5 (0,0))->(convert 134 9 (.slice (yS B 0) 3 3)).run prog V=.ok (.string X) V:=by
  intro V B hV;rw[y];refine KH (P:=prog) _ 134 9 5 (yA B 0) 3 [UInt8.ofNat u,UInt8.ofNat x,UInt8.ofNat k] yE I0 xV ?_;have hb:∀m:Nat,m<=255->(UInt8.ofNat m).toNat=m:=λm hm=>by rw[MJ];omega
  have p:V.cell? (yA B 0)=some (.int .u8 u):=cG hV;have i:V.cell? (yA B 1)=some (.int .u8 x):=cG hV;have o:V.cell? (yA B 2)=some (.int .u8 k):=cG hV;intro j hj
  match j,hj with
  |0,_=>simp[Addr.add,hb _ z,p]
  |1,_=>simp[Addr.add,hb _ A,i]
  |2,_=>simp[Addr.add,hb _ C,o]
 have q:X.size+(fb n).size<=9223372036854775807:=by rw[gL,y];show 3+4<=_;omega
 clear y;refine rH (λ_=>True) 14 trivial (λR hQ hn=>?_);refine tK hQ 0 trivial ?_;refine tK hQ 1 trivial ?_;refine tK hQ 2 trivial ?_;refine tK hQ 3 trivial ?_;refine tK hQ 4 trivial ?_;refine tK hQ 5 trivial ?_;refine tK hQ 6 trivial ?_;refine tK hQ 7 trivial ?_;refine tK hQ 10 trivial ?_;refine rF 8 11 (λK hK=>?_) (λK hK=>?_)
 .go_simp;refine hK.out _ _ trivial (λ_=>?_)
  try simp only[Act.put]
  obtain⟨W1,d⟩:=eX ((w.alloc (.cells #[.int .u8 u,.int .u8 x,.int .u8 k] 5)).drew);have g:W1.heap[w.heap.size]?=some (.cells #[.int .u8 u,.int .u8 x,.int .u8 k] 5 (0,0)):=d▸dM w _;have b:Below w.heap.size w W1:=by rw[d];exact((dw _ _).alloc (cO _) _).drew
  have h:=cm g;rw[<-d];clear d;refine rF 9 11 (λK hK=>?_) (λK hK=>?_)
  .have hc:=f W1 w.heap.size g;go_simp;refine hK.out _ _ trivial (λ_=>?_)
   try simp only[Act.put]
   refine rO 11 (λK hK=>?_);go_simp;go_at_call 144;refine(r W1).mono ?_;rintro e W2 ⟨rfl,c⟩;refine hK.out _ _ trivial (λ_=>?_)
   try simp only[Act.put]
   refine tK hQ 12 trivial ?_ (v:=.string (X++fb n));refine tK hQ 13 trivial ?_;exact rD (hn (s _ (b.trans (c.mono b.size)) _ uQ))
  .go_simp;go_at_call 144;refine(r W1).mono ?_;rintro e W2 ⟨rfl,c⟩;refine hK.out _ _ trivial (λ_=>?_)
   try simp only[Act.put]
   refine rO 9 (λK hK=>?_);have hc:=f W2 w.heap.size (by rw[c.block _ h];exact g);go_simp;refine hK.out _ _ trivial (λ_=>?_)
   try simp only[Act.put]
   refine tK hQ 12 trivial ?_ (v:=.string (X++fb n));refine tK hQ 13 trivial ?_;exact rD (hn (s _ (b.trans (c.mono b.size)) _ uQ))
 .go_simp;go_at_call 144;refine(r w.drew).mono ?_;rintro e W1 ⟨rfl,l⟩;refine hK.out _ _ trivial (λ_=>?_)
  try simp only[Act.put]
  have b:Below w.heap.size w W1:=(dw _ _).drew.trans l;refine rO 8 (λK hK=>?_);go_simp;refine hK.out _ _ trivial (λ_=>?_)
  try simp only[Act.put]
  refine rO 9 (λK hK=>?_);have hc:=f (W1.alloc (.cells #[.int .u8 u,.int .u8 x,.int .u8 k] 5)) W1.heap.size (dM W1 _);go_simp;refine hK.out _ _ trivial (λ_=>?_)
  try simp only[Act.put]
  refine tK hQ 12 trivial ?_ (v:=.string (X++fb n));refine tK hQ 13 trivial ?_;exact rD (hn (s _ (b.alloc b.size _) _ uQ))
theorem LE(Q:Exit->Act->World->Prop)(b y q n c:Nat)(k l:Int)(s:ByteArray)(w:World)(j:w.heap[b]?=some (.cells #[.int .i64 y,.int .u32 k,.int .u32 l] 119 (0,0)))(m:w.heap[b+1]?=some (.cells #[.int .i64 0,.int .u32 0,.int .u32 0] 119 (0,0)))(o:s.size=q*64)(p:q<=100000)(r:y<=1000000)(i:∀V,V=w.drew.setRow (b+1) #[.int .i64 (y+q:Nat),.int .u32 n,.int .u32 c]->∀uB,uP uA uB [8,46,47,48,49,50,51,52,53,54,55] [(8,.string s)]->Q .normal ⟨uB,uD⟩ V)(hz:uA.size=56:=by rfl)(s4:gD uA 4=(yP b):=by rfl)(s9:gD uA 9=(yP (b+1)):=by rfl)(s10:gD uA 10=.int .u32 n:=by rfl)(s12:gD uA 12=.int .u32 c:=by rfl)(s13:gD uA 13=.string s:=by rfl):(Code.region 5 (rg f163 5) true).wp prog Q ⟨uA,uD⟩ w:=by
 have hc:∀V:World,V.heap[b]?=some (.cells #[.int .i64 y,.int .u32 k,.int .u32 l] 119 (0,0))->V.cell? (yA b 0)=some (.int .i64 y):=λV hV=>cG hV
 have f:(s.size:Int)/64=(q:Int):=oM;have h:Int.tdiv (s.size:Int) 64=(q:Int):=by rw[OT (by omega)];omega
 have g:IntKind.i64.wrap (q:Int)=(q:Int):=by rw[pH];omega
 have e:IntKind.i64.wrap ((y:Int)+(q:Int))=((y+q:Nat):Int):=by rw[pH];omega
 have a:=j;have d:(w.drew.setRow (b+1) #[.int .i64 (y+q:Nat),.int .u32 n,.int .u32 c]).heap[b]?=some (.cells #[.int .i64 y,.int .u32 k,.int .u32 l] 119 (0,0)):=by rw[l7 _ _ _ _ (by omega)];exact j
 refine rH (λV=>V.heap[b]?=some (.cells #[.int .i64 y,.int .u32 k,.int .u32 l] 119 (0,0))) 12 a (λR hQ hn=>?_);refine tK hQ 0 a ?_;refine tK hQ 1 a ?_;refine tK hQ 2 a ?_ (v:=.int .i64 y) (hv:=by intro V hV;have q0:=hc V hV;go_simp);refine tK hQ 3 a ?_;refine tK hQ 4 a ?_;refine tK hQ 5 a ?_;refine tK hQ 6 a ?_;refine tK hQ 7 a ?_;refine tK hQ 8 a ?_;refine tK hQ 9 a ?_;refine tK hQ 10 a ?_;have hX:w.drew.setRow (b+1) #[.int .i64 (y+q:Nat),.int .u32 n,.int .u32 c]=w.drew.setRow (b+1) #[.int .i64 (y+q:Nat),.int .u32 n,.int .u32 c]:=rfl;refine rS 11 (b+1) #[.int .i64 (y+q:Nat),.int .u32 n,.int .u32 c] m d ?_;exact rD (hn (i _ hX _ uQ))
def Fx(T:TypeId)(n o:Nat):Prop:=(T=282/\n=2/\o=0)\/(T=284/\n=14/\o=9)
theorem Fx.lies{T:TypeId}{o:Nat}(h:Fx T n o):liesAt prog prog.depth T (n/prog.cellsOf T) o 282 1=true:=by
 rcases h with⟨rfl,rfl,rfl⟩|⟨rfl,rfl,rfl⟩<;>kernel_rfl
theorem Fx.lt{T:TypeId}{o:Nat}(h:Fx T n o):o+1<n:=by
 rcases h with⟨rfl,rfl,rfl⟩|⟨rfl,rfl,rfl⟩<;>omega
theorem C9:∃j,prog.info? 282=some j/\j.size=2:=by
 have h:((prog.info? 282).map (·.size))=some 2:=kR;obtain⟨j,hj,e⟩:=Option.map_eq_some_iff.1 h;exact⟨j,hj,e⟩
theorem Bq:∃i,prog.info? 5=some i/\i.zero=some (.int .u8 0)/\i.size=1/\i.bytes=1:=by
 have h:((prog.info? 5).bind λi=>i.zero.map λz=>(z,i.size,i.bytes))=some (.int .u8 0,1,1):=kR
 cases hi:prog.info? 5 with
 |none=>rw[hi]at h;cases h
 |some i=>
  rw[hi]at h
  cases hz:i.zero with
  |none=>simp[hz]at h
  |some z=>
   simp[hz]at h;exact⟨i,rfl,by rw[hz,h.1],h.2.1,h.2.2⟩
theorem G4(g o:Nat)(w:World)(a:w.cell? (yA g o)=some (.pointer (yS g o))):
  Calls prog 261 #[.pointer (yS g o)] w λe w'=>e=.returned (.tuple #[])/\w'=w:=by
 obtain⟨j,hj,-⟩:=C9;go_enter func261,ntmps261
 go_wp2
 rw[Lib.run_neq_ptr_same w _ underlying280 hj]
 go_wp2
 go_end0
 exact⟨rfl,rfl⟩
theorem DN(T:TypeId)(n g o:Nat)(w:World)(c:Fx T n o)(f:w.cell? (yA g o)=some (.pointer none))(b:w.shape? g=some (T,n))(d:w.frozen? (yA g o)=false):
  Calls prog 261 #[.pointer (yS g o)] w λe w'=>e=.returned (.tuple #[])/\w'=w.setCell (yA g o) (.pointer (yS g o)):=by
 obtain⟨j,hj,a⟩:=C9;go_enter func261,ntmps261
 go_wp2
 rw[Lib.run_to_unsafe w (yA g o) underlying280 PO hj (by rw[a];decide) b (show o<n by have:=c.lt;omega)];simp only[Result.andThen];rw[Qq]
 go_wp2
 rw[DO func282 (by kernel_rfl) (by kernel_rfl) (by kernel_rfl) (e:=Extern.AbiNoEscape.same) (by kernel_rfl)];rw[Lib.run_noEscape];simp only[Result.andThen];rw[Qq]
 go_wp2
 rw[Lib.run_from_unsafe w (yA g o) PO underlying280 hj b c.lies];simp only[Result.andThen];rw[Qq]
 go_wp2
 go_end0
 exact⟨rfl,rfl⟩
theorem vF(w:World)(B:Nat)(ty:TypeId)(v:Value)(n:Nat)(xs:List Value)(q:w.ownsRow B 5 1 v n xs)(s:ByteArray)(r:n+s.size<=10000000)(t:B<=w.heap.size):
  ∃v' w',(Builtin.append_ #[134,9] ty #[v,.string s]).run prog w=.ok v' w'/\w'.ownsRow B 5 1 v' (n+s.size) (xs++Lib.strCells s)/\w.grownBy w' v.ownBlock/\(v'.ownBlock=v.ownBlock\/v'.ownBlock=some w.heap.size)/\(v'=.slice none 0 0↔v=.slice none 0 0/\s.size=0):=by
 obtain⟨i0,hi,c,d,f⟩:=Bq;have hu:=yE;have hs:=xV;obtain⟨v',w',hr,h2,h3,h4⟩:=Lib.run_append_own_string (P:=prog) w B 134 9 ty 5 i0 hu hs hi c d f v n xs q s (by unfold maxLen;omega) oM t;refine⟨v',w',hr,h2,h3,?_,h4⟩;rcases q.2 with⟨rfl,rfl⟩|⟨g,a,k,rfl,o,hg,l,m,p,i⟩
 .by_cases hm:s.size=0
  .rw[h4.2 ⟨rfl,hm⟩];exact .inl rfl
  rw[run_append_nil_string (P:=prog) w 134 9 ty 5 i0 (.int .u8 0) hu hs hi c s (by omega) (by omega) (by rw[f];omega)]at hr;injection hr with e1 e2;rw[<-e1];exact .inr rfl
 by_cases b:n+s.size<=a
 .rw[Lib.run_append_room_string (P:=prog) w 134 9 ty 5 i0 hu hs hi d g n a k hg s b (by omega)]at hr;injection hr with e1 e2;rw[<-e1];exact .inl rfl
 have e:∀j u,xs[j]?=some u->w.cell? (((yA g 0):Addr).add j)=some u:=q.cells (g:=g) rfl;have h:xs.length=n:=by simpa using q.1
 rw[Lib.run_append_grow_string (P:=prog) w 134 9 ty 5 i0 (.int .u8 0) hu hs hi c (yA g 0) n a xs (by rw[d];simpa using h) e s (by omega) (by omega) (f▸growslice_fits (by omega) (by omega))]at hr;injection hr with e1 e2;rw[<-e1];exact .inr rfl
theorem nQ{ops:Array Oper}{rest:List Oper}{a:Act}{w:World}{Q:Exit->Act->World->Prop}(d:op.guard=none)(e x:Operand)(f:op.op=.call {callee:=.builtin .append,args:=#[e,x],argTypes:=#[134,9]})(B:Nat)(v:Value)(n:Nat)(xs:List Value)(g:a.eval e=v)(b:w.ownsRow B 5 1 v n xs)(s:ByteArray)(i:a.eval x=.string s)(c:n+s.size<=10000000)(j:B<=w.heap.size)(h:∀v' w',w'.ownsRow B 5 1 v' (n+s.size) (xs++Lib.strCells s)->w.grownBy w' v.ownBlock->(v'.ownBlock=v.ownBlock\/v'.ownBlock=some w.heap.size)->(v'=.slice none 0 0↔v=.slice none 0 0/\s.size=0)->wpList prog ops Q rest (a.put op.dst v') w'):wpList prog ops Q (op::rest) a w:=by
 refine ND d λK hK=>?_
 obtain⟨v',w',hr,h2,h3,h4,h5⟩:=vF w B op.type v n xs b s c j;unfold Oper.wp execOp;simp only[f,resolve,invoke,builtin,K7,QJ,Ql,IW,vj,J6,g,i,hr];exact hK _ _ (h v' w' h2 h3 h4 h5)
structure mO (w:World) (T:TypeId) (g o:Nat) (cs:Array Value) (bv:Value) (l:List UInt8):Prop where
 row:w.heap[g]?=some (.cells cs T (0,0))
 kind:Fx T cs.size o
 c0:cs[o]?=some (.pointer none)\/cs[o]?=some (.pointer (yS g o))
 c1:cs[o+1]?=some bv
 own:w.ownsRow 0 5 1 bv l.length (Lib.byteCells l)
 ne:bv.ownBlock≠some g
 nil:l=[]->bv=.slice none 0 0
def pm(g:Nat)(bv:Value)(q:Nat):Prop:=q=g\/some q=bv.ownBlock
def pC(w:World)(T:TypeId)(g o:Nat)(cs:Array Value)(bv:Value)(l:List UInt8)(w':World):Prop:=∃bv',mO w' T g o ((cs.setIfInBounds o (.pointer (yS g o))).setIfInBounds (o+1) bv') bv' l/\cq (pm g bv) w w'/\(∀q,bv'.ownBlock=some q->some q=bv.ownBlock\/w.heap.size<=q)
theorem rn(w:World)(T:TypeId)(g o:Nat)(c:Array Value)(bv:Value)(l:List UInt8)(h:mO w T g o c bv l):
  Calls prog 261 #[.pointer (yS g o)] w λe w'=>e=.returned (.tuple #[])/\mO w' T g o (c.setIfInBounds o (.pointer (yS g o))) bv l/\cq (·=g) w w':=by
 have b:=h.kind.lt;have a:o≠o+1:=oM;rcases h.c0 with h0|h0
 .refine(DN T c.size g o w h.kind ((cG h.row).trans h0) (by simp[World.shape?,h.row]) (fH w g o _ _ h.row)).mono ?_;rintro e w' ⟨rfl,rfl⟩;refine⟨rfl,⟨gE _ _ _ _ _ _ h.row,by rw[JQ];exact h.kind,.inr ?_,?_,cI h.own (λq hq=>lq _ _ _ _ (λe=>h.ne (by rw[hq,e]))),h.ne,h.nil⟩,(cq.refl (·=g) w).setCell (yA g o) rfl _⟩
  .rw[wU,dq rfl,dq (by omega)]
  rw[wU,dj a];exact h.c1
 refine(G4 g o w ((cG h.row).trans h0)).mono ?_;rintro e w' ⟨rfl,rfl⟩
 have e:c.setIfInBounds o (.pointer (yS g o))=c:=by
  apply N7;intro i;rw[wU];split
  .rename_i e;subst e;rw[dq (by omega),h0]
  .rfl
 rw[e];exact⟨rfl,h,cq.refl _ _⟩
theorem oE(w:World)(T:TypeId)(g o:Nat)(m:Array Value)(bv:Value)(l:List UInt8)(s:ByteArray)(h:mO w T g o m bv l)(p:l.length+s.size<=10000000):
  Calls prog 211 #[.pointer (yS g o),.string s] w λe w'=>e=.returned (.tuple #[.int .i64 s.size,.nilIface])/\pC w T g o m bv (l++s.data.toList) w':=by
 have HC:=hD (rn w T g o m bv l h);have f:=h.kind.lt;have k:(s.size:Int)<=10000000:=oM;have HZ:=hD f;clear h f;go_enter func211,ntmps211
 go_wp2_with fail
 refine HC.out.mono ?_;rintro e w1 ⟨rfl,hM,hS⟩;have HM:=hD hM;have HS:=hD hS;have c1:w1.cell? (yA g (o+1))=some bv:=(cG hM.row).trans hM.c1;obtain⟨ba,bc,rfl⟩:=cQ hM.own;clear hM hS HC
 go_wp2_with (refine nQ rfl _ _ rfl 0 _ _ _ rfl HM.out.own s rfl p (fP _) ?_;intro v2 w2 a d c b;obtain⟨va,vc,rfl⟩:=cQ a;have j:=Hid.mk' b;clear b;have HG:Hid (w1.grownBy w2 (Value.slice ba l.length bc).ownBlock):=d;have HO:Hid (w2.ownsRow 0 5 1 (.slice va (l.length+s.size) vc) (l.length+s.size) (Lib.byteCells l++Lib.strCells s)):=a;have r2:w2.heap[g]?=some (.cells (m.setIfInBounds o (.pointer (yS g o))) T (0,0)):=(by rw[d.block g (cm HM.out.row) (λe=>HM.out.ne e.symm)];exact HM.out.row);have R2:Hid (w2.heap[g]?=some (.cells (m.setIfInBounds o (.pointer (yS g o))) T (0,0))):=r2;have d1:w2.cell? (yA g (o+1))=some (.slice ba l.length bc):=(cG r2).trans HM.out.c1;have f1:w2.frozen? (yA g (o+1))=false:=fH w2 g (o+1) _ _ r2;have HN:Hid ((Value.slice va (l.length+s.size) vc).ownBlock=(Value.slice ba l.length bc).ownBlock\/(Value.slice va (l.length+s.size) vc).ownBlock=some w1.heap.size):=c;clear a d c r2 c1)
 refine gh (lB rfl _ _ _) rfl ?_;have hz:=HZ.out
 have i:(Value.slice va (l.length+s.size) vc).ownBlock≠some g:=by
  have hg:=cm HM.out.row;rcases HN.out with e|e
  .rw[e];exact HM.out.ne
  rw[e];intro e;injection e with e;omega
 refine⟨rfl,.slice va (l.length+s.size) vc,⟨gE _ _ _ _ _ _ R2.out,?_,.inr ?_,?_,?_,i,?_⟩,?_,?_⟩
 .rw[JQ];exact HM.out.kind
 .rw[wU,dj (by omega),wU,dq rfl,dq (by omega)]
 .rw[wU,dq rfl,dq (by rw[JQ];exact hz)]
 .have e1:(l++s.data.toList).length=l.length+s.size:=by rw[ir];rfl
  have e2:Lib.byteCells (l++s.data.toList)=Lib.byteCells l++Lib.strCells s:=by unfold Lib.byteCells Lib.strCells;rw[qA]
  rw[e1,e2];exact cI HO.out (λq hq=>lq _ _ _ _ (λe=>i (by rw[hq,e])))
 .intro e;obtain⟨e1,e2⟩:=List.append_eq_nil_iff.1 e;exact j.out.2 ⟨HM.out.nil e1,by rw[<-show s.data.toList.length=s.size from rfl,e2];rfl⟩
 .have h1:cq (pm g (.slice ba l.length bc)) w w1:=HS.out.weak λq hq=>.inl hq
  have h2:cq (pm g (.slice ba l.length bc)) w1 w2:=cq.of_grown HG.out (λq e=>.inr e.symm);exact(h1.trans h2).setCell _ (.inl rfl) _
 intro q hq;have hz:=HS.out.size;rcases HN.out with e|e
 .exact .inl (by rw[<-e,hq])
 rw[e]at hq;injection hq with hq;exact .inr oM
theorem Kq(w:World)(T:TypeId)(g o:Nat)(a:Array Value)(bv:Value)(l:List UInt8)(h:mO w T g o a bv l):
  Calls prog 212 #[.pointer (yS g o)] w λe w'=>e=.returned (.int .i64 l.length)/\w'=w:=by
 have c1:w.cell? (yA g (o+1))=some bv:=(cG h.row).trans h.c1;obtain⟨ba,bc,rfl⟩:=cQ h.own;clear h;go_enter func212,ntmps212
 go_wp2
 go_ret;exact⟨rfl,rfl⟩
theorem po(w:World)(T:TypeId)(g o:Nat)(v:Array Value)(bv:Value)(l:List UInt8)(h:mO w T g o v bv l)(t:l≠[])(u:l.length<=10000000):
  Calls prog 213 #[.pointer (yS g o)] w λe w'=>e=.returned (.string ⟨l.toArray⟩)/\cq (pm g bv) w w':=by
 have c1:w.cell? (yA g (o+1))=some bv:=(cG h.row).trans h.c1;have n:l.length≠0:=by simpa using t
 have i:=h.ne;rcases h.own.2 with⟨-,hn⟩|⟨q,d,c,rfl,-,hq,r,-,m,f⟩
 .exact absurd hn n
 have p:q≠g:=λe=>i (by rw[e];rfl)
 have a:∀V,(Builtin.unsafeSliceData_ #[134] 403 #[.slice (yS q 0) l.length d]).run prog V=.ok (yP q) V:=λV=>Rv V _ _ _ _ _ oM
 have b:(Builtin.unsafeString_ #[403,3] 9 #[yP q,.int .i64 l.length]).run prog w.drew=.ok (.string ⟨l.toArray⟩) (w.drew.freeze (yA q 0) l.length):=by
  have k:w.drew.shape? q=some (5,c.size):=by show w.shape? q=_;simp[World.shape?,hq]
  refine Lib.run_unsafeString_row (P:=prog) w.drew _ _ _ 5 underlying403 kR q c.size k l t oM oM ?_;intro j x hj;have e:((yA q 0):Addr).add j=(yA q j):=by simp[Addr.add];omega
  have s:=(List.getElem?_eq_some_iff.1 hj).1;rw[e,nZ,cG hq,<-kX];have ht:(c.toList.take (l.length*1))[j]?=some (.int .u8 x.toNat):=by rw[f];unfold Lib.byteCells;rw[JH,hj];rfl
  rw[LZ,dq (by omega)]at ht;exact ht
 clear h f m hq;go_enter func213,ntmps213;go_upto_region 1 with fail
 refine kQ (It _ g o q d l w c1 p a b (λV hX uB hU=>?_));have HX:=hD hX;refine nU hU ?_;clear hX a b
 go_wp2
 go_ret;refine⟨rfl,?_⟩;rw[HX.out];exact(cq.refl _ w).drew.freeze _ (.inr rfl) _
theorem nX(g o:Nat)(w:World)(hc:w.cell? (yA g (o+1))=some (.slice none 0 0)):
  Calls prog 213 #[.pointer (yS g o)] w λe w'=>e=.returned (.string ⟨#[]⟩)/\Below w.heap.size w w':=by
 have a:∀V,(Builtin.unsafeSliceData_ #[134] 403 #[.slice none 0 0]).run prog V=.ok (.pointer none) V:=λV=>Lib.run_unsafeSliceData_nil V _ _ _ _
 have b:∀V,(Builtin.unsafeString_ #[403,3] 9 #[.pointer none,.int .i64 0]).run prog V=.ok (.string ⟨#[]⟩) V:=λV=>Lib.run_unsafeString_none V _ _ _ _
 go_enter func213,ntmps213;go_upto_region 1 with fail
 refine kQ (JY _ g o w hc a b (λV hX uB hU=>?_));subst hX;refine nU hU ?_
 go_wp2
 go_ret;exact⟨rfl,(dw _ _).drew⟩
theorem MN(Q:Exit->Act->World->Prop)(S:World->Prop)(b c a k y z:Nat)(A:Array Value)(w:World)(e:S w.drew)(g:S (w.drew.alloc (.cells #[.int .i64 0,.int .i64 0] 361)))(h:S (w.drew.alloc (.cells #[.int .i64 y,.int .i64 z] 361)))(hc:∀V,S V->V.cell? (yA b (4+k))=some (.map (some a))/\V.rangeAt c 0 A.toList/\(Instr.lookup 115 (.map (some a)) (.agg A) false).run prog V=.ok (.agg #[.int .i64 y,.int .i64 z]) V)(i:(prog.info? 131).map (·.size)=some A.toList.length)(j:(0:Int)<=k)(l:(k:Int)<4)(f:∀V,V=w.drew.alloc (.cells #[.int .i64 y,.int .i64 z] 361)->∀uB,uP uA uB [8,11,12,13,14,15,16,17,18] [(8,yP w.heap.size)]->Q .normal ⟨uB,uD⟩ V)(hz:uA.size=38:=by rfl)(s0:gD uA 0=(yP b):=by rfl)(s1:gD uA 1=.int .u8 k:=by rfl)(s5:gD uA 5=(yP c):=by rfl):(Code.region 1 (rg f267 1) true).wp prog Q ⟨uA,uD⟩ w:=by
 have d:=kb;refine rH S 10 e (λR hQ hn=>?_);refine tK hQ 0 e ?_;refine tK hQ 1 e ?_;refine tK hQ 2 e ?_;refine tK hQ 3 e ?_;refine tK hQ 4 e ?_;refine tK hQ 5 e ?_;refine tM hQ 6 c 0 A (λV hV=>(hc V hV).2.1) d i e ?_;refine tK hQ 7 e ?_;refine rO 8 (λK hK=>?_);go_simp;refine hK.out _ _ g (λ_=>?_)
 try simp only[Act.put]
 refine rO 9 (λK hK=>?_);go_simp;have hX:w.drew.alloc (.cells #[.int .i64 y,.int .i64 z] 361)=w.drew.alloc (.cells #[.int .i64 y,.int .i64 z] 361):=rfl;refine hK.out _ _ h (λ_=>?_)
 try simp only[Act.put]
 exact rD (hn (f _ hX _ uQ))
theorem Ni(Q:Exit->Act->World->Prop)(S X:World->Prop)(b c o j y z:Nat)(t:ByteArray)(r:Bool)(A:Array Value)(w:World)(f:S w.drew)(hc:∀V,S V->V.cell? (yA b 0)=some (yP j)/\V.cell? (yA o 0)=some (.int .i64 y)/\V.cell? (yA o 1)=some (.int .i64 z)/\V.rangeAt c 0 A.toList)(i:(prog.info? 131).map (·.size)=some A.toList.length)(g:Calls prog 248 #[.agg #[.int .i64 y,.int .i64 z],yP j,.agg A] w.drew λe w'=>e=.returned (.tuple #[.string t,.bool r])/\S w'/\X w')(h:∀V,X V->∀uB,uP uA uB [9,10,19,20,21,22,23,24,25,26,27,28] [(9,.string t),(10,.bool r)]->Q .normal ⟨uB,uD⟩ V)(hz:uA.size=38:=by rfl)(s0:gD uA 0=(yP b):=by rfl)(s5:gD uA 5=(yP c):=by rfl)(s8:gD uA 8=(yP o):=by rfl):(Code.region 2 (rg f267 2) true).wp prog Q ⟨uA,uD⟩ w:=by
 have d:=kb;refine rH S 12 f (λR hQ hn=>?_);refine tK hQ 0 f ?_;refine tK hQ 1 f ?_;refine tK hQ 2 f ?_;refine tK hQ 3 f ?_;refine tK hQ 4 f ?_;refine tM hQ 5 c 0 A (λV hV=>(hc V hV).2.2.2) d i f ?_;refine rO 6 (λK hK=>?_);go_simp;go_at_call 248;refine g.mono ?_;rintro e w2 ⟨rfl,a,hX⟩;refine hK.out _ _ a (λ_=>?_)
 try simp only[Act.put]
 refine tK hQ 7 a ?_;refine tK hQ 8 a ?_;refine tK hQ 9 a ?_;refine tK hQ 10 a ?_;refine tK hQ 11 a ?_;exact rD (hn (h _ hX _ uQ))
end
section
open Go.RowKit Go.Maps
def df(d:cX):List ByteArray:=cL d.wait d.safe
def sH(w:World)(S:Nat->Prop)(bd m:Nat)(d:cX)(at_ i:Nat)(wr:World):Prop:=
 cD wr S bd m d/\cq S w wr/\∃p0 bv,mO wr 282 w.heap.size 0 #[p0,bv] bv (kN (df d) at_ i).data.toList/\(∀q,bv.ownBlock=some q->w.heap.size<=q)
theorem cU(h:w.ownsRow B e k v n xs)(a:cq U w w')(b:∀q,v.ownBlock=some q->¬U q):w'.ownsRow B e k v n xs:=cI h (λq hq=>a.block q (cr h q hq).2 (b q hq))
theorem sH.read(h:sH w S bd m d at_ i wr)(b:∀q,S q->q<w.heap.size)(c:cD w' S bd m d)(a:cq S wr w'):sH w S bd m d at_ i w':=by
 obtain⟨-,h2,p0,bv,hM,hq⟩:=h;refine⟨c,h2.trans a,p0,bv,⟨by rw[a.block _ (cm hM.row) (λh=>by have:=b _ h;omega)];exact hM.row,hM.kind,hM.c0,hM.c1,cU hM.own a (λq e h=>?_),hM.ne,hM.nil⟩,hq⟩;have:=hq q e;have:=b q h;omega
theorem sH.wrote{l:List UInt8}(g:cD wr S bd m d)(f:cq S w wr)(c:∀q,bv.ownBlock=some q->w.heap.size<=q)(j:∀q,S q->q<w.heap.size)(h:pC wr 282 w.heap.size 0 #[p0,bv] bv l w')(o:l=(kN (df d) at_ i).data.toList):sH w S bd m d at_ i w':=by
 obtain⟨a,hM,hs,hn⟩:=h;refine⟨g.on hs (λq b hu=>?_),f.then (hs.weak λq hu=>?_),yP w.heap.size,a,by rw[<-o];exact hM,λq e=>?_⟩
 .have:=j q b;rcases hu with rfl|hu
  .omega
  .have:=c q hu.symm;omega
 .rcases hu with rfl|hu
  .exact .inr (cO _)
  exact .inr (c q hu.symm)
 rcases hn q e with e'|e'
 .exact c q e'.symm
 have:=f.size;omega
def OY(w:World)(S:Nat->Prop)(bd m:Nat)(d:cX)(at_ k:Nat)(e:Ending)(w':World):Prop:=e=.returned (.tuple #[.string (kN (df d) at_ k),.nilIface])/\cD w' S bd m d/\cq S w w'
theorem lK(S:Nat->Prop)(bd m:Nat)(d:cX)(at_ k n:Nat)(w:World)(h:cD w S bd m d)(N:d.safe.length=n)(Q:n<=4096)(M:∀s∈df d,s.size=64)(P:1<=k)(V:k<=100)(O:at_+k<=n):
  Calls prog 218 #[yP bd,.int .i64 at_,.int .i64 k] w λe w'=>OY w S bd m d at_ k e w':=by
 obtain⟨T,hT⟩:=eX (λq=>S q/\q<w.heap.size:Nat->Prop);have l:∀q,T q->q<w.heap.size:=by rw[hT];exact λq h=>h.2
 have p:∀q,T q->S q:=by rw[hT];exact λq h=>h.1
 have hd:cD w T bd m d:=hT▸h.tight;have g:(df d).length=n:=by unfold df;rw[eo,N]
 have u:Hid (sH w T bd m d at_ 0 (w.alloc (.cells #[.pointer none,.slice none 0 0] 282))):=by refine⟨hd.on (T:=λ_=>False) ((cq.refl _ w).alloc _) (λ_ _ h=>h),(cq.refl _ w).alloc _,.pointer none,.slice none 0 0,⟨dM w _,.inl ⟨rfl,rfl,rfl⟩,.inl rfl,rfl,?_,(by intro e;cases e),λ_=>rfl⟩,by intro q e;cases e⟩;exact LR _ 0 _ 1
 have a:Hid ((df d).length=n/\(∀s∈df d,s.size=64)/\(∀q,T q->q<w.heap.size)/\(∀q,T q->S q)/\d.safe.length=n):=⟨g,M,l,p,N⟩
 have F:Hid (∀wr (i:Nat) (x:ByteArray),sH w T bd m d at_ i wr->(df d)[at_+i]?=some x->Calls prog 104 #[yP bd,.int .i64 ((at_:Int)+(i:Int))] wr λe w'=>e=.returned (.tuple #[.string x,.nilIface])/\sH w T bd m d at_ i w'):=by
  intro wr i x hP hx;have r:=(List.getElem?_eq_some_iff.1 hx).1;rw[g]at r;have e:d.at (at_+i) oM=x:=by have:=xZ d.safe (at_+i) oM d.wait;rw[show cL d.wait d.safe=df d from rfl,hx]at this;injection this with this;exact this.symm
  have h1:=ol bd m T d (at_+i) wr hP.1 oM oM;rw[e,show((at_+i:Nat):Int)=(at_:Int)+(i:Int) by omega]at h1;refine iM h1 ?_;rintro e w' ⟨rfl,h2,h3⟩;exact⟨rfl,hP.read l h2 h3⟩
 have I:(n:Int)<=4096:=oM;have J:(k:Int)<=100:=oM;have H:(at_:Int)<=4096:=oM;have L:=yH;clear h N M hd g l p hT;go_enter func218,ntmps218
 go_wp2
 go_loopw [13] (λj wr=>∃i:Nat,i<=k/\j=.int .i64 i/\Hid (sH w T bd m d at_ i wr)) (λj _=>k-(intOf j).toNat)
 .exact⟨0,oM,rfl,u⟩
 clear u;obtain⟨i,hi,rfl,HV⟩:=hrel;by_cases r:i<k
 .have z:(i:Int)<k:=oM;have K:IntKind.i64.wrap ((at_:Int)+(i:Int))=(at_:Int)+(i:Int):=by rw[pH];omega
  have B:at_+i<n:=oM;obtain⟨x,hx⟩:∃x,(df d)[at_+i]?=some x:=⟨_,pI (by rw[a.out.1];exact B)⟩;have HR:=hD (F wr i x HV hx)
  have C:Hid (∀w2,sH w T bd m d at_ i w2->Calls prog 211 #[yP w.heap.size,.string x] w2 λe w'=>e=.returned (.tuple #[.int .i64 x.size,.nilIface])/\sH w T bd m d at_ (i+1) w'):=by
   rintro w2 ⟨h1,h2,p0,bv,hM,hq⟩;have v:=a.2.1 x (PC hx);have f:(kN (df d) at_ i).size=64*i:=ke _ a.2.1 at_ i (by rw[a.out.1];omega);have b:(kN (df d) at_ i).data.toList.length=64*i:=by rw[<-f];rfl
   refine iM (oE w2 _ _ 0 _ bv _ x hM (by rw[b,v];omega)) ?_;rintro e w3 ⟨rfl,hW⟩;refine⟨rfl,sH.wrote h1 h2 hq a.2.2.1 hW ?_⟩;have c:at_+i<(df d).length:=by rw[a.out.1];exact B
   rw[wE _ _ _ c,show(df d)[at_+i]=x by rw[pI c]at hx;injection hx];simp
  clear HV hx
  go_wp2_with (first|(go_at_call 104;refine HR.mono ?_;rintro e w2 ⟨rfl,t⟩;have D:=Hid.mk' t;clear t)|(go_at_call 211;refine(C _ D).mono ?_;rintro e w3 ⟨rfl,o⟩;have E:=Hid.mk' o;clear o))
  go_roundw
  .exact⟨i+1,oM,by go_num,E⟩
  exact mS
 obtain rfl:i=k:=oM;have z:¬(i:Int)<i:=oM
 have A:Hid (Calls prog 213 #[yP w.heap.size] wr λe w'=>e=.returned (.string (kN (df d) at_ i))/\OY w S bd m d at_ i (.returned (.tuple #[.string (kN (df d) at_ i),.nilIface])) w'):=by
  obtain⟨h1,h2,p0,bv,hM,hq⟩:=HV;have f:(kN (df d) at_ i).size=64*i:=ke _ a.2.1 at_ i (by rw[a.out.1];omega);have b:(kN (df d) at_ i).data.toList.length=64*i:=by rw[<-f];rfl
  refine iM (po wr _ _ 0 _ bv _ hM (λe=>by rw[e]at b;simp at b;omega) (by rw[b];omega)) ?_;rintro e w' ⟨rfl,hs⟩;refine⟨sI,rfl,(h1.on hs (λq G hu=>?_)).mono a.2.2.2.1,(h2.then (hs.weak λq hu=>?_)).weak a.2.2.2.1⟩
  .have:=a.2.2.1 q G;rcases hu with rfl|hu
   .omega
   .have:=hq q hu.symm;omega
  rcases hu with rfl|hu
  .exact .inr (cO _)
  exact .inr (hq q hu.symm)
 obtain⟨y,hy⟩:=eX (kN (df d) at_ i);rw[<-hy]at A;clear HV hy
 go_wp2_with (go_at_call 213;refine A.mono ?_;rintro e w2 ⟨rfl,hF⟩;have HF:=Hid.mk' hF;clear hF)
 refine gh (lB rfl _ _ _) rfl ?_;exact HF
def gu(d:cX)(at_ z:Nat):ByteArray:=(kN (df d) at_ (dU z)).extract 11 (11+z)
def jf(d:cX)(at_ z:Nat)(s:ByteArray):Prop:=at_+dU z<=d.safe.length/\cV (gu d at_ z)=s
def I6(w:World)(S:Nat->Prop)(bd m:Nat)(d:cX)(at_ z:Nat)(e:Ending)(w':World):Prop:=
 cD w' S bd m d/\cq S w w'/\e=.returned (.tuple #[.string (gu d at_ z),.bool true])
theorem ru(S:Nat->Prop)(bd m n ac z:Nat)(d:cX)(s:ByteArray)(w:World)(h:cD w S bd m d)(af:∀V,cq S w V->fL V)(hn:d.safe.length=n)(hb:n<=4096)(ae:∀s∈df d,s.size=64)(hz:z<=6000)(hs:s.size=32)(hg:jf d ac z s):
  Calls prog 248 #[.agg #[.int .i64 ac,.int .i64 z],yP bd,dL s] w λe w'=>I6 w S bd m d ac z e w':=by
 obtain⟨T,hT⟩:=eX (λq=>S q/\q<w.heap.size:Nat->Prop);have I:∀q,T q->q<w.heap.size:=by rw[hT];exact λq h=>h.2
 have j:∀q,T q->S q:=by rw[hT];exact λq h=>h.1
 have hd:cD w T bd m d:=hT▸h.tight;have N:(df d).length=n:=by unfold df;rw[eo,hn]
 obtain⟨A,hA⟩:=eX ((db s).toArray);have u:dL s=.agg A:=by rw[hA];rfl
 have a3:A.size=32:=by rw[hA,jO,cE,hs]
 rw[u];obtain⟨q,hq⟩:=eX (dU z);have f:1<=q/\q<=100:=by rw[hq];unfold dU;omega
 obtain⟨W2,c⟩:=eX ((w.alloc (.cells #[.int .i64 ac,.int .i64 z] 361)).alloc (.cells A 131));have y:Below w.heap.size w W2:=by rw[c];exact((dw _ _).alloc (cO _) _).alloc sI _
 have r0:W2.heap[w.heap.size]?=some (.cells #[.int .i64 ac,.int .i64 z] 361 (0,0)):=by rw[c];exact(iy w _ _).1
 have r1:W2.heap[w.heap.size+1]?=some (.cells A 131 (0,0)):=by rw[c];exact(iy w _ _).2
 have o:∀V,Calls prog 217 #[.int .i64 (11+(z:Int))] V λe w'=>e=.returned (.int .i64 q)/\V=w':=by intro V;have h:=iL (11+z) oM V;rw[show(11+z+63)/64=q by rw[hq];unfold dU;omega,show((11+z:Nat):Int)=11+(z:Int) by omega]at h;exact h
 
 obtain⟨K,hK⟩:=eX (λV=>cD V T bd m d/\cq T w V/\V.heap[w.heap.size]?=some (.cells #[.int .i64 ac,.int .i64 z] 361 (0,0))/\V.heap[w.heap.size+1]?=some (.cells A 131 (0,0)):World->Prop);have J:∀V V',K V->cq T V V'->cD V' T bd m d->K V':=by rw[hK];rintro V V' ⟨-,k2,k3,k4⟩ C a0;exact⟨a0,k2.trans C,by rw[C.block _ (cm k3) (λh=>by have:=I _ h;omega)];exact k3,by rw[C.block _ (cm k4) (λh=>by have:=I _ h;omega)];exact k4⟩
 have G:∀V V',K V->Below V.heap.size V V'->K V':=λV V' hV g=>J V V' hV (cq.of_below g) (by rw[hK]at hV;exact hV.1.on (T:=λ_=>False) (cq.of_below g) (λ_ _ h=>h))
 have Q:K W2:=by rw[hK];exact⟨hd.on (T:=λ_=>False) (cq.of_below y) (λ_ _ h=>h),cq.of_below y,r0,r1⟩
 have a:=G _ _ Q (dw _ _).drew;have k:∀V,K V->V.cell? (yA w.heap.size 0)=some (.int .i64 ac)/\V.cell? (yA w.heap.size 1)=some (.int .i64 z):=by rw[hK];rintro V ⟨-,-,k3,-⟩;exact⟨cG k3,cG k3⟩
 have Y:∀V,K V->V.rangeAt (w.heap.size+1) 0 A.toList:=by rw[hK];rintro V ⟨-,-,-,k4⟩ i v hv;rw[nS,cG k4,<-kX];exact hv
 have M:∀V,K V->cD V S bd m d/\cq S w V/\fL V:=by rw[hK];rintro V ⟨k1,k2,-,-⟩;exact⟨k1.mono j,k2.weak j,af V (k2.weak j)⟩
 have p:ac+q<=n:=by rw[hq,<-hn];exact hg.1
 have X:=lK T bd m d ac q n W2.drew (by rw[hK]at a;exact a.1) hn hb ae f.1 f.2 p;have L:=Hid.mk' M;have a4:=Hid.mk' Y;have B:=Hid.mk' G;have ab:=Hid.mk' k;have a2:(prog.info? 131).map (·.size)=some A.toList.length:=by rw[gf,a3];kernel_rfl
 have H:Hid (dL s=.agg A/\s.size=32/\cV (gu d ac z)=s):=⟨u,hs,hg.2⟩;have aa:=yH;have a5:(z:Int)<=100000:=oM;obtain⟨r,hr⟩:=eX (kN (df d) ac q);have x:r.size=64*q:=hr▸ke _ ae ac q (by rw[N];exact p);have b:Calls prog 218 #[yP bd,.int .i64 ac,.int .i64 q] W2.drew λe w'=>e=.returned (.tuple #[.string r,.nilIface])/\K w'/\K w':=by refine iM X ?_;rintro e w' ⟨rfl,h2,h3⟩;have hk:=J _ _ a h3 h2;exact⟨by rw[hr],hk,hk⟩
 obtain⟨t,ht⟩:∃t,r.extract 11 (11+z)=t:=⟨_,rfl⟩;have a9:t.size=z:=by rw[<-ht,mM,x,O3 (by rw[hq];unfold dU;omega)];omega
 have E:gu d ac z=t:=by unfold gu;rw[<-hq,<-hr,ht]
 have a1:=Hid.mk' E;have O:Hid (∀V,K V->I6 w S bd m d ac z (.returned (.tuple #[.string t,.bool true])) V):=by intro V hV;exact⟨(L V hV).1,(L V hV).2.1,by rw[E]⟩
 have wz:IntKind.i64.wrap (11+(z:Int))=11+(z:Int):=by rw[pH];omega
 have a7:11+(z:Int)<=r.size:=by rw[x,hq];unfold dU;omega
 have a6:(11:Int)<=11+(z:Int):=oM;have a8:(11+(z:Int)).toNat=11+z:=oM;clear h af hn hg ae hd N I j hT hA u hK J X y r0 r1 hq hr E M Y x;go_enter func248,ntmps248;go_upto_region 1 with fail
 rw[<-c];clear c;refine kQ (Lz _ K K bd w.heap.size ac z q r .nilIface W2 a k a5 o b (λV3 hX uB hU=>?_));have HX:=Hid.mk' hX;have d1:=(k V3 hX).2;refine nU hU ?_;clear o b hX a Q k G;go_upto_region 5 with fail
 obtain⟨D,hD⟩:=eX ((db (cV t)).toArray);have F:dL (cV t)=.agg D:=by rw[hD];rfl
 have l:Calls prog 107 #[.string t] V3.drew λe w'=>e=.returned (.agg D)/\K w'/\K w':=by have W:=B V3 V3.drew HX (dw _ _).drew;refine iM (tV t V3.drew (L _ W).2.2 oM) ?_;rintro e w' ⟨rfl,g⟩;have U:=B _ _ W g;exact⟨by rw[F],U,U⟩
 have Z:∀V,(binOp .eql 131 (.agg D) (.agg A)).run prog V=.ok (.bool true) V:=by intro V;rw[<-F,<-H.out.1];have:=Jz (cV t) s (el t) H.2.1 V;rw[jX (by rw[<-a1.out];exact H.out.2.2)]at this;exact this
 refine kQ (M8 _ K K w.heap.size t A D _ V3 (B V3 V3.drew HX (dw _ _).drew) a4 a2 l Z (λV5 P uB hU=>?_));have HF:=Hid.mk' (O V5 P);refine nU hU ?_;clear l Z P hD F
 go_wp2
 refine gh (lB rfl _ _ _) rfl ?_;exact HF
end
end Go.Proofs.YtapijhhmjjplmaaGreatDoor

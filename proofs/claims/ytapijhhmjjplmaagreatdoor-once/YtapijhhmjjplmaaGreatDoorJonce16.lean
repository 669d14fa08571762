import Derived.Test.YtapijhhmjjplmaaGreatDoorJonce11
import Derived.Test.YtapijhhmjjplmaaGreatDoorJonce14
namespace Go.Proofs.YtapijhhmjjplmaaGreatDoor
set_option linter.all false
set_option maxRecDepth 100000
set_option maxHeartbeats 4000000
open Go.Proofs.Tryz
variable {d:cX}{bd m:Nat}{S:Nat→Prop}{w w1 w2:World}
section
open Go.RowKit Go.Maps
@[reducible] def OZ (p:String):Oper:={dst:=some 17,op:=.load 30 (.tmp 2),type:=30,pos:=p,after:=#[],guard:=none}
@[reducible] def OE (p:String):Oper:={dst:=some 18,op:=.load 30 (.tmp 2),type:=30,pos:=p,after:=#[],guard:=none}
@[reducible] def N5 (p:String):Oper:={dst:=some 19,op:=.nilCheck (.tmp 18),type:=0,pos:=p,after:=#[{on:=1,ground:=.data}],guard:=none}
@[reducible] def OL (p:String):Oper:={dst:=some 20,op:=.fieldAddr 88 (.tmp 19) 3,type:=0,pos:=p,after:=#[{on:=2,ground:=.data}],guard:=none}
@[reducible] def MP (p:String):Oper:={dst:=some 21,op:=.load 86 (.tmp 20),type:=86,pos:=p,after:=#[{on:=3,ground:=.data}],guard:=none}
@[reducible] def O7 (p:String):Oper:={dst:=some 22,op:=.load 195 (.tmp 3),type:=195,pos:=p,after:=#[],guard:=none}
@[reducible] def MK (p:String):Oper:={dst:=some 23,op:=.buildSlice 86 1 #[(0,.tmp 22)],type:=86,pos:=p,after:=#[{on:=5,ground:=.data}],guard:=none}
@[reducible] def Pd (p:String):Oper:={dst:=some 24,op:=.call {callee:=.builtin .append,args:=#[.tmp 21,.tmp 23],argTypes:=#[86,86]},type:=86,pos:=p,after:=#[{on:=4,ground:=.data},{on:=6,ground:=.data}],guard:=none}
@[reducible] def OG (p:String):Oper:={dst:=some 25,op:=.nilCheck (.tmp 17),type:=0,pos:=p,after:=#[{on:=0,ground:=.data},{on:=0,ground:=.phase},{on:=1,ground:=.phase},{on:=2,ground:=.phase},{on:=3,ground:=.phase},{on:=4,ground:=.phase},{on:=5,ground:=.phase},{on:=6,ground:=.phase},{on:=7,ground:=.phase}],guard:=none}
@[reducible] def Pa (p:String):Oper:={dst:=some 26,op:=.fieldAddr 88 (.tmp 25) 3,type:=0,pos:=p,after:=#[{on:=8,ground:=.data},{on:=0,ground:=.phase},{on:=1,ground:=.phase},{on:=2,ground:=.phase},{on:=3,ground:=.phase},{on:=4,ground:=.phase},{on:=5,ground:=.phase},{on:=6,ground:=.phase},{on:=7,ground:=.phase}],guard:=none}
@[reducible] def KJ (p:String):Oper:={dst:=none,op:=.store 86 (.tmp 26) (.tmp 24),type:=0,pos:=p,after:=#[{on:=9,ground:=.data},{on:=7,ground:=.data},{on:=7,ground:=.chain},{on:=0,ground:=.phase},{on:=1,ground:=.phase},{on:=2,ground:=.phase},{on:=3,ground:=.phase},{on:=4,ground:=.phase},{on:=5,ground:=.phase},{on:=6,ground:=.phase},{on:=7,ground:=.phase}],guard:=none}
@[reducible] def zI (p:String):Array Oper:=#[OZ p,OE p,N5 p,OL p,MP p,O7 p,MK p,Pd p,OG p,Pa p,KJ p]
theorem GX:∃i z,prog.info? 195=some i/\i.zero=some z/\i.size=65/\i.bytes=72/\z.cells.size=65:=by
 have h:((prog.info? 195).bind λi=>i.zero.map λz=>(i.size,i.bytes,z.cells.size))=some (65,72,65):=kR
 cases hi:prog.info? 195 with
 |none=>rw[hi]at h;cases h
 |some i=>
  rw[hi]at h
  cases hz:i.zero with
  |none=>simp[hz]at h
  |some z=>
   simp[hz]at h;exact⟨i,z,rfl,hz,h.1,h.2.1,h.2.2⟩
def K6(pd:Addr)(bd bw:Nat)(cs:List Value)(w:World):Prop:=w.cell? pd=some (yP bd)/\w.rangeAt bw 0 cs
section
variable (p:String) (bd bw:Nat) (pd:Addr) (cs:List Value) (wv:Value) (n:Nat) (xs:List Value) (Q:Exit->Act->World->Prop)
theorem Mz(s:∀c a d v w,Q (.panic c) (Act.put a d v) w->Q (.panic c) a w)(t:List Value)(u x y:Nat)(g k l m q r:Value)(z:t.length=17)(w:World)(f:K6 pd bd bw cs w)(hc:w.cell? (yA bd 4)=some wv)(C:w.frozen? (yA bd 4)=false)(A:pd.block≠bd)(B:bw≠bd)(b:∀a',a'.defers=[]->Q .normal a' (w.setCell (yA bd 4) (.slice (yS u 0) x y))):
  wpAnyH prog .any (zI p) Q (K6 pd bd bw cs) 3 #[true,true,true,true,true,true,true,true,false,false,false]
   {tmps:=(t++[yP bd,g,k,l,m,q,r,.slice (yS u 0) x y,undef,undef]).toArray,defers:=[]} w:=by
 match t,z with
 |[t0,t1,t2,t3,t4,t5,t6,t7,t8,t9,t10,t11,t12,t13,t14,t15,t16],_=>
 refine KN (i:=8) (oi:=OG p) (v:=yP bd) rfl kR kR kR (λ_ _ _ h=>s _ _ _ _ _ h) (Or.inl ⟨by rfl,?_⟩) f ?_
 .intro w _;go_simp
 simp only[Act.put,Ow,Lf,QN,Np,Ab];refine KN (i:=9) (oi:=Pa p) (v:=.pointer (yS bd 4)) rfl kR kR kR (λ_ _ _ h=>s _ _ _ _ _ h) (Or.inl ⟨by rfl,?_⟩) f ?_
 .intro w _;go_simp
 simp only[Act.put,pA];refine Px (rs:=[10]) kR sI ?_;refine NM (o:=KJ p) rfl (λK hK=>?_) OO;go_simp;refine hK.out _ _ ⟨?_,?_⟩ (λhS'=>?_)
 .rw[P5 _ _ _ _ (λe=>A e.symm)];exact f.1
 .intro j v hv;rw[P5 _ _ _ _ (λe=>B e.symm)];exact f.2 j v hv
 refine Rn kR ?_ _;exact b _ rfl
theorem E6(J:∀c a d v w,Q (.panic c) (Act.put a d v) w->Q (.panic c) a w)(t:List Value)(D E F G:Value)(L:t.length=17)(w:World)(I:K6 pd bd bw cs (w.alloc (.cells cs.toArray 195)))(row:Array Value)(rt:TypeId)(M:w.heap[bd]?=some (.cells row rt (0,0)))(hc:w.cell? (yA bd 4)=some wv)(N:pd.block≠bd)(O:bw≠bd)(H:w.ownsRow 0 195 65 wv n xs)(W:cs.length=65)(S:∀u∈cs,u.oneCell'=true)(X:n<=1000000)(T:wv.ownBlock≠some bd)(U:wv.ownBlock≠some bw)(V:wv.ownBlock≠some pd.block)(C:∀g' c' w',w'.ownsRow 0 195 65 (.slice (yS g' 0) (n+1) c') (n+1) (xs++cs)->(w.alloc (.cells cs.toArray 195)).grownBy w' wv.ownBlock->(some g'=wv.ownBlock\/g'=w.heap.size+1)->∀a',a'.defers=[]->Q .normal a' (w'.setCell (yA bd 4) (.slice (yS g' 0) (n+1) c'))):
  wpAnyH prog .any (zI p) Q (K6 pd bd bw cs) 4 #[true,true,true,true,true,true,true,false,false,false,false]
   {tmps:=(t++[yP bd,D,E,F,wv,G,.slice (yS w.heap.size 0) 1 1,undef,undef,undef]).toArray,defers:=[]} (w.alloc (.cells cs.toArray 195)):=by
 obtain⟨i,z,hi,hz,s,A,y⟩:=GX;have m:bd<w.heap.size:=pr hc;obtain⟨v',w',hr,h2,h3,h4,h5⟩:=Jl (P:=prog) (w.alloc (.cells cs.toArray 195)) 0 86 86 195 i z 65 72 underlying86 hi hz s A y dE wv n xs (rI H _) (yA w.heap.size 0) 1 1 cs oM
  (λj u hj=>by
   have e:((yA w.heap.size 0):Addr).add j=(yA w.heap.size j):=by simp[Addr.add];omega
   rw[e,cG (dM w _)]
   simpa using hj) S (by unfold maxLen;omega) oM sI
 obtain⟨g',c',rfl⟩:∃g' c',v'=.slice (yS g' 0) (n+1) c':=by
  obtain⟨-,h|⟨g',k,B,x,-⟩⟩:=h2
  .omega
  .exact⟨g',k,x⟩
 have f:w'.heap[bd]?=w.heap[bd]?:=by rw[h3.block bd (by simp;omega) (λe=>T e.symm),rd _ _ _ m]
 have r:w'.cell? (yA bd 4)=some wv:=by
  have e:w'.cell? (yA bd 4)=w.cell? (yA bd 4):=by unfold World.cell?;rw[f]
  rw[e];exact hc
 have l:w'.frozen? (yA bd 4)=false:=fH w' bd 4 _ _ (f.trans M);have g:∀q:Addr,q.block<w.heap.size+1->wv.ownBlock≠some q.block->w'.cell? q=(w.alloc (.cells cs.toArray 195)).cell? q:=λq hq ho=>by unfold World.cell?;rw[h3.block q.block (by simpa using hq) (λe=>ho e.symm)]
 have b:K6 pd bd bw cs w':=by
  refine⟨?_,λj v hv=>?_⟩
  .rw[g pd (by simpa using pr I.1) V];exact I.1
  rw[g (yA bw (0+j)) (by simpa using pr (I.2 j v hv)) U];exact I.2 j v hv
 refine Px (rs:=[7]) kR sI ?_;refine NM (o:=Pd p) rfl (λK hK=>?_) OO
 match t,L with
 |[t0,t1,t2,t3,t4,t5,t6,t7,t8,t9,t10,t11,t12,t13,t14,t15,t16],hh=>
 rw[dq (by rfl)];unfold Oper.wp execOp;simp only[resolve,invoke,builtin,K7,QJ,Ql,IW,vj,J6];show Oper.upon _ _ _ K Q ((Sem.run prog (Builtin.append_ #[86,86] 86 #[wv,.slice (yS w.heap.size 0) 1 1]) _).andThen _);rw[hr];refine hK.out _ _ b (λ_=>?_);refine Mz p bd bw pd cs wv Q J [t0,t1,t2,t3,t4,t5,t6,t7,t8,t9,t10,t11,t12,t13,t14,t15,t16] g' (n+1) c' D E F wv G _ rfl w' b r l N O (C g' c' w' h2 h3 ?_);rcases h5 with e|e
 .exact .inl e
 exact .inr (by simpa [Value.ownBlock]using e)
theorem EE(B:∀c a d v w,Q (.panic c) (Act.put a d v) w->Q (.panic c) a w)(Y:Nat)(M N O P T U V W C D E F G H I:Value)(w:World)(Z:w.cell? pd=some (yP bd))(hr:w.rangeAt bw 0 cs)(row:Array Value)(rt:TypeId)(hb:w.heap[bd]?=some (.cells row rt (0,0)))(hc:w.cell? (yA bd 4)=some wv)(nd:pd.block≠bd)(nw:bw≠bd)(J:w.ownsRow 0 195 65 wv n xs)(X:cs.length=65)(h1:∀u∈cs,u.oneCell'=true)(hn:n<=1000000)(o1:wv.ownBlock≠some bd)(o2:wv.ownBlock≠some bw)(o3:wv.ownBlock≠some pd.block)(L:∃a l c,wv=.slice a l c)(A:∀g' c' w',w'.ownsRow 0 195 65 (.slice (yS g' 0) (n+1) c') (n+1) (xs++cs)->(w.drew.alloc (.cells cs.toArray 195)).grownBy w' wv.ownBlock->(some g'=wv.ownBlock\/g'=w.heap.size+1)->∀a',a'.defers=[]->Q .normal a' (w'.setCell (yA bd 4) (.slice (yS g' 0) (n+1) c'))):
  (Code.region Y (zI p) true).wp prog Q
   {tmps:=#[M,N,.pointer (some pd),yP bw,O,P,T,U,V,W,C,D,E,F,G,H,I,undef,undef,undef,undef,undef,undef,undef,undef,undef,undef],defers:=[]} w:=by
 have b:K6 pd bd bw cs w.drew:=⟨by rw[nZ];exact Z,by rw[Qv];exact hr⟩
 have f:K6 pd bd bw cs (w.drew.alloc (.cells cs.toArray 195)):=by
  refine⟨?_,λj v hv=>?_⟩
  .rw[vY _ _ _ (by rw[b.1];rfl)];exact b.1
  rw[vY _ _ _ (by rw[b.2 j v hv];rfl)];exact b.2 j v hv
 have hi:(prog.info? 195).map (·.size)=some cs.length:=by rw[X];kernel_rfl
 refine QU (S:=K6 pd bd bw cs) kR b (λ_=>?_);have e0:Array.replicate (zI p).size false=#[false,false,false,false,false,false,false,false,false,false,false]:=by rfl
 have e1:(zI p).size=11:=rfl;rw[e0,e1];refine KN (i:=5) (oi:=O7 p) (v:=.agg cs.toArray) rfl kR kR kR (λ_ _ _ h=>B _ _ _ _ _ h) (Rk (by rfl) _ _ rfl bw 0 rfl cs _ (λw h=>h.2) underlying195 rfl hi) b ?_;simp only[Act.put,pA];refine KN (i:=0) (oi:=OZ p) (v:=yP bd) rfl kR kR kR (λ_ _ _ h=>B _ _ _ _ _ h) (Or.inl ⟨by rfl,?_⟩) b ?_
 .intro w hw;have hw:=hw.1;go_simp
 simp only[Act.put,pA];refine KN (i:=1) (oi:=OE p) (v:=yP bd) rfl kR kR kR (λ_ _ _ h=>B _ _ _ _ _ h) (Or.inl ⟨by rfl,?_⟩) b ?_
 .intro w hw;have hw:=hw.1;go_simp
 simp only[Act.put,pA];refine KN (i:=2) (oi:=N5 p) (v:=yP bd) rfl kR kR kR (λ_ _ _ h=>B _ _ _ _ _ h) (Or.inl ⟨by rfl,?_⟩) b ?_
 .intro w _;go_simp
 simp only[Act.put,pA];refine KN (i:=3) (oi:=OL p) (v:=.pointer (yS bd 4)) rfl kR kR kR (λ_ _ _ h=>B _ _ _ _ _ h) (Or.inl ⟨by rfl,?_⟩) b ?_
 .intro w _;go_simp
 simp only[Act.put,pA];have g:=E6 p bd bw pd cs wv n xs Q B [M,N,.pointer (some pd),yP bw,O,P,T,U,V,W,C,D,E,F,G,H,I] (yP bd) (yP bd) (.pointer (yS bd 4)) (.agg cs.toArray) rfl w.drew f row rt hb (by rw[nZ];exact hc) nd nw J X h1 hn o1 o2 o3 A;obtain⟨i,z,hi,hz,r,y,t⟩:=GX;have k:Instr.fill (λj=>some (j*i.size,i.size)) ((Array.range (1*i.size)).map (z.cells[·%z.cells.size]!)) [(0,Value.agg cs.toArray)]=some cs.toArray:=by have h:=Ox (s:=i.size) oM [Value.agg cs.toArray] ((Array.range (1*i.size)).map (z.cells[·%z.cells.size]!)) (by intro v hv;rw[List.mem_singleton.1 hv];show cs.toArray.size=_;simp;omega) sI;simpa [Value.cells]using h
 have e:∀a:Act,a.eval (.tmp 22)=.agg cs.toArray->Instr.fill (λj=>some (j*i.size,i.size)) ((Array.range (1*i.size)).map (z.cells[·%z.cells.size]!)) ((#[((0:Nat),Operand.tmp 22)]:Array (Nat×Operand)).map λ(i,x)=>(i,a.eval x)).toList=some cs.toArray:=λa ha=>by simp only[IW,vj,J6,ha];exact k
 simp only[Np,Ab]at g;refine Px (rs:=[4,6]) kR sI ?_;refine NM (o:=MP p) rfl (λK hK=>?_) (NM (o:=MK p) rfl (λK hK=>?_) OO)
 .have q:w.drew.cell? (yA bd 4)=some wv:=by rw[nZ];exact hc
  obtain⟨a,l,c,rfl⟩:=L;go_simp;refine hK.out _ _ b (λ_=>?_);refine Px (rs:=[6]) kR sI ?_;refine NM (o:=MK p) rfl (λK hK=>?_) OO;rw[dq (by rfl)];refine JS 86 195 1 _ rfl cs.toArray i z underlying86 hi hz oM oM (e _ rfl) ?_;refine hK.out _ _ f (λ_=>?_);simp only[Act.put,pA];exact g
 rw[dq (by rfl)];refine JS 86 195 1 _ rfl cs.toArray i z underlying86 hi hz oM oM (e _ rfl) ?_;refine hK.out _ _ f (λ_=>?_);refine Px (rs:=[4]) kR sI ?_;refine NM (o:=MP p) rfl (λK hK=>?_) OO;have q:(w.drew.alloc (.cells cs.toArray 195)).cell? (yA bd 4)=some wv:=by rw[vY _ _ _ (by rw[nZ,hc];rfl),nZ];exact hc
 obtain⟨wa,m⟩:∃wa,w.drew.alloc (.cells cs.toArray 195)=wa:=⟨_,rfl⟩;rw[m]at q f g⊢;clear A;obtain⟨a,l,c,rfl⟩:=L;clear m;go_simp;refine hK.out _ _ f (λ_=>?_);simp only[Ow,Lf,QN];exact g
end
end
section
open Go.RowKit Go.Maps
def Dn(k:Nat):Array Value:=(Value.int .i64 k::List.replicate 64 (Value.int .u8 0)).toArray
def NA(k:Nat)(s:ByteArray):Array Value:=(Value.int .i64 k::cW s.data.toList).toArray
theorem pY(k:Nat):(Dn k).size=65:=by simp[Dn]
theorem J4(k:Nat):(Dn k).all (·.oneCell')=true:=by
 rw[NC];intro v hv;unfold Dn at hv;rcases List.mem_cons.1 (by simpa using hv:v∈Value.int .i64 k::List.replicate 64 (Value.int .u8 0))with rfl|hv
 .rfl
 .rw[MY hv];rfl
theorem Lo(bd gs bm m:Nat)(S:Nat->Prop)(wv:Value)(d:cX)(pa ps pd:Addr)(k:Nat)(s:ByteArray)(w:World)(h:ix w S 1 bd gs bm m wv d)(ha:w.cell? pa=some (.int .i64 k))(hs:w.cell? ps=some (.string s))(hd:w.cell? pd=some (yP bd))(na:¬S pa.block)(nd:¬S pd.block)(hk:k<d.safe.length)(au:s.size=64)(aB:d.wait.length<=1000000)(hm:m<=1000000)(hn:d.safe.length<=4096):
  Calls prog 215 #[.pointer (some pa),.pointer (some ps),.pointer (some pd)] w λe w'=>e=.returned (.tuple #[])/\(∃gs' bm' wv',ix w' (λg=>S g\/w.heap.size<=g) 1 bd gs' bm' (m+1) wv' {d with wait:=d.wait++[(k,s)]})/\cq S w w':=by
 obtain⟨C,hC⟩:=eX (cW s.data.toList);have a8:s.data.toList.length=64:=by rw[gf];exact au
 have z:C.length=64:=by rw[hC,dW];exact a8
 have a1:Hid ((prog.info? 195).map (·.size)=some (Dn k).size):=by show _=_;rw[pY];kernel_rfl
 have a7:Hid (∀Z:Array Value,Z.size=65->Z.size=(Dn k).size):=λZ hz=>hz.trans (pY k).symm
 have ad:Hid ((Dn k).all (·.oneCell')=true):=J4 k;have HV:=hD h;have HA:=hD ha;have M:=hD hs;have T:=hD hd;have HC:=hD hC;have X:Hid (C=cW (s.data.toList.take 64)):=by show _=_;rw[pK (by omega)];exact hC
 have Y:Hid ((prog.info? 5).map (·.size)=some 1):=by show _=_;kernel_rfl
 have O:Hid (1+C.length<=(Dn k).size):=by show _<=_;rw[pY,z];omega
 have ac:Hid (((Dn k).toList.take 1++C++(Dn k).toList.drop (1+C.length)).toArray=NA k s):=by show _=_;have e:(Dn k).toList.drop (1+C.length)=[]:=A9 (by rw[gf,pY,z];omega);rw[e,CO,hC];rfl
 have a5:Hid ((C.length:Int)=64):=by show _=_;rw[z];rfl
 clear h hs hd hC;go_enter func215,ntmps215
 go_wp2_with (refine cu rfl 195 _ _ rfl w.heap.size (Dn k) rfl rfl 195 _ (dM w _) a1 (a7 _ rfl) ad ?_;intro w1 F)
 have W:Hid (Below w.heap.size w w1):=by rw[F.out];exact lN
 have a3:w1.heap.size=w.heap.size+1:=by rw[F.out];simp
 have A:Hid (w1.heap[w.heap.size]?=some (.cells (Dn k) 195 (0,0))):=by rw[F.out];exact ja _ _ _ _ _ _ (dM w _)
 have ag:w1.cell? ps=some (.string s):=by rw[W.out.cell (pr M.out)];exact M
 clear F ha;go_frame
 go_region_law (refine lz rfl (.tmp 7) (.tmp 8) 134 9 rfl 5 yE Y w.heap.size 1 64 64 s (by simp[Act.eval]) (by simp[Act.eval]) (Dn k) 195 A C X O (NA k s) ac 64 a5 ?_)
 obtain⟨w2,D⟩:=eX (w1.drew.setRow w.heap.size (NA k s));rw[<-D];have G:Hid (Below w.heap.size w w2):=D▸cC W.drew (cO _) _;have an:w2.heap.size=w.heap.size+1:=by rw[D];simpa using a3
 have i:Hid (w2.heap[w.heap.size]?=some (.cells (NA k s) 195 (0,0))):=D▸ja _ _ _ _ _ _ A;have r:=HV.keep G;have a0:w2.cell? pd=some (yP bd):=by rw[G.out.cell (pr T.out)];exact T
 have a4:w2.cell? pa=some (.int .i64 k):=by rw[G.out.cell (pr HA.out)];exact HA
 have aj:w2.cell? (yA bd 3)=some (.map (some bm)):=cG r.blk;have a2:w2.rangeAt w.heap.size 1 C:=by intro j v hv;rw[cG i.out];unfold NA;simp only[Ew];rw[Gb 1 j,A6,<-HC.out];exact hv
 have a9:prog.underlying 193=some (.array 64 5):=Qd;have a6:(prog.info? 193).map (·.size)=some C.length:=by rw[z];kernel_rfl
 have ab:∀v∈C,v.oneCell'=true:=by rw[HC.out];exact jv _
 have I:w2.drew.ownsMap prog 3 cY bm m (oQ d.wait):=dg r.rest.map rfl;obtain⟨w3,am,P,y⟩:=I.update Hl underlying78 (by unfold maxLen;omega) (keyOf_int_mk NK (Gx k oM)) (show cY (.agg C.toArray)=some (.held (.agg C.toArray),[]) from rfl);have t:cq (·=bm) w2.drew w3:=⟨y.os,y.tape,y.output,y.size,λj hj hn=>y.block j hj (λe=>hn (kM e))⟩;have nm:∀p:Addr,¬S p.block->p.block≠bm:=λp hp e=>hp (e▸HV.rest.sm)
 have V:w3.cell? pd=some (yP bd):=t.cell (nm pd nd) (by rw[nZ];exact a0);have ae:w3.cell? pa=some (.int .i64 k):=t.cell (nm pa na) (by rw[nZ];exact a4);have B:=(t.block bd (cm r.blk) HV.rest.n2).trans r.blk;have af:w3.cell? (yA bd 3)=some (.map (some bm)):=cG B;have Q:w.heap.size≠bm:=λe=>by have:=dN HV.rest.map;omega
 have n:=(t.block w.heap.size (by show w.heap.size<w2.heap.size;omega) Q).trans i;have ak:w3.rangeAt w.heap.size 1 C:=by intro j v hv;rw[cG n,<-cG i.out];exact a2 j v hv
 have U:=hD r;have N:=hD P;have l:=hD t;have L:=hD n;have q:=hD B;clear r P y t n B I D A i nm
 go_wp2
 go_region_held3 (λw'=>w'.cell? pd=some (yP bd)/\w'.cell? pa=some (.int .i64 k)/\w'.cell? (yA bd 3)=some (.map (some bm))/\w'.rangeAt w.heap.size 1 C) ((go_split_ands;((repeat' constructor)<;>first|assumption|(rw[nZ];assumption)|(rw[Qv];assumption)))) (fail)
 go_wp2
 have hV:=U;have a:=HV;have ah:w2.heap.size<=w3.heap.size:=l.size;have K:bd<w3.heap.size:=cm q;have J:bm<w3.heap.size:=dN N;have f:=a.rest.d1;have E:w3.ownsRow 0 195 65 wv d.wait.length (FC d.wait):=cI hV.rest.wait.1 (λg hg=>l.block g (hV.rest.wait.lt hg) (f g hg).2.2);refine EE _ bd w.heap.size pd (.int .i64 k::C) wv d.wait.length (FC d.wait) _ (λ_ _ d _ _ h=>by cases d<;>exact h) _ _ _ _ _ _ _ _ _ _ _ _ _ _ _ _ w3 V ?_ _ _ q (cG q) (λe=>nd (e▸a.rest.sb)) (λe=>by have:=cm a.blk;omega) E (by simp[z]) ?_ aB (λe=>(f bd e).1 rfl) (λe=>by have:=a.rest.wait.lt e;omega) (λe=>nd (a.rest.wait.2 _ e)) ?_ ?_
 .intro j v hv;rw[cG L.out];unfold NA;rw[<-HC.out];simpa using hv
 .intro u hu;rcases List.mem_cons.1 hu with rfl|hu
  .rfl
  .exact ab u hu
 .obtain⟨-,⟨h,-⟩|⟨g,c,al,h,-⟩⟩:=E
  .exact⟨_,_,_,h⟩
  exact⟨_,_,_,h⟩
 intro g' c' w' h2 h3 h5 a' ha;have ai:w3.heap.size+1<=w'.heap.size:=by have:=h3.size;simpa using this
 have b:∀g,g<w3.heap.size->wv.ownBlock≠some g->w'.heap[g]?=w3.heap[g]?:=λg hg ho=>by rw[h3.block g (by simp;omega) (λe=>ho e.symm),rd _ _ _ (by simpa using hg)];rfl
 have aa:w'.heap[bd]?=some (.cells (mj 1 gs d.safe.length bm wv d.fuse d.down) 88 (0,0)):=(b bd K (λe=>(f bd e).1 rfl)).trans q
 have o:∀g,g<w3.heap.size->wv.ownBlock≠some g->g'≠g:=λg hg ho e=>by
  rcases h5 with h|h
  .exact ho (by rw[<-h,e])
  .omega
 have H:gs<w3.heap.size:=by have:=cm hV.rest.sec;omega
 refine⟨ha,.tuple #[],by simp[results,Tryz.f215],rfl,⟨gs,bm,.slice (yS g' 0) (d.wait.length+1) c',?_,?_⟩,?_⟩
 .rw[gE w' bd 4 _ _ _ aa];rfl
 .refine⟨?_,?_,⟨?_,?_⟩,.inl a.rest.sb,.inl a.rest.ss,.inl a.rest.sm,a.rest.n1,a.rest.n2,a.rest.n3,?_,a.rest.v1,?_⟩
  .rw[lq _ _ _ _ (λe=>a.rest.n1 e.symm),b gs H (λe=>(f gs e).2.1 rfl),l.out.block gs (cm hV.rest.sec) a.rest.n3];exact hV.rest.sec
  .have hm:=N;rw[HC.out]at hm;have e:oQ (d.wait++[(k,s)])=(oQ d.wait).put (.int .i64 k) (.held (.agg (cW s.data.toList).toArray)):=wg _ _ _;show World.ownsMap _ _ _ _ _ _ (oQ (d.wait++[(k,s)]));rw[e];exact dg hm (by rw[lq _ _ _ _ (λe=>a.rest.n2 e.symm),b bm J (λe=>(f bm e).2.2 rfl)])
  .have e:FC (d.wait++[(k,s)])=FC d.wait++(.int .i64 k::C):=by rw[HC.out];simp[FC]
   have e2:(d.wait++[(k,s)]).length=d.wait.length+1:=sI;show World.ownsRow _ _ _ _ _ (List.length (d.wait++[(k,s)])) (FC (d.wait++[(k,s)]));rw[e,e2];refine cI h2 (λg hg=>?_);cases hg;rw[lq _ _ _ _ (o bd K (λe=>(f bd e).1 rfl))]
  .intro g hg;cases hg;rcases h5 with h|h
   .exact .inl (a.rest.wait.2 _ h.symm)
   exact .inr (by show w.heap.size<=g';omega)
  .intro g hg;cases hg;exact⟨o bd K (λe=>(f bd e).1 rfl),o gs H (λe=>(f gs e).2.1 rfl),o bm J (λe=>(f bm e).2.2 rfl)⟩
  intro x hx;rcases List.mem_append.1 hx with hx|hx
  .exact a.rest.v2 x hx
  cases List.mem_singleton.1 hx
  exact⟨hk,au⟩
 have s1:cq S w w2:=jz S G;have s2:cq S w2 w3:=⟨l.os,l.tape,l.output,l.size,λg hg hn=>l.block g hg (by rintro rfl;exact hn a.rest.sm)⟩;refine s1.trans (s2.trans ⟨?_,?_,?_,?_,λg hg hn=>?_⟩)
 .rw[show(w'.setCell _ _).os=w'.os from rfl,h3.os];rfl
 .rw[show(w'.setCell _ _).tape=w'.tape from rfl,h3.tape];rfl
 .rw[show(w'.setCell _ _).output=w'.output from rfl,h3.output];rfl
 .simp;omega
 rw[lq _ _ _ _ (by rintro rfl;exact hn a.rest.sb),b g hg (λe=>hn (a.rest.wait.2 g e))]
def cX.write(d:cX)(k:Nat)(s:ByteArray):cX:=if d.op.down then d.op else{d.op with wait:=d.op.wait++[(k,s)]}
def pg(w:World)(bd:Nat)(at_:Int)(s:ByteArray):World:=((w.alloc (.cells #[yP bd] 30)).alloc (.cells #[.int .i64 at_] 3)).alloc (.cells #[.string s] 9)
theorem D9(S:Nat->Prop)(w:World)(b:Nat)(a:Int)(s:ByteArray):cq S w (pg w b a s):=((cq.alloc0 w _).alloc _).alloc _
theorem DP(w:World)(b:Nat)(a:Int)(s:ByteArray):(pg w b a s).heap.size=w.heap.size+3:=by simp[pg]
theorem Mg(w:World)(b:Nat)(a:Int)(s:ByteArray):(pg w b a s).cell? (yA w.heap.size 0)=some (yP b):=by
 have h:(pg w b a s).heap[w.heap.size]?=some (.cells #[yP b] 30 (0,0)):=by unfold pg;rw[rd _ _ _ (by simp;omega),rd _ _ _ (by simp)];exact dM w _
 rw[cG h];rfl
theorem LO(w:World)(b:Nat)(a:Int)(s:ByteArray):(pg w b a s).cell? (yA (w.heap.size+1) 0)=some (.int .i64 a):=by
 have h:(pg w b a s).heap[w.heap.size+1]?=some (.cells #[.int .i64 a] 3 (0,0)):=by unfold pg;rw[rd _ _ _ (by simp)];have h:=dM (w.alloc (.cells #[yP b] 30)) (.cells #[.int .i64 a] 3);simpa using h
 rw[cG h];rfl
theorem LM(w:World)(b:Nat)(a:Int)(s:ByteArray):(pg w b a s).cell? (yA (w.heap.size+2) 0)=some (.string s):=by
 have h:(pg w b a s).heap[w.heap.size+2]?=some (.cells #[.string s] 9 (0,0)):=by unfold pg;have h:=dM ((w.alloc (.cells #[yP b] 30)).alloc (.cells #[.int .i64 a] 3)) (.cells #[.string s] 9);simpa using h
 rw[cG h];rfl
theorem Up.write(h:Up d)(k:Nat)(s:ByteArray):d.write k s={d with wait:=d.wait++[(k,s)]}:=by unfold cX.write;rw[h.dn,h.op];rfl
theorem Eb(bd m:Nat)(S:Nat->Prop)(d:cX)(k:Nat)(s:ByteArray)(w:World)(h:cD w S bd m d)(B:Up d)(C:k<d.safe.length)(D:s.size=64)(z:d.wait.length<=1000000)(E:m<=1000000)(A:d.safe.length<=4096)(y:∀g,S g->g<w.heap.size):
  Calls prog 140 #[yP bd,.int .i64 k,.string s] w λe w'=>e=.returned .nilIface/\(∃m',m'<=m+1/\cD w' (λg=>S g\/w.heap.size<=g) bd m' (d.write k s))/\cq S w w':=by
 have u:=Mf;have r:=mZ;have a:cq (λ_=>False) w (pg w bd k s):=D9 _ w bd k s;have h1:=h.on a (λ_ _ h=>h);have q:S bd:=by obtain⟨_,_,_,h⟩:=h;exact h.rest.sb
 have v:=y bd q;have HC:=De bd m S d k _ h1;rw[jX (show(0:Int)<=k by omega),jX (show(k:Int)<d.safe.length by omega)]at HC;have c:=hD HC;have cd:=Mg w bd k s;have ca:=LO w bd k s;have cs:=LM w bd k s;have hz:=DP w bd k s
 have HO:Hid (Calls prog 214 #[yP bd,.func (.func 215) #[] #[yP (w.heap.size+1),yP (w.heap.size+2),yP w.heap.size]] (pg w bd k s) λe w'=>e=.returned .nilIface/\Hid (∃m',m'<=m+1/\cD w' (λg=>S g\/w.heap.size<=g) bd m' (d.write k s))/\Hid (cq S w w')):=by
  rw[B.write];refine(ub _ (.inl rfl) bd m (m+1) S (λg=>S g\/w.heap.size<=g) (λg=>S g\/w.heap.size<=g) d {d with wait:=d.wait++[(k,s)]} _ _ h1 B (λ_ h=>.inl h) (λ_ h=>h) (λw2 gs bm wv hv b=>?_)).mono ?_
  .have f:∀j,¬S (w.heap.size+j):=λj h=>by have:=y _ h;omega
   have hp:w2.cell? (yA w.heap.size 0)=some (yP bd):=b.cell (by show¬w.heap.size=bd;omega) cd;have o:w2.cell? (yA (w.heap.size+1) 0)=some (.int .i64 k):=b.cell (by show¬w.heap.size+1=bd;omega) ca;have n:w2.cell? (yA (w.heap.size+2) 0)=some (.string s):=b.cell (by show¬w.heap.size+2=bd;omega) cs;refine(Lo bd gs bm m S wv d (yA (w.heap.size+1) 0) (yA (w.heap.size+2) 0) (yA w.heap.size 0) k s w2 hv o n hp (f 1) (f 0) C D z E A).mono ?_;rintro e w3 ⟨rfl,⟨l,p,i,h3⟩,s3⟩;have x:=b.size;refine⟨rfl,⟨l,p,i,h3.blk,h3.rest.mono (λg hg=>hg.imp id (λh=>?_))⟩,s3.weak (λ_ h=>.inl h)⟩;omega
  rintro e w3 ⟨rfl,h3,s3⟩;refine⟨rfl,⟨m+1,cO _,h3⟩,?_⟩;refine⟨s3.os.trans a.os,s3.tape.trans a.tape,s3.output.trans a.output,lZ a.size s3.size,λg hg A=>?_⟩;exact(s3.block g oM (by rintro(h|h);exact A h;omega)).trans (a.block g hg (λh=>h))
 have t:((s.size:Int) !=64)=false:=by rw[QA];omega
 unfold pg at HO c cd ca cs;clear a h1 h B z A y HC hz C D E;go_enter func140,ntmps140
 go_wp2_with (first|(go_at_call 179;refine c.mono ?_;rintro e w' ⟨rfl,rfl⟩)|(go_at_call 214;refine HO.mono ?_;rintro e w3 ⟨rfl,H3,S3⟩))
 go_ret;exact⟨rfl,H3,S3.out⟩
def cX.fresh(n:Nat):cX:=⟨List.replicate n z64,[],0,false⟩
theorem ul:cW z64.data.toList=List.replicate 64 (.int .u8 0):=kR
theorem Cm(n:Nat):iX (List.replicate n z64)=List.replicate (n*64) (.int .u8 0):=by
 induction n with
 |zero=>simp[iX]
 |succ n ih=>
  have e:iX (List.replicate (n+1) z64)=cW z64.data.toList++iX (List.replicate n z64):=by simp[iX,PU]
  rw[e,ih,ul,QT];congr 1;omega
theorem F9(v:Value)(L:List Value)(c:∀x∈L,x=v)(b:L.length=64)(N:Nat):madeCells L.toArray N=(List.replicate N v).toArray:=by
 unfold madeCells;apply Array.ext
 .simp
 .intro i h1 h2;have a:i%64<L.length:=b▸IA _ oM;rw[Array.getElem_map,Array.getElem_range,jO,b,List.getElem_toArray,OK,getElem!_pos _ _ (by simpa using a),List.getElem_toArray];exact c _ (mX _)
theorem EC(n:Nat):madeCells (mT z64).cells (n*64)=(iX (List.replicate n z64)).toArray:=by
 rw[Cm];have hz:(mT z64).cells=(List.replicate 64 (.int .u8 0)).toArray:=by show(cW z64.data.toList).toArray=_;rw[ul]
 rw[hz];exact F9 (.int .u8 0) _ (λx hx=>MY hx) Kz _
theorem JP:∃i,prog.info? 193=some i/\i.zero=some (mT z64)/\i.size=64/\i.bytes=64:=by
 have h:(prog.info? 193).map (λi=>(i.zero,i.size,i.bytes))=some (some (mT z64),64,64):=kR;obtain⟨i,hi,b,a,c⟩:=Ba h;exact⟨i,hi,b,a,c⟩
theorem I4(n:Nat)(a:n<=4096)(w:World):(Instr.makeSlice 77 (.int .i64 n) (.int .i64 n)).run prog w=.ok (.slice (yS w.heap.size 0) n n) (w.alloc (.cells (iX (List.replicate n z64)).toArray 193)):=by
 obtain⟨i,hi,hz,hs,hb⟩:=JP;have h:=run_make (P:=prog) w 77 193 i (mT z64) underlying77 hi hz .i64 .i64 n n oM oM (by rw[hb];omega) oM;rw[hs,Int.toNat_natCast,EC]at h;exact h
theorem Jq(n:Nat)(C:Array Value)(a:C=(iX (List.replicate n z64)).toArray)(w w':World)(b:w'=((w.alloc (.cells C 193)).alloc (.map #[] 0)).alloc (.cells (mj 0 w.heap.size n (w.heap.size+1) (.slice none 0 0) 0 false) 88)):
  cD w' (λg=>w.heap.size<=g) (w.heap.size+2) 0 (cX.fresh n)/\Below w.heap.size w w':=by
 subst b;refine⟨⟨w.heap.size,w.heap.size+1,.slice none 0 0,?_,⟨?_,?_,⟨⟨rfl,.inl ⟨rfl,rfl⟩⟩,λg hg=>by cases hg⟩,?_,?_,?_,?_,?_,?_,λg hg=>(by cases hg),?_,λx hx=>(by cases hx)⟩⟩,?_⟩
 .have h:=dM ((w.alloc (.cells C 193)).alloc (.map #[] 0)) (.cells (mj 0 w.heap.size n (w.heap.size+1) (.slice none 0 0) 0 false) 88);show _=some (Obj.cells (mj 0 w.heap.size (List.replicate n z64).length (w.heap.size+1) (.slice none 0 0) 0 false) 88 (0,0));rw[Kz];simpa using h
 .rw[rd _ _ _ (by simp;omega),rd _ _ _ (by simp),dM w _,a];rfl
 .have h:=(PS (w.alloc (.cells C 193)) prog 3 cY).alloc (.cells (mj 0 w.heap.size n (w.heap.size+1) (.slice none 0 0) 0 false) 88);have e:(w.alloc (.cells C 193)).heap.size=w.heap.size+1:=sI;rw[e]at h;exact h
 .show w.heap.size<=w.heap.size+2;omega
 .show w.heap.size<=w.heap.size;omega
 .show w.heap.size<=w.heap.size+1;omega
 .show w.heap.size+2≠w.heap.size;omega
 .show w.heap.size+2≠w.heap.size+1;omega
 .show w.heap.size≠w.heap.size+1;omega
 .intro s hs;rw[MY hs];exact qi
 exact(((dw _ _).alloc (cO _) _).alloc sI _).alloc (by simp;omega) _
theorem IR(n:Nat)(a:Int)(f:(n:Int)=a)(h:1<=a)(i:a<=4096)(w:World):
  Calls prog 24 #[.int .i64 a] w λe w'=>∃bd,e=.returned (yP bd)/\cD w' (λg=>w.heap.size<=g) bd 0 (cX.fresh n)/\Below w.heap.size w w':=by
 obtain⟨C,hC⟩:=eX ((iX (List.replicate n z64)).toArray);have c:∀w,(Instr.makeSlice 77 (.int .i64 a) (.int .i64 a)).run prog w=.ok (.slice (yS w.heap.size 0) n n) (w.alloc (.cells C 193)):=λw=>by rw[hC,<-f];exact I4 n oM w
 have b:=c;rw[show a=min (max a 1) 4096 by omega]at b;have d:∀w,(Instr.makeMap 78 none).run prog w=.ok (.map (some w.heap.size)) (w.alloc (.map #[] 0)):=λw=>PI _ w
 have HF:Hid (∀w':World,w'=((w.alloc (.cells C 193)).alloc (.map #[] 0)).alloc (.cells (mj 0 w.heap.size n (w.heap.size+1) (.slice none 0 0) 0 false) 88)->cD w' (λg=>w.heap.size<=g) (w.heap.size+2) 0 (cX.fresh n)/\Below w.heap.size w w'):=λw' hw=>Jq n C hC w w' hw
 clear f hC;go_enter func24,ntmps24
 go_wp2
 go_ret;exact⟨_,rfl,HF _ rfl⟩
theorem vG(a:List (Nat×ByteArray))(b:List ByteArray)(k:Nat)(s:ByteArray):cL (a++[(k,s)]) b=(cL a b).set k s:=by simp[cL,A5]
theorem xZ(a:List ByteArray)(k:Nat)(c:k<a.length)(b:List (Nat×ByteArray)):(cL b a)[k]?=some ((iH b k).getD a[k]):=by
 refine tJ (P:=λl=>(cL l a)[k]?=some ((iH l k).getD a[k])) ?_ (λl x ih=>?_) b
 .show a[k]?=some a[k];exact pI c
 obtain⟨j,s⟩:=x;rw[vG,o6];by_cases h:j=k
 .subst h;rw[dq rfl,List.getElem?_set_self (by rw[eo];exact c)];rfl
 rw[dj h,List.getElem?_set_ne h];exact ih
theorem CP(w:World):Calls prog 43 #[.nilIface] w λe w'=>e=.returned (.tuple #[.int .i64 0,.int .i64 (-1)])/\w=w':=by
 go_enter func43,ntmps43
 go_wp2
 go_ret2;exact⟨rfl,rfl⟩
def fg(a:Nat->Addr)(n:Nat):Value:=if n=0 then .nilIface else rv (a (n-1))
theorem gT(n:Nat)(b:n<=12)(a:Nat->Addr)(w:World)(S:jm w a):
  Calls prog 43 #[fg a n] w λe w'=>e=.returned (.tuple #[.int .i64 n,.int .i64 (-1)])/\Below w.heap.size w w':=by
 unfold fg;split
 .subst n;refine(CP w).mono ?_;rintro e w' ⟨rfl,rfl⟩;exact⟨rfl,dw _ _⟩
 have h:=AV (n-1) oM a w S;have e:((n-1:Nat):Int)+1=(n:Int):=oM;rw[e]at h;exact h
def cX.fcode(d:cX):Nat:=if d.op.down then 2 else 0
theorem after{T:Nat->Prop}(h:cD w1 T bd m d)(s:cq S w w1)(a:Below w1.heap.size w1 w2):cD w2 T bd m d/\cq S w w2:=
 ⟨h.on (jz (λ_=>False) a) (λ_ _ h=>h),s.trans (jz S a)⟩
theorem CT(w0:World)(a:Nat->Addr)(n:jm w0 a)(bd m:Nat)(S:Nat->Prop)(d:cX)(w:World)(k:Nat)(i:k<d.safe.length)(h:cD w S bd m d)(j:Below w0.heap.size w0 w)(o:∀g,S g->w0.heap.size<=g)(l:d.safe.length<=4096):
  Calls prog 63 #[yP bd,.int .i64 k] w λe w'=>e=.returned (.tuple #[.string (d.at k i),.int .i64 0])/\cD w' S bd m d/\cq S w w':=by
 have HW:=Hid.mk' (ol bd m S d k w h i l);have HN:Hid (∀w',cq S w w'->Calls prog 43 #[.nilIface] w' λe w2=>e=.returned (.tuple #[.int .i64 0,.int .i64 (-1)])/\Below w'.heap.size w' w2):=λw' s'=>gT 0 dE a w' (n.on (j.trans (s'.below o j.size)))
 obtain⟨x,hx⟩:=eX (d.at k i);rw[<-hx]at HW⊢;clear h l hx;go_enter func63,ntmps63
 go_wp2_with (first|(go_at_call 104;refine HW.mono ?_;rintro e w1 ⟨rfl,H1,S1⟩;have c:Hid (cD w1 S bd m d):=H1;have b:Hid (cq S w w1):=S1;clear H1 S1)|(go_at_call 43;refine(HN w1 b).mono ?_;rintro e w2 ⟨rfl,B2⟩;have f:Hid (Below w1.heap.size w1 w2):=B2;clear B2))
 go_ret2;obtain⟨h2,s2⟩:=after c b f;exact⟨rfl,h2,s2⟩
theorem zJ(bd m:Nat)(S:Nat->Prop)(d:cX)(b:Option Addr)(c:Nat)(w:World)(h:cD w S bd m d)(f:Up d)(a:d.wait=[]):
  Calls prog 34 #[yP bd,.slice b 0 c] w λe w'=>e=.returned (.tuple #[])/\cD w' S bd m d/\cq S w w':=by
 have HW:=Hid.mk' (DS bd m S d b c w h f a);clear h f a;go_enter func34,ntmps34
 go_wp2_with (go_at_call 59;refine HW.mono ?_;rintro e w1 ⟨rfl,H1,S1⟩)
 go_end0
 exact⟨rfl,H1,S1⟩
end
end Go.Proofs.YtapijhhmjjplmaaGreatDoor

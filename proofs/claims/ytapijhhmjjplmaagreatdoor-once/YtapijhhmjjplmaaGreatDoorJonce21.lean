import Derived.Test.YtapijhhmjjplmaaGreatDoorJonce20
namespace Go.Proofs.YtapijhhmjjplmaaGreatDoor
set_option linter.all false
set_option maxRecDepth 100000
set_option maxHeartbeats 4000000
open Go.Proofs.Tryz
variable {ops:Array Oper}{uA:Array Value}{Q:Exit→Act→World→Prop}{uD:List Deferred}{xs:List Value}{B n k:Nat}{place:Nat→Option (Nat×Nat)}{S:Nat→Prop}{o:Oper}{P:Program}{E:Prop}{e ty:TypeId}{v:Value}{w:World}
section
open Go.RowKit Go.Maps
theorem iy(w:World)(A B:Obj):((w.alloc A).alloc B).heap[w.heap.size]?=some A/\((w.alloc A).alloc B).heap[w.heap.size+1]?=some B:=by
 have s1:(w.alloc A).heap.size=w.heap.size+1:=sI;refine⟨?_,?_⟩
 .rw[cK _ _ (by omega)];exact dM w A
 rw[<-s1];exact dM _ B
theorem G9(s:ByteArray):(db s).toArray.all (·.oneCell')=true:=by
 rw[NC];intro v hv;rw[List.mem_toArray]at hv;unfold db at hv;obtain⟨b,-,rfl⟩:=List.mem_map.1 hv;rfl
theorem eA(s:ByteArray):∀v∈db s,v.oneCell'=true:=by
 intro v hv;unfold db at hv;obtain⟨b,-,rfl⟩:=List.mem_map.1 hv;rfl
theorem pk(s:ByteArray)(w:World)(r:32<=s.size):
  Calls prog 264 #[.string s] w λe w'=>e=.returned (dL (s.extract 0 32))/\Below w.heap.size w w':=by
 obtain⟨C,hC⟩:=eX (db (s.extract 0 32));have c:(s.extract 0 32).size=32:=by rw[mM];omega
 have a:C.length=32:=by rw[hC,cE,c]
 have l:Hid (C=cW (s.data.toList.take 32)):=by show _=_;rw[hC];unfold db cW;rw[cP,FH,PX];rfl
 have m:Hid ((prog.info? 5).map (·.size)=some 1):=by show _=_;kernel_rfl
 have o:Hid ((C.length:Int)=32):=by show _=_;rw[a];rfl
 have i:Hid (∀Z:Array Value,Z.size=32->0+C.length<=Z.size):=λZ hz=>by rw[hz,a];decide
 have g:Hid (∀Z:Array Value,Z.size=32->(Z.toList.take 0++C++Z.toList.drop (0+C.length)).toArray=C.toArray):=λZ hz=>by have e:Z.toList.drop (0+C.length)=[]:=A9 (by rw[gf,hz,a];omega);rw[e,CO];rfl
 have b:Hid ((prog.info? 131).map (·.size)=some C.toArray.size):=by show _=_;rw[jO,a];kernel_rfl
 have h:Hid (C.toArray.all (·.oneCell')=true):=hC▸G9 _;have d:Hid (∀Z:Array Value,Z.size=32->Z.size=C.toArray.size):=λZ hz=>by rw[hz,jO,a]
 obtain⟨A,hA⟩:=eX (C.toArray);have f:dL (s.extract 0 32)=.agg A:=by rw[hA,hC];rfl
 rw[<-hA]at g b h d;rw[f];have q:(32:Int)<=s.size:=oM;clear hA f hC a c;go_enter func264,ntmps264
 go_wp2_with (first|(refine sZ rfl _ _ 134 9 rfl 5 yE m (w.heap.size+1) 0 32 32 s rfl rfl _ 131 (iy w _ _).2 C l (i _ rfl) A (g _ rfl) 32 o ?_)|(refine vk rfl 131 _ rfl (w.heap.size+1) rfl 131 A (0,0) _ (ja _ _ _ _ _ _ (iy w _ _).2) kb rfl b ?_)|(refine cu rfl 131 _ _ rfl w.heap.size A rfl rfl 131 _ ((l7 _ _ _ _ oM).trans (iy w _ _).1) b (d _ rfl) h ?_;intro w4 j))
 have n:w4.heap[w.heap.size]?=some (.cells A 131 (0,0)):=by rw[j.out];exact ja _ _ _ _ _ _ ((l7 _ _ _ _ oM).trans (iy w _ _).1)
 have k:Below w.heap.size w w4:=by rw[j.out];exact cC (cC (((dw _ _).alloc (cO _) _).alloc sI _) oM _) (cO _) _
 refine gh (Bj (p:=2) (ty:=131) rfl _ _ w.heap.size 131 A (0,0) _ rfl n kb rfl b) rfl ?_;exact⟨rfl,k⟩
theorem yu(i a b:Nat)(h:b<2^i):(a*2^i)|||b=a*2^i+b:=by
 have:=Qx h a;rw[Nat.mul_comm a,<-this]
theorem Jb(a b c d:Nat)(e:a<256)(f:b<256)(hc:c<256)(g:d<256):bits .or .u32 (bits .or .u32 (bits .or .u32 ((a:Int)*16777216) ((b:Int)*65536)) ((c:Int)*256)) (d:Int)=((a*16777216+b*65536+c*256+d:Nat):Int):=by
 have e1:bits .or .u32 ((a:Int)*16777216) ((b:Int)*65536)=((a*16777216+b*65536:Nat):Int):=by have h:=O2 (a*16777216) (b*65536) oM oM;have h2:=yu 24 a (b*65536) oM;rw[show(2:Nat)^24=16777216 by decide]at h2;rw[h2]at h;rw[show(a:Int)*16777216=((a*16777216:Nat):Int) by omega,show(b:Int)*65536=((b*65536:Nat):Int) by omega];exact h
 have e2:bits .or .u32 ((a*16777216+b*65536:Nat):Int) ((c:Int)*256)=((a*16777216+b*65536+c*256:Nat):Int):=by have h:=O2 (a*16777216+b*65536) (c*256) oM oM;have h2:=yu 16 (a*256+b) (c*256) oM;rw[show(2:Nat)^16=65536 by decide,show(a*256+b)*65536=a*16777216+b*65536 by omega]at h2;rw[h2]at h;rw[show(c:Int)*256=((c*256:Nat):Int) by omega];exact h
 have e3:bits .or .u32 ((a*16777216+b*65536+c*256:Nat):Int) (d:Int)=((a*16777216+b*65536+c*256+d:Nat):Int):=by have h:=O2 (a*16777216+b*65536+c*256) d oM oM;have h2:=yu 8 (a*65536+b*256+c) d oM;rw[show(2:Nat)^8=256 by decide,show(a*65536+b*256+c)*256=a*16777216+b*65536+c*256 by omega]at h2;rw[h2]at h;exact h
 rw[e1,e2,e3]
theorem rK(s:ByteArray)(w:World)(i:4<=s.size):
  Calls prog 263 #[.string s] w λe w'=>e=.returned (.int .u32 (jW (s.extract 0 4):Int))/\Below w.heap.size w w':=by
 have h0:=s[0].toNat_lt;have h1:=s[1].toNat_lt;have h2:=s[2].toNat_lt;have h3:=s[3].toNat_lt;have HN:=LX s i;have H4:=hD (Jb _ _ _ _ h0 h1 h2 h3);have a:0<s.size:=oM;have b:1<s.size:=oM;have g:2<s.size:=oM;have c:3<s.size:=oM;have d:(1:Int)<s.size:=oM;have h:(2:Int)<s.size:=oM;have f:(3:Int)<s.size:=oM;go_enter func263,ntmps263;rw[HN];clear HN
 go_wp2
 go_quiet (fail)
 go_wp2
 go_ret;refine⟨?_,⟨rfl,rfl,rfl,cO _,λ_ _=>rfl⟩⟩;rw[<-H4.out];rfl
theorem xx:∃i z,prog.info? 131=some i/\i.zero=some z/\i.size=32/\i.bytes=32/\z.cells.size=32:=by
 have h:((prog.info? 131).bind λi=>i.zero.map λz=>(i.size,i.bytes,z.cells.size))=some (32,32,32):=kR
 cases hi:prog.info? 131 with
 |none=>rw[hi]at h;cases h
 |some i=>
  rw[hi]at h
  cases hz:i.zero with
  |none=>simp[hz]at h
  |some z=>
   simp[hz]at h;exact⟨i,z,rfl,hz,h.1,h.2.1,h.2.2⟩
theorem wD{t:TypeId}{i:TypeInfo}{z:Value}{q:Nat}(a:P.underlying t=some (.slice e))(b:P.info? e=some i)(hz:i.zero=some z)(c:i.size=q)(d:0<q)(f:q<=1000)(A:Array Value)(g:A.size=q)(V:World):
  (Instr.buildSlice t 1 #[(0,.agg A)]).run P V=.ok (.slice (yS V.heap.size 0) 1 1) (V.alloc (.cells A e)):=by
 refine run_buildSlice V t e 1 _ A i z a b hz oM oM ?_;have h:=Ox (s:=i.size) oM [Value.agg A] ((Array.range (1*i.size)).map (z.cells[·%z.cells.size]!)) (by intro v hv;rw[List.mem_singleton.1 hv];show A.size=_;omega) sI;simpa [Value.cells]using h
theorem qP:∀(l:List Value)(k:Nat)(Z:Array Value),k+l.length<=Z.size->((l.zipIdx k).foldl (λcs (x:Value×Nat)=>cs.setIfInBounds x.2 x.1) Z).toList=Z.toList.take k++l++Z.toList.drop (k+l.length)
 |[],k,Z,_=>by simp
 |x::r,k,Z,h=>by
  rw[List.zipIdx_cons,List.foldl_cons,qP r (k+1) (Z.setIfInBounds k x) (by simp at h⊢;omega)];rw[PW];rw[mY]at h;have hk:k<Z.toList.length:=by rw[gf];omega
  rw[List.take_set,List.drop_set_of_lt (by omega),sN hk,Ka _ _ (by rw[vx];omega)];have e:k-(Z.toList.take k).length=0:=by rw[vx];omega
  rw[e,Lf,mY];simp only[ve,Np,Ab];congr 3;congr 1;omega
theorem EJ(A Z:Array Value)(n:Nat)(a:A.size=n)(b:Z.size=n):Array.foldl (λcs (x:Value×Nat)=>cs.setIfInBounds x.2 x.1) Z A.zipIdx 0 n=A:=by
 subst a;have e:Array.foldl (λcs (x:Value×Nat)=>cs.setIfInBounds x.2 x.1) Z A.zipIdx 0 A.size=(A.toList.zipIdx 0).foldl (λcs (x:Value×Nat)=>cs.setIfInBounds x.2 x.1) Z:=by have h1:A.zipIdx.size=A.size:=sI;rw[<-h1,<-PZ];congr 1;simp
 rw[e];apply Array.ext';rw[qP A.toList 0 Z (by simp;omega)];simp;omega
theorem CF{ops:Array Oper}{a:Act}{w:World}{K:Act->World->Prop}{Q:Exit->Act->World->Prop}{E:Prop}{f:Nat}(g:o.guard=none)(x:Operand)(i:Array TypeId)(b:o.op=Op.call {callee:=Callee.value (Operand.func f),args:=#[x],argTypes:=i})(d:Value)(j:a.eval x=d)(c:∀args w,(callFunc f args).run prog w=.ok (.enter f args) w)(v:Value)(R:World->Prop)(hc:Calls prog f #[d] w λe w'=>e=.returned v/\R w')(l:∀w',R w'->K (a.put o.dst v) w'):if Region.wanted o (yielded ops a.tmps)=true then Oper.wp prog o a w K Q else E:=by
 have hw:Region.wanted o (yielded ops a.tmps)=true:=by simp[Region.wanted,g]
 rw[dq hw];unfold Oper.wp;have e1:a.eval (Operand.func f)=.func (.func f) #[] #[]:=rfl;simp only[execOp,b,resolve,invoke,e1];simp[Deferred.ofValue,j];rw[c];exact hc.mono (by rintro e w' ⟨rfl,h⟩;exact l w' h)
theorem td{ops:Array Oper}{a:Act}{K:Act->World->Prop}{Q:Exit->Act->World->Prop}{E:Prop}(V:World)(A Z:Array Value)(q:A.size=32)(r:Z.size=32)(t:∀u∈A.toList,u.oneCell'=true)(m:o.guard=none)(s x:Operand)(y:o.op=.call {callee:=.builtin .append,args:=#[s,x],argTypes:=#[374,374]})(j:Nat)(v:Value)(n:Nat)(xs:List Value)(z:a.eval s=v)(C:a.eval x=.slice (yS V.heap.size 0) 1 1)(l:V.ownsRow j 131 32 v n xs)(D:n<=100000)(p:j<=V.heap.size)(h:∀g cap w',w'.ownsRow j 131 32 (.slice (yS g 0) (n+1) cap) (n+1) (xs++A.toList)->(V.alloc (.cells A 131)).grownBy w' v.ownBlock->(v.ownBlock=some g\/g=V.heap.size+1)->g<w'.heap.size->K (a.put o.dst (.slice (yS g 0) (n+1) cap)) w'):
  if Region.wanted o (yielded ops a.tmps)=true then Oper.wp prog o a (V.alloc (.cells (Array.foldl (λcs (x:Value×Nat)=>cs.setIfInBounds x.2 x.1) Z A.zipIdx 0 32) 131)) K Q else E:=by
 obtain⟨i0,z0,b,e,c,d,f⟩:=xx;rw[EJ A Z 32 q r];refine O8 _ m s x 374 y j 131 i0 z0 32 32 Nr b e c d f dE v n xs z (rI (w:=V) l _) (yA V.heap.size 0) 1 1 A.toList C (by rw[gf,q]) (λi u hi=>?_) t dE (by unfold maxLen;omega) oM (by simp;omega) (V.heap.size+1) sI h;rw[Addr.add_mid,nS,cG (dM V _),<-kX];exact hi
def iP(t:ByteArray)(j:Nat):List Value:=(List.range j).flatMap λi=>db (iz t i)
theorem Aj(t:ByteArray)(j:Nat):iP t (j+1)=iP t j++db (iz t j):=by
 unfold iP;rw[JO,LQ];simp
def Gi(w:World)(s:ByteArray)(n:Nat)(e:Ending)(w':World):Prop:=∃cv:Value,e=.returned (.tuple #[.agg #[.int .i64 n,cv],.bool true])/\Below w.heap.size w w'/\w'.ownsRow w.heap.size 131 32 cv (du n) (iP s (du n))
theorem dX{b:Func}{p u:Tmp}(h:b.results=#[.cell p ty,.tmp u])(a:Array Value)(w:World)(g:Nat)(v:Value)(c:a.getD p undef=yP g)(d:(loadVar ty (yA g 0)).run P w=.ok v w):
  (results b a).run P w=.ok (.tuple #[v,a.getD u undef]) w:=by
 rw[results_cell_tmp h,c];simp[asAddr,Result.andThen,d]
theorem Eo(s:ByteArray)(j:Nat)(h:36+32*j<=s.size):((s.extract 4 s.size).extract (32*j) (s.extract 4 s.size).size).extract 0 32=iz s j:=by
 apply ej;unfold iz;rw[cP,cP,cP,cP,FH,PX,mM];rw[Qh,K8,K8,NE,show 4+32*j=4+32*j from rfl];congr 1;omega
theorem cr(h:w.ownsRow B e k v n xs):∀g,v.ownBlock=some g->B<=g/\g<w.heap.size:=λg hg=>h.lt g hg
theorem ry(s:ByteArray)(n:Nat)(w:World)(hs:s.size<=100000)(b1:jJ s=some n):
  Calls prog 272 #[.string s] w λe w'=>Gi w s n e w':=by
 have aB:(s.size:Int)<=100000:=oM;have aK:=mZ;obtain⟨ad,hm,Z,-⟩:=kA b1;have h4:¬s.size<4:=oM;have au:¬(s.size:Int)<4:=oM;have D:Hid (∀V,Calls prog 263 #[.string s] V λe w'=>e=.returned (.int .u32 (jW (s.extract 0 4):Int))/\Below V.heap.size V w'):=λV=>rK s V oM
 have X:=Db (s.extract 0 4) (by rw[mM];omega);rw[<-Z]at D X;clear Z b1;obtain⟨W1,p⟩:=eX (w.alloc (.cells #[.int .i64 0,.slice none 0 0] 376));have a2:Below w.heap.size w W1:=by rw[p];exact(dw _ _).alloc (cO _) _
 have aj:W1.heap[w.heap.size]?=some (.cells #[.int .i64 0,.slice none 0 0] 376 (0,0)):=p▸dM w _;have ae:w.heap.size<W1.heap.size:=by rw[p];simp
 have M:=hD a2;have a8:=hD aj;have z:=hD (D.out W1);clear a2 aj;have ap:¬(1536:Int)<n:=oM;have ax:(n:Int)<=1536:=oM;obtain⟨k,hk⟩:=eX (du n);have I:((n:Int)+96-1)/96=(k:Int):=by rw[hk];unfold du;omega
 have aJ:k<=16:=by rw[hk];unfold du;omega
 obtain⟨t,ht⟩:=eX (s.extract 4 s.size);have an:t.size=s.size-4:=by rw[ht,mM];omega
 have HT:=hD ht;have a1:(4:Int)<=s.size:=oM;have HK:=hD hk;rw[<-hk]at hm;clear ad h4 ht hk a1;rw[p]at z;go_enter func272,ntmps272
 go_wp2_with fail
 refine z.out.mono ?_;rintro e w2 ⟨rfl,P⟩;rw[<-p]at P;have o:=hD P;clear P z p
 go_wp2_with fail
 refine(D.out w2).mono ?_;rintro e w3 ⟨rfl,F⟩;have L:w.heap.size<w3.heap.size:=by have:=o.out.size;have:=F.size;omega
 have v:w3.heap[w.heap.size]?=some (.cells #[.int .i64 0,.slice none 0 0] 376 (0,0)):=by rw[F.block _ (by have:=o.out.size;omega),o.out.block _ ae];exact a8.out
 have S:Hid (Below w.heap.size w w3):=(M.out.trans (o.out.mono M.out.size)).trans (F.mono (by have:=o.out.size;omega));have T:=hD v;have av:w3.cell? (yA w.heap.size 0)=some (.int .i64 0):=cG v;have am:w3.cell? (yA w.heap.size 1)=some (.slice none 0 0):=cG v;have aI:=fH w3 w.heap.size 0 _ _ v;have aG:=fH w3 w.heap.size 1 _ _ v;clear F v D o a8 M ae W1;obtain⟨W4,r⟩:=eX (w3.alloc (.cells #[.int .i64 n,.slice none 0 0] 376));have N:W4.heap[w3.heap.size]?=some (.cells #[.int .i64 n,.slice none 0 0] 376 (0,0)):=r▸dM w3 _;have G:W4.heap[w.heap.size]?=some (.cells #[.int .i64 0,.slice none 0 0] 376 (0,0)):=by rw[r,cK _ _ L];exact T.out
 have aF:W4.heap.size=w3.heap.size+1:=by rw[r];simp
 have a0:Hid (Below w.heap.size w W4):=r▸S.out.alloc S.out.size _;have E:Hid (W4.heap[w3.heap.size]?=some (.cells #[.int .i64 n,.slice none 0 0] 376 (0,0))/\W4.heap[w.heap.size]?=some (.cells #[.int .i64 0,.slice none 0 0] 376 (0,0))):=⟨N,G⟩;have ah:W4.cell? (yA w3.heap.size 0)=some (.int .i64 n):=cG N;clear N G;have aE:((s.size-4:Nat):Int)=(k:Int)*32:=oM;have H:t.size=32*k:=oM;have a6:=hD hm;obtain⟨i0,z0,aD,aC,ay,aN,aQ⟩:=xx;have U:Hid (∀(A:Array Value),A.size=32->∀V:World,(Instr.buildSlice 374 1 #[(0,.agg A)]).run prog V=.ok (.slice (yS V.heap.size 0) 1 1) (V.alloc (.cells A 131))):=λA hA V=>wD Nr aD aC ay oM oM A hA V
 have aO:(k:Int)<=16:=oM;have aq:(t.size:Int)=32*k:=oM;obtain⟨B,hB⟩:=eX (w3.heap.size);rw[<-hB]at E aF ah;have ai:Hid (w.heap.size<B):=hB▸L;clear hm av am aI aG S T ah
 go_wp2
 rw[<-r,<-HT.out,<-hB,I];clear r hB L aE an aB au ap ax I X hs;go_loopw [34] (λQ wr=>∃j:Nat,j<=k/\Q=.int .i64 j/\Hid (∃cv:Value,wr.heap[B]?=some (.cells #[.int .i64 n,cv] 376 (0,0))/\wr.heap[w.heap.size]?=some (.cells #[.int .i64 0,.slice none 0 0] 376 (0,0))/\wr.ownsRow (B+1) 131 32 cv j (iP s j)/\Below w.heap.size w wr)) (λQ _=>k-(intOf Q).toNat)
 .exact⟨0,fP _,rfl,.slice none 0 0,E.out.1,E.out.2,⟨rfl,.inl ⟨rfl,rfl⟩⟩,a0.out⟩
 obtain⟨j,hj,rfl,HI⟩:=hrel;by_cases aU:j<k
 .obtain⟨cv,d,b,a,h⟩:=HI.out;obtain⟨ao,cc,rfl⟩:=cQ a;obtain⟨q,hq⟩:=eX (32*j);have aL:(j:Int)*32=(q:Int):=oM;have aV:(0:Int)<=q:=oM;have aR:(q:Int)<=t.size:=oM;obtain⟨x,hx⟩:=eX (t.extract q t.size);have a3:32<=x.size:=by rw[hx,mM];omega
  have Y:x.extract 0 32=iz s j:=by rw[hx,hq,HT.out];exact Eo s j (by have:=a6.out;omega)
  have K:(iz s j).size=32:=by unfold iz;rw[mM];have:=a6.out;omega
  obtain⟨A,hA⟩:=eX ((db (iz s j)).toArray);have ab:A.size=32:=by rw[hA,jO,cE,K]
  have HA:=hD hA;have aa:Hid (Calls prog 264 #[.string x] wr.drew λe w'=>e=.returned (.agg A)/\Below wr.heap.size wr w'):=by refine iM (pk x wr.drew a3) ?_;rintro e w' ⟨rfl,hb⟩;refine⟨by rw[Y,hA];rfl,⟨hb.os,hb.tape,hb.output,hb.size,hb.block⟩⟩
  have W:=cm d;have ag:=cm b;have b0:wr.drew.cell? (yA B 1)=some (.slice ao j cc):=by rw[nZ];exact cG d
  have m:Hid (∀w5,Below wr.heap.size wr w5->w5.cell? (yA B 1)=some (.slice ao j cc)/\w5.ownsRow (B+1) 131 32 (.slice ao j cc) j (iP s j)/\(Instr.buildSlice 374 1 #[(0,.agg A)]).run prog w5=.ok (.slice (yS w5.heap.size 0) 1 1) (w5.alloc (.cells A 131))/\B+1<=w5.heap.size/\(∀O:Obj,(w5.alloc O).cell? (yA B 1)=some (.slice ao j cc))/\
    ∀(O:Obj) g c W7,W7.ownsRow (B+1) 131 32 (.slice (yS g 0) (j+1) c) (j+1) (iP s j++A.toList)->(w5.alloc O).grownBy W7 (Value.ownBlock (.slice ao j cc))->
     W7.heap[B]?=some (.cells #[.int .i64 n,.slice ao j cc] 376 (0,0))/\Hid ((W7.setCell (yA B 1) (.slice (yS g 0) (j+1) c)).heap[B]?=some (.cells #[.int .i64 n,.slice (yS g 0) (j+1) c] 376 (0,0))/\(W7.setCell (yA B 1) (.slice (yS g 0) (j+1) c)).heap[w.heap.size]?=some (.cells #[.int .i64 0,.slice none 0 0] 376 (0,0))/\(W7.setCell (yA B 1) (.slice (yS g 0) (j+1) c)).ownsRow (B+1) 131 32 (.slice (yS g 0) (j+1) c) (j+1) (iP s (j+1))/\Below w.heap.size w (W7.setCell (yA B 1) (.slice (yS g 0) (j+1) c)))):=by
   intro w5 i;have aM:=i.size;have C:w5.heap[B]?=some (.cells #[.int .i64 n,.slice ao j cc] 376 (0,0)):=by rw[i.block _ W];exact d
   refine⟨cG C,cI a (λg hg=>i.block _ (cr a g hg).2),U.out A ab w5,oM,λO=>by rw[vY _ _ _ (by rw[cG C];rfl)];exact cG C,λO g c W7 ho af=>?_⟩;have al:∀q,Value.ownBlock (.slice ao j cc)=some q->B+1<=q:=λq hq=>(cr a q hq).1
   have aH:=ai.out;have a4:∀q,q<=B->q<w5.heap.size->W7.heap[q]?=w5.heap[q]?:=λq hq hl=>by rw[af.block q (by simp;omega) (λe=>by have:=al q e.symm;omega),cK _ _ hl]
   have ac:W7.heap[B]?=some (.cells #[.int .i64 n,.slice ao j cc] 376 (0,0)):=(a4 B (cO _) oM).trans C;have aW:=(cr ho g rfl).1;refine⟨ac,?_,?_,?_,?_⟩
   .rw[gE _ B 1 _ _ _ ac];rfl
   .rw[lq _ _ _ _ (by show w.heap.size≠B;omega),a4 _ (by omega) (by omega),i.block _ ag];exact b
   .rw[Aj];have e:A.toList=db (iz s j):=by rw[hA]
    rw[<-e];refine cI ho (λq hq=>?_);cases hq;exact lq _ _ _ _ (by show g≠B;omega)
   refine Jr ?_ (by show w.heap.size<=B;omega) _;refine((h.trans (i.mono h.size)).alloc (by have:=h.size;omega) _).grown af (by have:=h.size;simp;omega) (λq hq=>?_);have:=al q hq;omega
  have ar:Hid (j<=100000):=by show _<=_;omega
  have a7:∀u∈A.toList,u.oneCell'=true:=hA▸eA _;have aS:(j:Int)<k:=oM;have aT:IntKind.i64.wrap (q:Int)=q:=by rw[pH];omega
  have aP:=hD H;rw[hx]at aa;clear H aq hx a3 Y K hA W ag d b a h HI HT U a0 E hq
  go_wp2
  go_region_law (first|(refine CF (f:=264) rfl _ _ rfl (.string (t.extract q t.size)) rfl (enters_of func264 kR rfl) (.agg A) _ aa.out ?_;intro w5 i;obtain⟨c5,o5,b5,l5,a5,J⟩:=m.out w5 i;have az:=J;clear J)|(refine td w5 A _ ab rfl a7 rfl (.tmp 38) (.tmp 44) rfl (B+1) (.slice ao j cc) j (iP s j) rfl rfl o5 ar.out l5 ?_;intro g c W7 a y aA a9;have l:=az _ g c W7 a y;have k7:W7.cell? (yA B 1)=some (.slice ao j cc):=cG l.1;have f7:=fH W7 B 1 _ _ l.1;have HG:=l.2;clear l a y aA a9))
  all_goals
   go_wp2
   go_roundw
   .exact⟨j+1,oM,by go_num,_,HG.out⟩
   exact mS
 have ak:j=k:=oM;obtain⟨cv,d,b,a,h⟩:=HI.out;have aX:¬(j:Int)<k:=oM;have aY:wr.cell? (yA B 0)=some (.int .i64 n):=cG d;have aZ:wr.cell? (yA B 1)=some cv:=cG d;have d0:wr.cell? (yA w.heap.size 0)=some (.int .i64 0):=cG b;have d1:wr.cell? (yA w.heap.size 1)=some (.slice none 0 0):=cG b;have f0:=fH wr w.heap.size 0 _ _ b;have f1:=fH wr w.heap.size 1 _ _ b;obtain⟨ao,cc,rfl⟩:=cQ a
 have m:Hid ((((wr.setCell (yA w.heap.size 0) (.int .i64 n)).setCell (yA w.heap.size 1) (.slice ao j cc)).heap[w.heap.size]?=some (.cells #[.int .i64 n,.slice ao j cc] 376 (0,0)))/\Gi w s n (.returned (.tuple #[.agg #[.int .i64 n,.slice ao j cc],.bool true])) ((wr.setCell (yA w.heap.size 0) (.int .i64 n)).setCell (yA w.heap.size 1) (.slice ao j cc))):=by
  have aH:=ai.out;refine⟨?_,_,rfl,(h.setCell (cO _) _).setCell (cO _) _,?_⟩
  .rw[gE _ w.heap.size 1 _ _ _ (gE _ w.heap.size 0 _ _ _ b)];rfl
  rw[<-HK.out,<-ak];refine ii (cI a (λq hq=>?_)) oM;have:=(cr a q hq).1;rw[lq _ _ _ _ (by show q≠w.heap.size;omega),lq _ _ _ _ (by show q≠w.heap.size;omega)]
 clear ak d b a h HI
 go_wp2
 refine gh (dX rfl _ _ w.heap.size (.agg #[.int .i64 n,.slice ao j cc]) rfl (zo _ _ 376 376 _ (0,0) _ m.out.1 Rl rfl kR)) rfl ?_;exact m.out.2
theorem Aq{a b:World}(h:Below B a b)(n:Nat):Below B a (b.drewN n):=⟨h.os,h.tape,h.output,h.size,h.block⟩
theorem ku{a b c:World}(h:Below B a b)(d:B<=a.heap.size)(e:Below b.heap.size b c):Below B a c:=h.trans (e.mono (lZ d h.size))
theorem tB(o:Nat):∀(l:List Value)(k:Nat)(Z:Array Value),o+k+l.length<=Z.size->((l.zipIdx k).foldl (λcs (x:Value×Nat)=>cs.setIfInBounds (o+x.2) x.1) Z).toList=Z.toList.take (o+k)++l++Z.toList.drop (o+k+l.length)
 |[],k,Z,_=>by simp
 |x::r,k,Z,h=>by
  rw[mY]at h;rw[List.zipIdx_cons,List.foldl_cons,tB o r (k+1) (Z.setIfInBounds (o+k) x) (by simp;omega)];rw[PW];have hk:o+k<Z.toList.length:=by rw[gf];omega
  rw[show o+(k+1)=o+k+1 by omega,List.take_set,List.drop_set_of_lt (by omega),sN hk,Ka _ _ (by rw[vx];omega)];have e:o+k-(Z.toList.take (o+k)).length=0:=by rw[vx];omega
  rw[e,Lf,mY];simp only[ve,Np,Ab];congr 3;congr 1;omega
theorem Ko(A Z:Array Value)(o n:Nat)(a:A.size=n)(b:Z.size=o+n):Array.foldl (λcs (x:Value×Nat)=>cs.setIfInBounds (o+x.2) x.1) Z A.zipIdx 0 n=(Z.toList.take o++A.toList).toArray:=by
 subst a;have e:Array.foldl (λcs (x:Value×Nat)=>cs.setIfInBounds (o+x.2) x.1) Z A.zipIdx 0 A.size=(A.toList.zipIdx 0).foldl (λcs (x:Value×Nat)=>cs.setIfInBounds (o+x.2) x.1) Z:=by have h1:A.zipIdx.size=A.size:=sI;rw[<-h1,<-PZ];congr 1;simp
 rw[e];apply Array.ext';rw[tB o A.toList 0 Z (by simp;omega)];rw[A9 (by rw[gf,gf];omega)];simp
theorem uX{a:Act}{K:Act->World->Prop}(V:World)(b:Nat)(F L:Array Value)(n:Nat)(d:F=L)(i:L.size=n)(f:∀v∈L.toList,v.oneCell'=true)(t:TypeId)(old:Array Value)(g:V.heap[b]?=some (.cells old t (0,0)))(j:old.size=n)(h:K (a.put o.dst undef) (V.setRow b L)):Oper.upon P o a K Q ((Sem.run P (storeCells (yA b 0) F.toList) V).andThen (λ_ w'=>.ok Next.skip w')):=by
 subst d;have c:=QH P b 0 t F.toList 0 old V g (by simp;omega) f;simp only[NY]at c;rw[c];have e:(old.toList.take 0++F.toList++old.toList.drop (0+F.toList.length)).toArray=F:=by rw[A9 (by simp;omega)];simp
 simp only[nS,N6,Ab]at e⊢;rw[e];exact h
def gp(x:gS):List Value:=.string x.name::.int .u8 (eG x:Int)::db x.sum
theorem ef(x:gS)(h:x.sum.size=32):(gp x).length=34:=by unfold gp;rw[mY,mY,cE,h]
theorem gR(x:gS):∀v∈gp x,v.oneCell'=true:=by
 intro v hv;unfold gp at hv;rcases List.mem_cons.1 hv with rfl|hv
 .rfl
 .rcases List.mem_cons.1 hv with rfl|hv
  .rfl
  .exact eA _ v hv
def Ip(b:Nat)(C:Array Value)(V:World):Prop:=V.rangeAt b 0 C.toList
def GQ(w:World)(x:gS)(r:ByteArray)(e:Ending)(w':World):Prop:=e=.returned (.tuple #[.agg (gp x).toArray,.string r,.bool true])/\Below w.heap.size w w'
abbrev KU:Oper:=⟨some 52,.load 366 (.tmp 8),366,"text.go:105",#[],none⟩
abbrev KC:Oper:=⟨some 53,.move (.tmp 7),9,"text.go:105",#[],none⟩
abbrev KF:Oper:=⟨some 54,.move (.tmp 6),3,"text.go:105",#[],none⟩
abbrev KD:Oper:=⟨some 55,.binOp .add 3 (.tmp 54) (.const (.int .i64 32)) 3,3,"text.go:105",#[⟨2,.data⟩],none⟩
abbrev KO:Oper:=⟨some 56,.slice 9 (.tmp 53) (some (.tmp 55)) none none,9,"text.go:105",#[⟨1,.data⟩,⟨3,.data⟩],none⟩
abbrev KA:Oper:=⟨none,.store 366 (.tmp 2) (.tmp 52),0,"text.go:105",#[⟨0,.data⟩,⟨0,.phase⟩,{on:=1,ground:=.textOnly .lateStores},{on:=2,ground:=.textOnly .lateStores},{on:=3,ground:=.textOnly .lateStores},{on:=4,ground:=.textOnly .lateStoresUnsure}],none⟩
abbrev Lb:Oper:=⟨some 3,.assign (.tmp 56),9,"text.go:105",#[⟨4,.data⟩,⟨5,.chain⟩,⟨0,.phase⟩,⟨1,.phase⟩,⟨2,.phase⟩,⟨3,.phase⟩,⟨4,.phase⟩,⟨5,.phase⟩],none⟩
abbrev Le:Oper:=⟨some 4,.assign (.const (.bool true)),4,"text.go:105",#[⟨6,.chain⟩,⟨0,.phase⟩,⟨1,.phase⟩,⟨2,.phase⟩,⟨3,.phase⟩,⟨4,.phase⟩,⟨5,.phase⟩,⟨6,.phase⟩],none⟩
abbrev Cu:Array Oper:=#[KU,KC,KF,KD,KO,KA,Lb,Le]
theorem BZ(Q:Exit->Act->World->Prop)(k:∀c a d v w,Q (.panic c) (Act.put a d v) w->Q (.panic c) a w)(id r b n:Nat)(t:ByteArray)(C Z:Array Value)(t0 t1 t3 t4 t5 t9 m p q s u x y z A D E F G H I J L M N O T U V W X Y a0 a1 a2 a3 a4 a5 a6 a7 a8 a9 aa ab ac ad ae af:Value)(w:World)(ah:w.heap[b]?=some (.cells C 366 (0,0)))(ai:w.heap[r]?=some (.cells Z 366 (0,0)))(ag:b≠r)(hC:C.size=34)(hZ:Z.size=34)(ak:C.all (·.oneCell')=true)(hn:n<=255)(av:n+32<=t.size)(ht:t.size<=100000)(l:Q .normal {tmps:=#[t0,t1,yP r,.string (t.extract (n+32) t.size),.bool true,t5,.int .i64 n,.string t,yP b,t9,m,p,q,s,u,x,y,z,A,D,E,F,G,H,I,J,L,M,N,O,T,U,V,W,X,Y,a0,a1,a2,a3,a4,a5,a6,a7,a8,a9,aa,ab,ac,ad,ae,af,.agg C,.string t,.int .i64 n,.int .i64 (n+32:Nat),.string (t.extract (n+32) t.size)],defers:=[]} (w.drew.setRow r C)):
  (Code.region id Cu true).wp prog Q {tmps:=#[t0,t1,yP r,t3,t4,t5,.int .i64 n,.string t,yP b,t9,m,p,q,s,u,x,y,z,A,D,E,F,G,H,I,J,L,M,N,O,T,U,V,W,X,Y,a0,a1,a2,a3,a4,a5,a6,a7,a8,a9,aa,ab,ac,ad,ae,af,undef,undef,undef,undef,undef],defers:=[]} w:=by
 have e:Ip b C w.drew:=by intro j v hv;rw[nS];show w.cell? (yA b j)=some v;rw[cG ah,<-kX];exact hv
 have f:Ip b C (w.drew.setRow r C):=by intro j v hv;have h:=e j v hv;rw[nS]at h⊢;unfold World.cell? at h⊢;rw[l7 _ _ _ _ ag];exact h
 have hu:=BH;have hi:(prog.info? 366).map (·.size)=some C.toList.length:=by rw[gf,hC];kernel_rfl
 have g:(prog.info? 366).map (·.size)=some C.size:=by rw[hC];kernel_rfl
 have h1:(n:Int)+32<=t.size:=oM;have h2:(0:Int)<=(n:Int)+32:=oM;have h3:IntKind.i64.wrap ((n:Int)+32)=((n+32:Nat):Int):=by rw[pH];omega
 refine QU (S:=Ip b C) kR e (λ_=>?_);have e0:Array.replicate Cu.size false=#[false,false,false,false,false,false,false,false]:=by rfl
 have e1:Cu.size=8:=rfl;rw[e0,e1];refine KN (i:=0) (oi:=KU) (v:=.agg C.toList.toArray) rfl kR kR kR (λ_ _ _ h=>k _ _ _ _ _ h) (Rk (by rfl) _ _ rfl b 0 rfl C.toList _ (λw h=>h) hu rfl hi) e ?_;simp only[Act.put,Ow,Lf,QN,BO];refine Nv 1 KC (.string t) k (by intro w _;go_simp) e ?_;simp only[Act.put,pA];refine Nv 2 KF (.int .i64 n) k (by intro w _;go_simp) e ?_;simp only[Act.put,pA];refine Nv 3 KD (.int .i64 (n+32:Nat)) k (by intro w _;go_simp) e ?_;simp only[Act.put,pA];refine Nv 4 KO (.string (t.extract (n+32) t.size)) k (by intro w _;go_simp;rw[show((n:Int)+32).toNat=n+32 by omega]) e ?_;simp only[Act.put,pA];refine Ry 5 KA (λK hK=>?_);rw[dq (by rfl)];refine wp_store_row 366 _ _ rfl r C rfl rfl 366 Z ai g (by rw[hZ,hC]) ak ?_;refine hK.out _ _ f (λ_=>?_);simp only[Act.put];refine Nv 6 Lb (.string (t.extract (n+32) t.size)) k (by intro w _;go_simp) f ?_;simp only[Act.put,pA];refine Nv 7 Le (.bool true) k (by intro w _;go_simp) f ?_;simp only[Act.put,pA];exact Rn kR l _
def jQ(parts:List (Nat×Value)):List Value:=parts.flatMap λp=>p.2.cells.toList
def FK(place:Nat->Option (Nat×Nat)):Nat->List (Nat×Value)->Prop
 |_,[]=>True
 |k,(i,v)::r=>place i=some (k,v.cells.size)/\FK place (k+v.cells.size) r
theorem EZ(A Z:Array Value)(o:Nat)(a:o+A.size<=Z.size):(A.zipIdx.foldl (λcs (x:Value×Nat)=>cs.setIfInBounds (o+x.2) x.1) Z).toList=Z.toList.take o++A.toList++Z.toList.drop (o+A.size):=by
 have h:=tB o A.toList 0 Z (by simpa using a);have e:(A.zipIdx.foldl (λcs (x:Value×Nat)=>cs.setIfInBounds (o+x.2) x.1) Z)=(A.toList.zipIdx 0).foldl (λcs (x:Value×Nat)=>cs.setIfInBounds (o+x.2) x.1) Z:=by rw[<-PZ];congr 1;simp
 rw[e,h];simp
theorem tA :∀(parts:List (Nat×Value))(k:Nat)(Z:Array Value),FK place k parts->k+(jQ parts).length<=Z.size->
  Instr.fill place Z parts=some (Z.toList.take k++jQ parts++Z.toList.drop (k+(jQ parts).length)).toArray
 |[],k,Z,_,_=>by simp[Instr.fill,jQ]
 |(i,v)::r,k,Z,h,hz=>by
  have hl:(jQ ((i,v)::r)).length=v.cells.size+(jQ r).length:=by unfold jQ;rw[Lc,ir,gf]
  rw[hl]at hz;unfold Instr.fill;rw[h.1];show(if(decide (v.cells.size≠v.cells.size)||decide (k+v.cells.size>Z.size))=true then none else _)=_;rw[dj (by simp;omega)];obtain⟨Y,hY⟩:=eX (v.cells.zipIdx.foldl (λcs (x:Value×Nat)=>cs.setIfInBounds (k+x.2) x.1) Z);have a:=EZ v.cells Z k oM;rw[<-hY]at a;have b:Y.size=Z.size:=by rw[<-gf,a];simp;omega
  show Instr.fill place (v.cells.zipIdx.foldl (λcs (x:Value×Nat)=>cs.setIfInBounds (k+x.2) x.1) Z) r=_;rw[<-hY,tA r (k+v.cells.size) Y h.2 (by omega),a];congr 2;have e1:(Z.toList.take k).length=k:=by rw[vx,gf];omega
  have e2:(Z.toList.take k++v.cells.toList).length=k+v.cells.size:=by rw[ir,e1,gf]
  rw[Ny (by omega),pK (by omega)];rw[<-e2,List.drop_append,A9 (by omega),Ab,Qn,NE,e2,hl];have e3:jQ ((i,v)::r)=v.cells.toList++jQ r:=rfl;rw[e3];simp only[ve];congr 4;omega
theorem GA(A Z:Array Value)(n:Nat)(a:A.size=n)(b:n<=Z.size):Array.foldl (λcs (x:Value×Nat)=>cs.setIfInBounds x.2 x.1) Z A.zipIdx 0 n=(A.toList++Z.toList.drop n).toArray:=by
 subst a;have e:Array.foldl (λcs (x:Value×Nat)=>cs.setIfInBounds x.2 x.1) Z A.zipIdx 0 A.size=(A.toList.zipIdx 0).foldl (λcs (x:Value×Nat)=>cs.setIfInBounds x.2 x.1) Z:=by have h1:A.zipIdx.size=A.size:=sI;rw[<-h1,<-PZ];congr 1;simp
 rw[e];apply Array.ext';rw[qP A.toList 0 Z (by simpa using b)];simp
end
section
open Go.RowKit
theorem kY(w:World)(a:Addr)(n k:Nat)(h:k≠a.block):(w.freeze a n).heap[k]?=w.heap[k]?:=by
 unfold World.freeze;split
 .rfl
 .simp only[Array.getElem?_modify];rw[dj (λe=>h e.symm)]
theorem AC(w:World)(a:Addr)(n:Nat)(b:Addr)(h:b.block≠a.block):(w.freeze a n).cell? b=w.cell? b:=by
 unfold World.cell?;rw[kY _ _ _ _ h]
theorem yV(w:World)(a:Addr)(n:Nat):(w.freeze a n).heap.size=w.heap.size:=by
 unfold World.freeze;split
 .rfl
 .simp
theorem cq.freeze{a b:World}(h:cq S a b)(p:Addr)(c:S p.block)(n:Nat):cq S a (b.freeze p n):=by
 refine h.trans ⟨?_,?_,?_,by rw[yV];exact cO _,λk _ hs=>kY _ _ _ _ (λe=>hs (e▸c))⟩<;>(unfold World.freeze;split<;>rfl)
theorem It(Q:Exit->Act->World->Prop)(g o q c:Nat)(l:List UInt8)(w:World)(hc:w.cell? (yA g (o+1))=some (.slice (yS q 0) l.length c))(h:q≠g)(e:∀V,(Builtin.unsafeSliceData_ #[134] 403 #[.slice (yS q 0) l.length c]).run prog V=.ok (yP q) V)(f:(Builtin.unsafeString_ #[403,3] 9 #[yP q,.int .i64 l.length]).run prog w.drew=.ok (.string ⟨l.toArray⟩) (w.drew.freeze (yA q 0) l.length))(d:∀V,V=w.drew.freeze (yA q 0) l.length->∀uB,uP uA uB [2,3,4,5,6,7,8,9,10,11,12,13] [(2,.string ⟨l.toArray⟩)]->Q .normal ⟨uB,uD⟩ V)(hz:uA.size=14:=by rfl)(s0:gD uA 0=.pointer (yS g o):=by rfl):(Code.region 1 (rg f213 1) true).wp prog Q ⟨uA,uD⟩ w:=by
 have a:w.drew.cell? (yA g (o+1))=some (.slice (yS q 0) l.length c)/\True:=⟨by rw[nZ];exact hc,trivial⟩;have b:(w.drew.freeze (yA q 0) l.length).cell? (yA g (o+1))=some (.slice (yS q 0) l.length c)/\True:=⟨by rw[AC _ _ _ _ (zq h)];exact a.1,trivial⟩;refine rH (λV=>V.cell? (yA g (o+1))=some (.slice (yS q 0) l.length c)/\True) 12 a (λR hQ hn=>?_);refine tK hQ 0 a ?_;refine tK hQ 1 a ?_;refine tK hQ 2 a ?_;refine tK hQ 3 a ?_ (v:=.slice (yS q 0) l.length c) (hv:=by intro V hV;have q0:=hV.1;go_simp);refine tK hQ 4 a ?_ (v:=yP q) (hv:=by intro V hV;have q1:=e V;go_simp);refine tK hQ 5 a ?_;refine tK hQ 6 a ?_;refine tK hQ 7 a ?_;refine tK hQ 8 a ?_ (v:=.slice (yS q 0) l.length c) (hv:=by intro V hV;have q0:=hV.1;go_simp);refine tK hQ 9 a ?_;refine rO 10 (λK hK=>?_);have hm:=f;go_simp;have hX:(w.drew.freeze (yA q 0) l.length)=(w.drew.freeze (yA q 0) l.length):=rfl;refine hK.out _ _ b (λ_=>?_)
 try simp only[Act.put]
 refine tK hQ 11 b ?_;exact rD (hn (d _ hX _ uQ))
theorem JY(Q:Exit->Act->World->Prop)(g o:Nat)(w:World)(hc:w.cell? (yA g (o+1))=some (.slice none 0 0))(c:∀V,(Builtin.unsafeSliceData_ #[134] 403 #[.slice none 0 0]).run prog V=.ok (.pointer none) V)(d:∀V,(Builtin.unsafeString_ #[403,3] 9 #[.pointer none,.int .i64 0]).run prog V=.ok (.string ⟨#[]⟩) V)(b:∀V,V=w.drew->∀uB,uP uA uB [2,3,4,5,6,7,8,9,10,11,12,13] [(2,.string ⟨#[]⟩)]->Q .normal ⟨uB,uD⟩ V)(hz:uA.size=14:=by rfl)(s0:gD uA 0=.pointer (yS g o):=by rfl):(Code.region 1 (rg f213 1) true).wp prog Q ⟨uA,uD⟩ w:=by
 have a:w.drew.cell? (yA g (o+1))=some (.slice none 0 0)/\True:=⟨by rw[nZ];exact hc,trivial⟩;refine rH (λV=>V.cell? (yA g (o+1))=some (.slice none 0 0)/\True) 12 a (λR hQ hn=>?_);refine tK hQ 0 a ?_;refine tK hQ 1 a ?_;refine tK hQ 2 a ?_;refine tK hQ 3 a ?_ (v:=.slice none 0 0) (hv:=by intro V hV;have q0:=hV.1;go_simp);refine tK hQ 4 a ?_ (v:=.pointer none) (hv:=by intro V hV;have q1:=c V;go_simp);refine tK hQ 5 a ?_;refine tK hQ 6 a ?_;refine tK hQ 7 a ?_;refine tK hQ 8 a ?_ (v:=.slice none 0 0) (hv:=by intro V hV;have q0:=hV.1;go_simp);refine tK hQ 9 a ?_;refine rO 10 (λK hK=>?_);have hm:=d w.drew;go_simp;have hX:w.drew=w.drew:=rfl;refine hK.out _ _ a (λ_=>?_)
 try simp only[Act.put]
 refine tK hQ 11 a ?_;exact rD (hn (b _ hX _ uQ))
end
end Go.Proofs.YtapijhhmjjplmaaGreatDoor

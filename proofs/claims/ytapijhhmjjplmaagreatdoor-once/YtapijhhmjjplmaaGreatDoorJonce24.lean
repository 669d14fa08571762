import Derived.Test.YtapijhhmjjplmaaGreatDoorJonce21
namespace Go.Proofs.YtapijhhmjjplmaaGreatDoor
set_option linter.all false
set_option maxRecDepth 100000
set_option maxHeartbeats 4000000
open Go.Proofs.Tryz
variable {ops:Array Oper}{C:Array Value}{s:ByteArray}{Q:Exit→Act→World→Prop}{has:List Ob}{rest:List Oper}{xs:List Value}{n B k j b N:Nat}{o:Oper}{P:Program}{ty e:TypeId}{v:Value}{w w' V V':World}
section
open Go.RowKit Go.Maps
theorem od{c:Func}{p u v:Tmp}(h:c.results=#[.cell p ty,.tmp u,.tmp v])(b:Array Value)(P:Program)(w:World):
  (results c b).run P w=((asAddr (b.getD p undef)).run P w).andThen λa w₁=>((loadVar ty a).run P w₁).andThen λx w₂=>.ok (.tuple #[x,b.getD u undef,b.getD v undef]) w₂:=by
 simp only[results,h];simp[K7,Result.andThen]
theorem qE{b:Func}{p u v:Tmp}(h:b.results=#[.cell p ty,.tmp u,.tmp v])(a:Array Value)(w:World)(g:Nat)(x:Value)(c:a.getD p undef=yP g)(d:(loadVar ty (yA g 0)).run P w=.ok x w):
  (results b a).run P w=.ok (.tuple #[x,a.getD u undef,a.getD v undef]) w:=by
 rw[od h,c];simp[asAddr,Result.andThen,d]
@[reducible] def ic:Array Value:=(.string ⟨#[]⟩::.int .u8 0::List.replicate 32 (.int .u8 0)).toArray
theorem tU(s:ByteArray)(x:gS)(r:ByteArray)(w:World)(hs:s.size<=100000)(hx:lE s=some (x,r))(hd:x.dir=false):
  Calls prog 285 #[.string s] w λe w'=>GQ w x r e w':=by
 unfold lE at hx;split at hx
 case isFalse=>cases hx
 rename_i al;split at hx
 case isFalse=>cases hx
 rename_i F;injection hx with hx;obtain⟨rfl,rfl⟩:=Hi hx;obtain⟨a,ha⟩:=eX (s[0].toNat);obtain⟨n,hn⟩:=eX (s[1].toNat);rw[<-hn,<-ha]at F hd⊢;have ac:a=1:=by have:=of_decide_eq_false hd;omega
 have ak:(s.size:Int)<=100000:=oM;have ab:=mZ;have ai:0<s.size:=oM;have ad:1<s.size:=oM;have aj:(1:Int)<s.size:=oM;have af:(2:Int)<=s.size:=oM;have a3:a<256:=by rw[ha];exact s[0].toNat_lt
 have a1:n<256:=by rw[hn];exact s[1].toNat_lt
 obtain⟨t,ht⟩:=eX (s.extract 2 s.size);obtain⟨nm,g⟩:=eX (s.extract 2 (2+n));have K:nm.size=n:=by rw[g,mM];omega
 have y:t.extract 0 n=nm:=by rw[ht,g];apply ej;rw[cP,cP,cP,FH,K8];congr 1;omega
 have E:Hid (∀V,Calls prog 157 #[.string nm] V λe w'=>e=.returned (.bool true)/\Below V.heap.size V w'):=λV=>by have:=sj nm V oM;rw[show yF nm=true by rw[g];exact F.2.2]at this;exact this
 have B:Hid (∀V,Calls prog 158 #[.string nm] V λe w'=>e=.returned (.string nm)/\Below V.heap.size V w'):=λV=>kz nm V oM
 have Y:t.size=s.size-2:=by rw[ht,mM];omega
 have a5:(t.size:Int)=s.size-2:=oM;obtain⟨sm,l⟩:=eX (s.extract (2+n) (34+n));have p:sm.size=32:=by rw[l,mM];omega
 obtain⟨A,hA⟩:=eX ((db sm).toArray);have Q:A.size=32:=by rw[hA,jO,cE,p]
 have O:Hid (∀V,Calls prog 264 #[.string (t.extract n t.size)] V λe w'=>e=.returned (.agg A)/\Below V.heap.size V w'):=λV=>by
  have:=pk (t.extract n t.size) V (by rw[mM];omega);have e:(t.extract n t.size).extract 0 32=sm:=by rw[l,ht];apply ej;rw[cP,cP,cP,cP,FH,PX,mM,Qh,K8,K8,NE];congr 1;omega
  rw[e]at this;rw[hA];exact this
 obtain⟨C,hC⟩:=eX (([Value.string (t.extract 0 n),Value.int .u8 2]++A.toList).toArray:Array Value);have i:Hid (C.size=34):=by show _=_;rw[hC];simp[Q]
 have u:Hid (∀v∈C.toList,v.oneCell'=true):=by
  intro v hv;rw[hC,List.toList_toArray]at hv;rcases List.mem_append.1 hv with hv|hv
  .simp at hv;rcases hv with rfl|rfl<;>rfl
  rw[hA]at hv;exact eA _ v hv
 have P:Hid (∀z:Array Value,z.size=34->z.toList.take 2=[.string (t.extract 0 n),.int .u8 2]->Array.foldl (λcs (x:Value×Nat)=>cs.setIfInBounds (2+x.2) x.1) z A.zipIdx 0 32=C):=λz h1 h2=>by rw[Ko A z 2 32 Q h1,h2,hC]
 have a2:=P #[.string (t.extract 0 n),.int .u8 2,.int .u8 0,.int .u8 0,.int .u8 0,.int .u8 0,.int .u8 0,.int .u8 0,.int .u8 0,.int .u8 0,.int .u8 0,.int .u8 0,.int .u8 0,.int .u8 0,.int .u8 0,.int .u8 0,.int .u8 0,.int .u8 0,.int .u8 0,.int .u8 0,.int .u8 0,.int .u8 0,.int .u8 0,.int .u8 0,.int .u8 0,.int .u8 0,.int .u8 0,.int .u8 0,.int .u8 0,.int .u8 0,.int .u8 0,.int .u8 0,.int .u8 0,.int .u8 0] rfl rfl;have N:=i;have X:Hid (C.all (·.oneCell')=true):=Array.all_eq_true_iff_forall_mem.2 (λv hv=>u v (by simpa using hv));have a9:¬(t.size:Int)<(n:Int)+32:=oM;have ag:(n:Int)<=t.size:=oM;have a8:(0:Int)<=n:=oM;have aa:(n:Int)<=255:=oM;have HT:=hD ht;rw[<-y]at E B;have j:Hid (t.extract 0 n=nm/\nm=s.extract 2 (2+n)/\sm=s.extract (2+n) (34+n)/\decide (a=2)=false):=⟨y,g,l,hd⟩;have ae:=hn.symm;obtain⟨W1,W⟩:=eX (w.alloc (.cells (.string ⟨#[]⟩::.int .u8 0::List.replicate 32 (.int .u8 0)).toArray 366));have ah:s[0].toNat=1:=oM;have U:Hid (t.extract (n+32) t.size=s.extract (34+n) s.size):=by show _=_;rw[ht];apply ej;rw[cP,cP,cP,mM,Qh,NE,K8];rw[show 2+(n+32)=34+n by omega];congr 1;omega
 have a0:Hid (t.size<=100000):=by show _<=_;omega
 have a6:=hD hC;have a4:=hD hA;clear hC F ht y g K a5 Y l p hA ha hn hd hx;go_enter func285,ntmps285
 go_wp2
 go_quiet (fail)
 rw[<-HT.out]
 go_wp2_with fail
 refine(E _).mono ?_;rintro e w2 ⟨rfl,f⟩;have a7:w.heap.size<w2.heap.size:=by have:=f.size;simp at this;omega
 obtain⟨Z,hZ,H⟩:∃Z:Array Value,Z.size=34/\w2.heap[w.heap.size]?=some (.cells Z 366 (0,0)):=⟨_,rfl,by rw[f.block _ (by simp)];exact dM w _⟩;have S:Hid (Below w.heap.size w w2):=((dw _ _).alloc (cO _) _).trans ((⟨f.os,f.tape,f.output,f.size,f.block⟩:Below (w.alloc _).heap.size (w.alloc _) w2).mono sI);have G:Hid (Z.size=34/\w2.heap[w.heap.size]?=some (.cells Z 366 (0,0))):=⟨hZ,H⟩;clear f hZ H E W;go_upto_region 6 with fail
 go_cut [8] from 42 to 51 (λp8 V=>Hid (∃b,p8=(yP b)/\w2.heap.size<=b/\V.heap[b]?=some (.cells C 366 (0,0))/\Below w2.heap.size w2 V))
 case first=>
  go_region_held3 (λV=>Hid (Below w2.heap.size w2 V)) ((first|assumption|(show Below _ _ _;exact bE;done))) (first|(go_at_call 158;refine(B _).mono ?_;rintro e w3 ⟨rfl,o⟩;have B3:Hid (Below w2.heap.size w2 w3):=ku bE (cO _) o;have z3:=B3.out.size;have y3:=o.size;(try simp at y3);have p3:=Hid.mk' (λ(k:Nat) h=>o.block k h);clear o)|(go_at_call 264;refine(O _).mono ?_;rintro e w4 ⟨rfl,m⟩;have B4:Hid (Below w2.heap.size w2 w4):=ku bE (cO _) m;have z4:=B4.out.size;have y4:=m.size;(try simp at y4);have p4:=Hid.mk' (λ(k:Nat) h=>m.block k h);clear m)|(refine uX _ _ _ C 34 rfl i u 366 _ (by(first|exact dM _ _|(rw[p4.out _ (by first|(simp;omega)|simp|omega)];first|exact dM _ _|(rw[p3.out _ (by first|(simp;omega)|simp|omega)];exact dM _ _))|(rw[p3.out _ (by first|(simp;omega)|simp|omega)];first|exact dM _ _|(rw[p4.out _ (by first|(simp;omega)|simp|omega)];exact dM _ _)))) rfl ?_))
  all_goals
   go_wp2_with fail
   go_meet;exact⟨_,rfl,by first|omega|(simp;omega)|simp,ja _ _ _ _ _ _ (by(first|exact dM _ _|(rw[p4.out _ (by first|(simp;omega)|simp|omega)];first|exact dM _ _|(rw[p3.out _ (by first|(simp;omega)|simp|omega)];exact dM _ _))|(rw[p3.out _ (by first|(simp;omega)|simp|omega)];first|exact dM _ _|(rw[p4.out _ (by first|(simp;omega)|simp|omega)];exact dM _ _)))),bE⟩
 obtain⟨b,rfl,hb,J,D⟩:=hcut.out;clear hcut;have q:wc.heap[w.heap.size]?=some (.cells Z 366 (0,0)):=by rw[D.block _ a7];exact G.2
 have M:b≠w.heap.size:=oM;have L:Hid (GQ w ⟨s.extract 2 (2+n),decide (a=2),s.extract (2+n) (34+n)⟩ (s.extract (34+n) s.size) (.returned (.tuple #[.agg C,.string (t.extract (n+32) t.size),.bool true])) (wc.drew.setRow w.heap.size C)):=by refine⟨?_,cC (S.trans (D.mono S.size)).drew (cO _) _⟩;rw[U.out,a6.out,a4.out,j.out.1,j.out.2.1,j.out.2.2.1,j.out.2.2.2];rfl
 have I:(wc.drew.setRow w.heap.size C).heap[w.heap.size]?=some (.cells C 366 (0,0)):=ja _ _ _ _ _ _ q;have T:=hD I;go_upto_region 7 with fail
 refine kQ (BZ _ (by intro c a d v w h;exact h) 7 w.heap.size b n t C Z _ _ _ _ _ _ _ _ _ _ _ _ _ _ _ _ _ _ _ _ _ _ _ _ _ _ _ _ _ _ _ _ _ _ _ _ _ _ _ _ _ _ _ _ _ _ _ _ wc J q M N G.1 X oM oM a0 ?_);clear I J D q a2 P O B i u;refine Rx ?_
 go_wp2
 refine gh (qE rfl _ _ w.heap.size (.agg C) rfl (zo _ _ 366 366 _ (0,0) _ T BH rfl (by rw[N];kernel_rfl))) rfl ?_;exact L
theorem Ao:∃i z,prog.info? 366=some i/\i.zero=some z/\i.size=34/\i.bytes=56/\z.cells.size=34:=by
 have h:((prog.info? 366).bind λi=>i.zero.map λz=>(i.size,i.bytes,z.cells.size))=some (34,56,34):=kR
 cases hi:prog.info? 366 with
 |none=>rw[hi]at h;cases h
 |some i=>
  rw[hi]at h
  cases hz:i.zero with
  |none=>simp[hz]at h
  |some z=>
   simp[hz]at h;exact⟨i,z,rfl,hz,h.1,h.2.1,h.2.2⟩
theorem jC{a:Act}(b:o.guard=none)(t e:TypeId)(x:Operand)(c:o.op=.buildSlice t 1 #[(0,x)])(A:Array Value)(d:a.eval x=.agg A){i:TypeInfo}{z:Value}{q:Nat}(f:P.underlying t=some (.slice e))(g:P.info? e=some i)(hz:i.zero=some z)(j:i.size=q)(k:0<q)(l:q<=1000)(m:A.size=q)(h:wpList P ops Q rest (a.put o.dst (.slice (yS w.heap.size 0) 1 1)) (w.alloc (.cells A e))):wpList P ops Q (o::rest) a w:=by
 refine ND b λK hK=>?_
 unfold Oper.wp execOp;have hb:=wD f g hz j k l A m w;simp only[c];simp[d,hb];exact hK _ _ h
def fM(l:List gS):List Value:=l.flatMap gp
theorem uI(l:List gS)(x:gS):fM (l++[x])=fM l++gp x:=by unfold fM;rw[LQ];simp
def BM(w:World)(l:List gS)(e:Ending)(w':World):Prop:=∃v:Value,e=.returned (.tuple #[v,.bool true])/\Below w.heap.size w w'/\w'.ownsRow w.heap.size 366 34 v l.length (fM l)
theorem Pc(x y:ByteArray):(Op.bytesLess x.toList y.toList||x.toList==y.toList)=!E2 y x:=by
 rw[jG,FF,FF];unfold E2 bl;by_cases h:x.data.toList<y.data.toList
 .have:¬y.data.toList<x.data.toList:=λh'=>Rb _ (List.lt_trans h h')
  simp[h,this]
 by_cases h2:x.data.toList=y.data.toList
 .rw[h2];simp[Rb]
 have:y.data.toList<x.data.toList:=Decidable.byContradiction λh4=>h2 (QQ (List.not_lt.1 h4) (List.not_lt.1 h))
 simp[h,this];intro e;exact h2 (by rw[e])
theorem jF(t:ByteArray):(t.toList==[])=decide (t.size=0):=by
 have h:=fI t ⟨#[]⟩;rw[show ByteArray.toList ⟨#[]⟩=[] by rw[FF]]at h;rw[h];by_cases h0:t.size=0
 .rw[jX h0,EP];exact ej (OR h0)
 rw[lW h0,PE];intro e;exact h0 (by rw[e];rfl)
theorem pR(s:ByteArray)(l:List gS)(w:World)(d:s.size<=100000)(c:fO s=some l)(a:l.length<=16)(b:∀x∈l,x.dir=false):
  Calls prog 268 #[.string s] w λe w'=>BM w l e w':=by
 have hnot:=mZ;have HFL:Hid (∀(t:ByteArray) x r (V:World),t.size<=s.size->lE t=some (x,r)->x.dir=false->Calls prog 285 #[.string t] V λe w'=>GQ V x r e w'):=λt x r V h h1 h2=>tU t x r V oM h1 h2
 have HL:Hid (l.length<=16/\∀x∈l,x.dir=false):=⟨a,b⟩;have HL0:=hD c;clear c a b;have hu:=BH;have hi34:(prog.info? 366).map (·.size)=some 34:=kR;obtain⟨i0,z0,hi0,hz0,hz1,hz2,hz3⟩:=Ao;have HI0:Hid (prog.info? 366=some i0/\i0.zero=some z0/\i0.size=34/\i0.bytes=56/\z0.cells.size=34):=⟨hi0,hz0,hz1,hz2,hz3⟩;have HI34:=hD hi34;clear hi34 hi0 hz0 hz1 hz2 hz3;go_enter func268,ntmps268
 go_wp2
 go_loopw [0,4,5] (λt_ v_ l_ wr=>∃(t last:ByteArray),t_=.string t/\l_=.string last/\Hid (∃pre q:List gS,l=pre++q/\t.size<=s.size/\ig last t=some q/\wr.ownsRow w.heap.size 366 34 v_ pre.length (fM pre)/\Below w.heap.size w wr)) (λt_ _ _ _=>match t_ with| .string t=>t.size|_=>0)
 .exact⟨s,⟨#[]⟩,rfl,rfl,[],l,rfl,cO _,HL0.out,⟨rfl,.inl ⟨rfl,rfl⟩⟩,dw _ _⟩
 obtain⟨t,last,rfl,rfl,HI⟩:=hrel;obtain⟨pre,q,hpq,hts,hlp,hown,hbw⟩:=HI.out;obtain⟨ao,cc,rfl⟩:=cQ hown;by_cases h0:t.size=0
 .have hne:(t.toList==[])=true:=by rw[jF];exact jX h0
  have HFIN:Hid (BM w l (.returned (.tuple #[.slice ao pre.length cc,.bool true])) wr):=by rw[uU _ _ h0]at hlp;cases hlp;rw[CO]at hpq;rw[hpq];exact⟨_,rfl,hbw,hown⟩
  clear hown hbw hlp HI h0 hpq
  go_wp2
  refine gh (lB rfl _ _ _) rfl ?_;exact HFIN.out
 have hne:(t.toList==[])=false:=by rw[jF];exact lW h0
 obtain⟨k,hk⟩:=eX (pre.length)
 obtain⟨x,r,q',hx,hlt,hq',rfl⟩:∃x r q',lE t=some (x,r)/\E2 last x.name=true/\ig x.name r=some q'/\q=x::q':=by
  cases hx:lE t with
  |none=>rw[Go.Proofs.YtapijhhmjjplmaaGreatDoor.u6 h0 hx]at hlp;cases hlp
  |some p=>
   obtain⟨x,r⟩:=p;rw[rZ hx]at hlp;split at hlp
   .rename_i h1
    cases h2:ig x.name r with
    |none=>rw[h2]at hlp;cases hlp
    |some q'=>rw[h2]at hlp;cases hlp;exact⟨x,r,q',rfl,h1,h2,rfl⟩
   cases hlp
 have hk15:k<=15:=by have:=HL.out.1;rw[hpq,ir,mY]at this;omega
 have HP:Hid (k=pre.length/\t.size<=s.size/\ig x.name r=some q'/\l=pre++x::q'/\Below w.heap.size w wr/\wr.ownsRow w.heap.size 366 34 (.slice ao k cc) k (fM pre)):=⟨hk,hts,hq',hpq,hbw,hk▸hown⟩;have HC1:=Hid.mk' (HFL.out t x r wr hts hx (HL.out.2 x (by rw[hpq];simp)));have hre:r.size+34<=t.size:=(jw hx).2.2.1;obtain⟨C,hC⟩:=eX ((gp x).toArray);have HC:=hD hC;have HCS:Hid (C.size=34/\C.all (·.oneCell')=true):=by rw[hC];exact⟨by rw[jO];exact ef x (jw hx).2.1,Array.all_eq_true_iff_forall_mem.2 λv hv=>gR x v (by simpa using hv)⟩
 obtain⟨y,hy⟩:=eX (x.name);have HXY:=hD hy;have HC0:Hid (C[0]?=some (.string y)):=by rw[hC,hy];rfl
 have HLT:Hid (E2 last y=true):=hy▸hlt;rw[<-hk];clear hk hts h0 hlp hbw hown HI hq' hpq hx hlt hy
 go_wp2_with fail
 refine HC1.out.mono ?_;rintro e w1 ⟨rfl,hb1⟩;rw[<-hC];clear hC HC1;have HB1:=hD (HP.out.2.2.2.2.1.trans (hb1.mono HP.out.2.2.2.2.1.size));have HO1:=hD (cI HP.out.2.2.2.2.2 (λg hg=>hb1.block _ (cr HP.out.2.2.2.2.2 g hg).2));clear hb1;obtain⟨V,hV⟩:=eX ((w1.alloc (.cells ic 366)).setRow w1.heap.size C);have hVh:V.heap[w1.heap.size]?=some (.cells C 366 (0,0)):=hV▸ja _ _ _ _ _ _ (dM w1 _);have HVB:Hid (Below w.heap.size w V):=hV▸cC (HB1.out.alloc HB1.out.size _) (by have:=HB1.out.size;omega) _;have HVO:Hid (V.ownsRow w.heap.size 366 34 (.slice ao k cc) k (fM pre)):=by refine cI HO1.out (λg hg=>?_);have:=(cr HO1.out g hg).2;rw[hV,l7 _ _ _ _ (by omega),cK _ _ this]
 have hVc:V.cell? (yA w1.heap.size 0)=some (.string y):=by rw[cG hVh];exact HC0.out
 have HVH:=hD hVh;have hVz:V.heap.size=w1.heap.size+1:=by rw[hV];simp
 have HVZ:=hD hVz;have HW1:=hD HB1.out.size;have HV:=hD hV;clear hV hVh hVz HC0;have hbo:∀V:World,(binOp .leq 9 (.string y) (.string last)).run prog V=.ok (.bool (!E2 last y)) V:=λV=>by rw[<-Pc];simp[binOp,Op.stringOp]
 rw[HLT.out]at hbo;have hki:¬(k:Int)=16:=oM;have HCO:Hid (∀u∈C.toList,u.oneCell'=true):=λu hu=>(Array.all_eq_true_iff_forall_mem.1 HCS.out.2) u (by simpa using hu)
 have HFIN:Hid (∀V',V'=V->∀g cap W,W.ownsRow w.heap.size 366 34 (.slice (yS g 0) (k+1) cap) (k+1) (fM pre++C.toList)->(V'.alloc (.cells C 366)).grownBy W (Value.ownBlock (.slice ao k cc))->W.cell? (yA w1.heap.size 0)=some (.string y)/\Hid (∃pre' q:List gS,l=pre'++q/\r.size<=s.size/\ig y r=some q/\W.ownsRow w.heap.size 366 34 (.slice (yS g 0) (k+1) cap) pre'.length (fM pre')/\Below w.heap.size w W)):=by
  rintro V' rfl g cap W hown hgrow;refine⟨?_,pre++[x],q',by rw[HP.out.2.2.2.1];simp,by have:=HP.out.2.1;omega,by rw[HXY.out];exact HP.out.2.2.1,?_,?_⟩
  .rw[hgrow.cell_far _ (by have:=HVZ.out;simp;omega) ?_,vY _ _ _ (by rw[hVc];rfl)]
   .exact hVc
   intro e;have:=(cr HO1.out _ e.symm).2;exact absurd this (Nat.lt_irrefl _)
  .rw[uI,ir,<-HP.out.1];have e:C.toList=gp x:=by rw[HC.out]
   rw[<-e];exact hown
  exact(HVB.out.alloc HVB.out.size _).grown hgrow (by have:=HVB.out.size;simp;omega) (λq hq=>(cr HVO.out q hq).1)
 go_wp2_with (first|(refine cu rfl 366 _ _ rfl w1.heap.size C rfl rfl 366 ic (dM w1 _) (by rw[HCS.out.1];exact HI34.out) (by rw[HCS.out.1];rfl) HCS.out.2 ?_;intro V' hV';obtain rfl:V'=V:=hV'.out.trans HV.out.symm;clear hV')|(refine vk rfl 366 _ rfl w1.heap.size rfl 366 C (0,0) _ HVH.out BH rfl (by rw[HCS.out.1];exact HI34.out) ?_)|(refine jC rfl 362 366 _ rfl C rfl NZ HI0.out.1 HI0.out.2.1 HI0.out.2.2.1 dE dE HCS.out.1 ?_)|(refine F0 _ rfl (.tmp 30) (.tmp 32) 362 rfl w.heap.size 366 i0 z0 34 56 NZ HI0.out.1 HI0.out.2.1 HI0.out.2.2.1 HI0.out.2.2.2.1 HI0.out.2.2.2.2 dE (.slice ao k cc) k (fM pre) rfl (rI (w:=V') HVO.out _) (yA V'.heap.size 0) 1 1 C.toList rfl (by rw[gf,HCS.out.1]) (NB (dM V' _)) HCO.out dE (by unfold maxLen;omega) oM (by have:=HW1.out;have:=HVZ.out;simp;omega) _ rfl ?_;intro g cap W hown hgrow hat hlt;obtain⟨c9,H9⟩:=HFIN.out V' rfl g cap W hown hgrow;clear hown hgrow hat hlt))
 go_region
 go_wp2
 go_roundw
 case rel=>
  obtain⟨p',q,a1,a2,a3,a4,a5⟩:=H9.out;exact⟨r,y,rfl,rfl,p',q,a1,a2,a3,cI a4 (λ_ _=>rfl),a5.drew⟩
 (simp;try omega)
def jA(i:jR):List Value:=db i.root++[.string i.label]
theorem jN(i:jR)(h:i.root.size=32):(jA i).length=33:=by unfold jA;rw[ir,cE,h];rfl
theorem yY(i:jR):∀v∈jA i,v.oneCell'=true:=by
 intro v hv;unfold jA at hv;rcases List.mem_append.1 hv with hv|hv
 .exact eA _ v hv
 rw[List.mem_singleton.1 hv];rfl
abbrev ob(s:ByteArray)(n:Nat):Prop:=36<=s.size/\s.size<=56/\jW (s.extract 0 4)=n
def Ds(w:World)(s:ByteArray)(n:Nat)(e:Ending)(w':World):Prop:=∃(C:Array Value)(b:Bool),e=.returned (.tuple #[.agg C,.bool b])/\Below w.heap.size w w'/\C.size=33/\C.all (·.oneCell')=true/\((b=true/\ob s n/\C=(jA (kI s)).toArray)\/(b=false/\¬ob s n))
@[reducible] def uh:Array Value:=(List.replicate 32 (Value.int .u8 0)++[Value.string ⟨#[]⟩]).toArray
theorem Et(a:Below w.heap.size w w')(b:C.size=33)(c:C.all (·.oneCell')=true)(h:¬ob s n):Ds w s n (.returned (.tuple #[.agg C,.bool false])) w':=⟨C,false,rfl,a,b,c,.inr ⟨rfl,h⟩⟩
structure vB (w V:World):Prop where
 bel:Below w.heap.size w V
 row:∃X:Array Value,X.size=33/\V.heap[w.heap.size]?=some (.cells X 133 (0,0))
 lt:w.heap.size<V.heap.size
theorem vB.drew(h:vB w V):vB w V.drew:=⟨h.bel.drew,h.row,h.lt⟩
theorem vB.set(h:vB w V)(C:Array Value)(a:C.size=33):vB w (V.setRow w.heap.size C):=by
 obtain⟨X,hX,hr⟩:=h.row;exact⟨cC h.bel (cO _) _,⟨C,a,ja _ _ _ _ _ _ hr⟩,by simpa using h.lt⟩
theorem vB.call(h:vB w V)(a:Below V.heap.size V V'):vB w V':=by
 obtain⟨X,hX,hr⟩:=h.row;exact⟨h.bel.trans (a.mono (Pt h.lt)),⟨X,hX,by rw[a.block _ h.lt];exact hr⟩,ny h.lt a.size⟩
theorem BN(s:ByteArray)(n:Nat)(w:World)(N:n<=1000000)(h:36<=s.size/\s.size<=56):
  Calls prog 219 #[.string s,.int .i64 n] w λe w'=>Ds w s n e w':=by
 have M:¬(s.size:Int)<36:=oM;have I:¬(56:Int)<s.size:=oM;have H:(4:Int)<=s.size:=oM;have E:(36:Int)<=s.size:=oM;have F:=mZ;have f:Hid (∀V,Calls prog 263 #[.string s] V λe w'=>e=.returned (.int .u32 (jW (s.extract 0 4):Int))/\Below V.heap.size V w'):=λV=>rK s V oM
 have q:=Db (s.extract 0 4) (by rw[mM];omega);have z:(n:Int)%4294967296=n:=oM;have J:IntKind.u32.wrap (n:Int)=n:=by rw[Qc];omega
 have HW:Hid (∀V:World,Below (w.alloc (.cells uh 133)).heap.size (w.alloc (.cells uh 133)) V->V.heap[w.heap.size]?=some (.cells uh 133 (0,0))/\Below w.heap.size w V):=by intro V hb;refine⟨by rw[hb.block _ (by simp)];exact dM w _,?_⟩;exact((dw _ _).alloc (cO _) _).trans (hb.mono sI)
 by_cases hm:jW (s.extract 0 4)=n
 .rw[hm]at f q;have y:Hid (ob s n):=⟨h.1,h.2,hm⟩;obtain⟨sm,c⟩:=eX (s.extract 4 36);have d:sm.size=32:=by rw[c,mM];omega
  obtain⟨A,hA⟩:=eX ((db sm).toArray);have i:A.size=32:=by rw[hA,jO,cE,d]
  have u:Hid (∀V,Calls prog 264 #[.string (s.extract 4 s.size)] V λe w'=>e=.returned (.agg A)/\Below V.heap.size V w'):=λV=>by
   have:=pk (s.extract 4 s.size) V (by rw[mM];omega);have e:(s.extract 4 s.size).extract 0 32=sm:=by rw[c];apply ej;rw[cP,cP,cP,FH,PX,K8];congr 1;omega
   rw[e]at this;rw[hA];exact this
  have r:Hid (∀V,Calls prog 158 #[.string (s.extract 36 s.size)] V λe w'=>e=.returned (.string (s.extract 36 s.size))/\Below V.heap.size V w'):=λV=>kz _ V (by rw[mM];omega)
  obtain⟨C,hC⟩:=eX ((jA (kI s)).toArray:Array Value);have g:C.size=33:=by rw[hC,jO,jN _ (by show(s.extract 4 36).size=32;rw[<-c];exact d)]
  have l:Hid (∀v∈C.toList,v.oneCell'=true):=hC▸yY _;obtain⟨C0,j⟩:=eX ((A.toList++[Value.string ⟨#[]⟩]).toArray:Array Value);have D:C0.size=33:=by rw[j];simp[i]
  have K:Array.foldl (λcs (x:Value×Nat)=>cs.setIfInBounds x.2 x.1) #[.int .u8 0,.int .u8 0,.int .u8 0,.int .u8 0,.int .u8 0,.int .u8 0,.int .u8 0,.int .u8 0,.int .u8 0,.int .u8 0,.int .u8 0,.int .u8 0,.int .u8 0,.int .u8 0,.int .u8 0,.int .u8 0,.int .u8 0,.int .u8 0,.int .u8 0,.int .u8 0,.int .u8 0,.int .u8 0,.int .u8 0,.int .u8 0,.int .u8 0,.int .u8 0,.int .u8 0,.int .u8 0,.int .u8 0,.int .u8 0,.int .u8 0,.int .u8 0,.string ⟨#[]⟩] A.zipIdx 0 32=C0:=by rw[GA A _ 32 i (by decide),j];rfl
  have B:C0.setIfInBounds 32 (.string (s.extract 36 s.size))=C:=by
   rw[j,hC];show _=(db (s.extract 4 36)++[Value.string (s.extract 36 s.size)]).toArray;have e:A.toList=db (s.extract 4 36):=by rw[hA,c]
   rw[<-e];apply Array.ext';simp[Ka _ _ (show A.toList.length<=32 by simp[i]),i]
  clear j;have HC:=hD hC;clear hm h hA d hC c;go_enter func219,ntmps219
  go_wp2_with (refine(f _).mono ?_;rintro e w2 ⟨rfl,b⟩;have a:=Hid.mk' (HW w2 b);clear b)
  have G:Hid (vB w w2):=⟨a.out.2,⟨uh,rfl,a.out.1⟩,cm a.out.1⟩
  go_region_held3 (λV=>Hid (vB w V)) ((first|assumption|exact(vB.drew (Po (by assumption)):vB _ _)|exact(vB.set (Po (by assumption)) _ g:vB _ _))) (first|(go_at_call 158;refine(r _).mono ?_;rintro e w3 ⟨rfl,p⟩;have B3:Hid (vB w w3):=vB.call (Po (by assumption)) p;clear p)|(go_at_call 264;refine(u _).mono ?_;rintro e w4 ⟨rfl,o⟩;have B4:Hid (vB w w4):=vB.call (Po (by first|assumption|exact(vB.drew (Po (by assumption)):vB _ _))) o;clear o)|(obtain⟨X,hX,hr⟩:=B3.out.row;refine uX _ _ _ C 33 rfl g l 133 X hr hX ?_;have HX:=Hid.mk' hr;clear hr hX))
  go_wp2
  have t:C.all (·.oneCell')=true:=Array.all_eq_true_iff_forall_mem.2 (λv hv=>l v (by simpa using hv));refine gh (dX rfl _ _ w.heap.size (.agg C) rfl (zo _ _ 133 133 _ (0,0) _ (ja _ _ _ _ _ _ HX) Mp rfl (by rw[g];kernel_rfl))) rfl ?_;exact⟨C,true,rfl,cC B3.out.bel (cO _) _,g,t,.inl ⟨rfl,y,HC⟩⟩
 obtain⟨m,k⟩:=eX (jW (s.extract 0 4));rw[<-k]at f q hm;have HN:Hid (¬ob s n):=λh'=>hm (k.trans h'.2.2)
 have L:¬(m:Int)=n:=oM;clear k hm;go_enter func219,ntmps219
 go_wp2_with (first|(refine cu rfl 133 _ _ rfl w.heap.size uh rfl rfl 133 uh a.out.1 kR rfl kR ?_;intro V hV)|(refine(f _).mono ?_;rintro e w2 ⟨rfl,b⟩;have a:=Hid.mk' (HW w2 b);clear b))
 refine gh (dX rfl _ _ w.heap.size (.agg uh) rfl (zo _ _ 133 133 _ (0,0) _ ?hg Mp rfl kR)) rfl ?_
 case hg=>
  rw[hV.out];exact ja _ _ _ _ _ _ a.out.1
 rw[hV.out];exact Et (cC a.out.2 (cO _) _) rfl kR HN
theorem sF(s:ByteArray)(n:Nat)(w:World)(b:n<=1000000)(a:ob s n):
  Calls prog 219 #[.string s,.int .i64 n] w λe w'=>Ds w s n e w':=BN s n w b ⟨a.1,a.2.1⟩
theorem kr(h:w.ownsRow B e k v n xs)(c:j<n):∃g cap,v=.slice (yS g 0) n cap/\B<=g/\g<w.heap.size/\w.rangeAt g (j*k) ((xs.drop (j*k)).take k):=by
 rcases h.2 with⟨-,h0⟩|⟨g,cap,a,hv,hb,hg,hn,-,hs,hx⟩
 .omega
 .refine⟨g,cap,hv,hb,cm hg,λi u hu=>?_⟩;rw[cG hg,<-kX];have hi:i<k:=by have:=(List.getElem?_eq_some_iff.1 hu).1;rw[vx]at this;omega
  rw[NJ hi,NH,<-hx,NJ ?_]at hu
  .exact hu
  have:j*k+k<=n*k:=by have:=Nat.mul_le_mul_right k (show j+1<=n by omega);rw[Nat.add_mul,Nat.one_mul]at this;exact this
  omega
theorem ou{α:Type}(g:α->List Value)(k:Nat):∀(l:List α),(∀x∈l,(g x).length=k)->∀(j:Nat)(hj:j<l.length),((l.flatMap g).drop (j*k)).take k=g l[j]
 |x::r,h,0,_=>by rw[NW,FH,Lc,Ny (by rw[h x (by simp)];exact cO _),pK (by rw[h x (by simp)];exact cO _)];rfl
 |x::r,h,j+1,hj=>by
  have e:(j+1)*k=(g x).length+j*k:=by rw[h x (by simp),Nat.add_mul];omega
  rw[Lc,e,<-NE,List.drop_left,ou g k r (λy hy=>h y (by simp[hy])) j (by simpa using hj)];rfl
theorem wy(s:ByteArray)(n j:Nat)(c:s.size=4+32*n)(a:j<n):((iP s n).drop (j*32)).take 32=db (iz s j):=by
 unfold iP;rw[ou _ 32 _ (λi hi=>?_) j (by simpa using a)]
 .simp
 .rw[cE];rw[QE]at hi;unfold iz;rw[mM];omega
theorem rh(n j:Nat)(v:Value)(_hv:v.oneCell'=true)(w:World)(a:n<=100000)(c:j<=100000):
  Calls prog 284 #[.agg #[.int .i64 n,v],.int .i64 j] w λe w'=>e=.returned (.int .i64 (min (96:Int) ((n:Int)-96*j)))/\Below w.heap.size w w':=by
 have h1:IntKind.i64.wrap ((j:Int)*96)=(j:Int)*96:=by rw[pH];omega
 have h2:IntKind.i64.wrap ((n:Int)-(j:Int)*96)=(n:Int)-(j:Int)*96:=by rw[pH];omega
 go_enter func284,ntmps284
 go_wp2
 go_ret;exact⟨by rw[Int.mul_comm];rfl,(dw _ _).alloc (cO _) _⟩
@[reducible] def fN:Array Value:=(List.replicate 32 (Value.int .u8 0)).toArray
theorem KM.look1(h:KM w b N (λs=>(cF has k s).map qC))(s:ByteArray)(a:s.size=32):∃x y:Int,(∀o,cF has k s=some o->x=o.at_/\y=o.text.size)/\(∀V:World,V.heap[b]?=w.heap[b]?->(Instr.lookup 115 (.map (some b)) (dL s) true).run prog V=.ok (.tuple #[.agg #[.int .i64 x,.int .i64 y],.bool (cF has k s).isSome]) V):=by
 cases hf:cF has k s with
 |none=>
  refine⟨0,0,λo ho=>(by cases ho),λV hV=>?_⟩;obtain⟨x',y',h',hr⟩:=(h.on hV).look s a (lJ _);rw[hf]at h' hr;rcases h' with⟨-,h'⟩|h'
  .rw[h']at hr;exact hr
  cases h'
 |some o=>
  refine⟨o.at_,o.text.size,λo' ho=>(by cases ho;exact⟨rfl,rfl⟩),λV hV=>?_⟩;obtain⟨x',y',h',hr⟩:=(h.on hV).look s a (lJ _);rw[hf]at h' hr;rcases h' with⟨h',-⟩|h'
  .cases h'
  have e:=kM h';rw[<-e]at hr;exact hr
theorem AK(g a1 N:Nat)(X:Array Value)(has:List Ob)(s:ByteArray)(w:World)(hs:s.size<=100000)(aB:w.heap[g]?=some (.cells X 178 (0,0)))(hX:X[1]?=some (.map (some a1)))(hk:KM w a1 N (λs=>(cF has 1 s).map qC))(aE:o7 has s=true):
  Calls prog 265 #[yP g,.string s] w λe w'=>e=.returned (.bool (o7 has s))/\Below w.heap.size w w':=by
 have ak:=mZ;obtain⟨n,K,a2⟩:=CU.1 aE;have ae:=hD (ry s n w hs K);have r:Hid ((prog.info? 131).map (·.size)=some 32):=by show _=_;kernel_rfl
 have d:Hid (w.heap[g]?=some (.cells X 178 (0,0))/\X[1]?=some (.map (some a1))/\KM w a1 N (λs=>(cF has 1 s).map qC)):=⟨aB,hX,hk⟩;have ah:=cm aB;rw[aE];clear aB hX hk aE;go_enter func265,ntmps265
 go_wp2_with fail
 refine ae.mono ?_;rintro e w1 ⟨cv,rfl,D,c⟩;obtain⟨ao,cc,rfl⟩:=cQ c;obtain⟨h1,h2,-,h4⟩:=kA K;obtain⟨k,hk⟩:=eX (du n);rw[<-hk]at c h2 h4⊢;obtain⟨B,hB⟩:=eX (w1.heap.size);obtain⟨W2,f⟩:=eX (w1.alloc (.cells #[.int .i64 n,.slice ao k cc] 376));have t:Hid (Below w.heap.size w W2):=f▸D.alloc D.size _;have O:Hid (W2.heap[B]?=some (.cells #[.int .i64 n,.slice ao k cc] 376 (0,0))):=by rw[f,hB];exact dM w1 _
 have a4:Hid (W2.ownsRow w.heap.size 131 32 (.slice ao k cc) k (iP s k)):=f▸rI c _
 have HP:Hid ((∀j,j<k->∃o,cF has 1 (iz s j)=some o/\o.text.size=oO n j)/\k=du n/\s.size=4+32*k):=by
  refine⟨λj hj=>?_,hk,h2⟩;have h:=a2 j (by rw[<-hk];exact hj);unfold xv at h
  cases hf:cF has 1 (iz s j)with
  |none=>rw[hf]at h;cases h
  |some o=>rw[hf]at h;exact⟨o,rfl,FE h⟩
 have am:Hid (w.heap.size<=B):=hB▸D.size;clear K a2 c hk h2 D;have al:(k:Int)<=16:=oM;have aA:W2.heap.size=B+1:=by rw[f,hB];simp
 go_wp2
 rw[<-f];clear f;go_loopw [21] (λj_ wr=>∃j:Nat,j<=k/\j_=.int .i64 j/\Hid (Below W2.heap.size W2 wr)) (λj_ _=>k-(intOf j_).toNat)
 .exact⟨0,fP _,rfl,dw _ _⟩
 obtain⟨j,hj,rfl,HI⟩:=hrel;by_cases J:j<k
 .have ay:(j:Int)<k:=oM;have E:=HI;have hO:=cI a4 (λq hq=>E.block _ (cr a4 q hq).2);obtain⟨q,av,hv,az,ax,G⟩:=kr hO J;cases hv;rw[wy s k j HP.out.2.2 J]at G;have l:(iz s j).size=32:=by unfold iz;rw[mM];have:=HP.2.2;omega
  obtain⟨A,hA⟩:=eX ((db (iz s j)).toArray);have p:A.size=32:=by rw[hA,jO,cE,l]
  have af:Hid (∀v∈A.toList,v.oneCell'=true):=hA▸eA _;have a7:Hid (wr.rangeAt q (j*32) A.toList):=hA▸G;have Q:Hid (A.toList.length=32/\A.toList.toArray=A):=⟨by rw[gf,p],sI⟩;have ag:Hid (A.all (·.oneCell')=true):=Array.all_eq_true_iff_forall_mem.2 (λv hv=>af v (by simpa using hv));obtain⟨V1,u⟩:=eX ((wr.alloc (.cells fN 131)).setRow wr.heap.size A);have F:=E.size;have a:Below W2.heap.size W2 V1:=u▸cC (E.alloc F _) F _;have M:V1.heap[wr.heap.size]?=some (.cells A 131 (0,0)):=u▸ja _ _ _ _ _ _ (dM wr _);obtain⟨x,y,U,z⟩:=(d.2.2).look1 (iz s j) l;have P:dL (iz s j)=.agg A:=by rw[hA];rfl
  rw[P]at z;obtain⟨o,ho,a6⟩:=HP.1 j J;rw[ho]at z;have a8:Hid (y=(oO n j:Int)):=by show _=_;rw[(U o ho).2,a6]
  have T:Hid (∀V,Below V1.heap.size V1 V->V.cell? (yA g 1)=some (.map (some a1))/\V.rangeAt wr.heap.size 0 A.toList/\(Instr.lookup 115 (.map (some a1)) (.agg A) true).run prog V=.ok (.tuple #[.agg #[.int .i64 x,.int .i64 y],.bool true]) V/\Hid (Below V1.heap.size V1 V)):=by
   intro V hV;have I:=t;have a0:Below w.heap.size w V:=(I.trans (a.mono I.size)).trans (hV.mono (by have:=a.size;have:=I.size;omega));refine⟨?_,λi v hv=>?_,z V (a0.block _ d.2.2.lt),hV⟩
   .rw[a0.cell ah,cG d.out.1];exact d.2.1
   rw[nS,hV.cell (cm M),cG M,<-kX];exact hv
  have C:=hD a;have a5:=hD u;have ar:(prog.info? 131).map (·.size)=some A.toList.length:=by rw[gf,p];exact r
  have ap:A.toList.length=32:=by rw[gf,p]
  have an:=kb;have au:(0:Int)<=j:=oM;clear E hO G l hA F a M U z P ho a6 u
  go_wp2_with (first|(refine su rfl 131 _ rfl q (j*32) rfl A.toList _ a7 kb rfl (by rw[Q.out.1];exact r) ?_;rw[Q.out.2])|(refine cu rfl 131 _ _ rfl wr.heap.size A rfl rfl 131 fN (dM wr _) (p▸r) (by rw[p];rfl) ag ?_;intro V' a9;obtain rfl:V'=V1:=a9.out.trans a5.symm;clear a9))
  go_cut [9,10] from 26 to 35 (λp9 ad V=>Hid (∃b,p9=(yP b)/\ad=.bool true/\V'.heap.size<=b/\V.heap[b]?=some (.cells #[.int .i64 x,.int .i64 y] 361 (0,0))/\Below V'.heap.size V' V))
  case first=>
   go_region_held3 (λV=>V.cell? (yA g 1)=some (.map (some a1))/\V.rangeAt wr.heap.size 0 A.toList/\(Instr.lookup 115 (.map (some a1)) (.agg A) true).run prog V=.ok (.tuple #[.agg #[.int .i64 x,.int .i64 y],.bool true]) V/\Hid (Below V'.heap.size V' V)) ((exact T _ bE)) (fail)
   all_goals
    go_wp2_with fail
    go_meet;exact⟨_,rfl,rfl,sI,dM _ _,bE⟩
  obtain⟨b,rfl,rfl,hb,ab,L⟩:=hcut.out;clear hcut;have aa:wc.cell? (yA b 1)=some (.int .i64 y):=cG ab;have H:wc.heap[w1.heap.size]?=some (.cells #[.int .i64 n,.slice (yS q 0) k cc] 376 (0,0)):=by have h1:=C.size;have h2:=cm O;rw[<-hB,L.block _ (by omega),C.out.block _ (by omega)];exact O
  have S:wc.cell? (yA w1.heap.size 0)=some (.int .i64 n):=cG H;have a:wc.cell? (yA w1.heap.size 1)=some (.slice (yS q 0) k cc):=cG H;have Z:=hD (C.trans (L.mono C.size));have HL:=hD (t.trans (Z.mono t.size));have aj:Hid (∀V,Below wc.heap.size wc V->V.cell? (yA b 1)=some (.int .i64 y)/\V.cell? (yA w1.heap.size 0)=some (.int .i64 n)/\V.cell? (yA w1.heap.size 1)=some (.slice (yS q 0) k cc)/\Hid (Below wc.heap.size wc V)):=λV hV=>⟨by rw[hV.cell (pr aa)];exact aa,by rw[hV.cell (pr S)];exact S,by rw[hV.cell (pr a)];exact a,hV⟩
  clear ab L H T a7 a5;have Y:Hid (∀V,Calls prog 284 #[.agg #[.int .i64 n,.slice (yS q 0) k cc],.int .i64 j] V λe w'=>e=.returned (.int .i64 (min (96:Int) ((n:Int)-96*j)))/\Below V.heap.size V w'):=λV=>rh n j _ rfl V oM oM
  obtain⟨m,hm⟩:=eX (min (96:Int) ((n:Int)-96*j));rw[<-hm]at Y;have ac:y=m:=by rw[a8.out,hm];unfold oO;have:=HP.2.1;unfold du at this;omega
  clear hm HI a8;subst ac;go_upto_region 8 with fail
  go_region_held3 (λV=>V.cell? (yA b 1)=some (.int .i64 y)/\V.cell? (yA w1.heap.size 0)=some (.int .i64 n)/\V.cell? (yA w1.heap.size 1)=some (.slice (yS q 0) k cc)/\Hid (Below wc.heap.size wc V)) ((exact aj _ bE)) (first|(go_at_call 284;refine(Y _).mono ?_;rintro e w3 ⟨rfl,a3⟩;have B3:Hid (Below wc.heap.size wc w3):=ku bE (cO _) a3;clear a3))
  go_wp2
  go_roundw
  .exact⟨j+1,oM,by go_num,ku Z (cO _) (by first|exact B3.out.mono (cO _)|exact RG B3.out)⟩
  exact mS
 have ai:j=k:=oM;have aq:¬(j:Int)<k:=oM;have W:=hD (t.trans (HI.mono t.size));clear HI ai
 go_wp2
 go_ret;exact⟨rfl,W⟩
end
end Go.Proofs.YtapijhhmjjplmaaGreatDoor

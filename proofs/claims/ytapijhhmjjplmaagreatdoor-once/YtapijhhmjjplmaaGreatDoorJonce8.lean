import Derived.Test.YtapijhhmjjplmaaGreatDoorJonce2
namespace Go.Proofs.YtapijhhmjjplmaaGreatDoor
set_option linter.all false
set_option maxRecDepth 100000
set_option maxHeartbeats 4000000
open Go.Proofs.Tryz
variable {ops:Array Oper}{Q:Exit→Act→World→Prop}{rest:List Oper}{b c B:Nat}{o:Oper}{E:Prop}{w w':World}
section
open Go.RowKit
def uy:List Nat:=List.replicate 8 0
abbrev L1(w:World)(b:Nat)(x0 x1 x2 x3 x4 x5 x6 x7:Nat):World:=((((((((w.setCell (yA b 0) (.int .u32 x0)).setCell (yA b 1) (.int .u32 x1)).setCell (yA b 2) (.int .u32 x2)).setCell (yA b 3) (.int .u32 x3)).setCell (yA b 4) (.int .u32 x4)).setCell (yA b 5) (.int .u32 x5)).setCell (yA b 6) (.int .u32 x6)).setCell (yA b 7) (.int .u32 x7))
theorem Hd{t:TypeId}{l:List Nat}(m:l.length=8)(h:eD w b t l)(a d e f g i j k:Nat):eD (L1 w b a d e f g i j k) b t [a,d,e,f,g,i,j,k]:=by
 have h1:=(((((((h.set 0 a).set 1 d).set 2 e).set 3 f).set 4 g).set 5 i).set 6 j).set 7 k
 match l,m with
 |[_,_,_,_,_,_,_,_],_=>exact h1
theorem pc{t:TypeId}{l:List Nat}(h:eD w c t l)(hc:c≠b)(a d e f g i j k:Nat):eD (L1 w b a d e f g i j k) c t l:=
 (((((((h.other _ hc _).other _ hc _).other _ hc _).other _ hc _).other _ hc _).other _ hc _).other _ hc _).other _ hc _
theorem CQ{a:World}(h:Below B a w)(d:B<=b)(e f g i j k l m:Nat):Below B a (L1 w b e f g i j k l m):=
 (((((((h.setCell d _).setCell d _).setCell d _).setCell d _).setCell d _).setCell d _).setCell d _).setCell d _
theorem xQ(h:Below B w.drew w'):Below B w w':=⟨h.os,h.tape,h.output,h.size,h.block⟩
theorem eD.on{t:TypeId}{l:List Nat}(h:eD w b t l)(a:Below B w w')(d:w.heap.size<=B):eD w' b t l:=(a.block b (ny h.lt d)).trans h
theorem wrap_u32(v:Int):IntKind.u32.wrap v=v%4294967296:=by
 simp[IntKind.wrap,IntKind.bits,IntKind.signed]
theorem Jh(v:List Nat)(k x:Nat):Cf v ((x+k)%4294967296)=OJ v k x:=by
 unfold Cf OJ Lm;congr 1
 .omega
 .congr 4;omega
theorem JL(h p ks:List Nat)(ap:h.length=8)(ar:∀d∈h,d<dQ)(aq:p.length=64)(au:∀d∈p,d<256)(av:∀d∈ks,d<dQ)(w:World)(hK:∀i,i<64->w.cell? ⟨14,i,none⟩=some (.int .u32 (ks.getD i 0:Int))):
  Calls prog 182 #[.agg (eW h),.agg (kL p)] w λe w'=>
   e=.returned (.agg (eW (kK ks h p)))/\Below w.heap.size w w':=by
 have hG:14<w.heap.size:=pr (hK 0 oM);obtain⟨A8,hA⟩:∃c,c=eW h:=⟨_,rfl⟩;obtain⟨o,hP⟩:∃c,c=kL p:=⟨_,rfl⟩;rw[<-hA,<-hP];have HA:=hD hA;have HP:=hD hP;have A:A8.size=8:=by rw[hA];simp[eW,ap]
 have N:o.size=64:=by rw[hP];simp[kL,aq]
 have M:Hid ((prog.info? 302).map (·.size)=some A8.size):=by show _=_;rw[A];kernel_rfl
 have ad:Hid ((prog.info? 192).map (·.size)=some o.size):=by show _=_;rw[N];kernel_rfl
 have a9:Hid (A8.all (·.oneCell')=true):=by show _=_;rw[hA];exact lQ _
 have a2:=hD A;have HK:=hD hK;have f:=hD ap;have P:=hD ar;have al:=hD av;have aa:=hD aq;have a5:=hD au;clear hA hP A N hK ap ar av aq au;go_enter func182,ntmps182
 go_wp2_with (refine vk rfl 192 _ rfl (w.heap.size+1) rfl 192 o (0,0) _ (m9 w _ _ _) PH rfl ad ?_)
 have hs:=Ee p aa a5 (((w.alloc (.cells A8 302)).alloc (.cells o 192)).alloc (.cells (eW uy) 302));rw[<-HP.out]at hs;refine hs.mono ?_;rintro e w1 ⟨rfl,m⟩;clear hs;have ae:=m.size;simp at ae;have a0:Hid (w1.heap[w.heap.size]?=some (.cells A8 302 (0,0))):=by show _=_;rw[m.block _ (by simp;omega)];exact m7 w _ _ _
 have H:Hid (w1.heap[w.heap.size+1+1]?=some (.cells (eW uy) 302 (0,0))):=by show _=_;rw[m.block _ (by simp)];exact oq w _ _ _
 have X:Hid (Below w.heap.size w w1):=((((dw w.heap.size w).alloc (cO _) _).alloc sI _).alloc (by simp;omega) _).trans (m.mono (by simp;omega));clear m;obtain⟨S,hS⟩:=eX (eW (dm p 64));rw[<-hS];have l:S.size=64:=by rw[hS];simp[eW,eI]
 have a1:Hid ((prog.info? 394).map (·.size)=some S.size):=by
  show _=_;rw[l]
  kernel_rfl
 have O:=hD l;have ag:Hid (S.all (·.oneCell')=true):=by show _=_;rw[hS];exact lQ _
 have ah:=hD hS;clear hS l;have s1:∀Z:Array Value,Z.size=64->Z.size=S.size:=λZ h=>h.trans O.symm
 have s2:∀Z:Array Value,Z.size=8->Z.size=A8.size:=λZ h=>h.trans a2.symm
 have u:Hid (∀Z,((w1.alloc Z).setRow w1.heap.size S).heap[w.heap.size]?=some (.cells A8 302 (0,0))):=λZ=>by rw[l7 _ _ _ _ (by omega),rd _ _ _ (by omega)];exact a0
 have B:Hid (∀Z Y,(((w1.alloc Z).setRow w1.heap.size S).alloc Y).heap[w1.heap.size+1]?=some Y):=λZ Y=>by have h:=dM ((w1.alloc Z).setRow w1.heap.size S) Y;have e:((w1.alloc Z).setRow w1.heap.size S).heap.size=w1.heap.size+1:=sI;rw[e]at h;exact h
 have J:=hD s1;have G:=hD s2;clear s1 s2
 go_wp2_with (first|refine ER rfl 394 _ _ rfl w1.heap.size S rfl rfl 394 _ (dM w1 _) a1 (J _ rfl) ag ?_|refine vk rfl 302 _ rfl w.heap.size rfl 302 A8 (0,0) _ (u _) Gg rfl M ?_|refine ER rfl 302 _ _ rfl (w1.heap.size+1) A8 rfl rfl 302 _ (B _ _) M (G _ rfl) a9 ?_)
 obtain⟨n,hn⟩:=eX (w1.heap.size);go_loopw [12] (λk wr=>∃i:Nat,i<=64/\k=.int .i64 i/\Hid (eD wr w.heap.size 302 h)/\Hid (eD wr (w.heap.size+1+1) 302 uy)/\Hid (eD wr w1.heap.size 394 (dm p 64))/\Hid (eD wr (w1.heap.size+1) 302 (vH ks (dm p 64) h i))/\Hid (Below w.heap.size w wr)) (λk _=>64-(intOf k).toNat)
 case atStart=>
  refine⟨0,oM,rfl,?_,?_,?_,?_,?_⟩
  .show eD _ _ _ _;unfold eD;rw[l7 _ _ _ _ (by omega),rd _ _ _ (by simp;omega),<-HA.out];exact u _
  .show eD _ _ _ _;unfold eD;rw[l7 _ _ _ _ (by omega),rd _ _ _ (by simp;omega),l7 _ _ _ _ (by omega),rd _ _ _ (by omega)];exact H
  .show eD _ _ _ _;unfold eD;rw[l7 _ _ _ _ (by omega),rd _ _ _ (by simp),<-ah.out];exact ja _ _ _ _ _ _ (dM w1 _)
  .show eD _ _ _ _;unfold eD;have h1:=λZ Y=>ja _ _ _ A8 _ _ (B Z (.cells Y 302 (0,0)))
   have e:vH ks (dm p 64) h 0=h:=rfl;rw[e,<-HA.out];exact h1 _ _
  exact cC ((cC (X.alloc oM _) oM _).alloc (by simp;omega) _) oM _
 clear u B J G a0 H X;obtain⟨i,hi,rfl,HH,HZ,HW,HV,HB⟩:=hrel;have E:=HV.lt;by_cases g:i<64
 .obtain⟨v,hv⟩:=eX (vH ks (dm p 64) h i);have Q:v.length=8:=hv▸sf _ _ _ f i;have j:∀d∈v,d<dQ:=hv▸yz _ _ _ f P i
  obtain⟨v0,v1,v2,v3,v4,v5,v6,v7,q⟩:∃v0 v1 v2 v3 v4 v5 v6 v7,v=[v0,v1,v2,v3,v4,v5,v6,v7]:=by
   match v,Q with
   |[v0,v1,v2,v3,v4,v5,v6,v7],_=>exact⟨v0,v1,v2,v3,v4,v5,v6,v7,rfl⟩
  have b:=HV;rw[<-hv,q]at b;have a8:=hD b;have F:Hid ([v0,v1,v2,v3,v4,v5,v6,v7]=vH ks (dm p 64) h i):=by rw[<-q];exact hv
  rw[q]at j;have b0:(v0:Int)<=4294967295:=by have:=j v0 sI;unfold dQ at this;omega
  have b1:(v1:Int)<=4294967295:=by have:=j v1 sI;unfold dQ at this;omega
  have b2:(v2:Int)<=4294967295:=by have:=j v2 sI;unfold dQ at this;omega
  have b4:(v4:Int)<=4294967295:=by have:=j v4 sI;unfold dQ at this;omega
  have b5:(v5:Int)<=4294967295:=by have:=j v5 sI;unfold dQ at this;omega
  have b6:(v6:Int)<=4294967295:=by have:=j v6 sI;unfold dQ at this;omega
  have c0:=b.cell 0 sI;have c1:=b.cell 1 sI;have c2:=b.cell 2 sI;have c3:=b.cell 3 sI;have c4:=b.cell 4 sI;have c5:=b.cell 5 sI;have c6:=b.cell 6 sI;have c7:=b.cell 7 sI;simp only[List.getElem_cons_zero,List.getElem_cons_succ]at c0 c1 c2 c3 c4 c5 c6 c7;obtain⟨kk,C⟩:∃x,x=ks.getD i 0:=⟨_,rfl⟩;obtain⟨ww,D⟩:∃x,x=(dm p 64).getD i 0:=⟨_,rfl⟩;have am:wr.cell? ⟨14,i,none⟩=some (.int .u32 kk):=by rw[HB.out.cell (by exact hG),HK.out i g,C]
  have cw:wr.cell? (yA w1.heap.size i)=some (.int .u32 ww):=by rw[HW.out.cell i (by rw[eI];exact g),D,kp]
  have aj:=hD C;have ai:=hD D;obtain⟨x,hx⟩:=eX ((ww+kk)%4294967296);have nx:IntKind.u32.wrap ((ww:Int)+(kk:Int))=(x:Int):=by rw[wrap_u32];omega
  obtain⟨r0,K⟩:∃r,r=(Lm [v0,v1,v2,v3,v4,v5,v6,v7] x 0+PQ [v0,v1,v2,v3,v4,v5,v6,v7])%4294967296:=⟨_,rfl⟩;obtain⟨r4,L⟩:∃r,r=(v3+Lm [v0,v1,v2,v3,v4,v5,v6,v7] x 0)%4294967296:=⟨_,rfl⟩;have U:Hid (Cf [v0,v1,v2,v3,v4,v5,v6,v7] x=[r0,v0,v1,v2,r4,v4,v5,v6]):=by show _=_;rw[K,L];rfl
  have a6:Hid (eW (Cf [v0,v1,v2,v3,v4,v5,v6,v7] x)=#[.int .u32 r0,.int .u32 v0,.int .u32 v1,.int .u32 v2,.int .u32 r4,.int .u32 v4,.int .u32 v5,.int .u32 v6]):=by show _=_;rw[U.out];rfl
  clear K L;have HX:=hD hx;clear hx C D hv Q j q b HV
  go_wp2
  go_region_with (go_at_call 251;go_must (refine(EK v0 v1 v2 v3 v4 v5 v6 v7 x _ b0 b1 b2 b4 b5 b6).mono ?_;rintro e w' ⟨rfl,hb⟩;rw[a6.out];have a:eD w' (w1.heap.size+1) 302 [v0,v1,v2,v3,v4,v5,v6,v7]:=(hb.block _ E).trans a8;have d0:w'.cell? (yA (w1.heap.size+1) 0)=some (.int .u32 v0):=a.cell 0 sI;have f0:=a.frozen 0;have d1:w'.cell? (yA (w1.heap.size+1) 1)=some (.int .u32 v1):=a.cell 1 sI;have f1:=a.frozen 1;have d2:w'.cell? (yA (w1.heap.size+1) 2)=some (.int .u32 v2):=a.cell 2 sI;have f2:=a.frozen 2;have d3:w'.cell? (yA (w1.heap.size+1) 3)=some (.int .u32 v3):=a.cell 3 sI;have f3:=a.frozen 3;have d4:w'.cell? (yA (w1.heap.size+1) 4)=some (.int .u32 v4):=a.cell 4 sI;have f4:=a.frozen 4;have d5:w'.cell? (yA (w1.heap.size+1) 5)=some (.int .u32 v5):=a.cell 5 sI;have f5:=a.frozen 5;have d6:w'.cell? (yA (w1.heap.size+1) 6)=some (.int .u32 v6):=a.cell 6 sI;have f6:=a.frozen 6;have d7:w'.cell? (yA (w1.heap.size+1) 7)=some (.int .u32 v7):=a.cell 7 sI;have f7:=a.frozen 7;have a7:Hid (eD w' (w1.heap.size+1) 302 [v0,v1,v2,v3,v4,v5,v6,v7]):=a;have s:Hid (Below wr.heap.size wr w'):=xQ hb;clear hb a))
  all_goals
   go_wp2
   go_roundw
   case rel=>
    refine⟨i+1,oM,by go_num,?_,?_,?_,?_,?_⟩
    .exact pc (HH.on s (cO _)) oM r0 v0 v1 v2 r4 v4 v5 v6
    .exact pc (HZ.on s (cO _)) oM r0 v0 v1 v2 r4 v4 v5 v6
    .exact pc (HW.on s (cO _)) oM r0 v0 v1 v2 r4 v4 v5 v6
    .have h1:=Hd rfl a7 r0 v0 v1 v2 r4 v4 v5 v6;rw[<-U.out,HX.out,Jh,F.out,aj.out,ai.out]at h1;exact h1
    exact CQ (HB.trans (s.mono HB.size)) oM r0 v0 v1 v2 r4 v4 v5 v6
   exact mS
 have t:i=64:=oM;obtain⟨i1,af⟩:=eX (i);subst af;obtain⟨v,hv⟩:=eX (vH ks (dm p 64) h 64);have W:Hid (eD wr (w1.heap.size+1) 302 v):=by have h1:=HV;rw[t]at h1;rw[hv];exact h1
 have a3:Hid (v.length=8):=hv▸sf _ _ _ f 64;have an:Hid (∀d∈v,d<dQ):=hv▸yz _ _ _ f P 64;have F:=hD hv;clear hv t HV HW
 go_wp2
 go_loopw [25] (λk wr=>∃i:Nat,i<=8/\k=.int .i64 i/\Hid (eD wr w.heap.size 302 ((kB h v).take i++h.drop i))/\Hid (eD wr (w.heap.size+1+1) 302 uy)/\Hid (eD wr (w1.heap.size+1) 302 v)/\Hid (Below w.heap.size w wr)) (λk _=>8-(intOf k).toNat)
 .exact⟨0,oM,rfl,HH,HZ,W,HB⟩
 clear HH HZ W HB g E;obtain⟨i,hi,rfl,HH,HZ,HV,HB⟩:=hrel;have E:=HV.lt;have ak:((kB h v).take i++h.drop i).length=8:=by rw[ir,vx,Lx,fY,f.out];omega
 by_cases g:i<8
 .obtain⟨x,hx⟩:=eX (h.getD i 0);obtain⟨y,hy⟩:=eX (v.getD i 0);have cx:wr.cell? (yA w.heap.size i)=some (.int .u32 x):=by rw[HH.out.cell i (by omega),hx,kp,Fh h (kB h v) i (by rw[fY];omega)]
  have cy:wr.cell? (yA (w1.heap.size+1) i)=some (.int .u32 y):=by rw[HV.out.cell i (by rw[a3.out];exact g),hy,kp]
  have fx:=HH.frozen i;have HX:=hD hx;have HY:=hD hy;clear hx hy
  go_wp2
  go_region
  go_wp2
  go_roundw
  case rel=>
   refine⟨i+1,oM,by go_num,?_,?_,?_,?_⟩
   .show eD _ _ _ _;have h1:=HH.set i ((kB h v)[i]'(by rw[fY];exact g));rw[xg h (kB h v) i (by rw[fY,f.out]) (by rw[f.out];exact g),DU h v i g,<-HX.out,<-HY.out]at h1;have e:(((x+y)%4294967296:Nat):Int)=((x:Int)+(y:Int))%4294967296:=oM;rw[e]at h1;exact h1
   .exact(HZ.other _ (by show w.heap.size+1+1≠w.heap.size;omega) _).drew
   .exact(HV.other _ (by show w1.heap.size+1≠w.heap.size;omega) _).drew
   exact(HB.setCell (by show w.heap.size<=w.heap.size;omega) _).drew
  exact mS
 have V:i=8:=oM;obtain⟨R,hR⟩:=eX (eW (kK ks h p));obtain⟨Z,hZ⟩:=eX (eW uy);have ac:Hid (wr.heap[w.heap.size]?=some (.cells R 302 (0,0))):=by have h1:=HH;rw[V,pK (by rw[fY];omega),List.drop_of_length_le (by rw[f.out];omega),CO,F.out]at h1;rw[hR];exact h1
 have T:Hid (wr.heap[w.heap.size+1+1]?=some (.cells Z 302 (0,0))):=hZ▸HZ;have l:R.size=8:=by rw[hR];simp[eW,jK]
 have z:Hid ((prog.info? 302).map (·.size)=some R.size):=by
  show _=_;rw[l]
  kernel_rfl
 have a4:Hid (Z.size=R.size):=by show _=_;rw[l,hZ];rfl
 have I:Hid (R.all (·.oneCell')=true):=by show _=_;rw[hR];exact lQ _
 have ab:=hD hR;clear l hR hZ HH HZ V
 go_wp2_with (first|refine vk rfl 302 _ rfl w.heap.size rfl 302 R (0,0) _ ac Gg rfl z ?_|refine ER rfl 302 _ _ rfl (w.heap.size+1+1) R rfl rfl 302 Z T z a4 I ?_)
 refine gh (v:=.agg (eW (kK ks h p))) ?_ rfl ⟨rfl,?_⟩
 .rw[<-ab.out];exact Bj (p:=4) (ty:=302) rfl _ _ (w.heap.size+1+1) 302 R (0,0) _ rfl (ja wr (w.heap.size+1+1) Z R 302 _ T) Gg rfl z
 exact cC HB oM _
end
section
open Go.RowKit
variable {P:Program}
def cW(l:List UInt8):List Value:=l.map λb:UInt8=>Value.int .u8 b.toNat
theorem dW(l:List UInt8):(cW l).length=l.length:=by simp[cW]
theorem jv(l:List UInt8):∀v∈cW l,v.oneCell'=true:=by
 intro v hv;simp only[cW,N1]at hv;obtain⟨b,_,rfl⟩:=hv;rfl
theorem qs(w:World)(n sT ty e:TypeId)(g o dLen l:Nat)(s:ByteArray)(f:Array Value)(t:TypeId)(j:List Value)(p:P.underlying n=some (.slice e))(q:(P.info? e).map (·.size)=some 1)(r:w.heap[g]?=some (.cells f t (0,0)))(k:j=cW (s.data.toList.take dLen))(m:o+j.length<=f.size):
  (Builtin.copy_ #[n,sT] ty #[.slice (yS g o) dLen l,.string s]).run P w=
   .ok (goInt j.length) (w.setRow g (f.toList.take o++j++f.toList.drop (o+j.length)).toArray):=by
 have d:j.length=Nat.min s.size dLen:=by rw[k,dW,List.length_take,Nat.min_comm];rfl
 have a:∀v∈j,v.oneCell'=true:=k▸jv _;have c:=run_storeCells_at P g o t j 0 f w r (by simpa using m) a;simp only[Nat.add_zero]at c
 have hx:((s.extract 0 (Nat.min s.size dLen)).data.map λb=>Value.int .u8 b.toNat).toList=j:=by
  rw[k];unfold cW;rw[Array.toList_map,ByteArray.data_extract,Array.toList_extract,List.extract_eq_take_drop,List.drop_zero,Nat.sub_zero];congr 1;show List.take (min s.data.size dLen) s.data.toList=_;rcases Nat.le_total s.data.size dLen with h|h
  .rw[Nat.min_eq_left h,List.take_of_length_le (by simp),List.take_of_length_le (by simpa using h)]
  rw[Nat.min_eq_right h]
 cases hq:P.info? e with
 |none=>simp[hq]at q
 |some i=>
  simp only[Builtin.copy_,Builtin.lenOf,Builtin.firstCells,sizeOf,typeInfo];simp[run_underlying p,hq,-Array.toList_map,-ByteArray.data_extract,-Array.toList_extract];rw[hx,c];simp[Result.andThen,d]
theorem sZ{w:World}{ops:Array Oper}{rest:List Oper}{a:Act}{Q:Exit->Act->World->Prop}(m:o.guard=none)(d s:Operand)(p sT:TypeId)(u:o.op=.call {callee:=.builtin .copy,args:=#[d,s],argTypes:=#[p,sT]})(c:TypeId)(v:P.underlying p=some (.slice c))(q:(P.info? c).map (·.size)=some 1)(g off e i:Nat)(j:ByteArray)(x:a.eval d=.slice (yS g off) e i)(y:a.eval s=.string j)(f:Array Value)(t:TypeId)(z:w.heap[g]?=some (.cells f t (0,0)))(k:List Value)(r:k=cW (j.data.toList.take e))(l:off+k.length<=f.size)(R:Array Value)(A:(f.toList.take off++k++f.toList.drop (off+k.length)).toArray=R)(n:Int)(B:(k.length:Int)=n)(h:wpList P ops Q rest (a.put o.dst (.int .i64 n)) (w.setRow g R)):wpList P ops Q (o::rest) a w:=by
 refine ND m λK hK=>?_
 have b:=qs (P:=P) w p sT o.type c g off e i j f t k v q z r l;rw[A]at b;unfold Oper.wp;simp[execOp,u,resolve,invoke,builtin,x,y,b,Result.andThen];have h':wpList P ops Q rest (a.put o.dst (goInt k.length)) (w.setRow g R):=by rw[goInt,B];exact h
 exact hK _ _ h'
theorem lz{w:World}{ops:Array Oper}{a:Act}{K:Act->World->Prop}{Q:Exit->Act->World->Prop}{E:Prop}(m:o.guard=none)(d s:Operand)(p sT:TypeId)(u:o.op=.call {callee:=.builtin .copy,args:=#[d,s],argTypes:=#[p,sT]})(c:TypeId)(v:P.underlying p=some (.slice c))(q:(P.info? c).map (·.size)=some 1)(g off e i:Nat)(j:ByteArray)(x:a.eval d=.slice (yS g off) e i)(y:a.eval s=.string j)(f:Array Value)(t:TypeId)(z:w.heap[g]?=some (.cells f t (0,0)))(k:List Value)(r:k=cW (j.data.toList.take e))(l:off+k.length<=f.size)(R:Array Value)(A:(f.toList.take off++k++f.toList.drop (off+k.length)).toArray=R)(n:Int)(B:(k.length:Int)=n)(h:K (a.put o.dst (.int .i64 n)) (w.setRow g R)):if Region.wanted o (yielded ops a.tmps)=true then Oper.wp P o a w K Q else E:=by
 have hw:Region.wanted o (yielded ops a.tmps)=true:=by simp[Region.wanted,m]
 rw[dq hw];have b:=qs (P:=P) w p sT o.type c g off e i j f t k v q z r l;rw[A]at b;unfold Oper.wp;simp[execOp,u,resolve,invoke,builtin,x,y,b,Result.andThen];have h':K (a.put o.dst (goInt k.length)) (w.setRow g R):=by rw[goInt,B];exact h
 exact h'
theorem vy(w:World)(t e ty:TypeId)(z:Value)(k:P.underlying t=some (.slice e))(hv:∀w,(zeroValue e).run P w=.ok z w)(hz:z.cells=#[z])(h:z.oneCell'=true)(b n c:Nat)(p:0<n)(g:Array Value)(j:TypeId)(l:w.heap[b]?=some (.cells g j (0,0)))(hc:g.size=n):
  (Builtin.clear_ #[t] ty #[.slice (yS b 0) n c]).run P w=.ok (.tuple #[]) (w.setRow b (List.replicate n z).toArray):=by
 have f:(Builtin.zeroCells z.cells n).toList=List.replicate n z:=by
  rw[hz];simp[Builtin.zeroCells];apply MX
  .simp
  .intro i h h2;simp[Nat.mod_one]
 have a:=QH P b 0 j (List.replicate n z) 0 g w l (by simp;omega) (by intro v d;rw[MY d];exact h);simp only[NY,N6,Ab,nS,Kz]at a;have hd:g.toList.drop n=[]:=A9 (by simp;omega);rw[hd,CO]at a;obtain⟨m,rfl⟩:∃m,n=m+1:=⟨n-1,oM⟩;simp[Builtin.clear_,PJ k,hv,f,a]
theorem lG{w:World}{ops:Array Oper}{rest:List Oper}{a:Act}{Q:Exit->Act->World->Prop}(i:o.guard=none)(d:Operand)(j:TypeId)(k:o.op=.call {callee:=.builtin .clear,args:=#[d],argTypes:=#[j]})(f:TypeId)(l:P.underlying j=some (.slice f))(z:Value)(hv:∀w,(zeroValue f).run P w=.ok z w)(hz:z.cells=#[z])(m:z.oneCell'=true)(b n c:Nat)(p:0<n)(q:a.eval d=.slice (yS b 0) n c)(g:Array Value)(t:TypeId)(r:w.heap[b]?=some (.cells g t (0,0)))(hc:g.size=n)(R:Array Value)(s:(List.replicate n z).toArray=R)(h:wpList P ops Q rest (a.put o.dst (.tuple #[])) (w.setRow b R)):wpList P ops Q (o::rest) a w:=by
 refine ND i λK hK=>?_
 have e:=vy (P:=P) w j f o.type z l hv hz m b n c p g t r hc;rw[s]at e;unfold Oper.wp;simp[execOp,k,resolve,invoke,builtin,q,e,Result.andThen];exact hK _ _ h
theorem vv(w:World)(t e:TypeId)(n:Nat)(a:Array Value)(i:Nat)(v:Value)(c:P.underlying t=some (.array n e))(d:i<n)(f:P.plainKey e=true)(b:(P.info? e).map (·.size)=some 1)(hv:a[i]?=some v):
  (Instr.index t (.agg a) (.int .i64 i)).run P w=.ok v w:=by
 have hp:=run_part_plain (P:=P) (w:=w) f hv
 cases hq:P.info? e with
 |none=>simp[hq]at b
 |some j=>
  have hj:j.size=1:=by simpa [hq]using b
  simp[Instr.index,asIntOf,PJ c,sizeOf,typeInfo,hq,hj,hp,d]
end
section
open Go.RowKit
def kJ(st:List Nat)(k:Nat):Nat:=st.getD (k/4) 0/256^(3-k%4)%256
def jp(st:List Nat)(n:Nat):List Nat:=(List.range 32).map λk=>if k<n then kJ st k else 0
theorem gy(st:List Nat)(n:Nat):(jp st n).length=32:=by simp[jp]
theorem qj(st:List Nat)(n:Nat):(jp st n).set n (kJ st n)=jp st (n+1):=by
 apply MX
 .simp[jp]
 intro k h1 h2;rw[List.getElem_set];simp only[jp,Aw,Qu];split
 .rename_i e;subst e;rw[dq (by omega)]
 rename_i e;by_cases h:k<n
 .rw[dq h,dq (by omega)]
 rw[dj h,dj (by omega)]
theorem E8(st:List Nat):jp st 0=List.replicate 32 0:=by
 apply MX
 .simp[jp]
 intro k h1 h2;rw[OK];simp only[jp,Aw,Qu];rw[dj (by omega)]
theorem zh(st:List Nat)(h:st.length=8):(jp st 32).map UInt8.ofNat=st.flatMap oZ:=by
 match st,h with
 |[a,b,c,d,e,f,g,h],_=>simp[jp,kJ,oZ,List.range,List.range.loop]
theorem Da(st:List Nat)(n:Nat):∀d∈jp st n,d<256:=by
 intro d hd;unfold jp at hd;obtain⟨k,_,rfl⟩:=List.mem_map.1 hd;split
 .exact IA _ dE
 .decide
theorem xO(l:List Nat):(kL l).all (·.oneCell')=true:=by
 rw[NC];intro v hv;unfold kL at hv;simp at hv;obtain⟨a,_,rfl⟩:=hv;rfl
def jg:List Nat:=List.replicate 32 0
theorem zr(st:List Nat)(y:st.length=8)(u:∀d∈st,d<dQ)(w:World):
  Calls prog 183 #[.agg (eW st)] w λe w'=>
   e=.returned (.agg (kL (jp st 32)))/\Below w.heap.size w w':=by
 obtain⟨c,hc⟩:=eX (eW st);rw[<-hc];have HC:=hD hc;have j:c.size=8:=by rw[hc];simp[eW,y]
 have l:Hid ((prog.info? 302).map (·.size)=some c.size):=by show _=_;rw[j];kernel_rfl
 have HL:=hD y;have HW:=hD u;have r:Hid (∀(i:Nat)(w:World),i<8->(Instr.index 302 (.agg c) (.int .i64 i)).run prog w=.ok (.int .u32 (st.getD i 0:Int)) w):=λi w hi=>by refine vv w _ 81 8 c i _ Gg hi kR kR ?_;rw[hc];simp[eW,y,hi]
 clear hc j y u;go_enter func183,ntmps183
 go_wp2_with (refine vk rfl 302 _ rfl w.heap.size rfl 302 c (0,0) _ (m7 w _ _ _) Gg rfl l ?_)
 go_loopw [8] (λb wr=>∃i:Nat,i<=8/\b=.int .i64 i/\Hid (fV wr (w.heap.size+1) 131 jg)/\Hid (fV wr (w.heap.size+1+1) 131 (jp st (4*i)))/\Hid (Below w.heap.size w wr)) (λb _=>8-(intOf b).toNat)
 case atStart=>
  refine⟨0,oM,rfl,?_,?_,?_⟩
  .exact m9 w _ _ _
  .show fV _ _ _ _;rw[Nat.mul_zero,E8];exact oq w _ _ _
  exact(((dw _ _).alloc (cO _) _).alloc sI _).alloc (by simp;omega) _
 obtain⟨i,hi,rfl,HR,HS,HB⟩:=hrel;have t:=HS.lt;by_cases u:i<8
 .obtain⟨x,hx⟩:=eX (st.getD i 0);have s:∀w:World,(Instr.index 302 (.agg c) (.int .i64 i)).run prog w=.ok (.int .u32 x) w:=λw=>hx▸r i w u
  have lx:(x:Int)<=4294967295:=by have:=jE HW dE i;rw[<-hx]at this;unfold dQ at this;omega
  obtain⟨z0,c0⟩:∃z:Int,wr.cell? ⟨w.heap.size+1+1,4*i,none⟩=some (.int .u8 z):=⟨_,HS.cell (4*i) (by rw[gy];omega)⟩;obtain⟨z1,c1⟩:∃z:Int,wr.cell? ⟨w.heap.size+1+1,4*i+1,none⟩=some (.int .u8 z):=⟨_,HS.cell (4*i+1) (by rw[gy];omega)⟩;obtain⟨z2,c2⟩:∃z:Int,wr.cell? ⟨w.heap.size+1+1,4*i+2,none⟩=some (.int .u8 z):=⟨_,HS.cell (4*i+2) (by rw[gy];omega)⟩;obtain⟨z3,c3⟩:∃z:Int,wr.cell? ⟨w.heap.size+1+1,4*i+3,none⟩=some (.int .u8 z):=⟨_,HS.cell (4*i+3) (by rw[gy];omega)⟩;have f0:=HS.frozen (4*i);have f1:=HS.frozen (4*i+1);have f2:=HS.frozen (4*i+2);have f3:=HS.frozen (4*i+3);have HX:=hD hx;clear hx
  go_wp2
  refine Oe 5 ?_;rw[zc]
  go_wp2
  rw[zc]
  go_wp2
  rw[zc]
  go_wp2
  rw[zc]
  go_wp2
  rw[zc]
  go_wp2
  go_roundw
  case rel=>
   refine⟨i+1,oM,by go_num,?_,?_,?_⟩
   .exact(((HR.other _ (by show w.heap.size+1≠w.heap.size+1+1;omega) _).other _ (by show w.heap.size+1≠w.heap.size+1+1;omega) _).other _ (by show w.heap.size+1≠w.heap.size+1+1;omega) _).other _ (by show w.heap.size+1≠w.heap.size+1+1;omega) _
   .have h1:=(((HS.set (4*i) (x/16777216)).set (4*i+1) (x/65536%256)).set (4*i+2) (x/256%256)).set (4*i+3) (x%256);have b0:x/16777216=kJ st (4*i):=by unfold kJ;rw[show 4*i/4=i by omega,show 4*i%4=0 by omega,<-HX.out];omega
    have b1:x/65536%256=kJ st (4*i+1):=by unfold kJ;rw[show(4*i+1)/4=i by omega,show(4*i+1)%4=1 by omega,<-HX.out]
    have b2:x/256%256=kJ st (4*i+2):=by unfold kJ;rw[show(4*i+2)/4=i by omega,show(4*i+2)%4=2 by omega,<-HX.out]
    have b3:x%256=kJ st (4*i+3):=by unfold kJ;rw[show(4*i+3)/4=i by omega,show(4*i+3)%4=3 by omega,<-HX.out];simp
    have e:((((jp st (4*i)).set (4*i) (x/16777216)).set (4*i+1) (x/65536%256)).set (4*i+2) (x/256%256)).set (4*i+3) (x%256)=jp st (4*(i+1)):=by rw[b0,b1,b2,b3,qj st (4*i),qj st (4*i+1),show 4*i+1+1=4*i+2 from rfl,qj st (4*i+2),show 4*i+2+1=4*i+3 from rfl,qj st (4*i+3)];rfl
    rw[e]at h1;exact h1
   exact(((HB.setCell (by show w.heap.size<=w.heap.size+1+1;omega) _).setCell (by show w.heap.size<=w.heap.size+1+1;omega) _).setCell (by show w.heap.size<=w.heap.size+1+1;omega) _).setCell (by show w.heap.size<=w.heap.size+1+1;omega) _
  exact mS
 have h:i=8:=oM;obtain⟨i1,k⟩:=eX (i);subst k;obtain⟨R,hR⟩:=eX (kL (jp st 32));obtain⟨Z,hZ⟩:=eX (kL jg);have q:Hid (wr.heap[w.heap.size+1+1]?=some (.cells R 131 (0,0))):=by have h1:=HS;rw[h]at h1;rw[hR];exact h1
 have g:Hid (wr.heap[w.heap.size+1]?=some (.cells Z 131 (0,0))):=hZ▸HR;have f:R.size=32:=by rw[hR];simp[kL,gy]
 have a:Z.size=R.size:=by rw[f,hZ];rfl
 have HI:Hid ((prog.info? 131).map (·.size)=some R.size):=by show _=_;rw[f];kernel_rfl
 have m:Hid (R.all (·.oneCell')=true):=by show _=_;rw[hR];exact xO _
 have n:=hD a;have o:=hD hR;clear f a hR hZ HR HS h
 go_wp2_with (first|refine vk rfl 131 _ rfl (w.heap.size+1+1) rfl 131 R (0,0) _ q kb rfl HI ?_|refine ER rfl 131 _ _ rfl (w.heap.size+1) R rfl rfl 131 Z g HI n m ?_)
 refine gh (v:=.agg (kL (jp st 32))) ?_ rfl ⟨rfl,?_⟩
 .rw[<-o.out];exact Bj (p:=2) (ty:=131) rfl _ _ (w.heap.size+1) 131 R (0,0) _ rfl (ja wr (w.heap.size+1) Z R 131 _ g) kb rfl HI
 exact cC HB oM _
def iq(l:List Nat):List Nat:=l.drop (64*(l.length/64))++[128]++List.replicate (63-l.length%64) 0
theorem gF(l:List Nat):(iq l).length=64:=by
 simp[iq];omega
def gH(b:List Nat)(n i:Nat):List Nat:=b.take (64-i)++(qV n 8).drop (8-i)
theorem vJ(b:List Nat)(n i:Nat)(a:b.length=64)(c:i<=8):(gH b n i).length=64:=by
 simp[gH,ik,a];omega
theorem zy(b:List Nat)(n:Nat)(a:b.length=64):gH b n 0=b:=by
 unfold gH;rw[pK (by omega),A9 (by rw[ik];omega),CO]
theorem Kh(n i:Nat)(h:i<8):(qV n 8)[i]'(by rw[ik];exact h)=n/2^(8*(7-i))%256:=by simp[qV]
theorem iw(b:List Nat)(n i:Nat)(a:b.length=64)(c:i<8):(gH b n i).set (63-i) (n/2^(8*i)%256)=gH b n (i+1):=by
 unfold gH;have e1:b.take (64-i)=b.take (63-i)++[b[63-i]'oM]:=by rw[show 64-i=(63-i)+1 by omega];exact sN oM
 have e2:(qV n 8).drop (7-i)=n/2^(8*i)%256::(qV n 8).drop (8-i):=by rw[OC (by rw[ik];omega),Kh n (7-i) (by omega),show 7-(7-i)=i by omega,show 7-i+1=8-i by omega]
 rw[e1,show 64-(i+1)=63-i by omega,show 8-(i+1)=7-i by omega,e2,ve,Ka _ _ (by rw[vx];omega),vx,O3 (by omega),Pp];rfl
theorem Ek(b:List Nat)(n i:Nat)(a:∀d∈b,d<256):∀d∈gH b n i,d<256:=by
 intro d hd;unfold gH at hd;rcases List.mem_append.1 hd with hd|hd
 .exact a d (Pr hd)
 exact Jj _ _ d (QF hd)
theorem zQ(l:List Nat)(h:∀d∈l,d<256):∀d∈iq l,d<256:=by
 intro d hd;unfold iq at hd;simp only[ve,Q7,IZ]at hd;rcases hd with hd|hd|hd
 .exact h d (QF hd)
 .omega
 .rw[MY hd];omega
theorem FY(l:List Nat)(j:Nat)(h:j<l.length/64):blk (fE l) j=(l.drop (64*j)).take 64:=by
 unfold blk fE;rw[ve,ve,NN (by omega),Ny (by rw[Lx];omega)]
theorem xj(l:List Nat):(fE l).drop (64*(l.length/64))=l.drop (64*(l.length/64))++([128]++(List.replicate (zN l.length) 0++qV (8*l.length) 8)):=by
 unfold fE;rw[ve,ve,NN (by omega)]
theorem GD(l:List Nat)(h:l.length%64<56):(fE l).length/64=l.length/64+1/\blk (fE l) (l.length/64)=gH (iq l) (8*l.length) 8:=by
 have hz:zN l.length=55-l.length%64:=by unfold zN;omega
 constructor
 .rw[rR,hz];omega
 unfold blk;rw[xj,hz];have e:gH (iq l) (8*l.length) 8=(iq l).take 56++qV (8*l.length) 8:=rfl;rw[e];have e2:iq l=(l.drop (64*(l.length/64))++([128]++List.replicate (55-l.length%64) 0))++List.replicate 8 0:=by unfold iq;rw[ve,ve,ve,QT,show 55-l.length%64+8=63-l.length%64 by omega]
 have e3:(l.drop (64*(l.length/64))++([128]++List.replicate (55-l.length%64) 0)).length=56:=by simp;omega
 have e4:(iq l).take 56=l.drop (64*(l.length/64))++([128]++List.replicate (55-l.length%64) 0):=by rw[e2,Ny (Nat.le_of_eq e3.symm),pK (Nat.le_of_eq e3)]
 rw[e4,pK (by simp[ik];omega)];simp only[ve]
theorem Hb(l:List Nat)(h:56<=l.length%64):(fE l).length/64=l.length/64+2/\blk (fE l) (l.length/64)=iq l/\blk (fE l) (l.length/64+1)=gH (List.replicate 64 0) (8*l.length) 8:=by
 have hz:zN l.length=(63-l.length%64)+56:=by unfold zN;omega
 have e1:(fE l).drop (64*(l.length/64))=iq l++(List.replicate 56 0++qV (8*l.length) 8):=by rw[xj,hz,<-QT];unfold iq;simp only[ve]
 refine⟨by rw[rR,hz];omega,?_,?_⟩
 .unfold blk;rw[e1,Ny (by rw[gF];omega),pK (by rw[gF];omega)]
 unfold blk;rw[show 64*(l.length/64+1)=64*(l.length/64)+64 by omega,<-NE,e1,NN (by rw[gF];omega),A9 (by rw[gF];omega),Ab,pK (by simp[ik])];rfl
theorem GW(a b l:List Nat)(h:l.length%64<56):gY a b (fE l) ((fE l).length/64)=kK a (gY a b (fE l) (l.length/64)) (gH (iq l) (8*l.length) 8):=by
 obtain⟨h1,h2⟩:=GD l h;rw[h1,<-h2];rfl
theorem GJ(a b l:List Nat)(h:56<=l.length%64):gY a b (fE l) ((fE l).length/64)=kK a (kK a (gY a b (fE l) (l.length/64)) (iq l)) (gH (List.replicate 64 0) (8*l.length) 8):=by
 obtain⟨h1,h2,h3⟩:=Hb l h;rw[h1,<-h2,<-h3];rfl
theorem qd(w:World):(callFunc 170 #[]).run prog w=.ok (.value (.tuple #[])) w:=run_call_mark0 func170 kR kR kR .disable kR w
theorem rQ(w:World):(callFunc 172 #[]).run prog w=.ok (.value (.tuple #[])) w:=run_call_mark0 func172 kR kR kR .enable kR w
theorem yb(a:Addr)(w:World):(callFunc 173 #[.pointer (some a)]).run prog w=.ok (.value (.tuple #[])) w:=run_call_marked func173 kR kR kR .acquire kR a w
theorem xo(a:Addr)(w:World):(callFunc 175 #[.pointer (some a)]).run prog w=.ok (.value (.tuple #[])) w:=run_call_marked func175 kR kR kR .releaseMerge kR a w
theorem nK(a:Addr)(x:Value)(u:FrameMode)(w:World)(hc:w.cell? a=some x)(hz:w.frozen? a=false):
  CallsD prog 323 #[.pointer (some a),.bool true] u w λe u' w'=>u'=u/\(e=.returned (.tuple #[])/\w'=w.drew.setCell a (.int .u32 1)):=by
 have c:w.drew.cell? a=some x:=by go_simp
 have b:w.drew.frozen? a=false:=by go_simp
 have d:=run_call_store (P:=prog) func325 kR kR kR kR (k:=.u32) (y:=1) c b
 go_enter_d func323,ntmps323
 go_wp2
 go_region_calls
 all_goals (go_end0;exact⟨rfl,rfl⟩)
theorem fj(a:Addr)(u:FrameMode)(w:World)(hc:w.cell? a=some (.int .i32 1))(hz:w.frozen? a=false):
  CallsD prog 58 #[.pointer (some a)] u w λe u' w'=>u'=u/\(e=.returned (.tuple #[])/\w'=w.setCell a (.int .i32 0)):=by
 have hd:=qd;have he:=rQ;have hr:=xo;have b:=run_call_add (P:=prog) func176 kR kR kR .i32 kR (y:= -1) (s:=0) hc hz (by simp[go_sem];rfl);have c:=run_convert_to_unsafe (P:=prog) (src:=292) (dst:=244) underlying292 PO kR hc
 go_enter_d func58,ntmps58
 go_wp2
 go_end0
 go_wp2
 go_end0
 exact⟨rfl,rfl⟩
theorem kh(a:Addr)(w:World)(hc:w.cell? a=some (.int .i32 0))(hz:w.frozen? a=false):
  Calls prog 57 #[.pointer (some a)] w λe w'=>e=.returned (.tuple #[])/\w'=w.setCell a (.int .i32 1):=by
 have hd:=qd;have he:=rQ;have ha:=yb;have c:=run_call_cas_hit (P:=prog) func171 kR kR kR .i32 kR (y:=1) hc hz;have b:(w.setCell a (.int .i32 1)).cell? a=some (.int .i32 1):=World.cell?_setCell_same w a _ hc;have d:=run_convert_to_unsafe (P:=prog) (src:=292) (dst:=244) underlying292 PO kR b;go_enter func57,ntmps57
 go_wp2
 first|go_end0|(simp only[Exit.inBlock,Exit.then];refine gh (MR rfl _ _ _) rfl ?_)|refine gh (MR rfl _ _ _) rfl ?_
 go_wp2
 go_end0
 exact⟨rfl,rfl⟩
end
end Go.Proofs.YtapijhhmjjplmaaGreatDoor

import Derived.Test.YtapijhhmjjplmaaGreatDoorJonce1
namespace Go.Proofs.YtapijhhmjjplmaaGreatDoor
set_option linter.all false
set_option maxRecDepth 100000
set_option maxHeartbeats 4000000
open Go.Proofs.Tryz
variable {xs:List Value}{b m B size n g:Nat}{e:TypeId}{v:Value}{w:World}
section
open Go.RowKit
theorem zi(a:Nat)(c:a<9223372036854775808):(BitVec.ofInt 64 (a:Int)).toNat=a:=by
 rw[BitVec.ofInt_natCast,BitVec.toNat_ofNat];exact LY oM
theorem xJ(a:Nat)(c:a<9223372036854775808):IntKind.i64.wrap (a:Int)=(a:Int):=by
 simp[IntKind.wrap,IntKind.bits,IntKind.signed];omega
theorem B7(a b:Nat)(c:a<9223372036854775808)(d:b<9223372036854775808):bits .or .i64 (a:Int) (b:Int)=((a|||b:Nat):Int):=by
 have hx:a|||b<2^63:=Nat.or_lt_two_pow oM oM;show IntKind.i64.wrap ((BitVec.ofInt 64 (a:Int)|||BitVec.ofInt 64 (b:Int)).toNat:Int)=_;rw[BitVec.toNat_or,zi a c,zi b d,xJ _ (by omega)]
def dQ:Nat:=4294967296
theorem fJ{a:Nat}(c:a<dQ)(d:b<dQ):a^^^b<dQ:=by
 have:a^^^b<2^32:=Nat.xor_lt_two_pow (by unfold dQ at c;omega) (by unfold dQ at d;omega);unfold dQ;omega
theorem ql{a:Nat}(c:a<dQ):a&&&b<dQ:=Nat.lt_of_le_of_lt Nat.and_le_left c
def ft(r:Nat):Nat:=if r%2=1 then(r/2)^^^3988292384 else r/2
def dJ:Nat->Nat->Nat
 |0,r=>r
 |k+1,r=>dJ k (ft r)
def sx(l:List UInt8)(r:Nat):Nat:=l.foldl (λr c=>dJ 8 (r^^^c.toNat)) r
def qX(l:List UInt8):Nat:=4294967295-sx l 4294967295
theorem Bi(r:Nat)(h:r<dQ):ft r<dQ:=by
 unfold ft;split
 .exact fJ (by unfold dQ at*;omega) (by unfold dQ;omega)
 unfold dQ at*;omega
theorem uf(l:List UInt8)(c:UInt8)(r:Nat):sx (l++[c]) r=dJ 8 (sx l r^^^c.toNat):=by
 unfold sx;rw[A5];rfl
theorem zC(c:UInt8):c.toNat<dQ:=by have:=c.toNat_lt;unfold dQ;omega
theorem vM(s:ByteArray)(k:Nat)(h:k<s.size):s.data.toList.take (k+1)=s.data.toList.take k++[s[k]]:=by
 rw[sN (by simpa using h)];rfl
def j5(x n:Nat):Nat:=(x/2^n|||x*2^(32-n))%4294967296
def s0(a:Nat):Nat:=j5 a 7^^^j5 a 18^^^a/8
def s1(b:Nat):Nat:=j5 b 17^^^j5 b 19^^^b/1024
def wd(p:List Nat)(i:Nat):Nat:=p.getD (4*i) 0*16777216+p.getD (4*i+1) 0*65536+p.getD (4*i+2) 0*256+p.getD (4*i+3) 0
def Hs(l p:List Nat)(i:Nat):Nat:=if i<16 then wd p i else(l.getD (i-16) 0+l.getD (i-7) 0+s0 (l.getD (i-15) 0)+s1 (l.getD (i-2) 0))%4294967296
def dm(p:List Nat):Nat->List Nat
 |0=>[]
 |i+1=>dm p i++[Hs (dm p i) p i]
def Lm(v:List Nat)(k w:Nat):Nat:=v.getD 7 0+(j5 (v.getD 4 0) 6^^^j5 (v.getD 4 0) 11^^^j5 (v.getD 4 0) 25)+((v.getD 4 0&&&v.getD 5 0)^^^((4294967295-v.getD 4 0)&&&v.getD 6 0))+k+w
def PQ(v:List Nat):Nat:=(j5 (v.getD 0 0) 2^^^j5 (v.getD 0 0) 13^^^j5 (v.getD 0 0) 22)+((v.getD 0 0&&&v.getD 1 0)^^^(v.getD 0 0&&&v.getD 2 0)^^^(v.getD 1 0&&&v.getD 2 0))
def OJ(v:List Nat)(k w:Nat):List Nat:=
 [(Lm v k w+PQ v)%4294967296,v.getD 0 0,v.getD 1 0,v.getD 2 0,(v.getD 3 0+Lm v k w)%4294967296,v.getD 4 0,v.getD 5 0,v.getD 6 0]
def vH(ks ws:List Nat)(h:List Nat):Nat->List Nat
 |0=>h
 |i+1=>OJ (vH ks ws h i) (ks.getD i 0) (ws.getD i 0)
def kB(h v:List Nat):List Nat:=(List.range 8).map λi=>(h.getD i 0+v.getD i 0)%4294967296
def kK(ks h p:List Nat):List Nat:=kB h (vH ks (dm p 64) h 64)
theorem jI(x n:Nat):j5 x n<dQ:=IA _ dE
theorem eI(p:List Nat):∀i,(dm p i).length=i
 |0=>rfl
 |i+1=>by simp[dm,eI p i]
theorem jE{l:List Nat}(h:∀d∈l,d<m)(a:0<m)(i:Nat):l.getD i 0<m:=by
 rw[Dv];rcases Fc i l.length with h'|h'
 .rw[pI h'];exact h _ (mX _)
 rw[II h'];exact a
theorem Ol(p:List Nat)(h:∀d∈p,d<256)(i:Nat):wd p i<dQ:=by
 have h0:=jE h oM (4*i);have h1:=jE h oM (4*i+1);have h2:=jE h oM (4*i+2);have h3:=jE h oM (4*i+3);unfold wd dQ;omega
theorem Lr(l p:List Nat)(h:∀d∈p,d<256)(i:Nat):Hs l p i<dQ:=by
 unfold Hs;split
 .exact Ol p h i
 exact IA _ dE
theorem tY(p:List Nat)(h:∀d∈p,d<256):∀i,∀d∈dm p i,d<dQ
 |0,d,hd=>by cases hd
 |i+1,d,hd=>by
  unfold dm at hd;rcases List.mem_append.1 hd with hd|hd
  .exact tY p h i d hd
  rw[IZ]at hd;rw[hd];exact Lr _ p h i
theorem sf(a ws h:List Nat)(b:h.length=8):∀i,(vH a ws h i).length=8
 |0=>b
 |_+1=>rfl
theorem yz(a ws h:List Nat)(c:h.length=8)(b:∀d∈h,d<dQ):∀i,∀d∈vH a ws h i,d<dQ
 |0,d,hd=>b d hd
 |i+1,d,hd=>by
  have ih:=yz a ws h c b i;have g:=jE ih dE;simp only[vH,OJ,OS,List.not_mem_nil,or_false]at hd;rcases hd with rfl|rfl|rfl|rfl|rfl|rfl|rfl|rfl
  .exact IA _ dE
  .exact g 0
  .exact g 1
  .exact g 2
  .exact IA _ dE
  .exact g 4
  .exact g 5
  exact g 6
def fill(l:List Nat)(n:Nat):List Nat:=l++List.replicate (n-l.length) 0
theorem G8(l:List Nat)(n x:Nat)(h:l.length<n):(fill l n).set l.length x=fill (l++[x]) n:=by
 unfold fill;rw[Ka _ _ (cO _),Pp,ir,qf];obtain⟨m,hm⟩:∃m,n-l.length=m+1:=⟨n-l.length-1,oM⟩;rw[hm,show n-(l.length+1)=m by omega,PU,Lf];simp
theorem rY(l:List Nat)(n:Nat)(h:l.length<=n):(fill l n).length=n:=by
 unfold fill;rw[ir,Kz];omega
theorem Kl(l:List Nat)(n j:Nat)(h:j<l.length)(a:l.length<=n):(fill l n)[j]'(by rw[rY l n a];omega)=l[j]:=by
 unfold fill;rw[Qg h]
theorem xg(h a:List Nat)(i:Nat)(c:h.length=a.length)(b:i<h.length):(a.take i++h.drop i).set i a[i]=a.take (i+1)++h.drop (i+1):=by
 rw[Ka _ _ (by rw[vx];omega),vx,O3 (by omega),Pp,OC b,Lf];have e:a.take (i+1)=a.take i++[a[i]]:=sN oM;rw[e,ve];rfl
theorem Fh(h a:List Nat)(i:Nat)(b:i<=a.length):(a.take i++h.drop i).getD i 0=h.getD i 0:=by
 rw[Dv,Dv,F8 (by rw[vx];omega),vx,O3 b,Pp,NH,NY]
theorem kp(l:List Nat)(i:Nat)(h:i<l.length):l[i]=l.getD i 0:=by
 rw[Dv,pI h];rfl
theorem fY(h v:List Nat):(kB h v).length=8:=by simp[kB]
theorem DU(h v:List Nat)(i:Nat)(a:i<8):(kB h v)[i]'(by rw[fY];exact a)=(h.getD i 0+v.getD i 0)%4294967296:=by simp[kB]
def zN(n:Nat):Nat:=(119-n%64)%64
def qV(n j:Nat):List Nat:=(List.range j).map λi=>n/2^(8*(7-i))%256
def fE(l:List Nat):List Nat:=l++[128]++List.replicate (zN l.length) 0++qV (8*l.length) 8
def blk(p:List Nat)(j:Nat):List Nat:=(p.drop (64*j)).take 64
def gY(ks hs p:List Nat):Nat->List Nat
 |0=>hs
 |j+1=>kK ks (gY ks hs p j) (blk p j)
def oZ(n:Nat):List UInt8:=[UInt8.ofNat (n/16777216%256),UInt8.ofNat (n/65536%256),UInt8.ofNat (n/256%256),UInt8.ofNat (n%256)]
def Es(ks hs l:List Nat):List UInt8:=(gY ks hs (fE l) ((fE l).length/64)).flatMap oZ
theorem ik(n j:Nat):(qV n j).length=j:=by simp[qV]
theorem Jj(n j:Nat):∀d∈qV n j,d<256:=by
 intro d hd;unfold qV at hd;obtain⟨i,_,rfl⟩:=List.mem_map.1 hd;exact IA _ dE
theorem rR(l:List Nat):(fE l).length=l.length+1+zN l.length+8:=by
 simp[fE,ik];omega
theorem jK(a h p:List Nat):(kK a h p).length=8:=fY _ _
theorem x9(a h p:List Nat):∀d∈kK a h p,d<dQ:=by
 intro d hd;unfold kK kB at hd;obtain⟨i,_,rfl⟩:=List.mem_map.1 hd;exact IA _ dE
theorem ji(b a p:List Nat)(c:a.length=8):∀j,(gY b a p j).length=8
 |0=>c
 |_+1=>jK _ _ _
theorem zu(b a p:List Nat)(c:∀d∈a,d<dQ):∀j,∀d∈gY b a p j,d<dQ
 |0,d,hd=>c d hd
 |_+1,d,hd=>x9 _ _ _ d hd
theorem cR{a:World}(h:Below B a w)(n:Nat):Below B a (w.drewN n):=h.trans ⟨rfl,rfl,rfl,cO _,λ_ _=>rfl⟩
theorem GN(x:Nat)(h:x<4294967296):4294967295^^^x=4294967295-x:=by
 have h1:(BitVec.allOnes 32^^^BitVec.ofNat 32 x).toNat=(~~~BitVec.ofNat 32 x).toNat:=by rw[BitVec.allOnes_xor]
 rw[BitVec.toNat_xor,BitVec.toNat_not,BitVec.toNat_allOnes,BitVec.toNat_ofNat,LY h]at h1;exact h1
theorem ya(x:Nat)(h:x<4294967296):bits .xor .u32 IntKind.u32.max (x:Int)=((4294967295-x:Nat):Int):=by
 have e:IntKind.u32.max=((4294967295:Nat):Int):=by decide+kernel
 rw[e,xC _ _ (by decide) h,GN x h]
theorem IF(x n m:Nat)(a:x<4294967296)(b:m=32-n):bits .or .u32 ((x:Int)*2^m%4294967296) ((x:Int)/2^n)=(j5 x n:Int):=by
 have e1:(x:Int)/2^n=((x/2^n:Nat):Int):=by rw[Int.natCast_ediv,Int.natCast_pow];rfl
 have e2:(x:Int)*2^m%4294967296=((x*2^m%4294967296:Nat):Int):=by rw[Int.natCast_emod,Int.natCast_mul,Int.natCast_pow];rfl
 have hd:x/2^n<=x:=Nat.div_le_self _ _;rw[e1,e2,O2 _ _ (IA _ (by decide)) (by omega),b];congr 1;unfold j5;rw[show(4294967296:Nat)=2^32 by decide,Nat.or_mod_two_pow,Nat.or_comm];congr 1;exact(LY (Nat.lt_of_le_of_lt hd a)).symm
theorem jD(x n m:Nat)(c:Int)(w:World)(f:(x:Int)<=4294967295)(g:bits .and .u64 (IntKind.u64.wrap c) 31=(m:Int))(h:2<=n)(i:n<=30)(d:m=32-n):
  Calls prog 280 #[.int .u32 x,.int .i64 c] w λe w'=>e=.returned (.int .u32 (j5 x n:Int))/\w=w':=by
 have hv:=IF x n m oM d;have hn:(32:Int)-(m:Int)=(n:Int):=oM;have a:2<=m:=oM;have b:m<=30:=oM;clear d;go_enter func280,ntmps280
 go_wp2
 go_ret;exact⟨rfl,rfl⟩
def eW(l:List Nat):Array Value:=(l.map λx:Nat=>Value.int .u32 x).toArray
def Cf(v:List Nat)(x:Nat):List Nat:=OJ v x 0
theorem ue(w:World)(A B:Obj)(n:Nat):(((w.alloc A).alloc B).drewN n).heap[w.heap.size+1]?=some B:=Ov w A B
theorem EK(v0 v1 v2 v3 v4 v5 v6 v7 x:Nat)(w:World)(b0:(v0:Int)<=4294967295)(b1:(v1:Int)<=4294967295)(b2:(v2:Int)<=4294967295)(b4:(v4:Int)<=4294967295)(b5:(v5:Int)<=4294967295)(b6:(v6:Int)<=4294967295):
  Calls prog 251 #[.agg #[.int .u32 v0,.int .u32 v1,.int .u32 v2,.int .u32 v3,.int .u32 v4,.int .u32 v5,.int .u32 v6,.int .u32 v7],.int .u32 x] w λe w'=>
   e=.returned (.agg (eW (Cf [v0,v1,v2,v3,v4,v5,v6,v7] x)))/\Below w.heap.size w w':=by
 go_enter func251,ntmps251
 go_wp2
 go_quiet (fail)
 go_wp2_with fail
 refine(jD v4 6 26 (-6) _ b4 (by decide+kernel) oM oM rfl).mono ?_;rintro e w' ⟨rfl,rfl⟩;obtain⟨e6,A⟩:∃a,a=j5 v4 6:=⟨_,rfl⟩;rw[<-A];have ac:(e6:Int)<=4294967295:=by have:=jI v4 6;rw[<-A]at this;unfold dQ at this;omega
 have a1:=hD A;clear A
 go_wp2_with fail
 refine(jD v4 11 21 (-11) _ b4 (by decide+kernel) oM oM rfl).mono ?_;rintro e w' ⟨rfl,rfl⟩;obtain⟨m,l⟩:∃a,a=j5 v4 11:=⟨_,rfl⟩;rw[<-l];have a7:(m:Int)<=4294967295:=by have:=jI v4 11;rw[<-l]at this;unfold dQ at this;omega
 have V:=hD l;clear l
 go_wp2_with fail
 refine(jD v4 25 7 (-25) _ b4 (by decide+kernel) oM oM rfl).mono ?_;rintro e w' ⟨rfl,rfl⟩;obtain⟨I,i⟩:∃a,a=j5 v4 25:=⟨_,rfl⟩;rw[<-i];have a5:(I:Int)<=4294967295:=by have:=jI v4 25;rw[<-i]at this;unfold dQ at this;omega
 have U:=hD i;clear i;obtain⟨s1,F⟩:∃y,y=e6^^^m:=⟨_,rfl⟩;obtain⟨s2,G⟩:∃y,y=s1^^^I:=⟨_,rfl⟩;have N:s1<dQ:=F▸fJ (by unfold dQ;omega) (by unfold dQ;omega);have Z:s2<dQ:=G▸fJ N (by unfold dQ;omega);unfold dQ at N Z;have ai:bits .xor .u32 (e6:Int) (m:Int)=(s1:Int):=F▸xC _ _ oM oM;have ag:bits .xor .u32 (s1:Int) (I:Int)=(s2:Int):=G▸xC _ _ oM oM;have ad:(s2:Int)<=4294967295:=oM;have HS:Hid (s2=e6^^^m^^^I):=by show _=_;rw[G,F]
 clear F G N Z
 go_wp2_with fail
 refine(jD v0 2 30 (-2) _ b0 (by decide+kernel) oM oM rfl).mono ?_;rintro e w' ⟨rfl,rfl⟩;obtain⟨a2,C⟩:∃a,a=j5 v0 2:=⟨_,rfl⟩;rw[<-C];have ak:(a2:Int)<=4294967295:=by have:=jI v0 2;rw[<-C]at this;unfold dQ at this;omega
 have a3:=hD C;clear C
 go_wp2_with fail
 refine(jD v0 13 19 (-13) _ b0 (by decide+kernel) oM oM rfl).mono ?_;rintro e w' ⟨rfl,rfl⟩;obtain⟨z,j⟩:∃a,a=j5 v0 13:=⟨_,rfl⟩;rw[<-j];have a4:(z:Int)<=4294967295:=by have:=jI v0 13;rw[<-j]at this;unfold dQ at this;omega
 have Y:=hD j;clear j
 go_wp2_with fail
 refine(jD v0 22 10 (-22) _ b0 (by decide+kernel) oM oM rfl).mono ?_;rintro e w' ⟨rfl,rfl⟩;obtain⟨r,k⟩:∃a,a=j5 v0 22:=⟨_,rfl⟩;rw[<-k];have a6:(r:Int)<=4294967295:=by have:=jI v0 22;rw[<-k]at this;unfold dQ at this;omega
 have X:=hD k;clear k;obtain⟨z1,s⟩:∃y,y=a2^^^z:=⟨_,rfl⟩;obtain⟨z2,H⟩:∃y,y=z1^^^r:=⟨_,rfl⟩;have K:z1<dQ:=s▸fJ (by unfold dQ;omega) (by unfold dQ;omega);have a0:z2<dQ:=H▸fJ K (by unfold dQ;omega);unfold dQ at K a0;have ao:bits .xor .u32 (a2:Int) (z:Int)=(z1:Int):=s▸xC _ _ oM oM;have a8:bits .xor .u32 (z1:Int) (r:Int)=(z2:Int):=H▸xC _ _ oM oM;have am:(z2:Int)<=4294967295:=oM;have HZ:Hid (z2=a2^^^z^^^r):=by show _=_;rw[H,s]
 clear s H K a0;obtain⟨c1,n⟩:∃y,y=v4&&&v5:=⟨_,rfl⟩;obtain⟨ne,P⟩:∃y,y=4294967295-v4:=⟨_,rfl⟩;obtain⟨c2,t⟩:∃y,y=ne&&&v6:=⟨_,rfl⟩;obtain⟨c3,E⟩:∃y,y=c1^^^c2:=⟨_,rfl⟩;have L:c1<dQ:=n▸ql (by unfold dQ;omega);have M:c2<dQ:=t▸ql (by unfold dQ;omega);have W:c3<dQ:=E▸fJ L M;unfold dQ at L M W;have ap:bits .and .u32 (v4:Int) (v5:Int)=(c1:Int):=n▸Mw _ _ oM oM;have an:bits .xor .u32 IntKind.u32.max (v4:Int)=(ne:Int):=P▸ya _ oM;have af:bits .and .u32 (ne:Int) (v6:Int)=(c2:Int):=t▸Mw _ _ oM oM;have ah:bits .xor .u32 (c1:Int) (c2:Int)=(c3:Int):=E▸xC _ _ oM oM;have aa:(c3:Int)<=4294967295:=oM;have HC:Hid (c3=(v4&&&v5)^^^((4294967295-v4)&&&v6)):=by show _=_;rw[E,n,t,P]
 clear n P t E L M W;obtain⟨m1,o⟩:∃y,y=v0&&&v1:=⟨_,rfl⟩;obtain⟨m2,u⟩:∃y,y=v0&&&v2:=⟨_,rfl⟩;obtain⟨m3,q⟩:∃y,y=m1^^^m2:=⟨_,rfl⟩;obtain⟨m4,B⟩:∃y,y=v1&&&v2:=⟨_,rfl⟩;obtain⟨m5,D⟩:∃y,y=m3^^^m4:=⟨_,rfl⟩;have O:m1<dQ:=o▸ql (by unfold dQ;omega);have J:m2<dQ:=u▸ql (by unfold dQ;omega);have S:m3<dQ:=q▸fJ O J;have Q:m4<dQ:=B▸ql (by unfold dQ;omega);have T:m5<dQ:=D▸fJ S Q;unfold dQ at O J S Q T;have aq:bits .and .u32 (v0:Int) (v1:Int)=(m1:Int):=o▸Mw _ _ oM oM;have ab:bits .and .u32 (v0:Int) (v2:Int)=(m2:Int):=u▸Mw _ _ oM oM;have al:bits .xor .u32 (m1:Int) (m2:Int)=(m3:Int):=q▸xC _ _ oM oM;have ae:bits .and .u32 (v1:Int) (v2:Int)=(m4:Int):=B▸Mw _ _ oM oM;have aj:bits .xor .u32 (m3:Int) (m4:Int)=(m5:Int):=D▸xC _ _ oM oM;have a9:(m5:Int)<=4294967295:=oM;have HM:Hid (m5=(v0&&&v1)^^^(v0&&&v2)^^^(v1&&&v2)):=by show _=_;rw[D,q,o,u,B]
 clear o u q B D O J S Q T
 go_wp2
 have eT:Lm [v0,v1,v2,v3,v4,v5,v6,v7] x 0=v7+s2+c3+x:=by rw[HS.out,HC.out,a1.out,V.out,U.out];rfl
 have eU:PQ [v0,v1,v2,v3,v4,v5,v6,v7]=z2+m5:=by rw[HZ.out,HM.out,a3.out,Y.out,X.out];rfl
 have e0:(((Lm [v0,v1,v2,v3,v4,v5,v6,v7] x 0+PQ [v0,v1,v2,v3,v4,v5,v6,v7])%4294967296:Nat):Int)=((v7:Int)+s2+c3+x+z2+m5)%4294967296:=by rw[eT,eU];omega
 have e4:(((v3+Lm [v0,v1,v2,v3,v4,v5,v6,v7] x 0)%4294967296:Nat):Int)=((v3:Int)+(v7+s2+c3+x))%4294967296:=by rw[eT];omega
 refine gh (v:=.agg (eW (Cf [v0,v1,v2,v3,v4,v5,v6,v7] x))) ?_ rfl ⟨rfl,?_⟩
 .refine Bj (p:=4) (ty:=302) rfl _ _ (w.heap.size+1) 302 _ (0,0) _ rfl ?_ Gg rfl kR;have h0:=ue w (.cells #[.int .u32 v0,.int .u32 v1,.int .u32 v2,.int .u32 v3,.int .u32 v4,.int .u32 v5,.int .u32 v6,.int .u32 v7] 302) (.cells #[.int .u32 0,.int .u32 0,.int .u32 0,.int .u32 0,.int .u32 0,.int .u32 0,.int .u32 0,.int .u32 0] 302) nq;have h1:=λ(a b c d e f g h:Value)=>gE _ (w.heap.size+1) 7 _ _ h (gE _ (w.heap.size+1) 6 _ _ g (gE _ (w.heap.size+1) 5 _ _ f (gE _ (w.heap.size+1) 4 _ _ e (gE _ (w.heap.size+1) 3 _ _ d (gE _ (w.heap.size+1) 2 _ _ c (gE _ (w.heap.size+1) 1 _ _ b (gE _ (w.heap.size+1) 0 _ _ a h0)))))))
  have hL:eW (Cf [v0,v1,v2,v3,v4,v5,v6,v7] x)=#[.int .u32 (((v7:Int)+s2+c3+x+z2+m5)%4294967296),.int .u32 v0,.int .u32 v1,.int .u32 v2,.int .u32 (((v3:Int)+(v7+s2+c3+x))%4294967296),.int .u32 v4,.int .u32 v5,.int .u32 v6]:=by rw[<-e0,<-e4];rfl
  rw[hL];exact h1 _ _ _ _ _ _ _ _
 refine Jr ?_ (by show _<=w.heap.size+1;omega) _;refine Jr ?_ (by show _<=w.heap.size+1;omega) _;refine Jr ?_ (by show _<=w.heap.size+1;omega) _;refine Jr ?_ (by show _<=w.heap.size+1;omega) _;refine Jr ?_ (by show _<=w.heap.size+1;omega) _;refine Jr ?_ (by show _<=w.heap.size+1;omega) _;refine Jr ?_ (by show _<=w.heap.size+1;omega) _;refine Jr ?_ (by show _<=w.heap.size+1;omega) _;exact cR (((dw _ _).alloc (cO _) _).alloc sI _) nq
end
section
def dv:List Nat->Nat
 |[]=>0
 |d::r=>d+65536*dv r
end
section
open Go.RowKit
theorem Dx:(prog.info? 3).map (λi=>(i.zero,i.size,i.bytes))=some (some (.int .i64 0),1,8):=kR
def ME(whole t p k pt:Nat):Bool:=decide ((whole*4294967296+t)^k<=p*65536^pt)
def Q4(p k:Nat):Nat->Nat->Nat
 |0,x=>x
 |f+1,x=>if(x+1)^k<=p then Q4 p k f (x+1)else x
def bt(wh p k:Nat):Nat->Nat->Nat
 |0,v=>v
 |b+1,v=>bt wh p k b (if ME wh (v+2^b) p k (2*k)then v+2^b else v)
def KB(p k:Nat):Nat:=bt (Q4 p k 399 1) p k 32 0
def RQ(l:List Nat)(p:Nat):Bool:=(l.takeWhile λq=>decide (q*q<=p)).all λq=>p%q !=0
def N8:Nat->List Nat
 |0=>[]
 |n+1=>if RQ (N8 n) (n+2)then N8 n++[n+2]else N8 n
def iv(l:List Nat):List Value:=l.map λq:Nat=>Value.int .i64 q
theorem wC(h:w.ownsRow B e size v n xs)(k:Nat):(w.drewN k).ownsRow B e size v n xs:=h
def kc(i:Nat):List Nat:=((N8 310).take i).map λp=>KB p 3
def hc(i:Nat):List Nat:=((N8 310).take i).map λp=>KB p 2
structure Rw (g:Nat) (w w':World):Prop where
 os:w'.os=w.os
 tape:w'.tape=w.tape
 output:w'.output=w.output
 size:w.heap.size<=w'.heap.size
 block:∀k,k<w.heap.size->k≠g->w'.heap[k]?=w.heap[k]?
theorem ii{C:Nat}(h:w.ownsRow B e size v n xs)(a:C<=B):w.ownsRow C e size v n xs:=by
 obtain⟨h1,h2⟩:=h;refine⟨h1,?_⟩;rcases h2 with h2|⟨g,cap,cur,rfl,hB,hg,h3⟩
 .exact .inl h2
 exact .inr ⟨g,cap,cur,rfl,lZ a hB,hg,h3⟩
theorem fA(h:w.ownsRow B e size v n xs):∀k,v.ownBlock=some k->B<=k:=λk hk=>(h.lt k hk).1
def kL(l:List Nat):Array Value:=(l.map λx:Nat=>Value.int .u8 x).toArray
def eD(w:World)(b:Nat)(t:TypeId)(l:List Nat):Prop:=w.heap[b]?=some (.cells (eW l) t (0,0))
def fV(w:World)(b:Nat)(t:TypeId)(l:List Nat):Prop:=w.heap[b]?=some (.cells (kL l) t (0,0))
theorem eD.cell{t:TypeId}{l:List Nat}(h:eD w b t l)(j:Nat)(a:j<l.length):w.cell? (yA b j)=some (.int .u32 (l[j]:Int)):=by
 rw[Gp w b j _ _ _ h];simp[eW,a]
theorem fV.cell{t:TypeId}{l:List Nat}(h:fV w b t l)(j:Nat)(a:j<l.length):w.cell? (yA b j)=some (.int .u8 (l[j]:Int)):=by
 rw[Gp w b j _ _ _ h];simp[kL,a]
theorem eD.frozen{t:TypeId}{l:List Nat}(h:eD w b t l)(j:Nat):w.frozen? (yA b j)=false:=fH w b j _ _ h
theorem fV.frozen{t:TypeId}{l:List Nat}(h:fV w b t l)(j:Nat):w.frozen? (yA b j)=false:=fH w b j _ _ h
theorem eD.set{t:TypeId}{l:List Nat}(h:eD w b t l)(k y:Nat):eD (w.setCell (yA b k) (.int .u32 y)) b t (l.set k y):=by
 unfold eD;rw[gE w b k _ _ _ h];simp[eW,Ps]
theorem fV.set{t:TypeId}{l:List Nat}(h:fV w b t l)(k y:Nat):fV (w.setCell (yA b k) (.int .u8 y)) b t (l.set k y):=by
 unfold fV;rw[gE w b k _ _ _ h];simp[kL,Ps]
theorem eD.other{t:TypeId}{l:List Nat}(h:eD w b t l)(a:Addr)(c:b≠a.block)(v:Value):eD (w.setCell a v) b t l:=by
 unfold eD;rw[lq w a b v c];exact h
theorem fV.other{t:TypeId}{l:List Nat}(h:fV w b t l)(a:Addr)(c:b≠a.block)(v:Value):fV (w.setCell a v) b t l:=by
 unfold fV;rw[lq w a b v c];exact h
theorem eD.lt{t:TypeId}{l:List Nat}(h:eD w b t l):b<w.heap.size:=(Array.getElem?_eq_some_iff.1 h).1
theorem fV.lt{t:TypeId}{l:List Nat}(h:fV w b t l):b<w.heap.size:=(Array.getElem?_eq_some_iff.1 h).1
theorem eD.drew{t:TypeId}{l:List Nat}(h:eD w b t l):eD w.drew b t l:=h
theorem fV.drew{t:TypeId}{l:List Nat}(h:fV w b t l):fV w.drew b t l:=h
theorem oq(w:World)(A B C:Obj):(((w.alloc A).alloc B).alloc C).heap[w.heap.size+1+1]?=some C:=by
 have h:=dM ((w.alloc A).alloc B) C;have e:((w.alloc A).alloc B).heap.size=w.heap.size+1+1:=sI;rw[e]at h;exact h
theorem m9(w:World)(A B C:Obj):(((w.alloc A).alloc B).alloc C).heap[w.heap.size+1]?=some B:=by
 rw[rd _ _ _ (by simp)];exact Ov w A B
theorem m7(w:World)(A B C:Obj):(((w.alloc A).alloc B).alloc C).heap[w.heap.size]?=some A:=by
 rw[rd _ _ _ (by simp;omega)];exact heap_alloc2_old w A B
theorem lQ(l:List Nat):(eW l).all (·.oneCell')=true:=by
 rw[NC];intro v hv;unfold eW at hv;simp at hv;obtain⟨a,_,rfl⟩:=hv;rfl
theorem cC{a:World}(h:Below B a w)(d:B<=g)(c:Array Value):Below B a (w.setRow g c):=
 h.trans ⟨rfl,rfl,rfl,sI,λk hk=>l7 w g k c oM⟩
def iN:List Nat:=List.replicate 64 0
def pw(p:List Nat)(k:Nat):Nat->Nat
 |0=>0
 |r+1=>pw p k r*256+p.getD (4*k+r) 0
def qy(p:List Nat)(i:Nat):List Nat:=(List.range 64).map λk=>pw p k (min 4 (i-4*k))
theorem kS(p:List Nat)(i:Nat):(qy p i).length=64:=by simp[qy]
theorem tw(p:List Nat)(i k:Nat)(h:k<64):(qy p i)[k]'(by rw[kS];exact h)=pw p k (min 4 (i-4*k)):=by simp[qy]
theorem Fa(p:List Nat):qy p 0=iN:=by
 unfold qy iN;apply MX
 .simp
 .intro k h1 h2;rw[Aw,OK,Nat.zero_sub];rfl
theorem Hp(p:List Nat)(i:Nat):(qy p i).set (i/4) (pw p (i/4) (i%4)*256+p.getD i 0)=qy p (i+1):=by
 apply MX
 .simp[qy]
 intro k h1 h2;have hk:k<64:=by rw[kS]at h2;exact h2
 rw[List.getElem_set,tw p (i+1) k hk];split
 .rename_i e;subst e;have e1:min 4 (i+1-4*(i/4))=i%4+1:=oM;rw[e1];show _=pw p (i/4) (i%4)*256+p.getD (4*(i/4)+i%4) 0;have e2:4*(i/4)+i%4=i:=oM;rw[e2]
 rename_i e;rw[tw p i k hk];have e1:min 4 (i+1-4*k)=min 4 (i-4*k):=oM;rw[e1]
theorem Dm(p:List Nat):∀i,i<=16->dm p i=(List.range i).map (wd p)
 |0,_=>rfl
 |i+1,h=>by rw[JO,qA,<-Dm p i (by omega)];show _++[Hs _ p i]=_;rw[Hs,dq (by omega)];rfl
theorem FG(p:List Nat):qy p 64=fill (dm p 16) 64:=by
 rw[Dm p 16 (by omega)];unfold fill;apply MX
 .simp[qy]
 intro k h1 h2;have hk:k<64:=by rw[kS]at h1;exact h1
 rw[tw p 64 k hk];rcases Fc k 16 with h|h
 .rw[Qg (by simp;omega)];have e1:min 4 (64-4*k)=4:=oM;rw[e1];simp[pw,wd];omega
 rw[Of (by simp;omega)];have e1:min 4 (64-4*k)=0:=oM;rw[e1,OK];rfl
theorem Ld(p:List Nat)(a:∀d∈p,d<256)(k:Nat):∀r,pw p k r<256^r
 |0=>by simp[pw]
 |r+1=>by have h:=Ld p a k r;have h2:=jE a dE (4*k+r);rw[Nat.pow_succ];show pw p k r*256+_<_;omega
theorem Pb(p:List Nat)(a:∀d∈p,d<256)(k r:Nat)(h:r<4):pw p k r<16777216:=by
 have h1:=Ld p a k r;have h2:256^r<=256^3:=Nat.pow_le_pow_right dE oM;omega
theorem Km(x b:Nat)(a:x<16777216)(c:b<256):bits .or .u32 ((x:Int)*256) (b:Int)=((x*256+b:Nat):Int):=by
 have e:(x:Int)*256=((x*256:Nat):Int):=oM;rw[e,O2 _ _ (by omega) (by omega)];congr 1;have:=Qx (i:=8) (b:=b) oM x;rw[Nat.mul_comm x 256];exact this.symm
theorem Ee(p:List Nat)(av:p.length=64)(ax:∀d∈p,d<256)(w:World):
  Calls prog 250 #[.agg (kL p)] w λe w'=>
   e=.returned (.agg (eW (dm p 64)))/\Below w.heap.size w w':=by
 obtain⟨c,hc⟩:=eX (kL p);rw[<-hc];have HC:=hD hc;clear hc;have a8:=hD av;have K:=hD ax;clear av ax;go_enter func250,ntmps250
 go_wp2_with fail
 go_loopw [11] (λg wr=>∃i:Nat,i<=64/\g=.int .i64 i/\Hid (fV wr w.heap.size 192 p)/\Hid (eD wr (w.heap.size+1) 394 iN)/\Hid (eD wr (w.heap.size+1+1) 394 (qy p i))/\Hid (Below w.heap.size w wr)) (λg _=>64-(intOf g).toNat)
 case atStart=>
  refine⟨0,oM,rfl,?_,?_,?_,?_⟩
  .show fV _ _ _ _;unfold fV;rw[<-HC.out];exact m7 w _ _ _
  .exact m9 w _ _ _
  .show eD _ _ _ _;rw[Fa];exact oq w _ _ _
  exact(((dw _ _).alloc (cO _) _).alloc sI _).alloc (by simp;omega) _
 obtain⟨i,hi,rfl,HP,HR,HW,HB⟩:=hrel;have a1:=HW.lt;by_cases M:i<64
 .obtain⟨x,hx⟩:=eX (pw p (i/4) (i%4));obtain⟨b,hb⟩:=eX (p.getD i 0);have lx:x<16777216:=hx▸Pb p K _ _ oM;have lb:b<256:=hb▸jE K dE i;have cw:wr.cell? ⟨w.heap.size+1+1,i/4,none⟩=some (.int .u32 x):=by rw[HW.out.cell (i/4) (by rw[kS];omega),tw p i (i/4) (by omega),hx];have e1:min 4 (i-4*(i/4))=i%4:=oM;rw[e1]
  have cb:wr.cell? (yA w.heap.size i)=some (.int .u8 b):=by rw[HP.out.cell i (by rw[a8.out];exact M),hb,kp]
  have fw:=HW.frozen (i/4);have ao:=Km x b lx lb;have HX:=hD hx;have a3:=hD hb;obtain⟨q,hq⟩:=eX (i/4);rw[<-hq]at cw fw;have ar:(i:Int)/4=(q:Int):=oM;have ae:q<64:=oM;have HQ:=hD hq;clear hx hb hq
  go_wp2
  go_region
  go_wp2
  go_roundw
  case rel=>
   refine⟨i+1,oM,by go_num,?_,?_,?_,?_⟩
   .exact(HP.other _ (by show w.heap.size≠w.heap.size+1+1;omega) _).drew
   .exact(HR.other _ (by show w.heap.size+1≠w.heap.size+1+1;omega) _).drew
   .have h1:=HW.set q (x*256+b);have e1:(qy p i).set q (x*256+b)=qy p (i+1):=by rw[HQ.out,HX.out,a3.out];exact Hp p i
    have e2:((x*256+b:Nat):Int)=(x:Int)*256+b:=oM;rw[e1,e2]at h1;exact h1
   exact(HB.setCell (by show w.heap.size<=w.heap.size+1+1;omega) _).drew
  exact mS
 have s:i=64:=oM;obtain⟨i1,a9⟩:=eX (i);subst a9;have X:Hid (eD wr (w.heap.size+1+1) 394 (fill (dm p 16) 64)):=by have h:=HW;rw[s,FG p]at h;exact h
 clear HW s HP
 go_wp2
 go_loopw [28] (λg wr=>∃k:Nat,k<=48/\g=.int .i64 k/\Hid (eD wr (w.heap.size+1) 394 iN)/\Hid (eD wr (w.heap.size+1+1) 394 (fill (dm p (16+k)) 64))/\Hid (Below w.heap.size w wr)) (λg _=>48-(intOf g).toNat)
 .exact⟨0,oM,rfl,HR,X,HB⟩
 clear HR X HB a1 M;obtain⟨k,hk,rfl,HR,HW,HB⟩:=hrel;have a1:=HW.lt;by_cases M:k<48
 .obtain⟨i,hi⟩:=eX (16+k);have aj:(k:Int)+16=(i:Int):=oM;have ah:16<=i:=oM;have s:i<64:=oM;have B:Hid (eD wr (w.heap.size+1+1) 394 (fill (dm p i) 64)):=hi▸HW;have HI:=hD hi;clear hi HW;have ap:(fill (dm p i) 64).length=64:=rY _ _ (by rw[eI];omega);have a6:=eI p i;have o:∀j,j<i->wr.cell? ⟨w.heap.size+1+1,j,none⟩=some (.int .u32 ((dm p i).getD j 0:Int)):=λj hj=>by rw[B.out.cell j (by omega),Kl _ _ _ (by omega) (by omega),kp]
  have P:∀j,(dm p i).getD j 0<dQ:=λj=>jE (tY p K i) dE j
  obtain⟨D,I⟩:∃x,x=(dm p i).getD (i-16) 0:=⟨_,rfl⟩;obtain⟨f,C⟩:∃x,x=(dm p i).getD (i-15) 0:=⟨_,rfl⟩;obtain⟨x7,e7⟩:∃x,x=(dm p i).getD (i-7) 0:=⟨_,rfl⟩;obtain⟨x2,e2⟩:∃x,x=(dm p i).getD (i-2) 0:=⟨_,rfl⟩;have a0:(f:Int)<=4294967295:=by have:=P (i-15);rw[<-C]at this;unfold dQ at this;omega
  have q2:(x2:Int)<=4294967295:=by have:=P (i-2);rw[<-e2]at this;unfold dQ at this;omega
  have au:wr.cell? ⟨w.heap.size+1+1,i-16,none⟩=some (.int .u32 D):=I▸o _ oM;have aq:wr.cell? ⟨w.heap.size+1+1,i-15,none⟩=some (.int .u32 f):=C▸o _ oM;have c7:wr.cell? ⟨w.heap.size+1+1,i-7,none⟩=some (.int .u32 x7):=e7▸o _ oM;have c2:wr.cell? ⟨w.heap.size+1+1,i-2,none⟩=some (.int .u32 x2):=e2▸o _ oM;obtain⟨z,cz⟩:∃z:Int,wr.cell? ⟨w.heap.size+1+1,i,none⟩=some (.int .u32 z):=⟨_,B.cell i oM⟩;have fz:=B.frozen i;have HN:Hid (Hs (dm p i) p i=(D+x7+s0 f+s1 x2)%4294967296):=by show _=_;rw[Hs,dj (by omega),<-I,<-C,<-e7,<-e2]
  clear I C e7 e2 o P a6
  go_wp2
  go_quiet (fail)
  go_wp2_with fail
  refine(jD f 7 25 (-7) _ a0 (by decide+kernel) oM oM rfl).mono ?_;rintro e w' ⟨rfl,rfl⟩;obtain⟨a7,u⟩:∃a,a=j5 f 7:=⟨_,rfl⟩;rw[<-u];have an:(a7:Int)<=4294967295:=by have:=jI f 7;rw[<-u]at this;unfold dQ at this;omega
  have aa:=hD u;clear u
  go_wp2_with fail
  refine(jD f 18 14 (-18) _ a0 (by decide+kernel) oM oM rfl).mono ?_;rintro e w' ⟨rfl,rfl⟩;obtain⟨O,l⟩:∃a,a=j5 f 18:=⟨_,rfl⟩;rw[<-l];have af:(O:Int)<=4294967295:=by have:=jI f 18;rw[<-l]at this;unfold dQ at this;omega
  have Y:=hD l;clear l;obtain⟨y1,E⟩:∃y,y=a7^^^O:=⟨_,rfl⟩;obtain⟨y2,t⟩:∃y,y=y1^^^(f/8):=⟨_,rfl⟩;have J:y1<dQ:=E▸fJ (by unfold dQ;omega) (by unfold dQ;omega);have a2:y2<dQ:=t▸fJ J (by unfold dQ;omega);unfold dQ at J a2;have ai:bits .xor .u32 (a7:Int) (O:Int)=(y1:Int):=E▸xC _ _ oM oM;have ak:bits .xor .u32 (y1:Int) ((f:Int)/8)=(y2:Int):=by rw[t,<-xC _ _ (by omega) (by omega)];rfl
  have HY:Hid (y2=s0 f):=by show _=_;rw[t,E,aa.out,Y.out];rfl
  clear E t J a2
  go_wp2_with fail
  refine(jD x2 17 15 (-17) _ q2 (by decide+kernel) oM oM rfl).mono ?_;rintro e w' ⟨rfl,rfl⟩;obtain⟨N,n⟩:∃a,a=j5 x2 17:=⟨_,rfl⟩;rw[<-n];have ad:(N:Int)<=4294967295:=by have:=jI x2 17;rw[<-n]at this;unfold dQ at this;omega
  have V:=hD n;clear n
  go_wp2_with fail
  refine(jD x2 19 13 (-19) _ q2 (by decide+kernel) oM oM rfl).mono ?_;rintro e w' ⟨rfl,rfl⟩;obtain⟨H,m⟩:∃a,a=j5 x2 19:=⟨_,rfl⟩;rw[<-m];have ag:(H:Int)<=4294967295:=by have:=jI x2 19;rw[<-m]at this;unfold dQ at this;omega
  have U:=hD m;clear m;obtain⟨z1,A⟩:∃y,y=N^^^H:=⟨_,rfl⟩;obtain⟨z2,F⟩:∃y,y=z1^^^(x2/1024):=⟨_,rfl⟩;have L:z1<dQ:=A▸fJ (by unfold dQ;omega) (by unfold dQ;omega);have T:z2<dQ:=F▸fJ L (by unfold dQ;omega);unfold dQ at L T;have am:bits .xor .u32 (N:Int) (H:Int)=(z1:Int):=A▸xC _ _ oM oM;have al:bits .xor .u32 (z1:Int) ((x2:Int)/1024)=(z2:Int):=by rw[F,<-xC _ _ (by omega) (by omega)];rfl
  have HZ:Hid (z2=s1 x2):=by show _=_;rw[F,A,V.out,U.out];rfl
  clear A F L T;have a4:Hid (Hs (dm p i) p i=(D+x7+y2+z2)%4294967296):=by show _=_;rw[HN.out,<-HY.out,<-HZ.out]
  clear HN
  go_wp2
  go_region
  go_wp2
  go_roundw
  case rel=>
   have ez:((Hs (dm p i) p i:Nat):Int)=((D:Int)+(y2:Int)+(x7:Int)+(z2:Int))%4294967296:=by rw[a4.out];omega
   refine⟨k+1,oM,by go_num,?_,?_,?_⟩
   .exact(HR.other _ (by show w.heap.size+1≠w.heap.size+1+1;omega) _).drew
   .show eD _ _ _ _;have h1:=B.set i (Hs (dm p i) p i);have h3:=G8 (dm p i) 64 (Hs (dm p i) p i) (by rw[eI];omega);rw[eI]at h3;rw[h3,ez]at h1;have e5:16+(k+1)=i+1:=by rw[HI.out];omega
    rw[e5];exact h1
   exact((cR HB nq).setCell (by show w.heap.size<=w.heap.size+1+1;omega) _).drew
  exact mS
 have G:k=48:=oM
 have W:Hid (eD wr (w.heap.size+1+1) 394 (dm p 64)):=by
  have h:=HW;rw[G]at h;have e:fill (dm p (16+48)) 64=dm p 64:=by unfold fill;rw[eI];simp
  rw[e]at h;exact h
 clear HW;obtain⟨S,hS⟩:=eX (eW (dm p 64));obtain⟨Z,hZ⟩:=eX (eW iN);have HS:Hid (wr.heap[w.heap.size+1+1]?=some (.cells S 394 (0,0))):=hS▸W;have HZ:Hid (wr.heap[w.heap.size+1]?=some (.cells Z 394 (0,0))):=hZ▸HR;have Q:S.size=64:=by rw[hS];simp[eW,eI]
 have r:Hid ((prog.info? 394).map (·.size)=some S.size):=by
  show _=_;rw[Q]
  kernel_rfl
 have a5:Hid (Z.size=S.size):=by show _=_;rw[Q,hZ];rfl
 have ab:Hid (S.all (·.oneCell')=true):=by show _=_;rw[hS];exact lQ _
 have ac:=hD hS;clear Q hS hZ W HR G
 go_wp2_with (first|refine vk rfl 394 _ rfl (w.heap.size+1+1) rfl 394 S (0,0) _ HS underlying394 rfl r ?_|refine ER rfl 394 _ _ rfl (w.heap.size+1) S rfl rfl 394 Z HZ r a5 ab ?_)
 refine gh (v:=.agg (eW (dm p 64))) ?_ rfl ⟨rfl,?_⟩
 .rw[<-ac.out];exact Bj (p:=2) (ty:=394) rfl _ _ (w.heap.size+1) 394 S (0,0) _ rfl (ja wr (w.heap.size+1) Z S 394 _ HZ) underlying394 rfl r
 exact cC HB oM _
def bv(l:List Nat):List Value:=l.map λc:Nat=>Value.int .u8 c
theorem infoByte:(prog.info? 5).map (λi=>(i.zero,i.size,i.bytes))=some (some (.int .u8 0),1,1):=kR
def fW(s:ByteArray):List Nat:=s.data.toList.map UInt8.toNat
theorem vz(s:ByteArray):(fW s).length=s.size:=by simp[fW]
theorem rf(s:ByteArray):∀d∈fW s,d<256:=by
 intro d hd;unfold fW at hd;obtain⟨c,_,rfl⟩:=List.mem_map.1 hd;exact c.toNat_lt
end
end Go.Proofs.YtapijhhmjjplmaaGreatDoor

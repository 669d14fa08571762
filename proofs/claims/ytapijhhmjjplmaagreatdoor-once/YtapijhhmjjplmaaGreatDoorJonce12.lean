import Derived.Test.YtapijhhmjjplmaaGreatDoorJonce8
import Derived.Test.YtapijhhmjjplmaaGreatDoorJonce9
namespace Go.Proofs.YtapijhhmjjplmaaGreatDoor
set_option linter.all false
set_option maxRecDepth 100000
set_option maxHeartbeats 4000000
open Go.Proofs.Tryz
variable {D:DataW Value}{lk:Int}{k j b n bd gs bm m:Nat}{S:Nat→Prop}{wv:Value}{w w':World}
section
open Go.RowKit
theorem E9(l:List UInt8):cW l=(l.map UInt8.toNat).map λx:Nat=>Value.int .u8 x:=by simp[cW]
theorem KQ(s:ByteArray)(a n:Nat):(((fW s).drop a).take n).map (λx:Nat=>Value.int .u8 x)=cW ((s.extract a s.size).data.toList.take n):=by
 rw[E9];congr 1;have e:List.take (s.size-a) (List.drop a s.data.toList)=List.drop a s.data.toList:=pK (by rw[Lx,gf];exact cO _);rw[O1,Ru,QZ,e,List.map_take,List.map_drop];rfl
theorem CR(st q b:List Nat)(f R:Array Value)(c:World)(g:f=eW st)(m:R=kL q)(l:st.length=8)(n:∀d∈st,d<dQ)(h:q.length=64)(j:∀d∈q,d<256)(k:∀d∈b,d<dQ)(o:∀i,i<64->c.cell? ⟨14,i,none⟩=some (.int .u32 (b.getD i 0:Int))):
  Calls prog 182 #[.agg f,.agg R] c λe w2=>∃S2:Array Value,e=.returned (.agg S2)/\Hid (S2=eW (kK b st q))/\Hid ((prog.info? 302).map (·.size)=some S2.size)/\Hid (f.size=S2.size)/\Hid (S2.all (·.oneCell')=true)/\Hid (Below c.heap.size c w2):=by
 rw[g,m];refine(JL st q b l n h j k c o).mono ?_;rintro e w2 ⟨rfl,hb⟩;have hs:(eW (kK b st q)).size=8:=by simp[eW,jK]
 have a:(eW st).size=8:=by simp[eW,l]
 refine⟨_,rfl,rfl,?_,?_,lQ _,hb⟩
 .show _=_;rw[hs]
  kernel_rfl
 show _=_;rw[hs,a]
theorem Cp(st:List Nat)(S:Array Value)(a:World)(b:S=eW st)(c:st.length=8)(f:∀d∈st,d<dQ):
  Calls prog 183 #[.agg S] a λe w2=>∃A:Array Value,e=.returned (.agg A)/\Hid (A=kL (jp st 32))/\Hid ((prog.info? 131).map (·.size)=some A.size)/\Hid ((kL jg).size=A.size)/\Hid (A.all (·.oneCell')=true)/\Hid (Below a.heap.size a w2):=by
 rw[b];refine(zr st c f a).mono ?_;rintro e w2 ⟨rfl,hb⟩;have hs:(kL (jp st 32)).size=32:=by simp[kL,gy]
 refine⟨_,rfl,rfl,?_,?_,xO _,hb⟩
 .show _=_;rw[hs]
  kernel_rfl
 show _=_;rw[hs];rfl
theorem Iw(b:List Nat)(N:Nat)(a:b.length=64)(c:N<16777216):
  (((((((b.set 63 (N%256)).set 62 (N/256%256)).set 61 (N/65536)).set 60 (N/16777216)).set 59 (N/4294967296)).set 58 (N/1099511627776)).set 57 (N/281474976710656)).set 56 (N/72057594037927936)=gH b N 8:=by
 have h0:=iw b N 0 a oM;have h1:=iw b N 1 a oM;have h2:=iw b N 2 a oM;have h3:=iw b N 3 a oM;have h4:=iw b N 4 a oM;have h5:=iw b N 5 a oM;have h6:=iw b N 6 a oM;have h7:=iw b N 7 a oM;simp only[Nat.reduceMul,Nat.reducePow,Nat.reduceSub,Nat.reduceAdd,Nat.div_one]at h0 h1 h2 h3 h4 h5 h6 h7;rw[zy b N a]at h0;have e2:N/65536%256=N/65536:=oM;have e3:N/16777216%256=N/16777216:=oM;have e4:N/4294967296%256=N/4294967296:=oM;have e5:N/1099511627776%256=N/1099511627776:=oM;have e6:N/281474976710656%256=N/281474976710656:=oM;have e7:N/72057594037927936%256=N/72057594037927936:=oM;rw[e2]at h2;rw[e3]at h3;rw[e4]at h4;rw[e5]at h5;rw[e6]at h6;rw[e7]at h7;rw[h0,h1,h2,h3,h4,h5,h6,h7]
theorem Dq(s:ByteArray)(ks hs:List Nat)(tg:TypeId)(fr:Nat×Nat)(w:World)(ct:s.size<=300000)(cn:hs.length=8)(co:∀d∈hs,d<dQ)(cp:∀d∈ks,d<dQ)(hS:w.heap[13]?=some (.cells (eW hs) tg fr))(hK:∀i,i<64->w.cell? ⟨14,i,none⟩=some (.int .u32 (ks.getD i 0:Int))):
  Calls prog 107 #[.string s] w λe w'=>
   e=.returned (.agg (kL (jp (gY ks hs (fE (fW s)) ((fE (fW s)).length/64)) 32)))/\Below w.heap.size w w':=by
 have ci:(s.size:Int)<=300000:=oM;obtain⟨l,hl⟩:=eX (fW s);have b1:l.length=s.size:=hl▸vz s;rw[<-hl];obtain⟨H0,ah⟩:∃c,c=eW hs:=⟨_,rfl⟩;rw[<-ah]at hS;have aM:H0.size=8:=by rw[ah];simp[eW,cn]
 have bd:Hid ((prog.info? 302).map (·.size)=some H0.size):=by show _=_;rw[aM];kernel_rfl
 have bU:Hid (H0.all (·.oneCell')=true):=by show _=_;rw[ah];exact lQ _
 have HS:=hD hS;have hG:13<w.heap.size:=(Array.getElem?_eq_some_iff.1 hS).1;have bK:Hid (∀Z,(w.alloc Z).heap[13]?=some (.cells H0 tg fr)):=λZ=>by rw[rd _ _ _ (by omega)];exact HS.out
 have aX:Hid (∀Z Y,((w.alloc Z).alloc Y).heap[w.heap.size+1]?=some Y):=λZ Y=>Ov w Z Y
 have bL:Hid (∀Z:Array Value,Z.size=8->Z.size=H0.size):=λZ h=>h.trans aM.symm
 have bM:=hD ah;have HL:=hD hl;have K:=hD b1;have HK:=hD hK;have aY:=hD cn;have b7:=hD co;have aJ:=hD cp;clear aM hS ah hl b1 hK cn co cp;go_enter func107,ntmps107
 go_wp2_with (first|refine vk rfl 302 _ rfl 13 rfl tg H0 fr _ (bK.out _) Gg rfl bd.out ?_|refine ER rfl 302 _ _ rfl (w.heap.size+1) H0 rfl rfl 302 _ (aX.out _ _) bd.out (bL.out _ rfl) bU.out ?_)
 go_loopw [15] (λaK wr=>∃i:Nat,i<=s.size/64/\aK=.int .i64 i/\Hid (fV wr w.heap.size 131 jg)/\Hid (eD wr (w.heap.size+1) 302 (gY ks hs (fE l) i))/\Hid (∃p,p.length=64/\fV wr (w.heap.size+1+1) 192 p)/\Hid (Below w.heap.size w wr)) (λaK _=>s.size/64-(intOf aK).toNat)
 case atStart=>
  refine⟨0,oM,rfl,?_,?_,?_,?_⟩
  .show fV _ _ _ _;unfold fV;rw[rd _ _ _ (by simp;omega),l7 _ _ _ _ (by omega)];exact heap_alloc2_old w _ _
  .show eD _ _ _ _;unfold eD;rw[rd _ _ _ (by simp)];have e:gY ks hs (fE l) 0=hs:=rfl;rw[e,<-bM.out];exact ja _ _ _ _ _ _ (aX.out _ _)
  .refine⟨iN,rfl,?_⟩;have h:=λY Z=>dM (((w.alloc Y).alloc Z).setRow (w.heap.size+1) H0) (.cells (kL iN) 192)
   have e:∀Y Z,(((w.alloc Y).alloc Z).setRow (w.heap.size+1) H0).heap.size=w.heap.size+1+1:=λY Z=>by simp
   simp only[e]at h;exact h _ _
  exact(cC (((dw _ _).alloc (cO _) _).alloc sI _) oM _).alloc (by simp;omega) _
 obtain⟨i,hi,rfl,HR,HU,HP,HB⟩:=hrel;have ce:w.heap.size+1+1<wr.heap.size:=by obtain⟨p,_,hp⟩:=HP.out;exact hp.lt
 by_cases bO:i<s.size/64
 .obtain⟨p,N,E⟩:=HP.out;obtain⟨PA,W⟩:∃c,c=kL p:=⟨_,rfl⟩;obtain⟨q,hq⟩:=eX ((l.drop (64*i)).take 64);have H:q.length=64:=by rw[hq,vx,Lx,K.out];omega
  obtain⟨CS,J⟩:∃c,c=q.map λx:Nat=>Value.int .u8 x:=⟨_,rfl⟩
  obtain⟨R,hR⟩:=eX (kL q);have X:Hid (wr.heap[w.heap.size+1+1]?=some (.cells PA 192 (0,0))):=W▸E;have a8:Hid (CS=cW ((s.extract (64*i) s.size).data.toList.take 64)):=by show _=_;rw[J,hq,HL.out];exact KQ s (64*i) 64
  have az:PA.toList.length=64:=by rw[W];simp[kL,N]
  have r:CS.length=64:=by rw[J];simp[H]
  have L:Hid (0+CS.length<=PA.size):=by show _<=_;rw[r,<-gf,az];omega
  have ac:Hid ((PA.toList.take 0++CS++PA.toList.drop (0+CS.length)).toArray=R):=by show _=_;rw[r,N6,Ab,A9 (by omega),CO,hR,J];rfl
  have ae:Hid ((CS.length:Int)=64):=by show _=_;rw[r];rfl
  have aO:Hid ((prog.info? 5).map (·.size)=some 1):=by show _=_;kernel_rfl
  have a6:=hD hR;have HQ:=hD hq;have P:=hD H;clear E N W hq J hR az r H HP;obtain⟨a,ha⟩:=eX (64*i);rw[<-ha]at a8;have b9:IntKind.i64.wrap ((i:Int)*64)=(a:Int):=by rw[ha];simp[IntKind.wrap,IntKind.bits,IntKind.signed];omega
  have c5:wrap64 ((i:Int)*64)=(a:Int):=by rw[ha,Go.IntWalk.wrap64_in _ (by omega)];omega
  have bj:a<=s.size:=oM;have aQ:(a:Int)<=(s.size:Int):=oM;have HA:=hD ha;clear ha
  go_wp2
  go_region_law (refine lz rfl (.tmp 18) (.tmp 22) 134 9 rfl 5 yE aO.out (w.heap.size+1+1) 0 64 64 (s.extract a s.size) (by simp[Act.eval,Act.put]) (by simp[Act.eval,Act.put]) PA 192 X.out CS a8.out L.out R ac.out 64 ae.out ?_)
  obtain⟨w1,B⟩:=eX (wr.drew.setRow (w.heap.size+1+1) R);rw[<-B];obtain⟨st,F⟩:=eX (gY ks hs (fE l) i);obtain⟨ST,I⟩:=eX (eW st);have G:st.length=8:=F▸ji _ _ _ aY.out i;have U:∀d∈st,d<dQ:=F▸zu _ _ _ b7.out i;have ai:Hid (w1.heap[w.heap.size+1]?=some (.cells ST 302 (0,0))):=by show _=_;rw[B,l7 _ _ _ _ (by omega),I,F];exact HU.out
  have Q:Hid (w1.heap[w.heap.size+1+1]?=some (.cells R 192 (0,0))):=by show _=_;rw[B];exact ja _ _ _ _ _ _ X.out
  have ar:Hid (fV w1 w.heap.size 131 jg):=by show fV _ _ _ _;unfold fV;rw[B,l7 _ _ _ _ (by omega)];exact HR.out
  have aa:Hid (Below w.heap.size w w1):=B▸cC HB.out.drew oM _;have bG:w.heap.size+1+1<w1.heap.size:=fV.lt (l:=q) (t:=192) (by have h:=Q.out;rw[a6.out]at h;exact h)
  have al:Hid ((prog.info? 302).map (·.size)=some ST.size):=by
   show _=_;rw[I];simp only[eW,jO,iF,G]
   kernel_rfl
  have a4:Hid ((prog.info? 192).map (·.size)=some R.size):=by
   show _=_;rw[a6.out];simp only[kL,jO,iF,P.out]
   kernel_rfl
  have HM:Hid (Calls prog 182 #[.agg ST,.agg R] w1 λe w2=>∃S2:Array Value,e=.returned (.agg S2)/\Hid (S2=eW (kK ks st q))/\Hid ((prog.info? 302).map (·.size)=some S2.size)/\Hid (ST.size=S2.size)/\Hid (S2.all (·.oneCell')=true)/\Hid (Below w1.heap.size w1 w2)):=
   CR st q ks ST R w1 I a6.out G U P.out (by rw[HQ.out,HL.out];exact λd hd=>rf s d (QF (Pr hd))) aJ.out (λj hj=>by rw[aa.out.cell (by show 14<_;exact pr (HK.out 0 (by omega)))];exact HK.out j hj)
  have a9:=hD F;have y:Hid (blk (fE l) i=q):=by show _=_;rw[FY l i (by rw[K.out];exact bO),HQ.out]
  clear B I F G U HR HU X HB a8 L ac ae
  go_wp2_with (first|refine vk rfl 302 _ rfl (w.heap.size+1) rfl 302 ST (0,0) _ ai.out Gg rfl al.out ?_|refine vk rfl 192 _ rfl (w.heap.size+1+1) rfl 192 R (0,0) _ Q.out PH rfl a4.out ?_)
  refine HM.out.mono ?_;rintro e w2 ⟨S2,rfl,a2,aq,V,ap,D⟩;have S:Hid (w2.heap[w.heap.size+1]?=some (.cells ST 302 (0,0))):=by show _=_;rw[D.out.block _ (by omega)];exact ai.out
  go_wp2_with (refine ER rfl 302 _ _ rfl (w.heap.size+1) S2 rfl rfl 302 ST S.out aq.out V.out ap.out ?_)
  go_roundw
  case rel=>
   refine⟨i+1,oM,by go_num,?_,?_,?_,?_⟩
   .show fV _ _ _ _;unfold fV;rw[l7 _ _ _ _ (by omega),D.out.block _ (by omega)];exact ar.out
   .show eD _ _ _ _;have h1:=ja _ _ _ S2 _ _ S.out;unfold eD;have e:gY ks hs (fE l) (i+1)=kK ks st q:=by show kK ks (gY ks hs (fE l) i) (blk (fE l) i)=_;rw[y.out,a9.out]
    rw[e,<-a2.out];exact h1
   .refine⟨q,P.out,?_⟩;unfold fV;rw[l7 _ _ _ _ (by omega),D.out.block _ bG,<-a6.out];exact Q.out
   exact cC (aa.out.trans (D.out.mono aa.out.size)) oM _
  exact mS
 have b2:i=s.size/64:=oM;obtain⟨i1,bX⟩:=eX (i);subst bX;obtain⟨p,N,E⟩:=HP.out;obtain⟨PA,W⟩:∃c,c=kL p:=⟨_,rfl⟩;obtain⟨Z,hZ⟩:∃c,c=kL iN:=⟨_,rfl⟩;obtain⟨n,hn⟩:=eX (s.size%64);obtain⟨a,ha⟩:=eX (64*(s.size/64));have bi:n<64:=oM;obtain⟨q,hq⟩:=eX (l.drop a++List.replicate (64-n) 0);have am:(l.drop a).length=n:=by rw[Lx,K.out];omega
 have H:q.length=64:=by rw[hq,ir,am,Kz];omega
 obtain⟨CS,J⟩:∃c,c=(l.drop a).map λx:Nat=>Value.int .u8 x:=⟨_,rfl⟩
 obtain⟨R,hR⟩:=eX (kL q);have X:Hid (wr.heap[w.heap.size+1+1]?=some (.cells PA 192 (0,0))):=W▸E;have ba:Hid (PA.size=64):=by rw[W];show _=_;simp[kL,N]
 have ao:Hid ((List.replicate 64 (Value.int .u8 0)).toArray=Z):=hZ▸(show _=_ by unfold kL iN;rw[QG];rfl);have bn:Hid (∀w,(zeroValue 5).run prog w=.ok (.int .u8 0) w):=λ_=>by kernel_rfl
 have aE:Hid ((wr.setRow (w.heap.size+1+1) Z).heap[w.heap.size+1+1]?=some (.cells Z 192 (0,0))):=ja _ _ _ _ _ _ X.out;have a8:Hid (CS=cW ((s.extract a s.size).data.toList.take 64)):=by show _=_;rw[<-KQ s a 64,<-HL.out,pK (by omega)];exact J
 have r:CS.length=n:=by rw[J,iF];exact am
 have aP:Z.toList=List.replicate 64 (Value.int .u8 0):=by rw[<-ao.out]
 have L:Hid (0+CS.length<=Z.size):=by show _<=_;rw[r,<-gf,aP,Kz];omega
 have ac:Hid ((Z.toList.take 0++CS++Z.toList.drop (0+CS.length)).toArray=R):=by show _=_;rw[r,N6,Ab,aP,List.drop_replicate,hR,J,hq,nS];unfold kL;rw[qA,QG];rfl
 have ae:Hid ((CS.length:Int)=(n:Int)):=by show _=_;rw[r]
 have aO:Hid ((prog.info? 5).map (·.size)=some 1):=by show _=_;kernel_rfl
 have a6:=hD hR;have HQ:Hid (q.set n 128=iq l):=by show _=_;have e:64-n=(63-n)+1:=oM;rw[hq,Ka _ _ (by omega),am,Pp,e,PU,Lf];unfold iq;rw[K.out,<-ha,<-hn,ve];rfl
 have b9:IntKind.i64.wrap ((s.size:Int)/64*64)=(a:Int):=by rw[ha];simp[IntKind.wrap,IntKind.bits,IntKind.signed];omega
 have bj:a<=s.size:=oM;have aQ:(a:Int)<=(s.size:Int):=oM;have HN:=hD hn;have P:=hD H;clear E N W hZ hq J hR r aP am H HP ha hn
 go_wp2_with (refine lG rfl (.tmp 28) 134 rfl 5 yE (.int .u8 0) bn.out rfl rfl (w.heap.size+1+1) 64 64 oM rfl PA 192 X.out ba.out Z ao.out ?_)
 go_region_law (refine lz rfl (.tmp 29) (.tmp 33) 134 9 rfl 5 yE aO.out (w.heap.size+1+1) 0 64 64 (s.extract a s.size) (by simp[Act.eval,Act.put]) (by simp[Act.eval,Act.put]) Z 192 aE.out CS a8.out L.out R ac.out (n:Int) ae.out ?_)
 obtain⟨w1,B⟩:=eX ((wr.setRow (w.heap.size+1+1) Z).drew.setRow (w.heap.size+1+1) R);rw[<-B];obtain⟨st,F⟩:=eX (gY ks hs (fE l) (s.size/64));have G:st.length=8:=F▸ji _ _ _ aY.out _;have U:∀d∈st,d<dQ:=F▸zu _ _ _ b7.out _;have ai:Hid (eD w1 (w.heap.size+1) 302 st):=by show _=_;rw[B,l7 _ _ _ _ (by omega)];show(wr.setRow _ _).heap[_]?=_;rw[l7 _ _ _ _ (by omega),F,<-b2];exact HU.out
 have Q:Hid (fV w1 (w.heap.size+1+1) 192 q):=by show _=_;rw[B,<-a6.out];exact ja _ _ _ _ _ _ aE.out
 have ar:Hid (fV w1 w.heap.size 131 jg):=by show _=_;rw[B,l7 _ _ _ _ (by omega)];show(wr.setRow _ _).heap[_]?=_;rw[l7 _ _ _ _ (by omega)];exact HR.out
 have aa:Hid (Below w.heap.size w w1):=by rw[B];exact cC (cC HB.out oM _).drew oM _
 obtain⟨z,cz⟩:∃z:Int,w1.cell? ⟨w.heap.size+1+1,n,none⟩=some (.int .u8 z):=⟨_,Q.out.cell n (by rw[P.out];exact bi)⟩;have fz:=Q.out.frozen n;have ab:Hid (fV (w1.setCell ⟨w.heap.size+1+1,n,none⟩ (.int .u8 128)) (w.heap.size+1+1) 192 (iq l)):=by have h:=Q.out.set n 128;rw[HQ.out]at h;exact h
 have S:Hid (eD (w1.setCell ⟨w.heap.size+1+1,n,none⟩ (.int .u8 128)) (w.heap.size+1) 302 st):=ai.out.other _ (by show w.heap.size+1≠w.heap.size+1+1;omega) _;have V:Hid (fV (w1.setCell ⟨w.heap.size+1+1,n,none⟩ (.int .u8 128)) w.heap.size 131 jg):=ar.out.other _ (by show w.heap.size≠w.heap.size+1+1;omega) _;have D:Hid (Below w.heap.size w (w1.setCell ⟨w.heap.size+1+1,n,none⟩ (.int .u8 128))):=aa.out.setCell (by show w.heap.size<=w.heap.size+1+1;omega) _;have O:=hD G;have a3:=hD U;have a9:Hid (st=gY ks hs (fE l) (l.length/64)):=by rw[K.out];exact F
 clear B F G U HR HU HB X ba aE a8 L ac ae ai Q ar aa b2;by_cases aR:56<=n;obtain⟨w2,a0⟩:=eX (w1.setCell ⟨w.heap.size+1+1,n,none⟩ (.int .u8 128));obtain⟨ST,I⟩:=eX (eW st);obtain⟨T,hT⟩:=eX (kL (iq l));rw[<-a0]at ab S V D;have aN:Hid ((w1.setCell ⟨w.heap.size+1+1,n,none⟩ (.int .u8 128)).heap[w.heap.size+1]?=some (.cells ST 302 (0,0))):=by rw[<-a0,I];exact S
 have aD:Hid ((w1.setCell ⟨w.heap.size+1+1,n,none⟩ (.int .u8 128)).heap[w.heap.size+1+1]?=some (.cells T 192 (0,0))):=by rw[<-a0,hT];exact ab
 have b0:=ab.out.lt
 have al:Hid ((prog.info? 302).map (·.size)=some ST.size):=by
  show _=_;rw[I];simp only[eW,jO,iF,O.out]
  kernel_rfl
 have aG:Hid (T.size=64):=by show _=_;rw[hT];simp only[kL,jO,iF,gF]
 have a4:Hid ((prog.info? 192).map (·.size)=some T.size):=by
  show _=_;rw[aG.out]
  kernel_rfl
 have HM:Hid (Calls prog 182 #[.agg ST,.agg T] (w1.setCell ⟨w.heap.size+1+1,n,none⟩ (.int .u8 128)) λe w3=>∃S2:Array Value,e=.returned (.agg S2)/\Hid (S2=eW (kK ks st (iq l)))/\Hid ((prog.info? 302).map (·.size)=some S2.size)/\Hid (ST.size=S2.size)/\Hid (S2.all (·.oneCell')=true)/\Hid (Below w2.heap.size w2 w3)):=by rw[<-a0];exact CR st (iq l) ks ST T w2 I hT O.out a3.out (gF l) (zQ l (by rw[HL.out];exact rf s)) aJ.out (λj hj=>by rw[D.out.cell (by show 14<_;exact pr (HK.out 0 (by omega)))];exact HK.out j hj)
 have aA:Hid (w2.heap[w.heap.size+1]?=some (.cells ST 302 (0,0))):=a0▸aN;have bm:Hid (w2.heap[w.heap.size+1+1]?=some (.cells T 192 (0,0))):=a0▸aD;clear I hT a0
 go_wp2_with (first|refine vk rfl 302 _ rfl (w.heap.size+1) rfl 302 ST (0,0) _ aN.out Gg rfl al.out ?_|refine vk rfl 192 _ rfl (w.heap.size+1+1) rfl 192 T (0,0) _ aD.out PH rfl a4.out ?_)
 refine HM.out.mono ?_;rintro e w3 ⟨S2,rfl,a2,aq,be,ap,ag⟩;have aH:Hid (w3.heap[w.heap.size+1]?=some (.cells ST 302 (0,0))):=by show _=_;rw[ag.out.block _ (by omega)];exact aA.out
 have aU:Hid ((w3.setRow (w.heap.size+1) S2).heap[w.heap.size+1+1]?=some (.cells T 192 (0,0))):=by show _=_;rw[l7 _ _ _ _ (by omega),ag.out.block _ b0];exact bm.out
 go_wp2_with (first|refine ER rfl 302 _ _ rfl (w.heap.size+1) S2 rfl rfl 302 ST aH.out aq.out be.out ap.out ?_|refine lG rfl (.tmp 42) 134 rfl 5 yE (.int .u8 0) bn.out rfl rfl (w.heap.size+1+1) 64 64 oM rfl T 192 aU.out aG.out Z ao.out ?_)
 obtain⟨w5,C⟩:=eX ((w3.setRow (w.heap.size+1) S2).setRow (w.heap.size+1+1) Z);rw[<-C];obtain⟨u,m⟩:∃x,x=kK ks st (iq l):=⟨_,rfl⟩;obtain⟨g,b⟩:∃x,x=iN:=⟨_,rfl⟩;have b4:Z=kL iN:=by rw[<-ao.out];unfold kL iN;rw[QG];rfl
 have aL:Hid (eD w5 (w.heap.size+1) 302 u):=by show _=_;rw[C,l7 _ _ _ _ (by omega),m,<-a2.out];exact ja _ _ _ S2 _ _ aH.out
 have f:Hid (fV w5 (w.heap.size+1+1) 192 g):=by show _=_;rw[C,b,<-b4];exact ja _ _ _ _ _ _ aU.out
 have aF:Hid (fV w5 w.heap.size 131 jg):=by show _=_;rw[C,l7 _ _ _ _ (by omega),l7 _ _ _ _ (by omega),ag.out.block _ (by omega)];exact V.out
 have aI:Hid (Below w.heap.size w w5):=by rw[C];exact cC (cC (D.out.trans (ag.out.mono D.out.size)) oM _) oM _
 have aV:Hid (u.length=8):=m▸jK _ _ _;have b6:Hid (∀d∈u,d<dQ):=m▸x9 _ _ _;have y:Hid (g.length=64):=by rw[b];rfl
 have b5:Hid (∀d∈g,d<256):=by rw[b];exact λd hd=>by rw[MY hd];omega
 have af:Hid (kK ks u (gH g (8*l.length) 8)=gY ks hs (fE l) ((fE l).length/64)):=by show _=_;rw[GJ ks hs l (by rw[K.out,<-HN.out];exact aR),m,b,<-a9.out];rfl
 clear C m b b4 aH aU HM ag a2 aq be ap aA bm aN aD al a4 aG ab S V D aR cz fz a9 O a3 b0
 rotate_left
 go_wp2
 obtain⟨w5,C⟩:=eX (w1.setCell ⟨w.heap.size+1+1,n,none⟩ (.int .u8 128));rw[<-C];obtain⟨u,m⟩:∃x,x=st:=⟨_,rfl⟩;obtain⟨g,b⟩:∃x,x=iq l:=⟨_,rfl⟩;have aL:Hid (eD w5 (w.heap.size+1) 302 u):=by rw[C,m];exact S
 have f:Hid (fV w5 (w.heap.size+1+1) 192 g):=by rw[C,b];exact ab
 have aF:Hid (fV w5 w.heap.size 131 jg):=C▸V;have aI:Hid (Below w.heap.size w w5):=C▸D;have aV:Hid (u.length=8):=m▸O;have b6:Hid (∀d∈u,d<dQ):=m▸a3;have y:Hid (g.length=64):=b▸gF l;have b5:Hid (∀d∈g,d<256):=b▸zQ l (by rw[HL.out];exact rf s);have af:Hid (kK ks u (gH g (8*l.length) 8)=gY ks hs (fE l) ((fE l).length/64)):=by show _=_;rw[GW ks hs l (by rw[K.out,<-HN.out];omega),m,b,<-a9.out]
 clear C m b ab S V D aR cz fz a9 O a3
 all_goals
  have bV:∃z:Int,w5.cell? ⟨w.heap.size+1+1,56,none⟩=some (.int .u8 z):=⟨_,f.out.cell 56 (by rw[y.out];omega)⟩;have bx:∃z:Int,w5.cell? ⟨w.heap.size+1+1,57,none⟩=some (.int .u8 z):=⟨_,f.out.cell 57 (by rw[y.out];omega)⟩;have bA:∃z:Int,w5.cell? ⟨w.heap.size+1+1,58,none⟩=some (.int .u8 z):=⟨_,f.out.cell 58 (by rw[y.out];omega)⟩;have bp:∃z:Int,w5.cell? ⟨w.heap.size+1+1,59,none⟩=some (.int .u8 z):=⟨_,f.out.cell 59 (by rw[y.out];omega)⟩;have c8:∃z:Int,w5.cell? ⟨w.heap.size+1+1,60,none⟩=some (.int .u8 z):=⟨_,f.out.cell 60 (by rw[y.out];omega)⟩;have bI:∃z:Int,w5.cell? ⟨w.heap.size+1+1,61,none⟩=some (.int .u8 z):=⟨_,f.out.cell 61 (by rw[y.out];omega)⟩;have bD:∃z:Int,w5.cell? ⟨w.heap.size+1+1,62,none⟩=some (.int .u8 z):=⟨_,f.out.cell 62 (by rw[y.out];omega)⟩;have c3:∃z:Int,w5.cell? ⟨w.heap.size+1+1,63,none⟩=some (.int .u8 z):=⟨_,f.out.cell 63 (by rw[y.out];omega)⟩;obtain⟨cd,bu⟩:=bV;obtain⟨cc,bP⟩:=bx;obtain⟨c9,br⟩:=bA;obtain⟨cf,bJ⟩:=bp;obtain⟨ca,bH⟩:=c8;obtain⟨cj,bS⟩:=bI;obtain⟨cb,bF⟩:=bD;obtain⟨cl,bB⟩:=c3;have bR:=f.out.frozen 56;have c6:=f.out.frozen 57;have c4:=f.out.frozen 58;have bw:=f.out.frozen 59;have bZ:=f.out.frozen 60;have bY:=f.out.frozen 61;have c7:=f.out.frozen 62;have bz:=f.out.frozen 63;refine Oe 9 ?_;rw[zc]
  go_wp2
  rw[zc]
  go_wp2
  rw[zc]
  go_wp2
  rw[zc]
  go_wp2
  rw[zc]
  go_wp2
  rw[zc]
  go_wp2
  rw[zc]
  go_wp2
  rw[zc]
  go_wp2
  obtain⟨w8,a7⟩:=eX (((((((((w5.setCell ⟨w.heap.size+1+1,63,none⟩ (.int .u8 ((s.size:Int)*8%256))).setCell ⟨w.heap.size+1+1,62,none⟩ (.int .u8 ((s.size:Int)*8/256%256))).setCell ⟨w.heap.size+1+1,61,none⟩ (.int .u8 ((s.size:Int)*8/65536))).setCell ⟨w.heap.size+1+1,60,none⟩ (.int .u8 ((s.size:Int)*8/16777216))).setCell ⟨w.heap.size+1+1,59,none⟩ (.int .u8 ((s.size:Int)*8/4294967296))).setCell ⟨w.heap.size+1+1,58,none⟩ (.int .u8 ((s.size:Int)*8/1099511627776))).setCell ⟨w.heap.size+1+1,57,none⟩ (.int .u8 ((s.size:Int)*8/281474976710656))).setCell ⟨w.heap.size+1+1,56,none⟩ (.int .u8 ((s.size:Int)*8/72057594037927936))));rw[<-a7];obtain⟨fin,M⟩:∃x,x=gH g (8*l.length) 8:=⟨_,rfl⟩;obtain⟨RB,aj⟩:∃x,x=kL fin:=⟨_,rfl⟩;obtain⟨a5,a1⟩:∃x,x=eW u:=⟨_,rfl⟩;have bT:∀k,(⟨w.heap.size+1+1,k,none⟩:Addr).block=w.heap.size+1+1:=λ_=>rfl
  have hN:8*l.length=s.size*8:=by rw[K.out];omega
  have bh:Hid (w8.heap[w.heap.size+1+1]?=some (.cells RB 192 (0,0))):=by
   have h:=(((((((f.out.set 63 (s.size*8%256)).set 62 (s.size*8/256%256)).set 61 (s.size*8/65536)).set 60 (s.size*8/16777216)).set 59 (s.size*8/4294967296)).set 58 (s.size*8/1099511627776)).set 57 (s.size*8/281474976710656)).set 56 (s.size*8/72057594037927936);have aC:gH g (s.size*8) 8=fin:=by rw[M,hN]
   rw[Iw g (s.size*8) y.out (by omega),aC]at h;rw[a7,aj];exact h
  have bQ:Hid (w8.heap[w.heap.size+1]?=some (.cells a5 302 (0,0))):=by
   rw[a7,a1];have o:∀k,w.heap.size+1≠(⟨w.heap.size+1+1,k,none⟩:Addr).block:=λk=>by show w.heap.size+1≠w.heap.size+1+1;omega
   exact(((((((aL.out.other _ (o _) _).other _ (o _) _).other _ (o _) _).other _ (o _) _).other _ (o _) _).other _ (o _) _).other _ (o _) _).other _ (o _) _
  have bN:Hid (w8.heap[w.heap.size]?=some (.cells (kL jg) 131 (0,0))):=by
   rw[a7];have o:∀k,w.heap.size≠(⟨w.heap.size+1+1,k,none⟩:Addr).block:=λk=>by show w.heap.size≠w.heap.size+1+1;omega
   exact(((((((aF.out.other _ (o _) _).other _ (o _) _).other _ (o _) _).other _ (o _) _).other _ (o _) _).other _ (o _) _).other _ (o _) _).other _ (o _) _
  have au:Hid (Below w.heap.size w w8):=by
   rw[a7];have o:∀k,w.heap.size<=(⟨w.heap.size+1+1,k,none⟩:Addr).block:=λk=>by show w.heap.size<=w.heap.size+1+1;omega
   exact(((((((aI.out.setCell (o _) _).setCell (o _) _).setCell (o _) _).setCell (o _) _).setCell (o _) _).setCell (o _) _).setCell (o _) _).setCell (o _) _
  have aT:fin.length=64:=M▸vJ _ _ _ y.out oM;have bb:∀d∈fin,d<256:=M▸Ek _ _ _ b5.out;have cg:w.heap.size+1+1<w8.heap.size:=(Array.getElem?_eq_some_iff.1 bh.out).1
  have b3:Hid ((prog.info? 302).map (·.size)=some a5.size):=by
   show _=_;rw[a1];simp only[eW,jO,iF,aV.out]
   kernel_rfl
  have aS:Hid ((prog.info? 192).map (·.size)=some RB.size):=by
   show _=_;rw[aj];simp only[kL,jO,iF,aT]
   kernel_rfl
  have aW:Hid (Calls prog 182 #[.agg a5,.agg RB] w8 λe w9=>∃S2:Array Value,e=.returned (.agg S2)/\Hid (S2=eW (kK ks u fin))/\Hid ((prog.info? 302).map (·.size)=some S2.size)/\Hid (a5.size=S2.size)/\Hid (S2.all (·.oneCell')=true)/\Hid (Below w8.heap.size w8 w9)):=
   CR u fin ks a5 RB w8 a1 aj aV.out b6.out aT bb aJ.out (λj hj=>by rw[au.out.cell (by show 14<_;exact pr (HK.out 0 (by omega)))];exact HK.out j hj)
  have bq:Hid (kK ks u fin=gY ks hs (fE l) ((fE l).length/64)):=M▸af;clear a7 M aj a1 bT hN aT bb aL f aF aI af bu bP br bJ bH bS bF bB bR c6 c4 bw bZ bY c7 bz;rw[zc]
  go_wp2_with (first|refine vk rfl 302 _ rfl (w.heap.size+1) rfl 302 a5 (0,0) _ bQ.out Gg rfl b3.out ?_|refine vk rfl 192 _ rfl (w.heap.size+1+1) rfl 192 RB (0,0) _ bh.out PH rfl aS.out ?_)
  refine aW.out.mono ?_;rintro e w9 ⟨S9,rfl,bg,bC,bW,bs,ak⟩;have bc:=Cp (kK ks u fin) S9 w9 bg.out (jK _ _ _) (x9 _ _ _);have ax:=hD bc;clear bc bg bC bW bs
  go_wp2_with fail
  refine ax.out.mono ?_;rintro e aZ ⟨A,rfl,HA,av,bf,bo,ay⟩;obtain⟨an,ad⟩:∃x,x=kL jg:=⟨_,rfl⟩;have aB:Hid (aZ.heap[w.heap.size]?=some (.cells an 131 (0,0))):=by show _=_;have ck:=ak.out.size;rw[ay.out.block _ (by omega),ak.out.block _ (by omega),ad];exact bN.out
  have b8:Hid (an.size=A.size):=ad▸bf;have bk:=hD (au.out.trans ((ak.out.mono au.out.size).trans (ay.out.mono (lZ au.out.size ak.out.size))));clear ad bf ax aW
  go_wp2_with (refine ER rfl 131 _ _ rfl w.heap.size A rfl rfl 131 an aB.out av.out b8.out bo.out ?_)
  refine gh (v:=.agg (kL (jp (gY ks hs (fE l) ((fE l).length/64)) 32))) ?_ rfl ⟨rfl,?_⟩
  .rw[<-bq.out,<-HA.out];exact Bj (p:=2) (ty:=131) rfl _ _ w.heap.size 131 A (0,0) _ rfl (ja aZ w.heap.size an A 131 _ aB.out) kb rfl av.out
  exact cC bk.out (cO _) _
end
section
open Go.RowKit Go.Maps
def cY(v:Value):Option (DataW Value×List MemPlace):=some (.held v,[])
def iX(l:List ByteArray):List Value:=l.flatMap λs=>cW s.data.toList
def FC(l:List (Nat×ByteArray)):List Value:=l.flatMap λx=>.int .i64 x.1::cW x.2.data.toList
def mT(s:ByteArray):Value:=.agg (cW s.data.toList).toArray
def oQ(l:List (Nat×ByteArray)):DataW Value:=l.foldl (λD x=>D.put (.int .i64 x.1) (.held (mT x.2))) (.map [])
def iH(l:List (Nat×ByteArray))(k:Nat):Option ByteArray:=l.foldl (λo x=>if x.1=k then some x.2 else o) none
theorem wg(l:List (Nat×ByteArray))(k:Nat)(s:ByteArray):oQ (l++[(k,s)])=(oQ l).put (.int .i64 k) (.held (mT s)):=by simp[oQ,A5]
theorem o6(l:List (Nat×ByteArray))(k j:Nat)(s:ByteArray):iH (l++[(k,s)]) j=if k=j then some s else iH l j:=by simp[iH,A5]
theorem um(l:List (Nat×ByteArray)):IsMap (oQ l):=by
 have:∀(l:List (Nat×ByteArray))(D:DataW Value),IsMap D->IsMap (l.foldl (λD x=>D.put (.int .i64 x.1) (.held (mT x.2))) D):=by
  intro l
  induction l with
  |nil=>exact λ_ h=>h
  |cons x r ih=>exact λD h=>ih _ (h.put _ _)
 exact this l _ isMap_empty
theorem tJ{α:Type}{P:List α->Prop}(a:P [])(c:∀l x,P l->P (l++[x]))(l:List α):P l:=by
 have h:∀l:List α,P l.reverse:=by
  intro l
  induction l with
  |nil=>exact a
  |cons x r ih=>rw[PV];exact c _ _ ih
 have h1:=h l.reverse;rw[PT]at h1;exact h1
theorem Gc(h:k≠j):(Lit.int .i64 j)≠.int .i64 k:=by
 intro e;cases e;exact h rfl
theorem I3(l:List (Nat×ByteArray))(k:Nat)(z:DataW Value):(oQ l).atKey (.int .i64 k) z=(match iH l k with|some s=>.held (mT s)|none=>z)/\Maps.has (oQ l) (.int .i64 k)=(iH l k).isSome:=by
 refine tJ (P:=λl=>(oQ l).atKey (.int .i64 k) z=(match iH l k with|some s=>.held (mT s)|none=>z)/\Maps.has (oQ l) (.int .i64 k)=(iH l k).isSome) ⟨rfl,rfl⟩ (λl x ih=>?_) l;obtain⟨j,s⟩:=x;rw[wg,o6];by_cases h:j=k
 .subst h;rw[dq rfl];have hk:WideAt.IsKeyLit (.int .i64 j):=trivial;exact⟨atKey_put_same (um l) hk _ _,has_put_same (um l) hk _⟩
 rw[dj h,atKey_put_other (Gc h),has_put_other (Gc h)];exact ih
structure cX where
 safe:List ByteArray
 wait:List (Nat×ByteArray)
 fuse:Int
 down:Bool
def mj(lk:Int)(gs n bm:Nat)(wv:Value)(fuse:Int)(down:Bool):Array Value:=#[.int .i32 lk,.int .u32 0,.slice (yS gs 0) n n,.map (some bm),wv,.int .i64 fuse,.bool down]
structure pT (w:World) (S:Nat->Prop) (bd gs bm m:Nat) (wv:Value) (d:cX):Prop where
 sec:w.heap[gs]?=some (.cells (iX d.safe).toArray 193 (0,0))
 map:w.ownsMap prog 3 cY bm m (oQ d.wait)
 wait:eP w S 195 65 wv d.wait.length (FC d.wait)
 sb:S bd
 ss:S gs
 sm:S bm
 n1:bd≠gs
 n2:bd≠bm
 n3:gs≠bm
 d1:∀g,wv.ownBlock=some g->g≠bd/\g≠gs/\g≠bm
 v1:∀s∈d.safe,s.size=64
 v2:∀x∈d.wait,x.1<d.safe.length/\x.2.size=64
structure ix (w:World) (S:Nat->Prop) (lk:Int) (bd gs bm m:Nat) (wv:Value) (d:cX):Prop where
 blk:w.heap[bd]?=some (.cells (mj lk gs d.safe.length bm wv d.fuse d.down) 88 (0,0))
 rest:pT w S bd gs bm m wv d
def cD(w:World)(S:Nat->Prop)(bd m:Nat)(d:cX):Prop:=∃gs bm wv,ix w S 0 bd gs bm m wv d
theorem dg{k:TypeId}(h:w.ownsMap prog k cY b n D)(e:w'.heap[b]?=w.heap[b]?):w'.ownsMap prog k cY b n D:=by
 obtain⟨es,a,h1,h2⟩:=h;exact⟨es,a,e▸h1,h2⟩
theorem dN{k:TypeId}(h:w.ownsMap prog k cY b n D):b<w.heap.size:=by
 obtain⟨es,a,h1,h2⟩:=h;exact(Array.getElem?_eq_some_iff.1 h1).1
theorem pT.on{T:Nat->Prop}{d:cX}(h:pT w S bd gs bm m wv d)(a:cq T w w')(c:¬T gs)(e:¬T bm)(f:∀g,wv.ownBlock=some g->¬T g):pT w' S bd gs bm m wv d:=
 ⟨by rw[a.block gs (cm h.sec) c];exact h.sec,dg h.map (a.block bm (dN h.map) e),h.wait.on a f,h.sb,h.ss,h.sm,h.n1,h.n2,h.n3,h.d1,h.v1,h.v2⟩
theorem pT.own{d:cX}(h:pT w S bd gs bm m wv d)(a:cq (·=bd) w w'):pT w' S bd gs bm m wv d:=
 h.on a (λe=>h.n1 e.symm) (λe=>h.n2 e.symm) (λg hg=>(h.d1 g hg).1)
theorem pT.flags{d:cX}(h:pT w S bd gs bm m wv d)(fuse:Int)(down:Bool):pT w S bd gs bm m wv {d with fuse:=fuse,down:=down}:=
 ⟨h.sec,h.map,h.wait,h.sb,h.ss,h.sm,h.n1,h.n2,h.n3,h.d1,h.v1,h.v2⟩
theorem cD.on{T:Nat->Prop}{d:cX}(h:cD w S bd m d)(c:cq T w w')(a:∀g,S g->¬T g):cD w' S bd m d:=by
 obtain⟨gs,bm,wv,h⟩:=h;refine⟨gs,bm,wv,?_,h.rest.on c (a _ h.rest.ss) (a _ h.rest.sm) (λg hg=>a g (h.rest.wait.2 g hg))⟩;rw[c.block bd (cm h.blk) (a bd h.rest.sb)];exact h.blk
theorem pT.mono{T:Nat->Prop}{d:cX}(h:pT w S bd gs bm m wv d)(a:∀g,S g->T g):pT w T bd gs bm m wv d:=
 ⟨h.sec,h.map,h.wait.mono a,a _ h.sb,a _ h.ss,a _ h.sm,h.n1,h.n2,h.n3,h.d1,h.v1,h.v2⟩
theorem cD.mono{T:Nat->Prop}{d:cX}(h:cD w S bd m d)(a:∀g,S g->T g):cD w T bd m d:=by
 obtain⟨gs,bm,wv,h⟩:=h;exact⟨gs,bm,wv,h.blk,h.rest.mono a⟩
theorem ix.turn{d:cX}(h:ix w S lk bd gs bm m wv d)(c:cq (·=bd) w w')(a fuse:Int)(down:Bool)(e:w'.heap[bd]?=some (.cells (mj a gs d.safe.length bm wv fuse down) 88 (0,0))):ix w' S a bd gs bm m wv {d with fuse:=fuse,down:=down}:=
 ⟨e,(h.rest.own c).flags fuse down⟩
theorem ix.lockTo{d:cX}(h:ix w S lk bd gs bm m wv d)(a:Int):ix (w.setCell (yA bd 0) (.int .i32 a)) S a bd gs bm m wv d/\cq S w (w.setCell (yA bd 0) (.int .i32 a)):=by
 have hs:cq (·=bd) w (w.setCell (yA bd 0) (.int .i32 a)):=cq.setCell (S:=(·=bd)) (cq.refl _ w) (yA bd 0) rfl _;refine⟨h.turn hs a d.fuse d.down ?_,hs.weak (by rintro g rfl;exact h.rest.sb)⟩;rw[gE w bd 0 _ _ _ h.blk];rfl
theorem De(bd m:Nat)(S:Nat->Prop)(d:cX)(a:Int)(w:World)(h:cD w S bd m d):
  Calls prog 179 #[yP bd,.int .i64 a] w λe w'=>e=.returned (.bool (decide (0<=a)&&decide (a<d.safe.length)))/\w=w':=by
 obtain⟨gs,bm,wv,h⟩:=h;have c2:w.cell? (yA bd 2)=some (.slice (yS gs 0) d.safe.length d.safe.length):=cG h.blk;clear h;by_cases h0:0<=a
 .rw[jX h0,Bool.true_and];go_enter func179,ntmps179
  go_wp2
  go_ret;exact⟨rfl,rfl⟩
 rw[lW h0,Bool.false_and];go_enter func179,ntmps179
 go_wp2
 go_ret;exact⟨rfl,rfl⟩
theorem gA(bd m:Nat)(S:Nat->Prop)(d:cX)(w:World)(h:cD w S bd m d):
  Calls prog 62 #[yP bd] w λe w'=>e=.returned (.int .i64 d.safe.length)/\w=w':=by
 obtain⟨gs,bm,wv,h⟩:=h;have c2:w.cell? (yA bd 2)=some (.slice (yS gs 0) d.safe.length d.safe.length):=cG h.blk;clear h;go_enter func62,ntmps62
 go_wp2
 go_ret;exact⟨rfl,rfl⟩
theorem rJ(bd m:Nat)(S:Nat->Prop)(d:cX)(w:World)(h:cD w S bd m d):
  Calls prog 53 #[yP bd] w λe w'=>e=.returned (.int .i64 d.wait.length)/\cD w' S bd m d/\cq S w w':=by
 obtain⟨gs,bm,wv,h⟩:=h
 obtain⟨ao,cw,rfl⟩:∃ao cw,wv=.slice ao d.wait.length cw:=by
  obtain⟨-,h2|⟨g,a,b,hv,-⟩⟩:=h.rest.wait.1
  .exact⟨none,0,by rw[h2.2,h2.1]⟩
  exact⟨_,a,hv⟩
 have c0:w.cell? (yA bd 0)=some (.int .i32 0):=cG h.blk;have f0:=fH w bd 0 _ _ h.blk;obtain⟨h1,s1⟩:=h.lockTo 1;have c4:(w.setCell (yA bd 0) (.int .i32 1)).cell? (yA bd 4)=some (.slice ao d.wait.length cw):=cG h1.blk;have HV:=hD h1;have HS:=hD s1;clear h h1 s1
 go_enter_defers func53,ntmps53
 go_wp2_with (go_at_call 57;refine(kh (yA bd 0) _ c0 f0).mono ?_;rintro e w' ⟨rfl,rfl⟩)
 refine Jk (f:=58) (args:=#[yP bd]) sI (by simp[go_sem]) ?_;refine(fj (yA bd 0) .returning _ (cG HV.blk) (fH _ _ _ _ _ HV.blk)).mono ?_;rintro e u' c ⟨rfl,rfl,hw⟩;obtain⟨h2,s2⟩:=HV.lockTo 0;rw[<-hw]at h2 s2;exact⟨_,Qm rfl _ _ _,rfl,⟨_,_,_,h2⟩,HS.trans s2⟩
end
end Go.Proofs.YtapijhhmjjplmaaGreatDoor
